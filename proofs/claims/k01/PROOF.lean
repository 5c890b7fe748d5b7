import PyProof.Rows.All
import Wide.All
import OpenK.AllK
import Wide.FinOn
import Lean
import PyProof.EqAt
import PyProof.EqKinds
import PyProof.TupleCall
import PyProof.NeKinds
import PyProof.Rows.SortWalk
import PyProof.Rows.SortRuns
import KE.KMinKey
import PyProof.IsRules
import PySem.SetOps
import PyProof.SetScanFacts
import PyProof.TupleKey
import PyProof.SetKind
import PyProof.Rows.SetFrom
import KE.KRevSl
import PyProof.Rows.SumAny
import PyProof.EnumMake
import PyProof.SeqI3
import PyProof.TupleOfGen
import PyProof.ListRange
import PyProof.CollectIter
import PySem.Challenge.RW_unlikesteps_k01_boards_and_lays_looked_a
set_option Elab.async false
set_option linter.all false
set_option maxRecDepth 100000
set_option maxHeartbeats 0
namespace L2
open PySem PySem.Spec PyProof.Rows
abbrev Key:=Sum Int Str
def qN:Key→Value→Bool
 | .inl k,v=>Value.isInt k v
 | .inr x,v=>Value.isStrOf x v
def wK (w:World):Key→Int
 | .inl k=>hashInt k
 | .inr x=>hashStr w x
theorem ZB:∀{k:Key}{v:Value},qN k v=true→(∃i t,k=Sum.inl i∧v=Value.int i t)∨(∃x t,k=Sum.inr x∧v=Value.str x t)
 | .inl i,v,h=>by
  obtain⟨t,e⟩:=Value.isInt_shape (k:=i) (v:=v) h
  exact .inl ⟨i,t,rfl,e⟩
 | .inr x,v,h=>by
  obtain⟨t,e⟩:=Value.isStrOf_shape (x:=x) (v:=v) h
  exact .inr ⟨x,t,rfl,e⟩
theorem Bl (a b:Int):decide ((Sum.inl a:Key)=Sum.inl b)=(a==b):=by
 by_cases e:a=b
 ·subst e;simp
 ·have h:¬(Sum.inl a:Key)=Sum.inl b:=fun q=>e (Sum.inl.inj q)
  rw[decide_eq_false h]
  exact(beq_eq_false_iff_ne.mpr e).symm
theorem Bo (a b:Str):decide ((Sum.inr a:Key)=Sum.inr b)=decide (a=b):=by
 by_cases e:a=b
 ·subst e;simp
 ·have h:¬(Sum.inr a:Key)=Sum.inr b:=fun q=>e (Sum.inr.inj q)
  rw[decide_eq_false h,decide_eq_false e]
theorem Bm (a:Int) (b:Str):decide ((Sum.inl a:Key)=Sum.inr b)=false:=decide_eq_false (fun q=>nomatch q)
theorem Bn (a:Str) (b:Int):decide ((Sum.inr a:Key)=Sum.inl b)=false:=decide_eq_false (fun q=>nomatch q)
def qK (prog:Program) (w:World):PySem.KeyKind prog w Key where
 is:=qN
 hash:=wK w
 inj:=fun v a b ha hb=>by
  rcases ZB ha with ⟨i,t,rfl,rfl⟩ |⟨x,t,rfl,rfl⟩
  ·rcases ZB hb with ⟨j,u,rfl,e⟩ |⟨y,u,rfl,e⟩
   ·injection e with e1 _;rw[e1]
   ·exact nomatch e
  ·rcases ZB hb with ⟨j,u,rfl,e⟩ |⟨y,u,rfl,e⟩
   ·exact nomatch e
   ·injection e with e1 _;rw[e1]
 byValue:=fun k v h=>by
  rcases ZB h with ⟨i,t,rfl,rfl⟩ |⟨x,t,rfl,rfl⟩<;>rfl
 pyHash:=fun hv h=>by
  rcases ZB hv with ⟨i,t,rfl,rfl⟩ |⟨x,t,rfl,rfl⟩
  ·exact wpAny_pyHash_int h
  ·exact wpAny_pyHash_str h
 eqBool:=fun hu hv h=>by
  rcases ZB hu with ⟨i,t,rfl,rfl⟩ |⟨x,t,rfl,rfl⟩
  ·rcases ZB hv with ⟨j,u,rfl,rfl⟩ |⟨y,u,rfl,rfl⟩
   ·rw[Bl]at h;exact wpAny_eqBool_int h
   ·rw[Bm]at h;exact SeqAt.EqAt.int_str i t y u _ _ _ _ h
  ·rcases ZB hv with ⟨j,u,rfl,rfl⟩ |⟨y,u,rfl,rfl⟩
   ·rw[Bn]at h;exact SeqAt.EqAt.str_int x t j u _ _ _ _ h
   ·rw[Bo]at h;exact wpAny_eqBool_str h
 «strs» :=fun k x t v h=>by
  rcases ZB h with ⟨i,u,rfl,e⟩ |⟨y,u,rfl,e⟩
  ·exact nomatch e
  ·injection e with e1 _
   subst e1
   cases v<;>rfl
inductive V where
 |aa |bl (b:Bool) |int (i:Int) |str (x:Str) |dM (b:Array UInt8) |dY (b:UInt64) |ref (a:Addr) |ty (n:String)
 deriving DecidableEq
def RelV:V→Value→Prop
 | .aa,u=>u=Value.none
 | .bl b,u=>u=Value.bool b
 | .int i,u=> ∃t,u=Value.int i t
 | .str x,u=> ∃t,u=Value.str x t
 | .dM b,u=> ∃t,u=Value.bytes b t
 | .dY b,u=> ∃t,u=Value.float b t
 | .ref a,u=>u=Value.ref a
 | .ty n,u=>u=Value.type n
abbrev Vals:List V→List Value→Prop:=Paired RelV
theorem Vals.length {xs:List V}{us:List Value}(r:Vals xs us):xs.length=us.length:=Paired.length r
theorem Vals.get:∀{xs:List V}{us:List Value}{i:Nat}{x:V},Vals xs us→xs[i]? =some x→∃u,us[i]? =some u∧RelV x u
 |_,_,_,_,.nil,e=>by simp at e
 |_,_,0,_,.cons r _,e=>by simp at e;subst e;exact⟨_,rfl,r⟩
 |_,_,i+1,x,.cons _ t,e=>by
  obtain⟨u,h1,h2⟩:=Vals.get (i:=i) (x:=x) t (by simpa using e)
  exact⟨u,by simpa using h1,h2⟩
theorem Vals.set {x:V}{u:Value}(r:RelV x u):∀{xs:List V}{us:List Value}(i:Nat),Vals xs us→Vals (xs.set i x) (us.set i u)
 |_,_,_,.nil=> .nil
 |_,_,0,.cons _ t=> .cons r t
 |_,_,i+1,.cons q t=> .cons q (Vals.set r i t)
theorem Vals.append:∀{xs ys:List V}{us ws:List Value},Vals xs us→Vals ys ws→Vals (xs++ys) (us++ws)
 |_,_,_,_,.nil,s=>s
 |_,_,_,_,.cons r t,s=> .cons r (Vals.append t s)
theorem Vals.take:∀{xs:List V}{us:List Value}(n:Nat),Vals xs us→Vals (xs.take n) (us.take n)
 |_,_,0,_=> .nil
 |_,_,_+1,.nil=> .nil
 |_,_,n+1,.cons r t=> .cons r (Vals.take n t)
theorem Vals.drop:∀{xs:List V}{us:List Value}(n:Nat),Vals xs us→Vals (xs.drop n) (us.drop n)
 |_,_,0,r=>r
 |_,_,_+1,.nil=> .nil
 |_,_,n+1,.cons _ t=>Vals.drop n t
def pd:Option V→Option Value→Prop
 |some v,some u=>RelV v u
 |none,none=>True
 |_,_=>False
def KV {κ:Type} :List (κ×V)→List (κ×Value)→Prop:=Paired fun(p:κ×V) (q:κ×Value)=>p.1=q.1∧RelV p.2 q.2
def kV:Key→V
 | .inl i=> .int i
 | .inr x=> .str x
inductive HO where
  |lst (xs:List V)
  |tup (xs:List V)
  |par (xs:List V)
  |dK (kvs:List (Key×V)) |dT (kvs:List (List Key×V))
  |set (S:Int→Bool) (n:Nat)
  |ins (C dx:Addr) (fs:List (Str×V))
  |own (x:Addr)
  |xd (fs:List (Str×V))
  |met (f x:Addr)
  |bW (lo hi:Int)
  |bw (o:Obj) (u:HO)
  |bE (ps:Array Value)
  |ext (φ:Heap→Prop)
abbrev Hp:=Addr→Option HO
def upd (H:Hp) (a:Addr) (o:HO):Hp:=fun b=>if b=a then some o else H b
theorem Zb {H:Hp}{a:Addr}{o:HO} :upd H a o a=some o:=by unfold upd;rw[if_pos rfl]
theorem Zg {H:Hp}{a b:Addr}{o:HO}(h:b≠a):upd H a o b=H b:=by unfold upd;rw[if_neg h]
theorem J6 {H:Hp}{a b:Addr}{o u:HO}(h:H a=some o) (h':H b=some u) (d:o≠u):a≠b:=by
 intro e;subst e;rw[h]at h';exact d (Option.some.inj h')
theorem Ze {H:Hp}{a b:Addr}{o:HO}(h:H a=some o) (h':H b=none):a≠b:=by
 intro e;subst e;rw[h]at h';cases h'
section
variable (P:Program) (w:World)
def aX (H:Hp) (h:Heap) (a:Addr):HO→Prop
 | .lst xs=>xs.length≤sizeLine∧∃(its:List Value) (n:Nat),Vals xs its∧h.get? a=some {cls:=.type "list",data:=.seq its.toArray n}
 | .tup xs=>xs.length≤sizeLine∧∃its:List Value,Vals xs its∧IsTup h a its.toArray∧∃o,h.get? a=some o∧o.dict=none
 | .par xs=>xs.length≤sizeLine∧∃its:List Value,Vals xs its∧IsTup h a its.toArray
 | .dK kvs=>kvs.length≤sizeLine∧(a==sysModules)=false∧∃vs,KV kvs vs∧h.DictOf (qK P w) a vs
 | .dT kvs=>kvs.length≤sizeLine∧(a==sysModules)=false∧∃xs:List (List Key×Addr×Value),
   Paired (fun(p:List Key×V) (q:List Key×Addr×Value)=>p.1=q.1∧H q.2.1=some (.tup (p.1.map kV))∧RelV p.2 q.2.2) kvs xs∧
   ∃o es ep,h.get? a=some o∧o.ExactDict∧o.data=.dict es ep∧es.toList=xs.map (entryOfKey (tupleKind (qK P w)))∧(xs.map (·.1)).Nodup
 | .set S n=>h.SetOf (intKind P w) a S n
 | .ins C dx fs=>H dx=some (.own a)∧fs.length≤1000∧dx≠a∧h.get? a=some (PySem.W.instObj C dx)∧
   ∃mA,h.Ns1 dx mA∧(∀f,pd (fs.lookup f) (mA f))∧PySem.Within mA (fs.map (·.1))
 | .own _=> ∃o,h.get? a=some o
 | .xd fs=> ∃mA,h.Ns1 a mA∧∀f,pd (fs.lookup f) (mA f)
 | .bW lo hi=> ∃t u v,h.get? a=some {cls:=.type "range",data:=.fields #[.int lo t,.int hi u,.int 1 v]}
 | .bw o u=>h.get? a=some o∧aX H h a u
 | .bE ps=>h.get? a=some {cls:=.none,data:=.fields ps}
 | .met f x=>h.get? a=some (PySem.W.methodObj (.ref f) (.ref x))
 | .ext φ=>φ h∧(∃o,h.get? a=some o)∧∀h1 h2:Heap,φ h1→(∀o,h1.get? a=some o→h2.get? a=some o)→φ h2
def aZ (H:Hp) (h:Heap):Prop:=∀a o,H a=some o→aX P w H h a o
end
section
variable {P:Program}{w:World}{H H':Hp}{h h':Heap}{a:Addr}{o:HO}
theorem aX.lt (x:aX P w H h a o):a<h.objs.size:=by
 cases o with
 |lst xs=>obtain⟨_,_,_,_,e⟩:=x;exact Heap.lt_size e
 |tup xs=>obtain⟨_,_,_,p,_⟩:=x;exact p.lt
 |par xs=>obtain⟨_,_,_,p⟩:=x;exact p.lt
 |dK kvs=>obtain⟨_,_,_,_,o,_,_,e,_⟩:=x;exact Heap.lt_size e
 |dT kvs=>obtain⟨_,_,_,_,o,_,_,e,_⟩:=x;exact Heap.lt_size e
 |set S n=>obtain⟨o,_,_,_,e,_⟩:=x;exact Heap.lt_size e
 |ins C dx fs=>obtain⟨_,_,_,e,_⟩:=x;exact Heap.lt_size e
 |own y=>obtain⟨_,e⟩:=x;exact Heap.lt_size e
 |xd fs=>obtain⟨_,⟨_,_,_,e,_⟩,_⟩:=x;exact Heap.lt_size e
 |bW lo hi=>obtain⟨_,_,_,e⟩:=x;exact Heap.lt_size e
 |bw ob u=>obtain⟨e,_⟩:=x;exact Heap.lt_size e
 |bE ps=>exact Heap.lt_size (show h.get? a=some _ from x)
 |met f y=>exact Heap.lt_size (show h.get? a=some _ from x)
 |ext φ=>obtain⟨_,⟨_,e⟩,_⟩:=x;exact Heap.lt_size e
theorem Paired.fS {α β:Type}{F G:α→β→Prop} :∀{fU:List α}{fT:List β},Paired F fU fT→(∀a b,F a b→G a b)→Paired G fU fT
 |_,_,.nil,_=> .nil
 |_,_,.cons r t,f=> .cons (f _ _ r) (Paired.fS t f)
theorem aX.dD (x:aX P w H h a o) (k:∀b u,(b=a∨H b=some (.own a))→h.get? b=some u→h'.get? b=some u)
  (ho:∀b,H b=some (.own a)→H' b=some (.own a)) (ht:∀b xs,H b=some (.tup xs)→H' b=some (.tup xs)):aX P w H' h' a o:=by
 induction o with
 |lst xs=>obtain⟨z,its,n,r,e⟩:=x;exact⟨z,its,n,r,k _ _ (.inl rfl) e⟩
 |tup xs=>obtain⟨z,its,r,⟨ob,e,c⟩,o2,e2,c2⟩:=x;exact⟨z,its,r,⟨ob,k _ _ (.inl rfl) e,c⟩,o2,k _ _ (.inl rfl) e2,c2⟩
 |par xs=>obtain⟨z,its,r,ob,e,c⟩:=x;exact⟨z,its,r,ob,k _ _ (.inl rfl) e,c⟩
 |dK kvs=>obtain⟨z,y,vs,r,ob,es,ep,e,c⟩:=x;exact⟨z,y,vs,r,ob,es,ep,k _ _ (.inl rfl) e,c⟩
 |dT kvs=>
  obtain⟨z,y,xs,r,ob,es,ep,e,c⟩:=x
  exact⟨z,y,xs,Paired.fS r fun p q z=> ⟨z.1,ht _ _ z.2.1,z.2.2⟩,ob,es,ep,k _ _ (.inl rfl) e,c⟩
 |set S n=>obtain⟨ob,es,ep,t,e,c⟩:=x;exact⟨ob,es,ep,t,k _ _ (.inl rfl) e,c⟩
 |ins C dx fs=>
  obtain⟨d,z,ne,e,mA,⟨od,es,ep,e2,c⟩,r⟩:=x
  exact⟨ho _ d,z,ne,k _ _ (.inl rfl) e,mA,⟨od,es,ep,k _ _ (.inr d) e2,c⟩,r⟩
 |own y=>obtain⟨ob,e⟩:=x;exact⟨ob,k _ _ (.inl rfl) e⟩
 |xd fs=>obtain⟨mA,⟨od,es,ep,e,c⟩,r⟩:=x;exact⟨mA,⟨od,es,ep,k _ _ (.inl rfl) e,c⟩,r⟩
 |bW lo hi=>obtain⟨t,u,v,e⟩:=x;exact⟨t,u,v,k _ _ (.inl rfl) e⟩
 |bw ob u ih=>obtain⟨e,q⟩:=x;exact⟨k _ _ (.inl rfl) e,ih q⟩
 |bE ps=>
  have e:h.get? a=some {cls:=.none,data:=.fields ps} :=x
  show h'.get? a=some {cls:=.none,data:=.fields ps}
  exact k a _ (.inl rfl) e
 |met f y=>
  have e:h.get? a=some (PySem.W.methodObj (.ref f) (.ref y)):=x
  show h'.get? a=some (PySem.W.methodObj (.ref f) (.ref y))
  exact k a _ (.inl rfl) e
 |ext φ=>obtain⟨p,⟨o,e⟩,st⟩:=x;exact⟨st _ _ p fun o q=>k _ _ (.inl rfl) q,⟨o,k _ _ (.inl rfl) e⟩,st⟩
theorem aZ.lt (x:aZ P w H h) (e:H a=some o):a<h.objs.size:=(x a o e).lt
theorem aZ.fresh (x:aZ P w H h) (e:h.objs.size≤a):H a=none:=by
 cases q:H a with
 |none=>rfl
 |some u=>exact absurd (Nat.lt_of_lt_of_le (x.lt q) e) (Nat.lt_irrefl _)
theorem aZ.kept (x:aZ P w H h) (k:∀b u,h.get? b=some u→h'.get? b=some u):aZ P w H h':=fun a o e=>
 (x a o e).dD (fun b u _ q=>k b u q) (fun _ q=>q) fun _ _ q=>q
theorem aZ.laid (x:aZ P w H h) (k:∀b u,h.get? b=some u→h'.get? b=some u) (hp:h.objs.size≤a) (new:aX P w (upd H a o) h' a o):aZ P w (upd H a o) h':=fun b u e=>by
 have hn:=x.fresh hp
 by_cases hb:b=a
 ·subst hb;rw[Zb]at e;cases e;exact new
 ·rw[Zg hb]at e
  exact(x b u e).dD (fun c v _ q=>k c v q) (fun c q=>by rw[Zg (Ze q hn)];exact q) fun c xs q=>by rw[Zg (Ze q hn)];exact q
end
def Rd (H:Hp) (a:Addr) (u:HO):Prop:=H a=some u∨∃o,H a=some (.bw o u)
theorem Rd.ok {P:Program}{w:World}{H:Hp}{h:Heap}{a:Addr}{u:HO}(r:Rd H a u) (x:aZ P w H h):aX P w H h a u:=by
 rcases r with r |⟨o,r⟩
 ·exact x a u r
 ·obtain⟨_,q⟩:=x a _ r
  exact q
def lH:Option HO→Prop
 |some (.lst _)=>True
 |some (.dK _)=>True
 |some (.dT _)=>True
 |some (.set _ _)=>True
 |some (.ins _ _ _)=>True
 |some (.ext _)=>True
 |_=>False
section
variable {P:Program}{w:World}{H:Hp}{h h':Heap}{x e:Addr}{o':HO}
theorem aZ.write (ok:aZ P w H h) (mu:lH (H x)) (he:e=x∨H e=some (.own x)) (k:∀b u,b≠e→h.get? b=some u→h'.get? b=some u) (iz:∃u,h'.get? e=some u)
  (new:aX P w (upd H x o') h' x o'):aZ P w (upd H x o') h':=fun b u q=>by
 have qE:∀c y,H c=some (.own y)→c≠x:=fun c y r z=>by subst z;rw[r]at mu;exact mu
 have vS:∀c xs,H c=some (.tup xs)→c≠x:=fun c xs r z=>by subst z;rw[r]at mu;exact mu
 by_cases hb:b=x
 ·subst hb;rw[Zb]at q;cases q;exact new
 ·rw[Zg hb]at q
  by_cases eZ:b=e
  ·have q':H b=some (.own x):=by
    rcases he with z |z
    ·exact absurd (eZ.trans z) hb
    ·rw[eZ];exact z
   rw[q]at q';cases q'
   obtain⟨v,hv⟩:=iz
   exact⟨v,by rw[eZ];exact hv⟩
  ·refine(ok b u q).dD (fun c v hc r=>k c v ?_ r) (fun c r=>by rw[Zg (qE c b r)];exact r) fun c xs r=>by rw[Zg (vS c xs r)];exact r
   rcases hc with rfl |hc
   ·exact eZ
   ·rintro rfl
    rcases he with z |z
    ·exact qE c b hc z
    ·rw[hc]at z;cases z;exact hb rfl
end
structure Un (fs ex:List Addr) (H H':Hp) (h h':Heap):Prop where
 keep:∀b o,h.get? b=some o→H b=none→b∉fs→b∉ex→h'.get? b=some o
 slot:∀b o,h.get? b=some o→H b=none→b∈fs→b∉ex→∃sl,h'.get? b=some {o with slots:=sl}
 free:∀b o,h.get? b=some o→H b=none→b∉ex→H' b=none
 there:∀b o,h.get? b=some o→b∉ex→∃o',h'.get? b=some o'
 dj:∀b xs,H b=some (.tup xs)→H' b=some (.tup xs)
 cY:∀b o u,H b=some (.bw o u)→H' b=some (.bw o u)
 cP:∀b ps,H b=some (.bE ps)→∃more,H' b=some (.bE (ps++more))
section
variable {fs zH ex CV:List Addr}{H H1 H2:Hp}{h h1 h2 h':Heap}{a x e:Addr}{o:HO}
theorem Un.any (u:Un fs ex H H1 h h1) {b:Addr}{ob:Obj}(q:h.get? b=some ob) (n:H b=none) (hx:b∉ex):∃sl,h1.get? b=some {ob with slots:=sl} :=by
 by_cases hb:b∈fs
 ·exact u.slot b ob q n hb hx
 ·exact⟨ob.slots,u.keep b ob q n hb hx⟩
theorem Un.kept (k:∀b u,h.get? b=some u→h'.get? b=some u):Un fs ex H H h h':=
 ⟨fun b ob q _ _ _=>k b ob q,fun b ob q _ _ _=> ⟨ob.slots,k b ob q⟩,fun _ _ _ n _=>n,fun b ob q _=> ⟨ob,k b ob q⟩,fun _ _ q=>q,fun _ _ _ q=>q,fun _ ps q=> ⟨#[],by rw[q];simp⟩⟩
theorem Un.refl:Un fs ex H H h h:=Un.kept fun _ _ q=>q
theorem Un.laid (k:∀b u,h.get? b=some u→h'.get? b=some u) (hp:h.objs.size≤a) (hn:H a=none):Un fs ex H (upd H a o) h h' where
 keep:=fun b u q _ _ _=>k b u q
 slot:=fun b u q _ _ _=> ⟨u.slots,k b u q⟩
 free:=fun b u q n _=>by rw[Zg (Nat.ne_of_lt (Nat.lt_of_lt_of_le (Heap.lt_size q) hp))];exact n
 there:=fun b u q _=> ⟨u,k b u q⟩
 dj:=fun b xs q=>by rw[Zg (Ze q hn)];exact q
 cY:=fun b u xs q=>by rw[Zg (Ze q hn)];exact q
 cP:=fun b ps q=> ⟨#[],by rw[Zg (Ze q hn),q];simp⟩
theorem Un.write (mu:lH (H x)) (he:e=x∨H e=some (.own x)) (k:∀b u,b≠e→h.get? b=some u→h'.get? b=some u) (iz:∃u,h'.get? e=some u):Un fs ex H (upd H x o) h h':=by
 have hx:∀b,H b=none→b≠x:=fun b n z=>by subst z;rw[n]at mu;exact mu
 have hb:∀b,H b=none→b≠e:=fun b n z=>by
  subst z
  rcases he with r |r
  ·exact hx b n r
  ·rw[n]at r;cases r
 have hm:∀b u,H b=some u→¬lH (some u)→b≠x:=fun b u q nm z=>by subst z;rw[q]at mu;exact nm mu
 refine⟨fun b u q n _ _=>k b u (hb b n) q,fun b u q n _ _=> ⟨u.slots,k b u (hb b n) q⟩,fun b u q n _=>by rw[Zg (hx b n)];exact n,fun b u q _=> ?_,
  fun b xs q=>by rw[Zg (hm b _ q fun z=>z)];exact q,fun b u xs q=>by rw[Zg (hm b _ q fun z=>z)];exact q,fun b ps q=> ⟨#[],by rw[Zg (hm b _ q fun z=>z),q];simp⟩⟩
 by_cases eZ:b=e
 ·subst eZ;exact iz
 ·exact⟨u,k b u eZ q⟩
end
def jY (h:Heap) (H:Hp):List Addr:=(List.range h.objs.size).filter fun a=> (H a).isSome
def dG (h:Heap) (H:Hp):Heap:=PySem.W.hideAll h (jY h H)
theorem Jy (h:Heap) (H:Hp):(dG h H).objs.size=h.objs.size:=PySem.W.hideAll_size _ _
theorem Wd {h:Heap}{H:Hp}{b:Addr}{o:Obj}(e:h.get? b=some o) (n:H b=none):(dG h H).get? b=some o:=
 PySem.W.hideAll_get _ e fun hm=>by
  have q:(H b).isSome=true:=(List.mem_filter.mp hm).2
  rw[n]at q;simp at q
theorem WQ {h:Heap}{H:Hp}{b:Addr}{o:Obj}(e:(dG h H).get? b=some o):h.get? b=some o∧H b=none:=by
 have e':h.get? b=some o:=PySem.W.of_hideAll (jY h H) e
 refine⟨e',?_⟩
 cases q:H b with
 |none=>rfl
 |some x=>
  have hm:b∈jY h H:=List.mem_filter.mpr ⟨List.mem_range.mpr (Heap.lt_size e'),by simp[q]⟩
  have z:(dG h H).get? b=none:=PySem.W.hideAll_none (jY h H) hm
  rw[z]at e;cases e
def AF (g h:Heap) (L:Addr):List (Addr×Obj):=(List.range h.objs.size).filterMap fun a=>if a=L∨(g.get? a).isSome=true then none else (h.get? a).map fun o=> (a,o)
def rest (g h:Heap) (L d:Addr):List (Addr×Obj):=(AF g h L).filter fun p=>decide (p.1≠d)
structure Mod (K:PySem.W.Frag) (mg:Str→Option Value) (base:Heap):Prop where
 fV:K.In base
 glob:base.Ns mainGlobals mg
 blt:∃mb,base.Ns builtinsNs mb∧∀x:Str,x≠ "__name__" →mb x=bootBuiltins x
 nolimit:base.NoLimit
structure Cx where
 prog:Program
 w:World
 K:PySem.W.Frag
 mg:Str→Option Value
 base:Heap
 A:Around
 N:List Str
 bt:Shared
 fG:Hp
 env:Env
 outer:List Env
 stack:List Env
 ex:List Addr
 fn:Str→Bool
 calm:Bool
 pn:List (Addr×Obj)
 xe:Value→Shared→Prop
def ay (l:List Env):List Addr:=l.filterMap (·.frame)
abbrev Cx.fs (X:Cx):List Addr:=ay X.outer
def jK (sc:Scope) (x:Str):Prop:=sc.names.lookup x=some .local∨sc.names.lookup x=some .cell∨sc.names.lookup x=some .free
def Loc (sc:Scope) (x:Str):Prop:=sc.names.lookup x=some .local∨sc.names.lookup x=some .cell
def Look (env:Env) (h:Heap) (m:Str→Option Value) (x:Str) (u:Value):Prop:=
 (env.kindOf x=some .local∧m x=some u)∨((env.kindOf x=some .cell∨env.kindOf x=some .free)∧∃c,env.cells.lookup x=some c∧h.IsCell c (some u))
structure Cx.Ok (X:Cx):Prop where
 mod:Mod X.K X.mg X.base
 kind:X.env.scope.kind=.function
 glob:X.env.globals=mainGlobals
 blt:X.env.builtins=builtinsNs
 above:X.bt.heap.objs.size≤X.env.locals
 inj:∀x y c,X.env.cells.lookup x=some c→X.env.cells.lookup y=some c→x=y
 has:∀x,(X.env.kindOf x=some .cell∨X.env.kindOf x=some .free)→∃c,X.env.cells.lookup x=some c
 gq:∀x c,X.fn x=true→X.env.cells.lookup x=some c→X.bt.heap.objs.size≤c
 hd:X.calm=true→X.A.handled=none
 frames:X.A.frames=some X.stack
 hX:X.stack=X.outer∨(X.stack=X.env::X.outer∧X.env.frame=some X.env.locals)
 iF:∀b∈X.ex,b≠X.env.locals∧∀x c,X.env.cells.lookup x=some c→c≠b
 bs:∀b o,X.base.get? b=some o→X.bt.heap.get? b=some o∧X.fG b=none
 fb:X.base.objs.size≤X.bt.heap.objs.size
 gM:∀b o,X.base.get? b=some o→b∉X.ex
 gY:∀b∈X.ex,b∉X.fs
 cf:X.bt.heap.FunFrames X.base X.outer
 dH:∀b∈X.fs,X.fG b=none
structure Inv (X:Cx) (pins:List (Addr×Obj)) (σ:List (Option V)) (H:Hp) (s:Shared):Prop where
 ok:X.Ok
 os:s.os=X.bt.os
 bare:AllBare s.gens
 base:Un X.fs X.ex X.fG H X.bt.heap s.heap
 loc:∃m,s.heap.Ns X.env.locals m∧∀(i:Nat) (x:Str) (v:V),X.N[i]? =some x→σ[i]? =some (some v)→jK X.env.scope x→∃u,RelV v u∧Look X.env s.heap m x u
 cell:∀x c,X.env.cells.lookup x=some c→∃v,s.heap.IsCell c v
 free:H X.env.locals=none
 cZ:∀x c,X.env.cells.lookup x=some c→H c=none
 pin:∀p∈X.pn++pins,s.heap.get? p.1=some p.2∧H p.1=none∧p.1≠X.env.locals∧p.1∉X.fs∧∀v,p.2.data≠.cell v
 af:aZ X.prog X.w H s.heap
 len:σ.length=X.N.length
section
variable {X:Cx}{pins:List (Addr×Obj)}{σ:List (Option V)}{H H':Hp}{s:Shared}{h':Heap}
theorem Cx.Ok.vX (ok:X.Ok) {b:Addr}{o:Obj}(e:X.base.get? b=some o):b∉X.fs:=fun hb=>by
 have:=(ok.cf.mem hb).1
 rw[e]at this;cases this
theorem Inv.bs (I:Inv X pins σ H s):∀b o,X.base.get? b=some o→s.heap.get? b=some o∧H b=none:=fun b o e=>
 ⟨I.base.keep b o (I.ok.bs b o e).1 (I.ok.bs b o e).2 (I.ok.vX e) (I.ok.gM b o e),I.base.free b o (I.ok.bs b o e).1 (I.ok.bs b o e).2 (I.ok.gM b o e)⟩
theorem Inv.bk (I:Inv X pins σ H s):∀b o,X.base.get? b=some o→s.heap.get? b=some o:=fun b o e=> (I.bs b o e).1
theorem Inv.mod (I:Inv X pins σ H s):Mod X.K X.mg X.base:=I.ok.mod
theorem Inv.bp (I:Inv X pins σ H s):X.K.In s.heap:=I.ok.mod.fV.keeps I.bk
theorem Inv.lt (I:Inv X pins σ H s):X.env.locals<s.heap.objs.size:=let ⟨_,hn,_⟩:=I.loc;hn.lt
theorem Inv.sz (I:Inv X pins σ H s):X.bt.heap.objs.size≤s.heap.objs.size:=Nat.le_trans I.ok.above (Nat.le_of_lt I.lt)
theorem Inv.vV (I:Inv X pins σ H s) {a:Addr}(h:s.heap.objs.size≤a):a∉X.fs:=fun hb=>by
 obtain⟨_,o,ho,_⟩:=I.ok.cf.mem hb
 exact absurd (Nat.lt_of_lt_of_le (Heap.lt_size ho) (Nat.le_trans I.sz h)) (Nat.lt_irrefl _)
theorem Inv.dJ (I:Inv X pins σ H s):∀x c,X.env.cells.lookup x=some c→c≠X.env.locals:=fun x c e z=>by
 obtain⟨v,o,ho,hd⟩:=I.cell x c e
 obtain⟨m,⟨o',es,ep,bS,yz,_⟩,_⟩:=I.loc
 rw[z,bS]at ho;cases ho;rw[yz]at hd;cases hd
theorem Inv.cf (I:Inv X pins σ H s):s.heap.FunFrames X.base X.outer:=by
 have all:∀(l:List Env),(∀b∈ay l,b∈X.fs)→X.bt.heap.FunFrames X.base l→s.heap.FunFrames X.base l:=by
  intro l
  induction l with
  |nil=>intro _ _;trivial
  |cons env r ih=>
   intro hs hl
   obtain⟨hk,⟨L,o,hf,hn,ho,hd⟩,hr⟩:=hl
   have hL:L∈X.fs:=hs L (by unfold ay;rw[List.filterMap_cons,hf];exact List.mem_cons_self)
   obtain⟨sl,e⟩:=I.base.slot L o ho (I.ok.dH L hL) hL fun z=>I.ok.gY L z hL
   exact⟨hk,⟨L,_,hf,hn,e,hd⟩,ih (fun b hb=>hs b (by unfold ay;rw[List.filterMap_cons,hf];exact List.mem_cons_of_mem _ hb)) hr⟩
 exact all X.outer (fun _ hb=>hb) I.ok.cf
theorem Inv.stack (I:Inv X pins σ H s):s.heap.FunFrames X.base X.stack:=by
 rcases I.ok.hX with e |⟨e,hf⟩
 ·rw[e];exact I.cf
 ·rw[e]
  obtain⟨m,hn,_⟩:=I.loc
  refine .cons (by rw[I.ok.kind];decide) hf hn ?_ I.cf
  exact Heap.get?_none_of_le (Nat.le_trans I.ok.fb I.ok.above)
theorem Inv.kd (I:Inv X pins σ H s):∀b∈ay X.stack,b∈X.env.locals::X.fs:=fun b hb=>by
 rcases I.ok.hX with e |⟨e,hf⟩
 ·rw[e]at hb;exact List.mem_cons_of_mem _ hb
 ·rw[e]at hb
  unfold ay at hb
  rw[List.filterMap_cons,hf]at hb
  exact hb
theorem Inv.iR (I:Inv X pins σ H s):∀b∈ay X.stack,H b=none:=fun b hb=>by
 rcases List.mem_cons.mp (I.kd b hb) with e |hb
 ·rw[e];exact I.free
 ·obtain⟨_,o,ho,_⟩:=I.ok.cf.mem hb
  exact I.base.free b o ho (I.ok.dH b hb) fun z=>I.ok.gY b z hb
theorem Inv.step {g':Array GenState}{t':Nat}{d':Drawn}{ch:List Addr}(I:Inv X pins σ H s)
  (eX:∀b∈ch,(b∈X.ex∨X.bt.heap.objs.size≤b)∧b≠X.env.locals∧(∀x c,X.env.cells.lookup x=some c→c≠b)∧∀p∈X.pn++pins,p.1≠b)
  (keep:∀b o,b≠X.env.locals→b∉X.fs→b∉ch→s.heap.get? b=some o→H b=none→h'.get? b=some o)
  (slot:∀b o,b≠X.env.locals→b∈X.fs→b∉ch→s.heap.get? b=some o→H b=none→∃sl,h'.get? b=some {o with slots:=sl}) (free:∀b o,b∉ch→s.heap.get? b=some o→H b=none→H' b=none)
  (there:∀b o,b∉ch→s.heap.get? b=some o→∃o',h'.get? b=some o')
  (dj:∀b xs,H b=some (.tup xs)→H' b=some (.tup xs)) (cY:∀b o u,H b=some (.bw o u)→H' b=some (.bw o u)) (cP:∀b ps,H b=some (.bE ps)→∃more,H' b=some (.bE (ps++more)))
  (ns:∀m,s.heap.Ns X.env.locals m→h'.Ns X.env.locals m) (af:aZ X.prog X.w H' h') (hg:AllBare g'):
  Inv X pins σ H' {s with heap:=h',gens:=g',drawn:=d',toks:=t'} :=by
 have qH:∀b o,X.bt.heap.get? b=some o→b≠X.env.locals:=fun b o e=>Nat.ne_of_lt (Nat.lt_of_lt_of_le (Heap.lt_size e) I.ok.above)
 have dE:∀b o,X.bt.heap.get? b=some o→b∉X.ex→b∉ch:=fun b o e hx hb=>by
  rcases (eX b hb).1 with z |z
  ·exact hx z
  ·exact absurd (Nat.lt_of_lt_of_le (Heap.lt_size e) z) (Nat.lt_irrefl _)
 have cellK:∀x c,X.env.cells.lookup x=some c→∀v,s.heap.IsCell c v→h'.IsCell c v:=fun x c e v ⟨o,ho,hd⟩=>by
  have i9:c∉ch:=fun z=> (eX c z).2.2.1 x c e rfl
  by_cases hc:c∈X.fs
  ·obtain⟨sl,q⟩:=slot c o (I.dJ x c e) hc i9 ho (I.cZ x c e)
   exact⟨_,q,hd⟩
  ·exact⟨o,keep c o (I.dJ x c e) hc i9 ho (I.cZ x c e),hd⟩
 refine⟨I.ok,I.os,hg,⟨fun b o e n hb hx=> ?_,fun b o e n hb hx=> ?_,fun b o e n hx=> ?_,fun b o e hx=> ?_,fun b xs e=>dj b xs (I.base.dj b xs e),fun b o xs e=>cY b o xs (I.base.cY b o xs e),fun b ps e=> ?_⟩,?_,fun x c e=> ?_,?_,fun x c e=> ?_,fun p hp=> ?_,af,I.len⟩
 ·exact keep b o (qH b o e) hb (dE b o e hx) (I.base.keep b o e n hb hx) (I.base.free b o e n hx)
 ·obtain⟨sl,e1⟩:=I.base.slot b o e n hb hx
  obtain⟨uQ,e2⟩:=slot b _ (qH b o e) hb (dE b o e hx) e1 (I.base.free b o e n hx)
  exact⟨uQ,e2⟩
 ·obtain⟨o',e1⟩:=I.base.there b o e hx
  exact free b o' (dE b o e hx) e1 (I.base.free b o e n hx)
 ·obtain⟨o',e1⟩:=I.base.there b o e hx
  exact there b o' (dE b o e hx) e1
 ·obtain⟨m1,e1⟩:=I.base.cP b ps e
  obtain⟨m2,e2⟩:=cP b _ e1
  exact⟨m1++m2,by rw[e2,Array.append_assoc]⟩
 ·obtain⟨m,hn,hl⟩:=I.loc
  refine⟨m,ns m hn,fun i x v e1 e2 e3=> ?_⟩
  obtain⟨u,r,l⟩:=hl i x v e1 e2 e3
  refine⟨u,r,?_⟩
  rcases l with l |⟨k,c,e,z⟩
  ·exact .inl l
  ·exact .inr ⟨k,c,e,cellK x c e _ z⟩
 ·obtain⟨v,z⟩:=I.cell x c e
  exact⟨v,cellK x c e v z⟩
 ·obtain⟨m,⟨o,_,_,ho,_⟩,_⟩:=I.loc
  exact free _ o (fun z=> (eX _ z).2.1 rfl) ho I.free
 ·obtain⟨v,o,ho,hd⟩:=I.cell x c e
  exact free c o (fun z=> (eX c z).2.2.1 x c e rfl) ho (I.cZ x c e)
 ·obtain⟨e,n,ne,nf,d⟩:=I.pin p hp
  have i9:p.1∉ch:=fun z=> (eX p.1 z).2.2.2 p hp rfl
  exact⟨keep p.1 p.2 ne nf i9 e n,free p.1 p.2 i9 e n,ne,nf,d⟩
theorem Inv.un {t':Nat}(I:Inv X pins σ H s) (u:Un X.fs [] H H' s.heap h') (af:aZ X.prog X.w H' h'):Inv X pins σ H' {s with heap:=h',toks:=t'} :=by
 obtain⟨m,⟨o,es,ep,ho,r⟩,_⟩:=id I.loc
 obtain⟨sl,hL⟩:=u.any ho I.free (by simp)
 exact I.step (g':=s.gens) (d':=s.drawn) (ch:=[]) (fun _ z=>nomatch z) (fun b o _ hb _ e n=>u.keep b o e n hb (by simp)) (fun b o _ hb _ e n=>u.slot b o e n hb (by simp)) (fun b o _ e n=>u.free b o e n (by simp)) (fun b o _ e=>u.there b o e (by simp)) u.dj u.cY u.cP (fun m' hm=>by
  obtain⟨o',oR,oT,bS,r'⟩:=hm
  rw[ho]at bS;cases bS
  exact⟨_,oR,oT,hL,r'⟩) af I.bare
theorem Inv.call {g':Array GenState}{t':Nat}{d':Drawn}{ch:List Addr}(I:Inv X pins σ H s) (u:Un (ay X.stack) ch H H' s.heap h') (af:aZ X.prog X.w H' h') (hg:AllBare g')
  (eX:∀b∈ch,(b∈X.ex∨X.bt.heap.objs.size≤b)∧b≠X.env.locals∧(∀x c,X.env.cells.lookup x=some c→c≠b)∧∀p∈X.pn++pins,p.1≠b):
  Inv X pins σ H' {s with heap:=h',gens:=g',drawn:=d',toks:=t'} :=by
 obtain⟨m,⟨o,es,ep,ho,r⟩,_⟩:=id I.loc
 obtain⟨sl,hL⟩:=u.any ho I.free fun z=> (eX _ z).2.1 rfl
 exact I.step (ch:=ch) eX (fun b o hL hb hc e n=>u.keep b o e n (fun z=> (List.mem_cons.mp (I.kd b z)).elim hL hb) hc) (fun b o _ _ hc e n=>u.any e n hc) (fun b o hc e n=>u.free b o e n hc) (fun b o hc e=>u.there b o e hc) u.dj u.cY u.cP (fun m' hm=>by
  obtain⟨o',oR,oT,bS,r'⟩:=hm
  rw[ho]at bS;cases bS
  exact⟨_,oR,oT,hL,r'⟩) af hg
theorem Inv.turned {t':Nat}{it:Addr}(I:Inv X pins σ H s) (k:∀b o,b≠it→s.heap.get? b=some o→h'.get? b=some o) (hn:H it=none) (hL:it≠X.env.locals)
  (h1:it∈X.ex∨X.bt.heap.objs.size≤it) (h2:∀x c,X.env.cells.lookup x=some c→c≠it) (h3:∀p∈X.pn++pins,p.1≠it):Inv X pins σ H {s with heap:=h',toks:=t'} :=by
 have qG:∀b u,H b=some u→b≠it:=fun b u e z=>by rw[z,hn]at e;cases e
 refine I.step (g':=s.gens) (d':=s.drawn) (ch:=[it]) (fun b hb=> ?_) (fun b o _ _ hc e _=>k b o (fun z=>hc (by simp[z])) e) (fun b o _ _ hc e _=> ⟨o.slots,k b o (fun z=>hc (by simp[z])) e⟩) (fun _ _ _ _ n=>n)
  (fun b o hc e=> ⟨o,k b o (fun z=>hc (by simp[z])) e⟩) (fun _ _ e=>e) (fun _ _ _ e=>e) (fun b ps e=> ⟨#[],by rw[e];simp⟩) (fun m hm=> ?_) (fun b u e=> ?_) I.bare
 ·have e:b=it:=by simpa using hb
  subst e
  exact⟨h1,hL,h2,h3⟩
 ·obtain⟨o,es,ep,ho,r⟩:=hm
  exact⟨o,es,ep,k _ o (Ne.symm hL) ho,r⟩
 ·refine(I.af b u e).dD (fun c v hc q=>k c v ?_ q) (fun _ q=>q) fun _ _ q=>q
  rcases hc with z |z
  ·rw[z];exact qG b u e
  ·exact qG c _ z
theorem Inv.tok (I:Inv X pins σ H s) (t:Nat):Inv X pins σ H {s with toks:=t} :=I.un (h':=s.heap) (t':=t) Un.refl I.af
theorem Inv.kept {t':Nat}(I:Inv X pins σ H s) (k:∀b u,s.heap.get? b=some u→h'.get? b=some u):Inv X pins σ H {s with heap:=h',toks:=t'} :=I.un (Un.kept k) (I.af.kept k)
theorem Inv.laid {a:Addr}{o:HO}{t':Nat}(I:Inv X pins σ H s) (k:∀b u,s.heap.get? b=some u→h'.get? b=some u) (hp:s.heap.objs.size≤a) (new:aX X.prog X.w (upd H a o) h' a o):
  Inv X pins σ (upd H a o) {s with heap:=h',toks:=t'} :=I.un (Un.laid k hp (I.af.fresh hp)) (I.af.laid k hp new)
theorem Inv.write {x e:Addr}{o:HO}{t':Nat}(I:Inv X pins σ H s) (mu:lH (H x)) (he:e=x∨H e=some (.own x)) (k:∀b u,b≠e→s.heap.get? b=some u→h'.get? b=some u) (iz:∃u,h'.get? e=some u)
  (new:aX X.prog X.w (upd H x o) h' x o):Inv X pins σ (upd H x o) {s with heap:=h',toks:=t'} :=I.un (Un.write mu he k iz) (I.af.write mu he k iz new)
theorem Inv.qy {qz:List (Addr×Obj)}(I:Inv X pins σ H s) (h:∀p∈qz,s.heap.get? p.1=some p.2∧H p.1=none∧p.1≠X.env.locals∧p.1∉X.fs∧∀v,p.2.data≠.cell v):Inv X qz σ H s:=
 ⟨I.ok,I.os,I.bare,I.base,I.loc,I.cell,I.free,I.cZ,fun p hp=> (List.mem_append.mp hp).elim (fun z=>I.pin p (List.mem_append_left _ z)) (h p),I.af,I.len⟩
theorem Y7 {N:List Str}(hN:N.Nodup) {i j:Nat}{x:Str}(a:N[i]? =some x) (b:N[j]? =some x):i=j:=by
 obtain⟨h1,e1⟩:=List.getElem?_eq_some_iff.mp a
 obtain⟨h2,e2⟩:=List.getElem?_eq_some_iff.mp b
 exact(List.getElem_inj hN).mp (e1.trans e2.symm)
theorem Jt {M:Model}{A:Around}{E:Value→Shared→Prop}{i:Nat}{x:Str}{v:V}{u:Value}{Q:Unit→Shared→Prop}(I:Inv X pins σ H s) (hN:X.N.Nodup) (hi:X.N[i]? =some x) (hx:Loc X.env.scope x) (r:RelV v u)
  (h:∀s',Inv X pins (σ.set i (some v)) H s'→(∃a,Heap.SameBut a s.heap s'.heap∧(a=X.env.locals∨X.env.cells.lookup x=some a))→Q () s') (hf:X.fn x=true∨X.env.scope.names.lookup x=some .local:=by first |exact .inl rfl |exact .inr rfl |assumption):wpAny M A (storeName X.env x u) Q E s:=by
 obtain⟨m,hn,hl⟩:=id I.loc
 have oy:(X.env.scope.kind==.class||(X.env.scope.kind==.module&&X.env.locals !=X.env.globals))=false:=by rw[I.ok.kind];rfl
 have rp:i<σ.length:=by rw[I.len];exact(List.getElem?_eq_some_iff.mp hi).1
 have dJ:=I.dJ
 have tracked:∀{a:Addr}{h':Heap},(∃o,s.heap.get? a=some o∧H a=none)→Heap.SameBut a s.heap h'→aZ X.prog X.w H h':=fun {a h'} ha hs b ob e=>by
  obtain⟨_,_,rA⟩:=ha
  refine(I.af b ob e).dD (fun c w' hc q=> (hs.2 c ?_).trans q) (fun _ q=>q) fun _ _ q=>q
  rintro rfl
  rcases hc with rfl |hc
  ·rw[rA]at e;cases e
  ·rw[rA]at hc;cases hc
 rcases hx with hk |hk
 ·refine wpAny_storeName_local hk hn (fun h' ya hs=> ?_) oy
  obtain⟨oL,_,_,hoL,_⟩:=id hn
  refine h _ ⟨I.ok,I.os,I.bare,⟨fun b o e n hb hx=> ?_,fun b o e n hb hx=> ?_,I.base.free,fun b o e hx=> ?_,I.base.dj,I.base.cY,I.base.cP⟩,⟨_,ya,fun j y v' e1 e2 e3=> ?_⟩,fun y c e=> ?_,I.free,I.cZ,fun p hp=> ?_,tracked ⟨oL,hoL,I.free⟩ hs,by simpa using I.len⟩ ⟨_,hs,.inl rfl⟩
  ·exact(hs.2 b (Nat.ne_of_lt (Nat.lt_of_lt_of_le (Heap.lt_size e) I.ok.above))).trans (I.base.keep b o e n hb hx)
  ·obtain⟨sl,e1⟩:=I.base.slot b o e n hb hx
   exact⟨sl,(hs.2 b (Nat.ne_of_lt (Nat.lt_of_lt_of_le (Heap.lt_size e) I.ok.above))).trans e1⟩
  ·obtain⟨o',e1⟩:=I.base.there b o e hx
   exact⟨o',(hs.2 b (Nat.ne_of_lt (Nat.lt_of_lt_of_le (Heap.lt_size e) I.ok.above))).trans e1⟩
  ·by_cases hj:j=i
   ·subst hj
    rw[hi]at e1;cases e1
    rw[List.getElem?_set_self rp]at e2
    cases e2
    exact⟨u,r,.inl ⟨hk,by simp⟩⟩
   ·rw[List.getElem?_set_ne (Ne.symm hj)]at e2
    obtain⟨u',r',q⟩:=hl j y v' e1 e2 e3
    refine⟨u',r',?_⟩
    rcases q with ⟨k,e⟩ |⟨k,c,e,z⟩
    ·refine .inl ⟨k,?_⟩
     have:y≠x:=fun e=>hj (Y7 hN e1 (e▸hi))
     simp[this,e]
    ·exact .inr ⟨k,c,e,z.sameBut hs (dJ y c e)⟩
  ·obtain⟨w',z⟩:=I.cell y c e
   exact⟨w',z.sameBut hs (dJ y c e)⟩
  ·obtain⟨e,n,ne,nf,d⟩:=I.pin p hp
   exact⟨(hs.2 p.1 ne).trans e,n,ne,nf,d⟩
 ·have dX:X.fn x=true:=by
   rcases hf with z |z
   ·exact z
   ·rw[z]at hk;cases hk
  obtain⟨c,hc⟩:=I.ok.has x (.inl hk)
  obtain⟨w',z⟩:=I.cell x c hc
  refine wpAny_storeName_cell I.ok.kind hk hc z (fun h' bN hs=> ?_)
  obtain⟨oc,qY,xY⟩:=id z
  refine h {s with heap:=h'} ⟨I.ok,I.os,I.bare,⟨fun b o e n hb hx=> ?_,fun b o e n hb hx=> ?_,I.base.free,fun b o e hx=> ?_,I.base.dj,I.base.cY,I.base.cP⟩,⟨m,hn.sameBut hs (Ne.symm (dJ x c hc)),fun j y v' e1 e2 e3=> ?_⟩,fun y c' e=> ?_,I.free,I.cZ,fun p hp=> ?_,tracked ⟨oc,qY,I.cZ x c hc⟩ hs,by simpa using I.len⟩ ⟨c,hs,.inr hc⟩
  ·exact(hs.2 b (Nat.ne_of_lt (Nat.lt_of_lt_of_le (Heap.lt_size e) (I.ok.gq x c dX hc)))).trans (I.base.keep b o e n hb hx)
  ·obtain⟨sl,e1⟩:=I.base.slot b o e n hb hx
   exact⟨sl,(hs.2 b (Nat.ne_of_lt (Nat.lt_of_lt_of_le (Heap.lt_size e) (I.ok.gq x c dX hc)))).trans e1⟩
  ·obtain⟨o',e1⟩:=I.base.there b o e hx
   exact⟨o',(hs.2 b (Nat.ne_of_lt (Nat.lt_of_lt_of_le (Heap.lt_size e) (I.ok.gq x c dX hc)))).trans e1⟩
  ·by_cases hj:j=i
   ·subst hj
    rw[hi]at e1;cases e1
    rw[List.getElem?_set_self rp]at e2
    cases e2
    exact⟨u,r,.inr ⟨.inl hk,c,hc,bN⟩⟩
   ·rw[List.getElem?_set_ne (Ne.symm hj)]at e2
    obtain⟨u',r',q⟩:=hl j y v' e1 e2 e3
    refine⟨u',r',?_⟩
    rcases q with q |⟨k,c',e,z'⟩
    ·exact .inl q
    ·refine .inr ⟨k,c',e,z'.sameBut hs ?_⟩
     rintro rfl
     exact hj (Y7 hN e1 (I.ok.inj _ _ _ e hc▸hi))
  ·by_cases eY:c'=c
   ·subst eY;exact⟨_,bN⟩
   ·obtain⟨w2,z2⟩:=I.cell y c' e
    exact⟨w2,z2.sameBut hs eY⟩
  ·obtain⟨e,n,ne,nf,d⟩:=I.pin p hp
   refine⟨(hs.2 p.1 ?_).trans e,n,ne,nf,d⟩
   intro q
   rw[q,qY]at e
   have q':oc=p.2:=Option.some.inj e
   exact d w' (by rw[←q'];exact xY)
theorem ZT {M:Model}{A:Around}{E:Value→Shared→Prop}{i:Nat}{x:Str}{v:V}{u:Value}{Q:Unit→Shared→Prop}(I:Inv X pins σ H s) (hN:X.N.Nodup) (hi:X.N[i]? =some x) (hx:Loc X.env.scope x) (r:RelV v u)
  (h:∀s',Inv X pins (σ.set i (some v)) H s'→Q () s') (hf:X.fn x=true∨X.env.scope.names.lookup x=some .local:=by first |exact .inl rfl |exact .inr rfl |assumption):wpAny M A (storeName X.env x u) Q E s:=
 Jt I hN hi hx r (fun s' I' _=>h s' I') hf
theorem Inv.sj {s':Shared}{ch:List Addr}(I:Inv X pins σ H s) (ho:s'.os=s.os) (u:Un (ay X.stack) ch H H' s.heap s'.heap) (af:aZ X.prog X.w H' s'.heap) (hg:AllBare s'.gens)
  (eX:∀b∈ch,(b∈X.ex∨X.bt.heap.objs.size≤b)∧b≠X.env.locals∧(∀x c,X.env.cells.lookup x=some c→c≠b)∧∀p∈X.pn++pins,p.1≠b):Inv X pins σ H' s':=by
 obtain⟨h',g',d',t',o'⟩:=s'
 have e:o'=s.os:=ho
 subst e
 exact I.call (g':=g') (t':=t') (d':=d') u af hg eX
end
abbrev XK:=Value→Option Addr→Hp→Prop
abbrev St:=List (Option V)
abbrev VK:=V→Hp→Prop
abbrev TE:=St→Hp→VK→Prop
abbrev TT:=St→Hp→(Bool→Hp→Prop)→Prop
abbrev TA:=St→Hp→(List V→Hp→Prop)→Prop
structure Ends where
 nx:St→Hp→Prop
 rt:VK
 bk:St→Hp→Prop:=fun _ _=>False
 ct:St→Hp→Prop:=fun _ _=>False
abbrev TS:=Ends→St→Hp→Prop
def EP (X:Cx) (pins:List (Addr×Obj)) (σ:St) (Q:VK) (u:Value) (s':Shared):Prop:=∃v H',Inv X pins σ H' s'∧RelV v u∧Q v H'
def TP (X:Cx) (pins:List (Addr×Obj)) (σ:St) (Q:Bool→Hp→Prop) (b:Bool) (s':Shared):Prop:=∃H',Inv X pins σ H' s'∧Q b H'
def AP (X:Cx) (pins:List (Addr×Obj)) (σ:St) (Q:List V→Hp→Prop) (us:List Value) (s':Shared):Prop:=∃vs H',Inv X pins σ H' s'∧Vals vs us∧Q vs H'
def SP (X:Cx) (pins:List (Addr×Obj)) (D:Ends) (f:Flow) (s':Shared):Prop:=
 match f with
 | .next=> ∃ag H',Inv X pins ag H' s'∧D.nx ag H'
 | .brk=> ∃ag H',Inv X pins ag H' s'∧D.bk ag H'
 | .cont=> ∃ag H',Inv X pins ag H' s'∧D.ct ag H'
 | .ret u=> ∃v ag H',Inv X pins ag H' s'∧RelV v u∧D.rt v H'
def PE (X:Cx) (e:Expr) (t:TE):Prop:=
 ∀(pins:List (Addr×Obj)) (s:Shared) (σ:St) (H:Hp) (Q:VK),Inv X pins σ H s→t σ H Q→wpAny (model X.prog X.w) X.A (eval e X.env) (EP X pins σ Q) X.xe s
def PT (X:Cx) (e:Expr) (t:TT):Prop:=
 ∀(pins:List (Addr×Obj)) (s:Shared) (σ:St) (H:Hp) (Q:Bool→Hp→Prop),Inv X pins σ H s→t σ H Q→wpAny (model X.prog X.w) X.A (isTrue e X.env (eval e X.env)) (TP X pins σ Q) X.xe s
def PW (X:Cx) (e:Expr) (t:TT):Prop:=
 ∀(whole:Sem Value) (pins:List (Addr×Obj)) (s:Shared) (σ:St) (H:Hp) (Q:Bool→Hp→Prop),Inv X pins σ H s→t σ H Q→wpAny (model X.prog X.w) X.A (isTrue e X.env whole) (TP X pins σ Q) X.xe s
theorem PW.pt {X:Cx}{e:Expr}{t:TT}(h:PW X e t):PT X e t:=h _
def PA (X:Cx) (es:List Expr) (t:TA):Prop:=
 ∀(pos:Pos) (pins:List (Addr×Obj)) (s:Shared) (σ:St) (H:Hp) (Q:List V→Hp→Prop),Inv X pins σ H s→t σ H Q→wpAny (model X.prog X.w) X.A (spliced (backTo pos (starEach es X.env))) (AP X pins σ Q) X.xe s
def PS (X:Cx) (st:Stmt) (t:TS):Prop:=
 ∀(pins:List (Addr×Obj)) (s:Shared) (σ:St) (H:Hp) (D:Ends),Inv X pins σ H s→t D σ H→wpAny (model X.prog X.w) X.A (exec st X.env) (SP X pins D) X.xe s
def cH (X:Cx) (st:List Stmt) (t:TS):Prop:=
 ∀(pins:List (Addr×Obj)) (s:Shared) (σ:St) (H:Hp) (D:Ends),Inv X pins σ H s→t D σ H→wpAny (model X.prog X.w) X.A (execs st X.env) (SP X pins D) X.xe s
theorem ak {α:Type}{t:Sem α}{Q Q':α→Shared→Prop}{M:Model}{A:Around}{E:Value→Shared→Prop}{s:Shared}(h:wpAny M A t Q E s) (hQ:∀a s,Q a s→Q' a s):wpAny M A t Q' E s:=wpAny_mono h hQ fun _ _ x=>x
section
variable {X:Cx}
def j4 (i:Nat):TE:=fun σ H Q=> ∃v,σ[i]? =some (some v)∧Q v H
def tC (v:V):TE:=fun _ H Q=>Q v H
theorem Y5 {i:Nat}{x:Str}{pos:Pos}(hN:X.N[i]? =some x) (hv:jK X.env.scope x) (hd:(x==("__debug__" :Str))=false:=by decide) (bI:(x==("__classdict__" :Str))=false:=by decide):PE X (.Name x pos) (j4 i):=by
 intro pins s σ H Q I h
 obtain⟨v,e,h⟩:=h
 obtain⟨m,hn,hl⟩:=I.loc
 obtain⟨u,r,l⟩:=hl i x v hN e hv
 have fin:EP X pins σ Q u s:=⟨v,H,I,r,h⟩
 rcases l with ⟨hk,hm⟩ |⟨hk,c,hc,gj⟩
 ·exact wpAny_Name (wpAny_loadName_local I.ok.kind hk hn hm fin) hd
 ·rcases hk with hk |hk
  ·exact wpAny_Name (wpAny_loadName_cell I.ok.kind hk hc gj fin) hd
  ·exact wpAny_Name (wpAny_loadName_free I.ok.kind hk hc gj fin bI) hd
theorem Zf {i j pos} :PE X (.Constant (.int i) j pos) (tC (.int i)):=fun _ _ _ H _ I h=>wpAny_Constant_int ⟨.int i,H,I.tok _,⟨_,rfl⟩,h⟩
theorem YT {b j pos} :PE X (.Constant (.bool b) j pos) (tC (.bl b)):=fun _ _ _ H _ I h=>Constant_bool ⟨.bl b,H,I,rfl,h⟩
theorem ZX {j pos} :PE X (.Constant .none j pos) (tC .aa):=fun _ _ _ H _ I h=>Constant_none ⟨.aa,H,I,rfl,h⟩
theorem ZH {x j pos} :PE X (.Constant (.str x) j pos) (tC (.str x)):=fun _ _ _ H _ I h=>Calls.Constant_str ⟨.str x,H,I.tok _,⟨_,rfl⟩,h⟩
def Gl (X:Cx) (x:Str):Prop:=X.env.kindOf x=some .globalImplicit
theorem Yi {E:Value→Shared→Prop}{pins:List (Addr×Obj)}{s:Shared}{σ:St}{H:Hp}{x:Str}{u:Value}{pos:Pos}{Q:Value→Shared→Prop}(I:Inv X pins σ H s) (hg:Gl X x) (hm:X.mg x=some u) (h:Q u s)
  (hd:(x==("__debug__" :Str))=false:=by decide):wpAny (model X.prog X.w) X.A (eval (.Name x pos) X.env) Q E s:=
 Calls.Name_function_global I.ok.kind hg (Calls.loadGlobal_global (by rw[I.ok.glob];exact I.mod.glob.keeps I.bk) hm h) hd
theorem JT {E:Value→Shared→Prop}{pins:List (Addr×Obj)}{s:Shared}{σ:St}{H:Hp}{x:Str}{u:Value}{pos:Pos}{Q:Value→Shared→Prop}(I:Inv X pins σ H s) (hg:Gl X x) (hm:X.mg x=none) (hv:bootBuiltins x=some u) (h:Q u s)
  (hn:x≠ "__name__" :=by decide) (hd:(x==("__debug__" :Str))=false:=by decide):wpAny (model X.prog X.w) X.A (eval (.Name x pos) X.env) Q E s:=by
 obtain⟨mb,h1,h2⟩:=I.mod.blt
 exact Calls.Name_function_global I.ok.kind hg (Calls.loadGlobal_builtin (by rw[I.ok.glob];exact I.mod.glob.keeps I.bk) hm (by rw[I.ok.blt];exact h1.keeps I.bk) ((h2 x hn).trans hv) h) hd
theorem Zw {x:Str}{v:V}{u:Value}{pos:Pos}(hg:Gl X x) (hm:X.mg x=some u) (r:RelV v u) (hd:(x==("__debug__" :Str))=false:=by decide):PE X (.Name x pos) (tC v):=
 fun _ _ _ H _ I h=>Yi I hg hm ⟨v,H,I,r,h⟩ hd
theorem ZP {x:Str}{v:V}{u:Value}{pos:Pos}(hg:Gl X x) (hm:X.mg x=none) (hv:bootBuiltins x=some u) (r:RelV v u) (hn:x≠ "__name__" :=by decide) (hd:(x==("__debug__" :Str))=false:=by decide):PE X (.Name x pos) (tC v):=
 fun _ _ _ H _ I h=>JT I hg hm hv ⟨v,H,I,r,h⟩ hn hd
variable {a b:Expr}{ta tb:TE}{pos:Pos}
def PC (X:Cx) (op:CmpOp) (a b:Expr) (t:TE):Prop:=
 ∀(pins:List (Addr×Obj)) (s:Shared) (σ:St) (H:Hp) (Q:VK),Inv X pins σ H s→t σ H Q→
  wpAny (model X.prog X.w) X.A (eval a X.env) (fun v au=>wpAny (model X.prog X.w) X.A (eval b X.env) (fun u lX=>wpAny (model X.prog X.w) X.A (compareOp op v u) (EP X pins σ Q) X.xe lX) X.xe au) X.xe s
theorem vY (b:Expr) {op:CmpOp}(h:op≠.In) (h2:op≠.NotIn):behindInMarks op b=false:=by
 have e1:(op==CmpOp.In)=false:=by cases op<;>first |rfl |exact absurd rfl h
 have e2:(op==CmpOp.NotIn)=false:=by cases op<;>first |rfl |exact absurd rfl h2
 cases b<;>simp[behindInMarks,e1,e2]
def uj (ta:TE):TE:=fun σ H Q=>ta σ H fun x H1=>Q (.bl (!decide (x=.aa))) H1
theorem RelV.vT {x:V}{v:Value}(r:RelV x v):(v==Value.none)=decide (x=.aa):=by
 cases x with
 |aa=>cases r;rfl
 |bl _=>cases r;rfl
 |int _=>obtain⟨t,rfl⟩:=r;rfl
 |str _=>obtain⟨t,rfl⟩:=r;rfl
 |dM _=>obtain⟨t,rfl⟩:=r;rfl
 |dY _=>obtain⟨t,rfl⟩:=r;rfl
 |ref _=>cases r;rfl
 |ty _=>cases r;rfl
theorem JQ {j pos'} (ha:PE X a ta):PC X .IsNot a (.Constant .none j pos') (uj ta):=by
 intro pins s σ H Q I h
 refine ak (ha pins s σ H _ I h) fun v s1 ⟨x,H1,I1,r1,q1⟩=> ?_
 exact Constant_none (isnot_none_gen ⟨.bl _,H1,I1,by rw[r1.vT];rfl,q1⟩)
def tB (t:TE):TT:=fun σ H Q=>t σ H fun x H1=> ∃c,x=.bl c∧Q c H1
theorem Wt {op:CmpOp}{t:TE}(h:PC X op a b t) (h1:behindInMarks op b=false:=by first |exact vY _ (by decide) (by decide) |rfl):PT X (.Compare a [op] [b] pos) (tB t):=by
 intro pins s σ H Q I hw
 refine wpAny_isTrue_Compare1 (ak (h pins s σ H _ I hw) fun v s1 h1=>ak h1 fun u s2 h2=>ak h2 fun c s3 ⟨x,H1,I1,r1,q1⟩=> ?_) h1
 obtain⟨d,rfl,q⟩:=q1
 cases r1
 exact wpAny_truthy_bool ⟨H1,I1,q⟩
theorem Z1 {e:Expr}{t:TE}(h:PE X e t) (he:∀whole,isTrue e X.env whole=(do let v ←whole;standAt e.pos;holding [v] (truthy v)):=by intro _;rfl):PT X e (tB t):=by
 intro pins s σ H Q I hw
 refine isTrue_plain (ak (h pins s σ H _ I hw) fun v s1 ⟨x,H1,I1,r1,q1⟩=> ?_) (he _)
 obtain⟨d,rfl,q⟩:=q1
 cases r1
 exact wpAny_truthy_bool ⟨H1,I1,q⟩
variable {tA j9:TT}{rest:List Expr}
def uD (t u:TT):TT:=fun σ H Q=>t σ H fun c H1=>if c=true then u σ H1 Q else Q false H1
def uh (t u:TT):TT:=fun σ H Q=>t σ H fun c H1=>if c=true then Q true H1 else u σ H1 Q
def uk (t:TT):TT:=fun σ H Q=>t σ H fun c H1=>Q (!c) H1
theorem U2 (ha:PT X a tA):PW X (.BoolOp .And [a] pos) tA:=by
 intro wh pins s σ H Q I h
 refine isTrue_and (ak (ha pins s σ H Q I h) fun c s1 e=> ?_)
 cases c with
 |true=>exact isTrue_and_nil e
 |false=>exact e
theorem JK (ha:PT X a tA):PW X (.BoolOp .Or [a] pos) tA:=by
 intro wh pins s σ H Q I h
 refine isTrue_or (ak (ha pins s σ H Q I h) fun c s1 e=> ?_)
 cases c with
 |false=>exact isTrue_or_nil e
 |true=>exact e
theorem Bz (ha:PT X a tA) (hb:PW X (.BoolOp .And (b::rest) pos) j9):PW X (.BoolOp .And (a::b::rest) pos) (uD tA j9):=by
 intro wh pins s σ H Q I h
 refine isTrue_and (ak (ha pins s σ H _ I h) fun c s1 ⟨H1,I1,q1⟩=> ?_)
 cases c with
 |true=>exact hb wh pins s1 σ H1 Q I1 q1
 |false=>exact⟨H1,I1,q1⟩
theorem WI (ha:PT X a tA) (hb:PW X (.BoolOp .Or (b::rest) pos) j9):PW X (.BoolOp .Or (a::b::rest) pos) (uh tA j9):=by
 intro wh pins s σ H Q I h
 refine isTrue_or (ak (ha pins s σ H _ I h) fun c s1 ⟨H1,I1,q1⟩=> ?_)
 cases c with
 |true=>exact⟨H1,I1,q1⟩
 |false=>exact hb wh pins s1 σ H1 Q I1 q1
theorem Z9 (ha:PT X a tA):PT X (.UnaryOp .Not a pos) (uk tA):=by
 intro pins s σ H Q I h
 exact isTrue_not (ha pins s σ H (fun c H1=>Q (!c) H1) I h)
def pY (ta tb:TE):TE:=fun σ H Q=>ta σ H fun x H1=> ∃c,x=.bl c∧if c=true then tb σ H1 Q else Q (.bl false) H1
def ui (ta:TE):TE:=fun σ H Q=>ta σ H fun x H1=> ∃c,x=.bl c∧Q (.bl (!c)) H1
theorem Z2 {op}{t:TE}(h:PE X a t):PE X (.BoolOp op [a] pos) t:=fun pins s σ H Q I hw=>BoolOp_one (h pins s σ H Q I hw)
theorem ZJ (ha:PE X a ta) (hb:PE X (.BoolOp .And (b::rest) pos) tb):PE X (.BoolOp .And (a::b::rest) pos) (pY ta tb):=by
 intro pins s σ H Q I h
 refine BoolOp_and (ak (ha pins s σ H _ I h) fun v s1 ⟨x,H1,I1,r1,q1⟩=> ?_)
 obtain⟨c,rfl,q1⟩:=q1
 cases r1
 refine wpAny_truthy_bool ?_
 cases c with
 |true=>exact hb pins s1 σ H1 Q I1 q1
 |false=>exact⟨.bl false,H1,I1,rfl,q1⟩
theorem Uu (ha:PE X a ta):PE X (.UnaryOp .Not a pos) (ui ta):=by
 intro pins s σ H Q I h
 refine UnaryOp_ (ak (ha pins s σ H _ I h) fun v s1 ⟨x,H1,I1,r1,q1⟩=> ?_)
 obtain⟨c,rfl,q1⟩:=q1
 cases r1
 exact not_of (wpAny_truthy_bool ⟨.bl (!c),H1,I1,rfl,q1⟩)
def uu (t:TT) (ta tb:TE):TE:=fun σ H Q=>t σ H fun c H1=>if c=true then ta σ H1 Q else tb σ H1 Q
theorem Uv {c:Expr}(hc:PT X c tA) (ha:PE X a ta) (hb:PE X b tb):PE X (.IfExp c a b pos) (uu tA ta tb):=by
 intro pins s σ H Q I h
 refine wpAny_IfExp (ak (hc pins s σ H _ I h) fun d s1 ⟨H1,I1,q1⟩=> ?_)
 cases d with
 |true=>exact ha pins s1 σ H1 Q I1 q1
 |false=>exact hb pins s1 σ H1 Q I1 q1
end
def ai (K:PySem.W.Frag) (H:Hp) (a:Addr) (xs:List V):Prop:=
 Rd H a (.lst xs)∨
  ∃(o:Obj) (its:Array Value) (n:Nat),K.lookup a=some o∧o.cls=.type "list" ∧o.dict=none∧o.data=.seq its n∧its.size≤sizeLine∧Vals xs its.toList
def ah (K:PySem.W.Frag) (H:Hp) (a:Addr) (xs:List V):Prop:=
 Rd H a (.tup xs)∨
  (∃(o:Obj) (its:Array Value) (n:Nat),K.lookup a=some o∧o.cls=.type "tuple" ∧o.data=.seq its n∧its.size≤sizeLine∧Vals xs its.toList)∨H a=some (.par xs)
def AM:Value→Option V
 | .none=>some .aa
 | .bool b=>some (.bl b)
 | .int i _=>some (.int i)
 | .str x _=>some (.str x)
 | .bytes b _=>some (.dM b)
 | .float b _=>some (.dY b)
 | .ref a=>some (.ref a)
 | .type n=>some (.ty n)
 |_=>none
theorem RelV.abs {x:V}{u:Value}(r:RelV x u):AM u=some x:=by
 cases x with
 |aa=>cases r;rfl
 |bl _=>cases r;rfl
 |int _=>obtain⟨t,rfl⟩:=r;rfl
 |str _=>obtain⟨t,rfl⟩:=r;rfl
 |dM _=>obtain⟨t,rfl⟩:=r;rfl
 |dY _=>obtain⟨t,rfl⟩:=r;rfl
 |ref _=>cases r;rfl
 |ty _=>cases r;rfl
theorem RelV.inj {x y:V}{u:Value}(r:RelV x u) (q:RelV y u):x=y:=Option.some.inj (r.abs.symm.trans q.abs)
theorem Vals.inj:∀{xs ys:List V}{us:List Value},Vals xs us→Vals ys us→xs=ys
 |_,_,_,.nil,.nil=>rfl
 |_,_,_,.cons r t,.cons r' t'=>by rw[r.inj r',Vals.inj t t']
section
variable {X:Cx}{pins:List (Addr×Obj)}{σ:St}{H:Hp}{s:Shared}{a:Addr}{xs ys:List V}
theorem ai.of {K:PySem.W.Frag}(h:H a=some (.lst xs)):ai K H a xs:=.inl (.inl h)
theorem ah.of {K:PySem.W.Frag}(h:H a=some (.tup xs)):ah K H a xs:=.inl (.inl h)
theorem Inv.list (I:Inv X pins σ H s) (h:ai X.K H a xs):∃its:List Value,Vals xs its∧PlainL s.heap a its.toArray∧xs.length≤sizeLine:=by
 rcases h with h |⟨o,its,n,hk,hc,hd,hs,hz,r⟩
 ·obtain⟨z,its,n,r,e⟩:=h.ok I.af
  exact⟨its,r,⟨_,n,e,rfl,rfl,rfl⟩,z⟩
 ·refine⟨its.toList,r,⟨o,n,I.bp a o hk,hc,hd,by simpa using hs⟩,?_⟩
  have e:=r.length
  simp only[Array.length_toList]at e
  omega
theorem Inv.tuple (I:Inv X pins σ H s) (h:ah X.K H a xs):∃its:List Value,Vals xs its∧IsTup s.heap a its.toArray∧xs.length≤sizeLine:=by
 rcases h with h |⟨o,its,n,hk,hc,hs,hz,r⟩ |h
 ·obtain⟨z,its,r,p,_⟩:=h.ok I.af
  exact⟨its,r,p,z⟩
 rotate_left
 ·obtain⟨z,its,r,p⟩:=(show aX X.prog X.w H s.heap a (.par xs) from I.af a _ h)
  exact⟨its,r,p,z⟩
 ·refine⟨its.toList,r,⟨o,I.bp a o hk,hc,n,by simpa using hs⟩,?_⟩
  have e:=r.length
  simp only[Array.length_toList]at e
  omega
theorem Inv.wF (I:Inv X pins σ H s) (h:ai X.K H a xs) (h':ai X.K H a ys):xs=ys:=by
 obtain⟨its,r,⟨o,n,e,_,_,d⟩,_⟩:=I.list h
 obtain⟨its',r',⟨o',n',e',_,_,d'⟩,_⟩:=I.list h'
 rw[e]at e';cases e'
 rw[d]at d'
 injection d' with d1 _
 have:its=its':=by simpa using congrArg Array.toList d1
 subst this
 exact r.inj r'
theorem Inv.tP (I:Inv X pins σ H s) (h:ah X.K H a xs) (h':ah X.K H a ys):xs=ys:=by
 obtain⟨its,r,⟨o,e,_,n,d⟩,_⟩:=I.tuple h
 obtain⟨its',r',⟨o',e',_,n',d'⟩,_⟩:=I.tuple h'
 rw[e]at e';cases e'
 rw[d]at d'
 injection d' with d1 _
 have:its=its':=by simpa using congrArg Array.toList d1
 subst this
 exact r.inj r'
end
abbrev Cx.dC (X:Cx) (E:Value→Shared→Prop):Cx:= {X with xe:=E}
abbrev Cx.bZ (X:Cx):Cx:=X.dC fun _ _=>False
theorem Cx.Ok.dC {X:Cx}(ok:X.Ok) (E:Value→Shared→Prop):(X.dC E).Ok:=
 ⟨ok.mod,ok.kind,ok.glob,ok.blt,ok.above,ok.inj,ok.has,ok.gq,ok.hd,ok.frames,ok.hX,ok.iF,ok.bs,ok.fb,ok.gM,ok.gY,ok.cf,ok.dH⟩
theorem Cx.Ok.fg {X:Cx}{E:Value→Shared→Prop}(ok:(X.dC E).Ok):X.Ok:=
 ⟨ok.mod,ok.kind,ok.glob,ok.blt,ok.above,ok.inj,ok.has,ok.gq,ok.hd,ok.frames,ok.hX,ok.iF,ok.bs,ok.fb,ok.gM,ok.gY,ok.cf,ok.dH⟩
section
variable {X:Cx}{pins:List (Addr×Obj)}{σ:St}{H:Hp}{s:Shared}{E:Value→Shared→Prop}
theorem Inv.dC (I:Inv X pins σ H s) (E:Value→Shared→Prop):Inv (X.dC E) pins σ H s:=⟨I.ok.dC E,I.os,I.bare,I.base,I.loc,I.cell,I.free,I.cZ,I.pin,I.af,I.len⟩
theorem Inv.fg (I:Inv (X.dC E) pins σ H s):Inv X pins σ H s:=⟨I.ok.fg,I.os,I.bare,I.base,I.loc,I.cell,I.free,I.cZ,I.pin,I.af,I.len⟩
theorem SP.fg {D:Ends}{f:Flow}{s':Shared}(h:SP (X.dC E) pins D f s'):SP X pins D f s':=by
 cases f with
 |next=>obtain⟨ag,H',I,q⟩:=h;exact⟨ag,H',I.fg,q⟩
 |brk=>obtain⟨ag,H',I,q⟩:=h;exact⟨ag,H',I.fg,q⟩
 |cont=>obtain⟨ag,H',I,q⟩:=h;exact⟨ag,H',I.fg,q⟩
 |ret u=>obtain⟨v,ag,H',I,r,q⟩:=h;exact⟨v,ag,H',I.fg,r,q⟩
theorem cH.bZ {st:List Stmt}{t:TS}(h:cH X.bZ st t):cH X st t:=fun pins s σ H D I hw=>
 wpAny_mono (h pins s σ H D (I.dC _) hw) (fun _ _ q=>q.fg) fun _ _ z=>False.elim z
end
section
variable {X:Cx}{st:Stmt}{rest:List Stmt}{t u:TS}{e:Expr}{te:TE}{pos:Pos}
def pU:TS:=fun D σ H=>D.nx σ H
def pT (t u:TS):TS:=fun D σ H=>t {D with nx:=u D} σ H
theorem ZA:cH X [] pU:=fun _ _ σ H _ I h=>wpAny_execs_nil ⟨σ,H,I,h⟩
theorem Zh (h1:PS X st t) (h2:cH X rest u):cH X (st::rest) (pT t u):=by
 intro pins s σ H D I h
 refine wpAny_execs_cons (ak (h1 pins s σ H {D with nx:=u D} I h) fun f s1 q=> ?_)
 cases f with
 |next=>
  obtain⟨ag,H',I',q⟩:=q
  exact h2 pins s1 ag H' D I' q
 |ret v=>exact q
 |brk=>exact q
 |cont=>exact q
theorem Zk (h1:PS X st t):cH X [st] t:=by
 intro pins s σ H D I h
 refine wpAny_execs_cons (ak (h1 pins s σ H D I h) fun f s1 q=> ?_)
 cases f with
 |next=>exact wpAny_execs_nil q
 |ret v=>exact q
 |brk=>exact q
 |cont=>exact q
theorem Inv.quiet {pins:List (Addr×Obj)}{σ:St}{H:Hp}{s:Shared}(I:Inv X pins σ H s):interactive X.env=false:=by simp[interactive,I.ok.kind]
def uA (te:TE):TS:=fun D σ H=>te σ H fun _ H1=>D.nx σ H1
theorem Yx (he:PE X e te) (hs:swapsWith e none pos.line X.env=pure false:=by rfl):PS X (.Expr e pos) (uA te):=by
 intro pins s σ H D I h
 exact wpAny_Expr_any (ak (he pins s σ H _ I h) fun v s1 ⟨x,H1,I1,r1,q1⟩=> ⟨σ,H1,I1,q1⟩) I.quiet hs
def uc (te:TE):TS:=fun D σ H=>te σ H D.rt
theorem Zs (he:PE X e te):PS X (.Return (some e) pos) (uc te):=by
 intro pins s σ H D I h
 exact wpAny_Return_some (ak (he pins s σ H _ I h) fun v s1 ⟨x,H1,I1,r1,q1⟩=> ⟨x,σ,H1,I1,r1,q1⟩)
def ur (c:TT) (t u:TS):TS:=fun D σ H=>c σ H fun b H1=>if b=true then t D σ H1 else u D σ H1
theorem ZU {c:Expr}{a b:List Stmt}{tc:TT}(hc:PT X c tc) (ha:cH X a t) (hb:cH X b u):PS X (.If c a b pos) (ur tc t u):=by
 intro pins s σ H D I h
 refine wpAny_If (ak (hc pins s σ H _ I h) fun d s1 ⟨H1,I1,q1⟩=> ?_)
 cases d with
 |true=>exact ha pins s1 σ H1 D I1 q1
 |false=>exact hb pins s1 σ H1 D I1 q1
def uo:TS:=fun _ _ _=>False
theorem ZR {uI:List Stmt} :cH X uI uo:=fun _ _ _ _ _ _ h=>h.elim
end
abbrev TG:=V→St→Hp→(St→Hp→Prop)→Prop
abbrev g6:=List V→St→Hp→(St→Hp→Prop)→Prop
def PG (X:Cx) (target:Expr) (t:TG):Prop:=
 ∀(pins:List (Addr×Obj)) (s:Shared) (σ:St) (H:Hp) (v:V) (u:Value) (Q:St→Hp→Prop),Inv X pins σ H s→RelV v u→t v σ H Q→
  wpAny (model X.prog X.w) X.A (assign target X.env u) (fun _ s'=> ∃ag H',Inv X pins ag H' s'∧Q ag H') X.xe s
def lG (X:Cx) (ts:List Expr) (t:g6):Prop:=
 ∀(pins:List (Addr×Obj)) (s:Shared) (σ:St) (H:Hp) (vs:List V) (us:List Value) (Q:St→Hp→Prop),Inv X pins σ H s→Vals vs us→t vs σ H Q→
  wpAny (model X.prog X.w) X.A (assignInOrder ((assignEach ts X.env).map (·.2)) us) (fun _ s'=> ∃ag H',Inv X pins ag H' s'∧Q ag H') X.xe s
abbrev o9:=V→V→V→Hp→(Hp→Prop)→Prop
def sS (X:Cx) (t:o9):Prop:=
 ∀(pins:List (Addr×Obj)) (s:Shared) (σ:St) (H:Hp) (o i v:V) (ov iv u:Value) (Q:Hp→Prop),Inv X pins σ H s→RelV o ov→RelV i iv→RelV v u→t o i v H Q→
  wpAny (model X.prog X.w) X.A (setItem ov iv u) (fun _ s'=> ∃H',Inv X pins σ H' s'∧Q H') X.xe s
section
variable {X:Cx}{pos:Pos}
def jB (i:Nat):TG:=fun v σ H Q=>Q (σ.set i (some v)) H
theorem ZN {i:Nat}{x:Str}(hN:X.N.Nodup) (hi:X.N[i]? =some x) (hx:Loc X.env.scope x) (hf:X.fn x=true∨X.env.scope.names.lookup x=some .local:=by first |exact .inl rfl |exact .inr rfl |assumption):PG X (.Name x pos) (jB i):=by
 intro pins s σ H v u Q I r h
 exact wpAny_assign_Name (ZT I hN hi hx r (fun s' I'=> ⟨_,H,I',h⟩) hf)
def zB:g6:=fun vs σ H Q=>vs=[]∧Q σ H
def zC (t:TG) (u:g6):g6:=fun vs σ H Q=> ∃v r,vs=v::r∧t v σ H fun ag H'=>u r ag H' Q
theorem WL:lG X [] zB:=by
 intro pins s σ H vs us Q I r h
 obtain⟨e,h⟩:=h
 subst e
 cases r
 exact assignInOrder_nil ⟨σ,H,I,h⟩
theorem Yy {e:Expr}{es:List Expr}{t:TG}{u:g6}(h1:PG X e t) (h2:lG X es u)
  (hs:(assignEach (e::es) X.env).map (·.2)=assign e X.env::(assignEach es X.env).map (·.2):=by rfl):lG X (e::es) (zC t u):=by
 intro pins s σ H vs us Q I r h
 obtain⟨v,vr,e1,h⟩:=h
 subst e1
 cases r with
 |cons r rr=>
  rw[hs]
  refine assignInOrder_cons (ak (h1 pins s σ H _ _ _ I r h) fun _ s1 ⟨tD,H1,I1,q1⟩=> ?_)
  exact h2 pins s1 tD H1 _ _ Q I1 rr q1
def zz (K:PySem.W.Frag) (n:Nat) (t:g6):TG:=fun v σ H Q=> ∃a xs,v=.ref a∧ah K H a xs∧xs.length=n∧t xs σ H Q
theorem Us {es:List Expr}{k:Nat}{t:g6}{n:Nat}(hc:X.calm=true) (h:lG X es t)
  (hn:(assignEach es X.env).length=n:=by rfl) (gP:(assignEach es X.env).findIdx? (·.1)=none:=by rfl):PG X (.Tuple es k pos) (zz X.K n t):=by
 intro pins s σ H v u Q I r hw
 obtain⟨a,xs,e1,hq,hl,hw⟩:=hw
 subst e1
 cases r
 obtain⟨its,rv,ht,hz⟩:=I.tuple hq
 refine assign_Tuple_tuple (I.ok.hd hc) ht (by simp[hn,←hl,rv.length]) gP fun h' hx=> ?_
 have I1:Inv X pins σ H {s with heap:=h'} :=I.kept (t':=s.toks) fun b o e=>hx b o (Nat.ne_of_lt (Heap.lt_size e)) e
 exact h pins _ σ H xs _ Q I1 (by simpa using rv) hw
def zA (to ti:TE) (t:o9):TG:=fun v σ H Q=>to σ H fun o H1=>ti σ H1 fun i H2=>t o i v H2 fun H3=>Q σ H3
theorem Ut {o i:Expr}{to ti:TE}{t:o9}(ho:PE X o to) (hi:PE X i ti) (hs:sS X t)
    (ha:∀v,assign (.Subscript o i pos) X.env v=(do
      let ov ←holding [v] (eval o X.env)
      let iv ←holding [v,ov] (eval i X.env)
      standAt pos
      holding [v,ov,iv] (setItem ov iv v)
      release [v,ov,iv] []):=by intro _;rfl):PG X (.Subscript o i pos) (zA to ti t):=by
  intro pins s σ H v u Q I r h
  rw[ha]
  refine wpAny_bind (wpAny_holding (ak (ho pins s σ H _ I h) fun ov s1 ⟨x,H1,I1,r1,q1⟩=> ?_))
  refine wpAny_bind (wpAny_holding (ak (hi pins s1 σ H1 _ I1 q1) fun iv s2 ⟨y,H2,I2,r2,q2⟩=> ?_))
  refine wpAny_bind (wpAny_standAt (wpAny_bind (wpAny_holding (ak (hs pins s2 σ H2 x y v ov iv u _ I2 r1 r2 r q2) fun _ s3 ⟨H3,I3,q3⟩=> ?_))))
  exact wpAny_release ⟨σ,H3,I3,q3⟩
def ka (te:TE) (g:TG):TS:=fun D σ H=>te σ H fun x H1=>g x σ H1 D.nx
theorem JO {tg e:Expr}{te:TE}{g:TG}(he:PE X e te) (hg:PG X tg g) (hs:swapsWithSole [tg] e pos.line X.env=pure false:=by rfl) (hw:swappedStores [tg] e X.env=pure none:=by rfl)
  (h1:(assignEach [tg] X.env).map (·.2)=[assign tg X.env]:=by rfl):PS X (.Assign [tg] e pos) (ka te g):=by
 intro pins s σ H D I h
 refine wpAny_Assign_stores (ak (he pins s σ H _ I h) fun v s1 ⟨x,H1,I1,r1,q1⟩=> ?_) hs hw
 rw[h1]
 exact ak (hg pins s1 σ H1 x v _ I1 r1 q1) fun _ s2 q=>q
theorem Zt {i:Nat}{x:Str}{e:Expr}{te:TE}{pos':Pos}(hN:X.N.Nodup) (hi:X.N[i]? =some x) (hx:Loc X.env.scope x) (he:PE X e te) (hs:swapsWith e (some (.Name x pos')) pos.line X.env=pure false:=by rfl) (hf:X.fn x=true∨X.env.scope.names.lookup x=some .local:=by first |exact .inl rfl |exact .inr rfl |assumption):
  PS X (.Assign [.Name x pos'] e pos) (ka te (jB i)):=by
 intro pins s σ H D I h
 refine wpAny_Assign_Name (ak (he pins s σ H _ I h) fun v s1 ⟨y,H1,I1,r1,q1⟩=> ?_) hs
 exact ZT I1 hN hi hx r1 (fun s2 I2=> ⟨_,H1,I2,q1⟩) hf
def ug (i j:Nat) (ta:TA):TS:=fun D σ H=>ta σ H fun vs H1=> ∃v w,vs=[v,w]∧D.nx ((σ.set i (some v)).set j (some w)) H1
theorem Up {i j:Nat}{x y:Str}{a b:Expr}{ta:TA}{px py pt:Pos}{kt k2 gG} (hc:X.calm=true) (hN:X.N.Nodup) (hi:X.N[i]? =some x) (hj:X.N[j]? =some y) (oq:i≠j)
  (hx:X.env.scope.names.lookup x=some .local) (hy:X.env.scope.names.lookup y=some .local) (ha:PA X [a,b] ta)
  (hw:swappedStores [.Tuple [.Name x px,.Name y py] kt pt] (.Tuple [a,b] k2 gG) X.env=pure (some [x,y]))
  (hs:swapsWithSole [.Tuple [.Name x px,.Name y py] kt pt] (.Tuple [a,b] k2 gG) pos.line X.env=pure false:=by rfl):
  PS X (.Assign [.Tuple [.Name x px,.Name y py] kt pt] (.Tuple [a,b] k2 gG) pos) (ug i j ta):=by
 intro pins s σ H D I h
 rw[exec_Assign_arm]
 refine wpAny_bind (wpAny_standAt ?_)
 rw[hs]
 refine wpAny_bind (wpAny_pure ?_)
 rw[if_neg (by decide)]
 refine wpAny_bind (Tuple_ (ak (ha _ pins s σ H _ I h) fun us s1 ⟨vs,H1,I1,r1,q1⟩=> ?_))
 obtain⟨v,w,e1,q1⟩:=q1
 subst e1
 obtain⟨u1,u2,rfl,rv,dS⟩:∃u1 u2,us=[u1,u2]∧RelV v u1∧RelV w u2:=by
  cases r1 with
  |cons p q=>
   cases q with
   |cons p' q'=>
    cases q'
    exact⟨_,_,rfl,p,p'⟩
 refine wpAny_newObj_type ?_ (by show 2≤sizeLine;decide)
 have I2:Inv X pins σ H1 {s1 with heap:=s1.heap.push {cls:=.type "tuple",data:=.seq [u1,u2].toArray} } :=I1.kept (t':=s1.toks) fun b o e=>Heap.get?_push_of_some _ e
 rw[hw]
 refine wpAny_bind (wpAny_pure ?_)
 show wpAny (model X.prog X.w) X.A (do rule "assign.swapped-stores";let items ←unpackItems (.ref s1.heap.objs.size) 2 none;assignInOrder [fun v=>bindName X.env y v,fun v=>bindName X.env x v] items.reverse;pure Flow.next) _ _ _
 refine wpAny_bind (wpAny_rule (wpAny_bind (unpackItems_tuple (items:= #[u1,u2]) (I.ok.hd hc) (IsTup.new s1.heap _) fun h' nU=> ?_)))
 have I3:=I2.kept (h':=h') (t':=s1.toks) fun b o e=>nU b o (Nat.ne_of_lt (Heap.lt_size e)) e
 show wpAny _ _ (assignInOrder [fun v=>bindName X.env y v,fun v=>bindName X.env x v] [u2,u1] >>=fun _=>pure Flow.next) _ _ _
 refine wpAny_bind (assignInOrder_cons (wpAny_bindName (ZT I3 hN hj (.inl hy) dS (fun s2 I4=> ?_) (.inr hy))))
 refine assignInOrder_cons (wpAny_bindName (ZT I4 hN hi (.inl hx) rv (fun s3 I5=>assignInOrder_nil (wpAny_pure ?_)) (.inr hx)))
 rw[List.set_comm _ _ (Ne.symm oq)]at I5
 exact⟨_,H1,I5,q1⟩
end
structure It where
 go:Nat→Hp→Prop
 g9:Nat→Hp→V→Hp→Prop
 stop:Nat→Hp→Prop
def bL (X:Cx) (pins:List (Addr×Obj)) (H:Hp) (b:Addr):Prop:=
 H b=none∧b≠X.env.locals∧b∉X.fs∧(b∈X.ex∨X.bt.heap.objs.size≤b)∧(∀x c,X.env.cells.lookup x=some c→c≠b)∧∀p∈X.pn++pins,p.1≠b
theorem Inv.lB {X:Cx}{pins:List (Addr×Obj)}{σ:St}{H H':Hp}{s:Shared}{b:Addr}(I:Inv X pins σ H s) (hb:s.heap.objs.size≤b) (hn:H' b=none):bL X pins H' b:=by
 refine⟨hn,Nat.ne_of_gt (Nat.lt_of_lt_of_le I.lt hb),I.vV hb,.inr (Nat.le_trans I.sz hb),fun x c e z=> ?_,fun p hp z=> ?_⟩
 ·obtain⟨v,q⟩:=I.cell x c e
  exact absurd (Nat.lt_of_lt_of_le q.lt (by rw[z];exact hb)) (Nat.lt_irrefl _)
 ·exact absurd (Nat.lt_of_lt_of_le (Heap.lt_size (I.pin p hp).1) (by rw[z];exact hb)) (Nat.lt_irrefl _)
structure Turn (P:Program) (w:World) (K:PySem.W.Frag) (tg:Expr) (J:It) (fp:List Addr) (it:Addr) (tn:Nat→Heap→Prop):Prop where
 mem:it∈fp
 obj:∀i h,tn i h→∀b∈fp,∃o,h.get? b=some o∧∀v,o.data≠.cell v
 keep:∀i h h',tn i h→(∀b∈fp,∀o,h.get? b=some o→h'.get? b=some o)→tn i h'
 item:∀(X:Cx),X.prog=P→X.w=w→X.K=K→X.calm=true→∀(i:Nat) (pins:List (Addr×Obj)) (s:Shared) (σ:St) (H:Hp) (E:Value→Shared→Prop),Inv X pins σ H s→(∀b∈fp,bL X pins H b)→tn i s.heap→J.go i H→
  wpAny (model P w) X.A (pyNext (.ref it)) (fun r s1=> ∃u,r=some u∧
   wpAny (model P w) X.A (letOwnedTupleGo tg (.ref it) u) (fun _ s2=> ∃x H',Inv X pins σ H' s2∧RelV x u∧J.g9 i H x H'∧tn (i+1) s2.heap∧∀b∈fp,H' b=none) E s1) E s
 done:∀(X:Cx),X.prog=P→X.w=w→X.K=K→X.calm=true→∀(i:Nat) (pins:List (Addr×Obj)) (s:Shared) (σ:St) (H:Hp) (E:Value→Shared→Prop),Inv X pins σ H s→(∀b∈fp,bL X pins H b)→tn i s.heap→J.stop i H→
  wpAny (model P w) X.A (pyNext (.ref it)) (fun r s1=>r=none∧Inv X pins σ H s1) E s
 self:∀(A:Around) (i:Nat) (s:Shared) (Q:Value→Shared→Prop) (E:Value→Shared→Prop),tn i s.heap→Q (.ref it) s→wpAny (model P w) A (pyIter (.ref it)) Q E s
abbrev TI:=St→Hp→(It→Hp→Prop)→Prop
def sT (X:Cx) (pins:List (Addr×Obj)) (σ:St) (tg:Expr) (R:It→Hp→Prop) (iu:Value) (s2:Shared):Prop:=
 ∃(it:Addr) (fp:List Addr) (tn:Nat→Heap→Prop) (J:It) (H':Hp),iu=.ref it∧Inv X pins σ H' s2∧Turn X.prog X.w X.K tg J fp it tn∧tn 0 s2.heap∧(∀b∈fp,bL X pins H' b)∧R J H'
def PI (X:Cx) (tg iter:Expr) (wi:TI):Prop:=
 ∀(pins:List (Addr×Obj)) (s:Shared) (σ:St) (H:Hp) (R:It→Hp→Prop),Inv X pins σ H s→wi σ H R→
  wpAny (model X.prog X.w) X.A (eval iter X.env) (fun v s1=>wpAny (model X.prog X.w) X.A (pyIter v) (sT X pins σ tg R) X.xe s1) X.xe s
theorem UK {M:Model}{A:Around}{E:Value→Shared→Prop}{s:Shared}{tg:Expr}{it:Addr}{u:Value}{o:Obj}{n:String}{vs:Array Value}{Q:Unit→Shared→Prop}(ho:s.heap.get? it=some o) (hc:o.cls=.type n) (hd:o.data=.fields vs)
    (hn:["enumerate", "zip", "dict_itemiterator", "dict_reverseitemiterator", "odict_iterator", "itertools.zip_longest", "itertools.pairwise"].contains n=false) (hQ:Q () s):wpAny M A (letOwnedTupleGo tg (.ref it) u) Q E s:=by
  unfold letOwnedTupleGo
  cases tg<;>first
    |exact wpAny_pure hQ
    |(cases u<;>first
        |exact wpAny_pure hQ
        |(refine wpAny_bind (wpAny_load ho ?_)
          rw[hc,hd]
          show wpAny M A (if (["enumerate", "zip", "dict_itemiterator", "dict_reverseitemiterator", "odict_iterator", "itertools.zip_longest", "itertools.pairwise"].contains n&&vs[0]? ==some (rawInt _))=true then _ else _) Q E s
          rw[if_neg (by intro h;rw[hn,Bool.false_and]at h;cases h)]
          exact wpAny_pure hQ))
def iK (K:PySem.W.Frag) (a:Addr):It:=
 ⟨fun i H=> ∃xs x,ai K H a xs∧xs[i]? =some x,fun i H x H'=>H'=H∧∀xs,ai K H a xs→xs[i]? =some x,fun i H=> ∃xs,ai K H a xs∧xs.length≤i⟩
def iJ (K:PySem.W.Frag) (a:Addr):It:=
 ⟨fun i H=> ∃xs x,ah K H a xs∧xs[i]? =some x,fun i H x H'=>H'=H∧∀xs,ah K H a xs→xs[i]? =some x,fun i H=> ∃xs,ah K H a xs∧xs.length≤i⟩
def g7 (lo:Int) (n:Nat):It:=⟨fun i _=>i<n,fun i H x H'=>H'=H∧x=.int (lo+i),fun i _=>n≤i⟩
theorem W1 {P:Program}{w:World}{K:PySem.W.Frag}{tg:Expr}(a it:Addr):Turn P w K tg (iK K a) [it] it (fun i h=>h.IsListIter it a i) where
 mem:=by simp
 obj:=fun i h st b hb=>by
  have e:b=it:=by simpa using hb
  subst e
  obtain⟨o,e,c,d⟩:=st
  exact⟨o,e,fun v z=>by rw[d]at z;cases z⟩
 keep:=fun i h h' st k=>st.at fun o e=>k it (by simp) o e
 item:=by
  intro X hP hw hK hc i pins s σ H E I hf st hg
  subst hP hw hK
  obtain⟨xs,x,hq,hx⟩:=hg
  obtain⟨its,rv,p,hz⟩:=I.list hq
  obtain⟨u,hu,ru⟩:=rv.get hx
  obtain⟨f0,f1,f2,f3,f4,f5⟩:=hf it (by simp)
  refine wpAny_pyNext_list_item st p.isList (x:=u) (by simpa using hu) fun h' bP sb=> ?_
  have I1:Inv X pins σ H {s with heap:=h'} :=I.turned (t':=s.toks) (fun b o hb e=> (sb.2 b hb).trans e) f0 f1 f3 f4 f5
  obtain⟨o,e,c,d⟩:=id bP
  exact⟨u,rfl,UK (s:= {s with heap:=h'}) e c d (by decide) ⟨x,H,I1,ru,⟨rfl,fun ys hy=>by rw[I.wF hy hq];exact hx⟩,bP,fun b hb=> (hf b hb).1⟩⟩
 done:=by
  intro X hP hw hK hc i pins s σ H E I hf st hg
  subst hP hw hK
  obtain⟨xs,hq,hx⟩:=hg
  obtain⟨its,rv,p,hz⟩:=I.list hq
  obtain⟨f0,f1,f2,f3,f4,f5⟩:=hf it (by simp)
  have hl:=rv.length
  exact wpAny_pyNext_list_end (I.ok.hd hc) st p.isList (by simp;omega) fun h' eb=> ⟨rfl,I.turned (t':=s.toks) (fun b o hb e=>eb b o hb e) f0 f1 f3 f4 f5⟩
 self:=fun _ _ _ _ _ st h=>wpAny_pyIter_listiter st h
theorem Wm {P:Program}{w:World}{K:PySem.W.Frag}{tg:Expr}(a it:Addr):Turn P w K tg (iJ K a) [it] it (fun i h=>h.IsTupleIter it a i) where
 mem:=by simp
 obj:=fun i h st b hb=>by
  have e:b=it:=by simpa using hb
  subst e
  obtain⟨o,e,c,d⟩:=st
  exact⟨o,e,fun v z=>by rw[d]at z;cases z⟩
 keep:=fun i h h' st k=>st.at fun o e=>k it (by simp) o e
 item:=by
  intro X hP hw hK hc i pins s σ H E I hf st hg
  subst hP hw hK
  obtain⟨xs,x,hq,hx⟩:=hg
  obtain⟨its,rv,p,hz⟩:=I.tuple hq
  obtain⟨u,hu,ru⟩:=rv.get hx
  obtain⟨f0,f1,f2,f3,f4,f5⟩:=hf it (by simp)
  refine wpAny_pyNext_tuple_item st (show s.heap.IsTuple a its.toArray from p) (x:=u) (by simpa using hu) fun h' bP sb=> ?_
  have I1:Inv X pins σ H {s with heap:=h'} :=I.turned (t':=s.toks) (fun b o hb e=> (sb.2 b hb).trans e) f0 f1 f3 f4 f5
  obtain⟨o,e,c,d⟩:=id bP
  exact⟨u,rfl,UK (s:= {s with heap:=h'}) e c d (by decide) ⟨x,H,I1,ru,⟨rfl,fun ys hy=>by rw[I.tP hy hq];exact hx⟩,bP,fun b hb=> (hf b hb).1⟩⟩
 done:=by
  intro X hP hw hK hc i pins s σ H E I hf st hg
  subst hP hw hK
  obtain⟨xs,hq,hx⟩:=hg
  obtain⟨its,rv,p,hz⟩:=I.tuple hq
  obtain⟨f0,f1,f2,f3,f4,f5⟩:=hf it (by simp)
  have hl:=rv.length
  exact wpAny_pyNext_tuple_end (I.ok.hd hc) st (show s.heap.IsTuple a its.toArray from p) (by simp;omega) fun h' eb=> ⟨rfl,I.turned (t':=s.toks) (fun b o hb e=>eb b o hb e) f0 f1 f3 f4 f5⟩
 self:=fun _ _ _ _ _ st h=>wpAny_pyIter_tupleiter st h
theorem Wn {P:Program}{w:World}{K:PySem.W.Frag}{tg:Expr}(it:Addr) (lo:Int) (n:Nat):Turn P w K tg (g7 lo n) [it] it (fun i h=>IsRangeIter h it (lo+(i:Nat)*1) ((n:Int) - (i:Nat)) 1) where
 mem:=by simp
 obj:=fun i h st b hb=>by
  have e:b=it:=by simpa using hb
  subst e
  exact⟨_,st,fun v z=>by
   have z':Data.fields _=Data.cell v:=z
   cases z'⟩
 keep:=fun i h h' st k=>k it (by simp) _ st
 item:=by
  intro X hP hw hK hc i pins s σ H E I hf st hg
  subst hP hw hK
  obtain⟨f0,f1,f2,f3,f4,f5⟩:=hf it (by simp)
  have W:=Walks.range (prog:=X.prog) (w:=X.w) (I.ok.hd hc) it lo 1 n
  refine W.item i s _ _ hg st fun v h' tk hv bP kk=> ?_
  obtain⟨t,rfl⟩:=hv
  have I1:Inv X pins σ H {s with heap:=h',toks:=tk} :=I.turned (fun b o hb e=>kk b o (by simpa using hb) e) f0 f1 f3 f4 f5
  refine⟨_,rfl,UK (s:= {s with heap:=h',toks:=tk}) (n:= "range_iterator") bP rfl rfl (by decide) ⟨.int (lo+i),H,I1,⟨t,?_⟩,⟨rfl,rfl⟩,bP,fun b hb=> (hf b hb).1⟩⟩
  rw[Int.mul_one]
 done:=by
  intro X hP hw hK hc i pins s σ H E I hf st hg
  subst hP hw hK
  obtain⟨f0,f1,f2,f3,f4,f5⟩:=hf it (by simp)
  exact wpAny_pyNext_range_end (I.ok.hd hc) st (by have:n≤i:=hg;omega) fun h' eb=> ⟨rfl,I.turned (t':=s.toks) (fun b o hb e=>eb b o hb e) f0 f1 f3 f4 f5⟩
 self:=fun _ _ _ _ _ st h=>wpAny_pyIter_rangeiter st h
section
variable {X:Cx}{tg:Expr}
def wV (K:PySem.W.Frag) (tl:TE):TI:=fun σ H R=>tl σ H fun x H1=> ∃a,x=.ref a∧(∃xs,ai K H1 a xs)∧R (iK K a) H1
def wR (K:PySem.W.Frag) (tl:TE):TI:=fun σ H R=>tl σ H fun x H1=> ∃a,x=.ref a∧(∃xs,ah K H1 a xs)∧R (iJ K a) H1
theorem Yo {l:Expr}{tl:TE}(hl:PE X l tl):PI X tg l (wV X.K tl):=by
 intro pins s σ H R I h
 refine ak (hl pins s σ H _ I h) fun v s1 ⟨x,H1,I1,r1,q1⟩=> ?_
 obtain⟨a,e,⟨xs,hq⟩,q⟩:=q1
 subst e
 cases r1
 obtain⟨its,rv,p,hz⟩:=I1.list hq
 refine wpAny_pyIter_list p.isList ?_
 refine⟨s1.heap.objs.size,[s1.heap.objs.size],_,_,H1,rfl,I1.kept (t':=s1.toks) fun b o e=>Heap.get?_push_of_some _ e,W1 a _,⟨_,Heap.get?_push_size _ rfl,rfl,rfl⟩,fun b hb=> ?_,q⟩
 have e:b=s1.heap.objs.size:=by simpa using hb
 subst e
 exact I1.lB (Nat.le_refl _) (I1.af.fresh (Nat.le_refl _))
theorem JP {l:Expr}{tl:TE}(hl:PE X l tl):PI X tg l (wR X.K tl):=by
 intro pins s σ H R I h
 refine ak (hl pins s σ H _ I h) fun v s1 ⟨x,H1,I1,r1,q1⟩=> ?_
 obtain⟨a,e,⟨xs,hq⟩,q⟩:=q1
 subst e
 cases r1
 obtain⟨its,rv,p,hz⟩:=I1.tuple hq
 refine wpAny_pyIter_tuple (show s1.heap.IsTuple a its.toArray from p) ?_
 refine⟨s1.heap.objs.size,[s1.heap.objs.size],_,_,H1,rfl,I1.kept (t':=s1.toks) fun b o e=>Heap.get?_push_of_some _ e,Wm a _,⟨_,Heap.get?_push_size _ rfl,rfl,rfl⟩,fun b hb=> ?_,q⟩
 have e:b=s1.heap.objs.size:=by simpa using hb
 subst e
 exact I1.lB (Nat.le_refl _) (I1.af.fresh (Nat.le_refl _))
theorem Um {pins:List (Addr×Obj)}{σ:St}{H:Hp}{s:Shared}{R:It→Hp→Prop}{E:Value→Shared→Prop}{lo hi:Int}{t u v:Tok}{tk:Nat}(I:Inv X pins σ H s) (h1: -(2^62)≤lo) (h2:lo<2^62) (h3: -(2^62)≤hi) (h4:hi<2^62)
  (q:R (g7 lo (hi - lo).toNat) H):wpAny (model X.prog X.w) X.A (pyIter (.ref s.heap.objs.size)) (sT X pins σ tg R) E {s with heap:=s.heap.push {cls:=.type "range",data:=.fields #[.int lo t,.int hi u,.int 1 v]},toks:=tk} :=by
 refine wpAny_pyIter_range (IsRange.new ..) (small_one h1 h2 h3 h4) ?_
 have I1:Inv X pins σ H {s with heap:=s.heap.push {cls:=.type "range",data:=.fields #[.int lo t,.int hi u,.int 1 v]},toks:=tk} :=I.kept fun b o e=>Heap.get?_push_of_some _ e
 refine⟨(s.heap.push {cls:=.type "range",data:=.fields #[.int lo t,.int hi u,.int 1 v]}).objs.size,[(s.heap.push {cls:=.type "range",data:=.fields #[.int lo t,.int hi u,.int 1 v]}).objs.size],_,_,H,rfl,
  I1.kept (t':=tk) fun b o e=>Heap.get?_push_of_some _ e,Wn _ lo (hi - lo).toNat,?_,fun b hb=> ?_,q⟩
 ·have e1:lo+((0:Nat):Int)*1=lo:=by simp
  have e2:(((hi - lo).toNat:Nat):Int) - ((0:Nat):Int)=Builtin.Range.rangeSize lo hi 1:=by rw[rangeSize_one];split<;>omega
  show IsRangeIter _ _ (lo+((0:Nat):Int)*1) ((((hi - lo).toNat:Nat):Int) - ((0:Nat):Int)) 1
  rw[e1,e2]
  exact Heap.get?_push_size _ rfl
 ·have e:b=(s.heap.push {cls:=.type "range",data:=.fields #[.int lo t,.int hi u,.int 1 v]}).objs.size:=by simpa using hb
  subst e
  exact I1.lB (Nat.le_refl _) (I1.af.fresh (Nat.le_refl _))
def wU (ta:TA):TI:=fun σ H R=>ta σ H fun vs H1=> ∃j:Int,vs=[.int j]∧ -(2^62)≤j∧j<2^62∧R (g7 0 j.toNat) H1
theorem Yn {a:Expr}{ta:TA}{p pos:Pos}(hg:Gl X "range") (hm:X.mg "range" =none) (ha:PA X [a] ta) (hs:starEach [a] X.env=[(false,eval a X.env)]:=by rfl):PI X tg (.Call (.Name "range" p) [a] [] pos) (wU ta):=by
 intro pins s σ H R I h
 refine Call_ (JT I hg hm boot_range (PyProof.Rows.callWith_type1 (ak (ha pos pins s σ H _ I h) fun us s1 ⟨vs,H1,I1,r1,q1⟩=> ?_) hs rfl))
 obtain⟨j,e,q1,q2,q⟩:=q1
 subst e
 cases r1 with
 |cons r rr=>
  cases rr
  obtain⟨t,rfl⟩:=r
  exact call_range_1 (Um I1 (by omega) (by omega) q1 q2 (by simpa using q))
def uw (wi:TI) (g:TG) (tb:TS):TS:=fun D σ H=>wi σ H fun J H1=> ∃W:Nat→Nat→St→Hp→Prop,(∃m,W 0 m σ H1)∧∀i m σ H,W i m σ H→
 (J.stop i H∧D.nx σ H)∨(J.go i H∧∃N:St→Hp→Prop,(∀ag H',N ag H'→∃m',m'<m∧W (i+1) m' ag H')∧∀x H',J.g9 i H x H'→g x σ H' fun bo H2=>tb {D with nx:=N,ct:=N,bk:=D.nx} bo H2)
def fj (fp:List Addr) (h:Heap):List (Addr×Obj):=fp.filterMap fun b=> (h.get? b).map fun o=> (b,o)
theorem ZK {fp:List Addr}{h:Heap}{b:Addr}{o:Obj}(hb:b∈fp) (e:h.get? b=some o):(b,o)∈fj fp h:=List.mem_filterMap.mpr ⟨b,hb,by rw[e];rfl⟩
theorem YL {fp:List Addr}{h:Heap}{p:Addr×Obj}(hp:p∈fj fp h):p.1∈fp∧h.get? p.1=some p.2:=by
 obtain⟨b,hb,e⟩:=List.mem_filterMap.mp hp
 cases q:h.get? b with
 |none=>rw[q]at e;cases e
 |some o=>
  rw[q]at e
  have e':(b,o)=p:=Option.some.inj e
  subst e'
  exact⟨hb,q⟩
theorem Inv.pinned {pins:List (Addr×Obj)}{σ:St}{H:Hp}{s:Shared}{fp:List Addr}(I:Inv X pins σ H s) (hf:∀b∈fp,bL X pins H b) (ho:∀b∈fp,∃o,s.heap.get? b=some o∧∀v,o.data≠.cell v):Inv X (pins++fj fp s.heap) σ H s:=
 I.qy fun p hp=> (List.mem_append.mp hp).elim (fun z=>I.pin p (List.mem_append_right _ z)) fun z=>by
  obtain⟨hb,e⟩:=YL z
  obtain⟨f0,f1,f2,_⟩:=hf p.1 hb
  obtain⟨o,e',d⟩:=ho p.1 hb
  rw[e]at e';cases e'
  exact⟨e,f0,f1,f2,d⟩
theorem Inv.fh {pins pl:List (Addr×Obj)}{σ:St}{H:Hp}{s:Shared}(I:Inv X (pins++pl) σ H s):Inv X pins σ H s:=I.qy fun p hp=>I.pin p (List.mem_append_right _ (List.mem_append_left _ hp))
theorem Yt {iter:Expr}{body:List Stmt}{wi:TI}{g:TG}{tb:TS}{pos:Pos}(hp:PassesOwn (model X.prog X.w) X.A X.env X.xe) (hc:X.calm=true) (hi:PI X tg iter wi) (hg:PG X tg g) (hb:cH X body tb)
  (hs:∀x,foldedSetIterable iter X.env x=pure x:=by intro _;rfl):PS X (.For tg iter body [] pos) (uw wi g tb):=by
 intro pins s σ H D I h
 refine wpAny_For (ak (hi pins s σ H _ I h) fun v s1 h1=>ak h1 fun iu s2 h2=> ?_) hs
 obtain⟨it,fp,tn,J,H2,e,I2,T,cD,f2,W,⟨m0,w0⟩,turn⟩:=h2
 subst e
 have stat:∀{H':Hp},(∀b∈fp,H' b=none)→∀b∈fp,bL X pins H' b:=fun hn b hb=> ⟨hn b hb,(f2 b hb).2⟩
 refine codeAny_forLoop_any (fun n s'=> ∃i ag H',Inv X pins ag H' s'∧tn i s'.heap∧(∀b∈fp,H' b=none)∧W i n ag H') ?_ m0 ⟨0,σ,H2,I2,cD,fun b hb=> (f2 b hb).1,w0⟩
 rintro n s3 ⟨i,dN,H3,I3,cI,lA,w3⟩
 rcases turn i n dN H3 w3 with ⟨stop,qn⟩ |⟨go,N,hN,step⟩
 ·refine wpAny_passesOwn hp (ak (T.done X rfl rfl rfl hc i pins s3 dN H3 X.xe I3 (stat lA) cI stop) fun r s4 ⟨hr,I4⟩=> ?_)
  subst hr
  exact wpAny_execs_nil ⟨dN,H3,I4,qn⟩
 ·refine wpAny_passesOwn hp (ak (T.item X rfl rfl rfl hc i pins s3 dN H3 X.xe I3 (stat lA) cI go) fun r s4 ⟨u,hr,h4⟩=> ?_)
  subst hr
  refine wpAny_passesOwn hp (ak h4 fun _ s5 ⟨x,H5,I5,r5,y5,dk,oK⟩=> ?_)
  have pq:=I5.pinned (stat oK) (T.obj _ _ dk)
  refine wpAny_passesOwn hp (ak (hg _ s5 dN H5 x u _ pq r5 (step x H5 y5)) fun _ s6 ⟨iN,H6,I6,q6⟩=> ?_)
  refine wpAny_passesOwn hp (ak (hb _ s6 iN H6 _ I6 q6) fun f s7 q7=> ?_)
  have again:∀{ck:St}{H7:Hp},Inv X (pins++fj fp s5.heap) ck H7 s7→N ck H7→∃m,m<n∧∃i ag H',Inv X pins ag H' s7∧tn i s7.heap∧(∀b∈fp,H' b=none)∧W i m ag H':=fun {ck H7} I7 n7=>by
   obtain⟨m',hm,w7⟩:=hN ck H7 n7
   refine⟨m',hm,i+1,ck,H7,I7.fh,T.keep _ _ _ dk fun b hb o e=> (I7.pin (b,o) (List.mem_append_right _ (List.mem_append_right _ (ZK hb e)))).1,fun b hb=> ?_,w7⟩
   obtain⟨o,e,d⟩:=T.obj _ _ dk b hb
   exact(I7.pin (b,o) (List.mem_append_right _ (List.mem_append_right _ (ZK hb e)))).2.1
  cases f with
  |next=>obtain⟨ck,H7,I7,n7⟩:=q7;exact again I7 n7
  |cont=>obtain⟨ck,H7,I7,n7⟩:=q7;exact again I7 n7
  |brk=>obtain⟨ck,H7,I7,q7⟩:=q7;exact⟨ck,H7,I7.fh,q7⟩
  |ret v=>obtain⟨x7,ck,H7,I7,r7,q7⟩:=q7;exact⟨x7,ck,H7,I7.fh,r7,q7⟩
end
theorem YF {K:PySem.W.Frag}{a:Addr}{xs:List V}{g:TG}{tb:TS}{D:Ends}{σ:St}{H:Hp}(Pv:Nat→St→Hp→Prop) (h0:Pv 0 σ H) (hl:∀i σ H,i≤xs.length→Pv i σ H→ai K H a xs)
  (hs:∀i x σ H,xs[i]? =some x→Pv i σ H→g x σ H fun bo H2=>tb {D with nx:=Pv (i+1),ct:=Pv (i+1),bk:=D.nx} bo H2) (hd:∀σ H,Pv xs.length σ H→D.nx σ H):
  ∃W:Nat→Nat→St→Hp→Prop,(∃m,W 0 m σ H)∧∀i m σ H,W i m σ H→
   ((iK K a).stop i H∧D.nx σ H)∨((iK K a).go i H∧∃N:St→Hp→Prop,(∀ag H',N ag H'→∃m',m'<m∧W (i+1) m' ag H')∧∀x H',(iK K a).g9 i H x H'→g x σ H' fun bo H2=>tb {D with nx:=N,ct:=N,bk:=D.nx} bo H2):=by
 refine⟨fun i m σ H=>m=xs.length - i∧i≤xs.length∧Pv i σ H,⟨xs.length,by simp,Nat.zero_le _,h0⟩,?_⟩
 rintro i m σ H ⟨rfl,hi,p⟩
 have q:=hl i σ H hi p
 by_cases aw:i<xs.length
 ·refine .inr ⟨⟨xs,xs[i],q,by simp[aw]⟩,Pv (i+1),fun ag H' p'=> ⟨xs.length - (i+1),by omega,rfl,aw,p'⟩,fun x H' y=> ?_⟩
  obtain⟨e,y⟩:=y
  subst e
  exact hs i x σ _ (y xs q) p
 ·have e:i=xs.length:=by omega
  subst e
  exact .inl ⟨⟨xs,q,Nat.le_refl _⟩,hd σ H p⟩
theorem AR {K:PySem.W.Frag}{a:Addr}{xs:List V}{g:TG}{tb:TS}{D:Ends}{σ:St}{H:Hp}(Pv:Nat→St→Hp→Prop) (h0:Pv 0 σ H) (hl:∀i σ H,i≤xs.length→Pv i σ H→ah K H a xs)
  (hs:∀i x σ H,xs[i]? =some x→Pv i σ H→g x σ H fun bo H2=>tb {D with nx:=Pv (i+1),ct:=Pv (i+1),bk:=D.nx} bo H2) (hd:∀σ H,Pv xs.length σ H→D.nx σ H):
  ∃W:Nat→Nat→St→Hp→Prop,(∃m,W 0 m σ H)∧∀i m σ H,W i m σ H→
   ((iJ K a).stop i H∧D.nx σ H)∨((iJ K a).go i H∧∃N:St→Hp→Prop,(∀ag H',N ag H'→∃m',m'<m∧W (i+1) m' ag H')∧∀x H',(iJ K a).g9 i H x H'→g x σ H' fun bo H2=>tb {D with nx:=N,ct:=N,bk:=D.nx} bo H2):=by
 refine⟨fun i m σ H=>m=xs.length - i∧i≤xs.length∧Pv i σ H,⟨xs.length,by simp,Nat.zero_le _,h0⟩,?_⟩
 rintro i m σ H ⟨rfl,hi,p⟩
 have q:=hl i σ H hi p
 by_cases aw:i<xs.length
 ·refine .inr ⟨⟨xs,xs[i],q,by simp[aw]⟩,Pv (i+1),fun ag H' p'=> ⟨xs.length - (i+1),by omega,rfl,aw,p'⟩,fun x H' y=> ?_⟩
  obtain⟨e,y⟩:=y
  subst e
  exact hs i x σ _ (y xs q) p
 ·have e:i=xs.length:=by omega
  subst e
  exact .inl ⟨⟨xs,q,Nat.le_refl _⟩,hd σ H p⟩
theorem Jz {lo:Int}{n:Nat}{g:TG}{tb:TS}{D:Ends}{σ:St}{H:Hp}(Pv:Nat→St→Hp→Prop) (h0:Pv 0 σ H)
  (hs:∀i σ H,i<n→Pv i σ H→g (.int (lo+i)) σ H fun bo H2=>tb {D with nx:=Pv (i+1),ct:=Pv (i+1),bk:=D.nx} bo H2) (hd:∀σ H,Pv n σ H→D.nx σ H):
  ∃W:Nat→Nat→St→Hp→Prop,(∃m,W 0 m σ H)∧∀i m σ H,W i m σ H→
   ((g7 lo n).stop i H∧D.nx σ H)∨((g7 lo n).go i H∧∃N:St→Hp→Prop,(∀ag H',N ag H'→∃m',m'<m∧W (i+1) m' ag H')∧∀x H',(g7 lo n).g9 i H x H'→g x σ H' fun bo H2=>tb {D with nx:=N,ct:=N,bk:=D.nx} bo H2):=by
 refine⟨fun i m σ H=>m=n - i∧i≤n∧Pv i σ H,⟨n,by simp,Nat.zero_le _,h0⟩,?_⟩
 rintro i m σ H ⟨rfl,hi,p⟩
 by_cases aw:i<n
 ·refine .inr ⟨aw,Pv (i+1),fun ag H' p'=> ⟨n - (i+1),by omega,rfl,aw,p'⟩,fun x H' y=> ?_⟩
  obtain⟨e,y⟩:=y
  subst e y
  exact hs i σ _ aw p
 ·have e:i=n:=by omega
  subst e
  exact .inl ⟨Nat.le_refl _,hd σ H p⟩
abbrev R2:=V→V→Hp→VK→Prop
def aW (X:Cx) (f:Value→Value→Sem Value) (r:R2):Prop:=
 ∀(pins:List (Addr×Obj)) (s:Shared) (σ:St) (H:Hp) (x y:V) (v u:Value) (Q:VK),Inv X pins σ H s→RelV x v→RelV y u→r x y H Q→
  wpAny (model X.prog X.w) X.A (f v u) (EP X pins σ Q) X.xe s
def o8 (X:Cx) (f:Value→Sem Value) (r:V→Hp→VK→Prop):Prop:=
 ∀(pins:List (Addr×Obj)) (s:Shared) (σ:St) (H:Hp) (x:V) (v:Value) (Q:VK),Inv X pins σ H s→RelV x v→r x H Q→
  wpAny (model X.prog X.w) X.A (f v) (EP X pins σ Q) X.xe s
def cj (X:Cx) (f:Value) (r:List V→Hp→VK→Prop):Prop:=
 ∀(pins:List (Addr×Obj)) (s:Shared) (σ:St) (H:Hp) (xs:List V) (us:List Value) (Q:VK),Inv X pins σ H s→Vals xs us→r xs H Q→
  wpAny (model X.prog X.w) X.A (call f us) (EP X pins σ Q) X.xe s
def hG (r:R2) (ta tb:TE):TE:=fun σ H Q=>ta σ H fun x H1=>tb σ H1 fun y H2=>r x y H2 Q
def t5 (r:V→Hp→VK→Prop) (ta:TE):TE:=fun σ H Q=>ta σ H fun x H1=>r x H1 Q
def rI (C:Int→Int→Prop) (g:Int→Int→V):R2:=fun x y H Q=> ∃i j,x=.int i∧y=.int j∧C i j∧Q (g i j) H
def fP (g:Int→Int→V):R2:=fun x y H Q=> ∃i j,x=.int i∧y=.int j∧Q (g i j) H
def rU (g:Int→V):V→Hp→VK→Prop:=fun x H Q=> ∃i,x=.int i∧Q (g i) H
section
variable {X:Cx}{a b c:Expr}{ta tb tc:TE}{pos:Pos}
theorem oY (ha:PE X a ta) (hb:PE X b tb) {pins:List (Addr×Obj)}{s:Shared}{σ:St}{H:Hp}{R:V→V→Hp→Prop}(I:Inv X pins σ H s)
  (h:ta σ H fun x H1=>tb σ H1 fun y H2=>R x y H2) {Q:Value→Shared→Prop}{f:Value→Value→Sem Value}
  (hf:∀v u s2 x y H2,Inv X pins σ H2 s2→RelV x v→RelV y u→R x y H2→wpAny (model X.prog X.w) X.A (f v u) Q X.xe s2):
  wpAny (model X.prog X.w) X.A (eval a X.env) (fun v au=>wpAny (model X.prog X.w) X.A (eval b X.env) (fun u lX=>wpAny (model X.prog X.w) X.A (f v u) Q X.xe lX) X.xe au) X.xe s:=by
 refine ak (ha pins s σ H _ I h) fun v s1 ⟨x,H1,I1,r1,q1⟩=> ?_
 refine ak (hb pins s1 σ H1 _ I1 q1) fun u s2 ⟨y,H2,I2,r2,q2⟩=> ?_
 exact hf v u s2 x y H2 I2 r1 r2 q2
theorem Zn {op:Operator}{r:R2}(ho:aW X (binaryOp op) r) (ha:PE X a ta) (hb:PE X b tb):PE X (.BinOp a op b pos) (hG r ta tb):=by
 intro pins s σ H Q I h
 exact wpAny_BinOp (oY ha hb I h fun v u s2 x y H2 I2 rx ry q=>ho pins s2 σ H2 x y v u Q I2 rx ry q)
theorem sO {op:UnaryOp}{r:V→Hp→VK→Prop}(ho:o8 X (unaryOp op) r) (ha:PE X a ta):PE X (.UnaryOp op a pos) (t5 r ta):=by
 intro pins s σ H Q I h
 exact UnaryOp_ (ak (ha pins s σ H _ I h) fun v s1 ⟨x,H1,I1,r1,q1⟩=>ho pins s1 σ H1 x v Q I1 r1 q1)
theorem kD {f:Value→Value→Sem Value}{C:Int→Int→Prop}{g:Int→Int→Int}
  (rule:∀(i j:Int) (t u:Tok) (s:Shared) (Q:Value→Shared→Prop) (E:Value→Shared→Prop),C i j→Q (.int (g i j) s.toks) {s with toks:=s.toks+1}→wpAny (model X.prog X.w) X.A (f (.int i t) (.int j u)) Q E s):
  aW X f (rI C fun i j=> .int (g i j)):=by
 intro pins s σ H x y v u Q I rx ry h
 obtain⟨i,j,rfl,rfl,hc,q⟩:=h
 obtain⟨t,rfl⟩:=rx
 obtain⟨t',rfl⟩:=ry
 exact rule i j t t' s _ _ hc ⟨.int (g i j),H,I.tok _,⟨_,rfl⟩,q⟩
theorem qD {f:Value→Value→Sem Value}{g:Int→Int→Int}
  (rule:∀(i j:Int) (t u:Tok) (s:Shared) (Q:Value→Shared→Prop) (E:Value→Shared→Prop),Q (.int (g i j) s.toks) {s with toks:=s.toks+1}→wpAny (model X.prog X.w) X.A (f (.int i t) (.int j u)) Q E s):
  aW X f (fP fun i j=> .int (g i j)):=by
 intro pins s σ H x y v u Q I rx ry h
 obtain⟨i,j,rfl,rfl,q⟩:=h
 obtain⟨t,rfl⟩:=rx
 obtain⟨t',rfl⟩:=ry
 exact rule i j t t' s _ _ ⟨.int (g i j),H,I.tok _,⟨_,rfl⟩,q⟩
theorem kE {f:Value→Value→Sem Value}{g:Int→Int→Bool}
  (rule:∀(i j:Int) (t u:Tok) (s:Shared) (Q:Value→Shared→Prop) (E:Value→Shared→Prop),Q (.bool (g i j)) s→wpAny (model X.prog X.w) X.A (f (.int i t) (.int j u)) Q E s):
  aW X f (fP fun i j=> .bl (g i j)):=by
 intro pins s σ H x y v u Q I rx ry h
 obtain⟨i,j,rfl,rfl,q⟩:=h
 obtain⟨t,rfl⟩:=rx
 obtain⟨t',rfl⟩:=ry
 exact rule i j t t' s _ _ ⟨.bl (g i j),H,I,rfl,q⟩
def B5 (i j:Int):Prop:=0<j∧j<1073741824
def B4 (i j:Int):Prop:=0≤j∧j≤1000000∧i.natAbs<2^64
def pF (i j:Int):Prop:=(-(2^64)<i∧i<2^64)∨(-(2^64)<j∧j<2^64)
theorem pF.ok {i j:Int}(h:pF i j):IntMulOk i j:=by
 rcases h with ⟨h1,h2⟩ |⟨h1,h2⟩
 ·exact .of_left (intBits_le_64 h1 h2)
 ·exact .of_right (intBits_le_64 h1 h2)
theorem Yc:aW X (binaryOp .Add) (fP fun i j=> .int (i+j)):=qD fun _ _ _ _ _ _ _ q=>add_int q
theorem JR:aW X (binaryOp .Sub) (fP fun i j=> .int (i - j)):=qD fun _ _ _ _ _ _ _ q=>sub_int q
theorem Y6:aW X (binaryOp .Mult) (rI pF fun i j=> .int (i*j)):=kD fun _ _ _ _ _ _ _ hc q=>mul_int q hc.ok
theorem WP:aW X (binaryOp .FloorDiv) (rI B5 fun i j=> .int (i/j)):=kD fun i j _ _ _ _ _ hc q=>by
 have h1:(0:Int)<j:=hc.1
 have h2:j<1073741824:=hc.2
 exact floordiv_int (by omega) (by rw[Int.fdiv_eq_ediv_of_nonneg i (by omega)];exact q) (.inl (PyProof.noPylong_small (by omega)))
theorem Ya:aW X (binaryOp .Mod) (rI (fun _ j=>0<j) fun i j=> .int (i%j)):=kD fun i j _ _ _ _ _ hc q=>by
 have h1:(0:Int)<j:=hc
 exact mod_int' (by omega) (by rw[Int.fmod_eq_emod_of_nonneg i (by omega)];exact q)
theorem Ux:aW X (binaryOp .Pow) (rI B4 fun i j=> .int (i^j.toNat)):=kD fun _ _ _ _ _ _ _ hc q=>pow_int_small hc.1 hc.2.1 hc.2.2 q
theorem tM {f:Value→Sem Value}{g:Int→Int}
  (rule:∀(i:Int) (t:Tok) (s:Shared) (Q:Value→Shared→Prop) (E:Value→Shared→Prop),Q (.int (g i) s.toks) {s with toks:=s.toks+1}→wpAny (model X.prog X.w) X.A (f (.int i t)) Q E s):
  o8 X f (rU fun i=> .int (g i)):=by
 intro pins s σ H x v Q I rx h
 obtain⟨i,rfl,q⟩:=h
 obtain⟨t,rfl⟩:=rx
 exact rule i t s _ _ ⟨.int (g i),H,I.tok _,⟨_,rfl⟩,q⟩
theorem Uh:o8 X (unaryOp .USub) (rU fun i=> .int (-i)):=tM fun _ _ _ _ _ q=>neg_int q
end
def fJ:V→V→Bool
 | .aa,.aa=>true | .aa,.int _=>true | .int _,.aa=>true | .aa,.bl _=>true | .bl _,.aa=>true | .aa,.str _=>true | .str _,.aa=>true
 | .int _,.int _=>true | .bl _,.bl _=>true | .str _,.str _=>true | .dM _,.dM _=>true
 | .int _,.str _=>true | .str _,.int _=>true | .bl _,.str _=>true | .str _,.bl _=>true
 |_,_=>false
def vB:R2:=fun x y H Q=>fJ x y=true∧Q (.bl (decide (x=y))) H
def vz:R2:=fun x y H Q=>fJ x y=true∧Q (.bl (!decide (x=y))) H
theorem WX {i j:Int} :decide (V.int i=V.int j)=(i==j):=by
 rw[Bool.eq_iff_iff]
 simp
theorem UT {i j:Bool} :decide (V.bl i=V.bl j)=(i==j):=by
 rw[Bool.eq_iff_iff]
 simp
theorem WW {i j:Str} :decide (V.str i=V.str j)=(i==j):=by
 rw[Bool.eq_iff_iff]
 simp
theorem WY {i j:Array UInt8} :decide (V.dM i=V.dM j)=(i.toList==j.toList):=by
 rw[Bool.eq_iff_iff]
 cases i
 cases j
 simp
section
variable {X:Cx}{a b c:Expr}{ta tb tc:TE}{pos:Pos}
theorem Zp {pins:List (Addr×Obj)}{σ:St}{H:Hp}{s:Shared}{Q:VK}{k k':Bool}(I:Inv X pins σ H s) (q:Q (.bl k) H) (e:k=k'):EP X pins σ Q (.bool k') s:=by
 subst e
 exact⟨.bl k,H,I,rfl,q⟩
theorem YU:aW X (compareOp .Eq) vB:=by
 intro pins s σ H x y v u Q I rx ry h
 obtain⟨hs,q⟩:=h
 cases x with
 |aa=>
  cases rx
  cases y with
  |aa=>cases ry;exact PySem.EqNone.eq_none_none (Zp I q (by simp))
  |bl j=>cases ry;exact PySem.EqNone.eq_none_bool (Zp I q (by simp))
  |int j=>obtain⟨t',rfl⟩:=ry;exact PySem.EqNone.eq_none_int (Zp I q (by simp))
  |str j=>obtain⟨t',rfl⟩:=ry;exact PySem.EqNone.eq_none_str (Zp I q (by simp))
  |_=>exact absurd (show false=true from hs) Bool.false_ne_true
 |bl i=>
  cases rx
  cases y with
  |aa=>cases ry;exact PySem.EqNone.eq_bool_none (Zp I q (by simp))
  |bl j=>cases ry;exact eq_bool (Zp I q UT)
  |str j=>obtain⟨t',rfl⟩:=ry;exact PySem.EqMixed.eq_bool_str (Zp I q (by simp))
  |_=>exact absurd (show false=true from hs) Bool.false_ne_true
 |int i=>
  obtain⟨t,rfl⟩:=rx
  cases y with
  |aa=>cases ry;exact PySem.EqNone.eq_int_none (Zp I q (by simp))
  |int j=>obtain⟨t',rfl⟩:=ry;exact eq_int (Zp I q WX)
  |str j=>obtain⟨t',rfl⟩:=ry;exact PySem.EqMixed.eq_int_str (Zp I q (by simp))
  |_=>exact absurd (show false=true from hs) Bool.false_ne_true
 |str i=>
  obtain⟨t,rfl⟩:=rx
  cases y with
  |aa=>cases ry;exact PySem.EqNone.eq_str_none (Zp I q (by simp))
  |bl j=>cases ry;exact PySem.EqMixed.eq_str_bool (Zp I q (by simp))
  |int j=>obtain⟨t',rfl⟩:=ry;exact PySem.EqMixed.eq_str_int (Zp I q (by simp))
  |str j=>obtain⟨t',rfl⟩:=ry;exact eq_str (Zp I q WW)
  |_=>exact absurd (show false=true from hs) Bool.false_ne_true
 |dM i=>
  obtain⟨t,rfl⟩:=rx
  cases y with
  |dM j=>obtain⟨t',rfl⟩:=ry;exact PySem.W.eq_bytes (Zp I q WY)
  |_=>exact absurd (show false=true from hs) Bool.false_ne_true
 |_=>cases y<;>exact absurd (show false=true from hs) Bool.false_ne_true
theorem Uy:aW X (compareOp .NotEq) vz:=by
 intro pins s σ H x y v u Q I rx ry h
 obtain⟨hs,q⟩:=h
 cases x with
 |aa=>
  cases rx
  cases y with
  |aa=>cases ry;exact PySem.EqNone.ne_none_none (Zp I q (by simp))
  |bl j=>cases ry;exact PySem.EqNone.ne_none_bool (Zp I q (by simp))
  |int j=>obtain⟨t',rfl⟩:=ry;exact PySem.EqNone.ne_none_int (Zp I q (by simp))
  |str j=>obtain⟨t',rfl⟩:=ry;exact PySem.EqNone.ne_none_str (Zp I q (by simp))
  |_=>exact absurd (show false=true from hs) Bool.false_ne_true
 |bl i=>
  cases rx
  cases y with
  |aa=>cases ry;exact PySem.EqNone.ne_bool_none (Zp I q (by simp))
  |bl j=>cases ry;exact ne_bool (Zp I q (congrArg not UT))
  |str j=>obtain⟨t',rfl⟩:=ry;exact PySem.EqMixed.ne_bool_str (Zp I q (by simp))
  |_=>exact absurd (show false=true from hs) Bool.false_ne_true
 |int i=>
  obtain⟨t,rfl⟩:=rx
  cases y with
  |aa=>cases ry;exact PySem.EqNone.ne_int_none (Zp I q (by simp))
  |int j=>obtain⟨t',rfl⟩:=ry;exact ne_int (Zp I q (congrArg not WX))
  |str j=>obtain⟨t',rfl⟩:=ry;exact PySem.EqMixed.ne_int_str (Zp I q (by simp))
  |_=>exact absurd (show false=true from hs) Bool.false_ne_true
 |str i=>
  obtain⟨t,rfl⟩:=rx
  cases y with
  |aa=>cases ry;exact PySem.EqNone.ne_str_none (Zp I q (by simp))
  |bl j=>cases ry;exact PySem.EqMixed.ne_str_bool (Zp I q (by simp))
  |int j=>obtain⟨t',rfl⟩:=ry;exact PySem.EqMixed.ne_str_int (Zp I q (by simp))
  |str j=>obtain⟨t',rfl⟩:=ry;exact ne_str (Zp I q (congrArg not WW))
  |_=>exact absurd (show false=true from hs) Bool.false_ne_true
 |dM i=>
  obtain⟨t,rfl⟩:=rx
  cases y with
  |dM j=>obtain⟨t',rfl⟩:=ry;exact PySem.W.ne_bytes (Zp I q (congrArg not WY))
  |_=>exact absurd (show false=true from hs) Bool.false_ne_true
 |_=>cases y<;>exact absurd (show false=true from hs) Bool.false_ne_true
theorem Bd:aW X (compareOp .Lt) (fP fun i j=> .bl (decide (i<j))):=kE fun _ _ _ _ _ _ _ q=>lt_int q
theorem WO:aW X (compareOp .LtE) (fP fun i j=> .bl (decide (i≤j))):=kE fun _ _ _ _ _ _ _ q=>le_int q
theorem sM:aW X (compareOp .Gt) (fP fun i j=> .bl (decide (j<i))):=kE fun _ _ _ _ _ _ _ q=>gt_int q
theorem Bc:aW X (compareOp .GtE) (fP fun i j=> .bl (decide (j≤i))):=kE fun _ _ _ _ _ _ _ q=>ge_int q
theorem aW.or {f:Value→Value→Sem Value}{r r':R2}(h:aW X f r) (h':aW X f r'):aW X f (fun x y H Q=>r x y H Q∨r' x y H Q):=by
 intro pins s σ H x y v u Q I rx ry q
 rcases q with q |q
 ·exact h pins s σ H x y v u Q I rx ry q
 ·exact h' pins s σ H x y v u Q I rx ry q
theorem bQ (b:Expr) {op:CmpOp}(h:op≠.In:=by decide) (h2:op≠.NotIn:=by decide):behindInMarks op b=false:=by
 have e1:(op==CmpOp.In)=false:=by cases op<;>first |rfl |exact absurd rfl h
 have e2:(op==CmpOp.NotIn)=false:=by cases op<;>first |rfl |exact absurd rfl h2
 cases b<;>simp[behindInMarks,e1,e2]
theorem ZO {op:CmpOp}{r:R2}(ho:aW X (compareOp op) r) (ha:PE X a ta) (hb:PE X b tb) (hm:behindInMarks op b=false):PE X (.Compare a [op] [b] pos) (hG r ta tb):=by
 intro pins s σ H Q I h
 exact wpAny_Compare1 (oY ha hb I h fun v u s2 x y H2 I2 rx ry q=>ho pins s2 σ H2 x y v u Q I2 rx ry q) hm
def ua (t:TE):TT:=fun σ H Q=>t σ H fun x H'=> ∃k,x=.bl k∧Q k H'
theorem ZM {op:CmpOp}{r:R2}(ho:aW X (compareOp op) r) (ha:PE X a ta) (hb:PE X b tb) (hm:behindInMarks op b=false):PT X (.Compare a [op] [b] pos) (ua (hG r ta tb)):=by
 intro pins s σ H Q I h
 refine wpAny_isTrue_Compare1 (ak (ha pins s σ H _ I h) fun v s1 ⟨x,H1,I1,r1,q1⟩=>ak (hb pins s1 σ H1 _ I1 q1) fun u s2 ⟨y,H2,I2,r2,q2⟩=>
  ak (ho pins s2 σ H2 x y v u _ I2 r1 r2 q2) fun c s3 ⟨z,H3,I3,r3,k,e,q3⟩=> ?_) hm
 subst e
 cases r3
 exact wpAny_truthy_bool ⟨H3,I3,q3⟩
def uC (r r':R2) (ta tb tc:TE):TE:=fun σ H Q=>ta σ H fun x H1=>tb σ H1 fun y H2=>r x y H2 fun z H3=> ∃k,z=.bl k∧
 (if k=true then tc σ H3 fun w' H4=>r' y w' H4 Q else Q (.bl false) H3)
theorem J3 {op nz:CmpOp}{r r':R2}(ho:aW X (compareOp op) r) (bS:aW X (compareOp nz) r') (ha:PE X a ta) (hb:PE X b tb) (hc:PE X c tc)
  (hm:lastMarks [op,nz] [b,c]=false:=by with_unfolding_all rfl):PE X (.Compare a [op,nz] [b,c] pos) (uC r r' ta tb tc):=by
 intro pins s σ H Q I h
 refine Compare_chain (ak (ha pins s σ H _ I h) fun v s1 ⟨x,H1,I1,r1,q1⟩=>chain_link (ak (hb pins s1 σ H1 _ I1 q1) fun u s2 ⟨y,H2,I2,r2,q2⟩=>
  ak (ho pins s2 σ H2 x y v u _ I2 r1 r2 q2) fun d s3 ⟨z,H3,I3,r3,k,e,q3⟩=> ?_)) hm
 subst e
 cases r3
 refine wpAny_truthy_bool ?_
 cases k with
 |false=>exact ite_ff ⟨.bl false,H3,I3,rfl,q3⟩
 |true=>exact ite_tt (chain_last (ak (hc pins s3 σ H3 _ I3 q3) fun w' s4 ⟨z',H4,I4,r4,q4⟩=>bS pins s4 σ H4 y z' u w' Q I4 r2 r4 q4))
theorem kK:(sizeLine:Nat)<2^63:=by rw[sizeLine_eq];decide
theorem vals1 {x:V}{us:List Value}(r:Vals [x] us):∃u,us=[u]∧RelV x u:=by
 cases r with
 |cons r1 r2=>cases r2;exact⟨_,rfl,r1⟩
theorem vals2 {x y:V}{us:List Value}(r:Vals [x,y] us):∃u w',us=[u,w']∧RelV x u∧RelV y w':=by
 cases r with
 |cons r1 r2=>
  cases r2 with
  |cons r3 r4=>cases r4;exact⟨_,_,rfl,r1,r3⟩
theorem JB (hc:X.calm=true):cj X (.builtin "max") (fun xs H Q=> ∃i j,xs=[.int i,.int j]∧Q (.int (if j>i then j else i)) H):=by
 intro pins s σ H xs us Q I r h
 obtain⟨i,j,rfl,q⟩:=h
 obtain⟨u,w',rfl,⟨t,rfl⟩,⟨t',rfl⟩⟩:=vals2 r
 refine max_two_ints (I.ok.hd hc) fun h' tk k=> ⟨_,H,I.kept k,?_,q⟩
 by_cases hj:j>i
 ·rw[if_pos hj,if_pos hj];exact⟨_,rfl⟩
 ·rw[if_neg hj,if_neg hj];exact⟨_,rfl⟩
theorem Ug (hc:X.calm=true):cj X (.builtin "min") (fun xs H Q=> ∃i j,xs=[.int i,.int j]∧Q (.int (if j<i then j else i)) H):=by
 intro pins s σ H xs us Q I r h
 obtain⟨i,j,rfl,q⟩:=h
 obtain⟨u,w',rfl,⟨t,rfl⟩,⟨t',rfl⟩⟩:=vals2 r
 refine min_two_ints (I.ok.hd hc) fun h' tk k=> ⟨_,H,I.kept k,?_,q⟩
 by_cases hj:j<i
 ·rw[if_pos hj,if_pos hj];exact⟨_,rfl⟩
 ·rw[if_neg hj,if_neg hj];exact⟨_,rfl⟩
end
structure pf (h:Heap) (x dx C:Addr) (mA:Str→Option Value):Prop where
 obj:h.get? x=some (PySem.W.instObj C dx)
 ns:h.Ns1 dx mA
 ne:dx≠x
theorem Ub {h:Heap}{dx:Addr}{mA:Str→Option Value}(n:h.Ns1 dx mA):∃od,h.get? dx=some od∧∀name,PySem.W.lookIn name od=some (mA name):=by
 obtain⟨o,es,ep,ho,hd,hk,_,hm⟩:=n
 refine⟨o,ho,fun name=> ?_⟩
 have e:=hm name
 unfold nsFind findBy at e
 rw[←Array.find?_toList]at e
 unfold PySem.W.lookIn
 rw[hd]
 dsimp only
 split
 ·rename_i y q
  rw[q]at e
  exact congrArg some e
 ·rename_i q
  rw[q]at e
  have a:es.toList.any (·.refKey)=false:=by
   rw[List.any_eq_false]
   intro y hy
   obtain⟨z,t,yk⟩:=hk y (Array.mem_toList_iff.mp hy)
   simp[DictEntry.refKey,yk]
  have a':¬es.toList.any (·.refKey)=true:=by rw[a];exact Bool.false_ne_true
  rw[if_neg a']
  exact congrArg some e
theorem pf.look {h:Heap}{x dx C:Addr}{mA:Str→Option Value}(I:pf h x dx C mA):∃od,PySem.W.InstAt h x (PySem.W.instObj C dx) C (some od)∧∀name,PySem.W.lookIn name od=some (mA name):=
 let ⟨od,ho,hl⟩:=Ub I.ns
 ⟨od,⟨I.obj,rfl,rfl,ho⟩,hl⟩
section
variable {P:Program}{w:World}{H H':Hp}{h h':Heap}{a C dx:Addr}{fs zH:List (Str×V)}
theorem AS (af:aZ P w H h) (e:H a=some (.ins C dx fs)):∃mA,pf h a dx C mA∧(∀f,pd (fs.lookup f) (mA f))∧PySem.Within mA (fs.map (·.1))∧fs.length≤1000∧H dx=some (.own a):=by
 obtain⟨d,z,ne,ob,mA,n,r,q⟩:=(show aX P w H h a (.ins C dx fs) from af a _ e)
 exact⟨mA,⟨ob,n,ne⟩,r,q,z,d⟩
end
structure pE (K:PySem.W.Frag) (C:Addr):Prop where
 pg:PySem.W.plainGet K C Str.empty=true
 hd:PySem.W.hasDictIn K C=true
 po:PySem.W.plainOver K C=true
 sa:PySem.W.findIn K (.ref C) "__setattr__" =some (some (.builtin "object.__setattr__"))
theorem pE.get {K:PySem.W.Frag}{C:Addr}(c:pE K C) (f:Str):PySem.W.plainGet K C f=true:=c.pg
structure C8 (K:PySem.W.Frag) (C:Addr) (f:Str) (v:V) (u:Value):Prop where
 at_:PySem.W.findIn K (.ref C) f=some (some u)
 rel:RelV v u
 get:PySem.W.specialIn K u "__get__" =some none
 cp:PySem.W.copiedNames.contains f=false
structure Meth (K:PySem.W.Frag) (C:Addr) (m:Str) (f:Addr):Prop where
 at_:PySem.W.findIn K (.ref C) m=some (some (.ref f))
 fn:PySem.W.isFn K (.ref f)=true
 kp:PySem.W.keepIn K (.ref f)=true
section
variable {X:Cx}{pins:List (Addr×Obj)}{σ:St}{H:Hp}{s:Shared}{A:Around}{E:Value→Shared→Prop}{Q:Value→Shared→Prop}{c:Value}{b:Bool}
inductive cA (K:PySem.W.Frag) (H:Hp):V→Value→Prop where
 |aa:cA K H .aa (.type "NoneType")
 |bl (x:Bool):cA K H (.bl x) (.type "bool")
 |int (i:Int):cA K H (.int i) (.type "int")
 |str (x:Str):cA K H (.str x) (.type "str")
 |dY (x:UInt64):cA K H (.dY x) (.type "float")
 |lst {a:Addr}{xs:List V} (e:H a=some (.lst xs)):cA K H (.ref a) (.type "list")
 |bw {a:Addr}{o:Obj}{xs:List V} (e:H a=some (.bw o (.lst xs))):cA K H (.ref a) (.type "list")
 |tup {a:Addr}{xs:List V} (e:H a=some (.tup xs)):cA K H (.ref a) (.type "tuple")
 |dK {a:Addr}{kvs:List (Key×V)} (e:H a=some (.dK kvs)):cA K H (.ref a) (.type "dict")
 |dT {a:Addr}{kvs:List (List Key×V)} (e:H a=some (.dT kvs)):cA K H (.ref a) (.type "dict")
 |ins {a C dx:Addr}{fs:List (Str×V)} (e:H a=some (.ins C dx fs)) (cl:pE K C) (ha:PySem.W.findIn K (.ref C) "__class__" =some (some (.builtin "object.__class__")))
  (hn:PySem.W.specialIn K (.builtin "object.__class__") "__get__" =some (some (.builtin "getset_descriptor.__get__"))) (qT:PySem.W.takesIn K (.builtin "object.__class__")=some true)
  (hm:PySem.W.mroIn K C (.type "object")=some true):cA K H (.ref a) (.ref C)
theorem Uc {x:V}{u t:Value}(I:Inv X pins σ H s) (rx:RelV x u) (ty:cA X.K H x t) (e:PySem.W.kitOne X.K t c=some b) (h:∀tk,Q (.bool b) {s with toks:=tk}):
  wpAny (model X.prog X.w) A (call (.builtin "isinstance") [u,c]) Q E s:=by
 cases ty with
 |aa=>cases (show u=Value.none from rx);exact PySem.W.kia_one PySem.W.kitx_none I.bp True.intro e (fun z=>nomatch z) h
 |bl y=>cases (show u=Value.bool y from rx);exact PySem.W.kia_one PySem.W.kitx_bool I.bp True.intro e (fun z=>nomatch z) h
 |int i=>obtain⟨t,q⟩:=(show ∃t,u=Value.int i t from rx);cases q;exact PySem.W.kia_one PySem.W.kitx_int I.bp True.intro e (fun z=>nomatch z) h
 |str y=>obtain⟨t,q⟩:=(show ∃t,u=Value.str y t from rx);cases q;exact PySem.W.kia_one PySem.W.kitx_str I.bp True.intro e (fun z=>nomatch z) h
 |dY y=>obtain⟨t,q⟩:=(show ∃t,u=Value.float y t from rx);cases q;exact PySem.W.kia_one PySem.W.kitx_float I.bp True.intro e (fun z=>nomatch z) h
 | @lst a xs ea=>
  cases (show u=Value.ref a from rx)
  obtain⟨_,_,n,_,h1⟩:=(show aX X.prog X.w H s.heap a (.lst xs) from I.af a _ ea)
  exact PySem.W.kia_one PySem.W.kitx_list I.bp ⟨_,h1,rfl⟩ e (fun z=>nomatch z) h
 | @bw a ob xs ea=>
  cases (show u=Value.ref a from rx)
  obtain⟨_,_,_,n,_,h1⟩:=(show aX X.prog X.w H s.heap a (.bw ob (.lst xs)) from I.af a _ ea)
  exact PySem.W.kia_one PySem.W.kitx_list I.bp ⟨_,h1,rfl⟩ e (fun z=>nomatch z) h
 | @tup a xs ea=>
  cases (show u=Value.ref a from rx)
  obtain⟨_,_,_,p,_⟩:=(show aX X.prog X.w H s.heap a (.tup xs) from I.af a _ ea)
  obtain⟨o,h1,h2,_⟩:=p
  exact PySem.W.kia_one PySem.W.kitx_tuple I.bp ⟨o,h1,h2⟩ e (fun z=>nomatch z) h
 | @dK a kvs ea=>
  cases (show u=Value.ref a from rx)
  obtain⟨_,_,vs,_,p⟩:=(show aX X.prog X.w H s.heap a (.dK kvs) from I.af a _ ea)
  obtain⟨o,es,ep,h1,h2,_⟩:=p
  exact PySem.W.kia_one PySem.W.kitx_dict I.bp ⟨o,h1,h2.1⟩ e (fun z=>nomatch z) h
 | @dT a kvs ea=>
  cases (show u=Value.ref a from rx)
  obtain⟨_,_,xs,_,o,es,ep,h1,h2,_⟩:=(show aX X.prog X.w H s.heap a (.dT kvs) from I.af a _ ea)
  exact PySem.W.kia_one PySem.W.kitx_dict I.bp ⟨o,h1,h2.1⟩ e (fun z=>nomatch z) h
 | @ins a C dx fs ea cl ha hn qT hm=>
  cases (show u=Value.ref a from rx)
  obtain⟨mA,O,_⟩:=AS I.af ea
  obtain⟨od,J,_⟩:=O.look
  exact PySem.W.kia_one (PySem.W.kitx_own (cl.get _) cl.hd ha hn qT hm) I.bp J e (fun z=>nomatch z) h
end
structure bj (k:Nat) (A:Around):Prop where
 hd:A.handled=none
 dp:A.depth+3*k+5<recursionLimit
 un:A.units+16*k+200<cLine
 gd:A.guards=some []
theorem bj.mono {j k:Nat}{A:Around}(r:bj k A) (h:j≤k):bj j A:=⟨r.hd,by have:=r.dp;omega,by have:=r.un;omega,r.gd⟩
theorem bj.deeper {k:Nat}{A:Around}(r:bj (k+1) A) (env:Env):bj k (A.deeper env):=
 ⟨r.hd,by have:=r.dp;show A.depth+1+3*k+5<_;omega,by have:=r.un;show A.units+3+16*k+200<_;omega,r.gd⟩
theorem bj.depth {k:Nat}{A:Around}(r:bj k A):A.depth<recursionLimit:=by have:=r.dp;omega
theorem bj.units {k:Nat}{A:Around}(r:bj k A):A.units+64<cLine:=by have:=r.un;omega
theorem bj.pL {k:Nat}{A:Around}(r:bj k A):A.units<cLine:=by have:=r.un;omega
def dO:TA:=fun _ H Q=>Q [] H
def cC (ta:TE) (tr:TA):TA:=fun σ H Q=>ta σ H fun x H1=>tr σ H1 fun xs H2=>Q (x::xs) H2
section
variable {X:Cx}{e:Expr}{es:List Expr}{te:TE}{t:TA}{pos:Pos}
theorem Zc:PA X [] dO:=fun _ _ _ _ H Q I h=>Calls.spliced_nil ⟨[],H,I,.nil,h⟩
theorem Za (ha:PE X e te) (hr:PA X es t) (hs:starEach (e::es) X.env=(false,eval e X.env)::starEach es X.env:=by rfl):PA X (e::es) (cC te t):=by
 intro pos pins s σ H Q I h
 rw[hs]
 show wpAny _ _ (spliced ((false,eval e X.env)::backTo pos (starEach es X.env))) _ _ s
 refine Calls.spliced_cons (ak (ha pins s σ H _ I h) fun u s1 ⟨x,H1,I1,r1,q1⟩=> ?_)
 exact ak (hr pos pins s1 σ H1 _ I1 q1) fun us s2 ⟨xs,H2,I2,r2,q2⟩=> ⟨x::xs,H2,I2,.cons r1 r2,q2⟩
def pS (t:TA):TE:=fun σ H Q=>t σ H fun xs H1=>xs.length≤sizeLine∧∀p,H1 p=none→Q (.ref p) (upd H1 p (.tup xs))
def lW (t:TA):TE:=fun σ H Q=>t σ H fun xs H1=>xs.length≤sizeLine∧∀p,H1 p=none→Q (.ref p) (upd H1 p (.lst xs))
theorem ZE {x1} (h:PA X es t):PE X (.Tuple es x1 pos) (pS t):=by
 intro pins s σ H Q I hq
 refine wpAny_Tuple_spliced (ak (h pos pins s σ H _ I hq) fun us s1 ⟨xs,H1,I1,r,z,q⟩=> ⟨by rw[←r.length];exact z,?_⟩)
 have hf:H1 s1.heap.objs.size=none:=I1.af.fresh (Nat.le_refl _)
 refine⟨.ref s1.heap.objs.size,upd H1 s1.heap.objs.size (.tup xs),I1.laid (t':=s1.toks) (fun b u e=>Heap.get?_push_of_some _ e) (Nat.le_refl _) ?_,rfl,q _ hf⟩
 exact⟨z,us,r,⟨_,Heap.get?_push_size _ rfl,rfl,_,rfl⟩,_,Heap.get?_push_size _ rfl,rfl⟩
theorem Zu (h:PA X es t):PE X (.List es pos) (lW t):=by
 intro pins s σ H Q I hq
 refine wpAny_List_spliced (ak (h pos pins s σ H _ I hq) fun us s1 ⟨xs,H1,I1,r,z,q⟩=> ⟨by rw[←r.length];exact z,?_⟩)
 have hf:H1 s1.heap.objs.size=none:=I1.af.fresh (Nat.le_refl _)
 refine⟨.ref s1.heap.objs.size,upd H1 s1.heap.objs.size (.lst xs),I1.laid (t':=s1.toks) (fun b u e=>Heap.get?_push_of_some _ e) (Nat.le_refl _) ?_,rfl,q _ hf⟩
 exact⟨z,us,0,r,Heap.get?_push_size _ rfl⟩
end
abbrev Sp:=List V→Hp→VK→XK→Prop
abbrev eP:=List Env→Hp→Shared→XK→Value→Shared→Prop
structure jU (P:Program) (w:World) (K:PySem.W.Frag) (mg:Str→Option Value) (base:Heap) (A:Around) (outer:List Env) (s:Shared) (H:Hp):Prop where
 frames:A.frames=some outer
 mod:Mod K mg base
 bs:∀b o,base.get? b=some o→s.heap.get? b=some o∧H b=none
 fb:base.objs.size≤s.heap.objs.size
 cf:s.heap.FunFrames base outer
 dH:∀b∈ay outer,H b=none
 af:aZ P w H s.heap
 bare:AllBare s.gens
def CE (outer:List Env) (P:Program) (w:World) (H:Hp) (s:Shared) (Q:VK) (u:Value) (s':Shared):Prop:=
 ∃v H',s'.os=s.os∧AllBare s'.gens∧Un (ay outer) [] H H' s.heap s'.heap∧aZ P w H' s'.heap∧RelV v u∧Q v H'
def CR (CX:eP) (outer:List Env) (P:Program) (w:World) (H:Hp) (s:Shared) (Q:VK) (E:XK) (r:Result) (s':Shared):Prop:=
 match r with
 | .ok (.ret u)=>CE outer P w H s Q u s'
 | .ok _=>False
 | .error e=>CX outer H s E e s'
structure az (P:Program) (w:World) (K:PySem.W.Frag) (mg:Str→Option Value) (base:Heap) (CX:eP) (k:Nat) (f:Addr) (fd:FuncData) (ps:List Str) (sp:Sp):Prop where
 len:∀vs H Q E,sp vs H Q E→vs.length=ps.length
 run:∀(A:Around) (outer:List Env) (s:Shared) (H:Hp) (args:Args) (us:List Value) (vs:List V) (Q:VK) (E:XK),bj k A→jU P w K mg base A outer s H→BindsTo s fd args (ps.zip us)→Vals vs us→sp vs H Q E→
  codeAny (model P w) A (.call (.ref f) args) (CR CX outer P w H s Q E) s
section
variable {X:Cx}{pins:List (Addr×Obj)}{σ:St}{H:Hp}{s s':Shared}
theorem Inv.r8 (I:Inv X pins σ H s):jU X.prog X.w X.K X.mg X.base X.A X.stack s H:=
 ⟨I.ok.frames,I.ok.mod,I.bs,Nat.le_trans I.ok.fb I.sz,I.stack,I.iR,I.af,I.bare⟩
theorem Inv.after {Q:VK}{u:Value}(I:Inv X pins σ H s) (h:CE X.stack X.prog X.w H s Q u s'):EP X pins σ Q u s':=by
 obtain⟨v,H',os,bare,un,af,r,q⟩:=h
 obtain⟨hh,g,d,t,vM⟩:=s'
 obtain rfl:vM=s.os:=os
 exact⟨v,H',I.call (h':=hh) (g':=g) (d':=d) (t':=t) (ch:=[]) un af bare (fun b z=>absurd z (by simp)),r,q⟩
end
def hW (sp:Sp) (dv:List V) (E:XK) (t:TA):TE:=fun σ H Q=>t σ H fun vs H1=>sp (vs++dv) H1 Q E
def Binds (K:PySem.W.Frag) (fd:FuncData) (ps:List Str) (ds:List Value):Prop:=
 ∀(s:Shared) (us:List Value),K.In s.heap→(us++ds).length=ps.length→BindsTo s fd ⟨us,[]⟩ (ps.zip (us++ds))
theorem Binds.all {K:PySem.W.Frag}{fd:FuncData}{ps:List Str}(h:∀us:List Value,us.length=ps.length→bindArgs fd ⟨us,[]⟩=pure (ps.zip us)):Binds K fd ps []:=fun s us _ hl=>by
 rw[List.append_nil]at hl ⊢
 exact .of_eq (h us hl)
def Passes (CX:eP) (X:Cx) (E:XK):Prop:=∀(pins:List (Addr×Obj)) (σ:St) (H:Hp) (s:Shared) (e:Value) (s':Shared),Inv X pins σ H s→CX X.stack H s E e s'→X.xe e s'
section
variable {X:Cx}{CX:eP}{k:Nat}{f C:Addr}{fd:FuncData}{ps:List Str}{sp:Sp}{dv:List V}{ds:List Value}{E:XK}{x m:Str}{p pos apos:Pos}{e o:Expr}{es:List Expr}{ta:TE}{t:TA}
theorem Ws {pins:List (Addr×Obj)}{σ:St}{H:Hp}{s:Shared}{Q:VK}{us:List Value}{vs:List V}(F:az X.prog X.w X.K X.mg X.base CX k f fd ps sp) (hr:bj k X.A) (hb:Binds X.K fd ps ds) (hd:Vals dv ds) (hx:Passes CX X E)
  (I:Inv X pins σ H s) (r:Vals vs us) (h:sp (vs++dv) H Q E):wpAny (model X.prog X.w) X.A (call (.ref f) us) (EP X pins σ Q) X.xe s:=by
 have r2:Vals (vs++dv) (us++ds):=r.append hd
 have hl:(us++ds).length=ps.length:=by rw[←r2.length];exact F.len _ _ _ _ h
 refine wpAny_call (codeAny_mono (F.run X.A X.stack s H ⟨us,[]⟩ (us++ds) (vs++dv) Q E hr I.r8 (hb s us I.bp hl) r2 h) fun r s' hq=> ?_)
 cases r with
 |error e=>exact hx pins σ H s e s' I hq
 |ok fl=>
  cases fl with
  |ret u=>exact I.after hq
  |next=>exact False.elim hq
  |brk=>exact False.elim hq
  |cont=>exact False.elim hq
theorem WN (F:az X.prog X.w X.K X.mg X.base CX k f fd ps sp) (hr:bj k X.A) (hg:Gl X x) (hm:X.mg x=some (.ref f)) (hk:PySem.W.keepIn X.K (.ref f)=true) (hb:Binds X.K fd ps ds) (hd:Vals dv ds) (hx:Passes CX X E)
  (ha:PA X (e::es) t) (dr:(x==("__debug__" :Str))=false:=by decide) (he:starEach (e::es) X.env=(false,eval e X.env)::starEach es X.env:=by rfl) (bH:(backTo pos (starEach es X.env)).any (·.1)=false:=by rfl):
  PE X (.Call (.Name x p) (e::es) [] pos) (hW sp dv E t):=by
 intro pins s σ H Q I h
 refine wpAny_Call_Name_kw (Yi I hg hm ?_ dr)
 refine PySem.W.callWith_K (h₀:=X.base) I.ok.mod.fV hk (ak (ha pos pins s σ H _ I h) fun us s1 ⟨vs,H1,I1,r,q⟩=> ⟨I1.bp,?_⟩) he bH
 exact Ws F hr hb hd hx I1 r q
theorem Uw (F:az X.prog X.w X.K X.mg X.base CX k f fd ps sp) (hr:bj k X.A) (hg:Gl X x) (hm:X.mg x=some (.ref f)) (hk:PySem.W.keepIn X.K (.ref f)=true) (hb:Binds X.K fd ps ds) (hd:Vals dv ds) (hx:Passes CX X E)
  (dr:(x==("__debug__" :Str))=false:=by decide):PE X (.Call (.Name x p) [] [] pos) (hW sp dv E dO):=by
 intro pins s σ H Q I h
 refine wpAny_Call_Name_kw (Yi I hg hm ?_ dr)
 exact PySem.W.callWith_K0 I.bp hk (Ws (us:=[]) F hr hb hd hx I .nil h)
structure Mk (K:PySem.W.Frag) (C f:Addr):Prop where
 makes:PySem.W.makesIn K C=true
 init:PySem.W.findIn K (.ref C) "__init__" =some (some (.ref f))
 fn:PySem.W.isFn K (.ref f)=true
 kp:PySem.W.keepIn K (.ref C)=true
end
section
variable {X:Cx}{CX:eP}{k:Nat}{f C:Addr}{fd:FuncData}{ps ks:List Str}{sp:Sp}{E:XK}{x m:Str}{p pos apos Cq:Pos}{e o:Expr}{es:List Expr}{Cp:List Keyword}{te ta:TE}{t tk:TA}{nm:Option Str}
structure C6 (K:PySem.W.Frag) (fd:FuncData) (ps ks:List Str) (g:List Value→List Value→List Value) (gV:List V→List V→List V):Prop where
 to:∀(s:Shared) (us ws:List Value),K.In s.heap→(g us ws).length=ps.length→BindsTo s fd ⟨us,ks.zip ws⟩ (ps.zip (g us ws))
 rel:∀{vs:List V}{us:List Value}{zs:List V}{ws:List Value},Vals vs us→Vals zs ws→Vals (gV vs zs) (g us ws)
variable {g:List Value→List Value→List Value}{gV:List V→List V→List V}
end
structure bC (N P:List Str) (sc:Scope):Prop where
 kind:sc.kind=.function
 co:sc.isCoroutine=false
 gen:sc.isGenerator=false
 nd:N.Nodup
 pre:N.take P.length=P
 par:∀x∈P,sc.names.lookup x=some .local∨sc.names.lookup x=some .cell
 vW:∀y∈sc.names,y.2≠.free
theorem JC {kindOf:Str→Option NameKind}{x:Str} :∀{binds:List (Str×Value)}{m:Str→Option Value},(∀v,(x,v)∉binds)→bindL kindOf binds m x=m x
 | [],_,_=>rfl
 |(n,v)::r,m,h=>by
  unfold bindL
  rw[JC fun w hw=>h w (List.mem_cons_of_mem _ hw)]
  split
  ·have:x≠n:=by rintro rfl;exact h v List.mem_cons_self
   simp[this]
  ·rfl
theorem JE {kindOf:Str→Option NameKind}{x:Str} :∀{binds:List (Str×Value)}{m:Str→Option Value},(∀v,(x,v)∉binds)→bindC kindOf binds m x=m x
 | [],_,_=>rfl
 |(n,v)::r,m,h=>by
  unfold bindC
  rw[JE fun w hw=>h w (List.mem_cons_of_mem _ hw)]
  split
  ·rfl
  ·have:x≠n:=by rintro rfl;exact h v List.mem_cons_self
   simp[this]
theorem JD {kindOf:Str→Option NameKind}{x:Str}{v:Value} :∀{P:List Str}{vs:List Value}{i:Nat}{m:Str→Option Value},P.Nodup→P[i]? =some x→vs[i]? =some v→kindOf x=some .local→
  bindL kindOf (P.zip vs) m x=some v
 | [],_,_,_,_,h,_,_=>by simp at h
 |_::_,[],_,_,_,_,h,_=>by simp at h
 |p::P,w::vs,0,m,nd,h1,h2,hk=>by
  simp at h1 h2;subst h1;subst h2
  show bindL kindOf ((p,w)::P.zip vs) m p=_
  unfold bindL
  rw[JC fun v hv=> (List.nodup_cons.mp nd).1 (List.of_mem_zip hv).1,if_pos hk]
  simp
 |p::P,w::vs,i+1,m,nd,h1,h2,hk=>by
  show bindL kindOf ((p,w)::P.zip vs) m x=_
  unfold bindL
  exact JD (i:=i) (List.nodup_cons.mp nd).2 (by simpa using h1) (by simpa using h2) hk
theorem JF {kindOf:Str→Option NameKind}{x:Str}{v:Value} :∀{P:List Str}{vs:List Value}{i:Nat}{m:Str→Option Value},P.Nodup→P[i]? =some x→vs[i]? =some v→kindOf x≠some .local→
  bindC kindOf (P.zip vs) m x=some v
 | [],_,_,_,_,h,_,_=>by simp at h
 |_::_,[],_,_,_,_,h,_=>by simp at h
 |p::P,w::vs,0,m,nd,h1,h2,hk=>by
  simp at h1 h2;subst h1;subst h2
  show bindC kindOf ((p,w)::P.zip vs) m p=_
  unfold bindC
  rw[JE fun v hv=> (List.nodup_cons.mp nd).1 (List.of_mem_zip hv).1,if_neg hk]
  simp
 |p::P,w::vs,i+1,m,nd,h1,h2,hk=>by
  show bindC kindOf ((p,w)::P.zip vs) m x=_
  unfold bindC
  exact JF (i:=i) (List.nodup_cons.mp nd).2 (by simpa using h1) (by simpa using h2) hk
def start (N:List Str) (vs:List V):St:=vs.map some++List.replicate (N.length - vs.length) none
def bc (CX:eP) (P:Program) (w:World) (K:PySem.W.Frag) (mg:Str→Option Value) (base:Heap) (N:List Str) (qual:Str) (scope:Scope) (f:Addr) (cd:Value) (A:Around) (outer:List Env) (s:Shared) (H:Hp) (E:XK):Cx where
 prog:=P
 w:=w
 K:=K
 mg:=mg
 base:=base
 A:=A.deeper (envOfC qual scope s.heap.objs.size f cd)
 N:=N
 bt:=s
 fG:=H
 env:=envOfC qual scope s.heap.objs.size f cd
 outer:=outer
 stack:=envOfC qual scope s.heap.objs.size f cd::outer
 ex:=[]
 calm:=true
 fn:=fun _=>true
 pn:=[]
 xe:=fun e s'=>wpAny (model P w) (A.deeper (envOfC qual scope s.heap.objs.size f cd)) (leaving (envOfC qual scope s.heap.objs.size f cd) e) (fun _ cT=>CX outer H s E e cT) (fun e' cT=>CX outer H s E e' cT) s'
theorem Wj {sc:Scope}{n:Nat}{x:Str}(h:sc.names.lookup x=some .cell):∃c,(cellsFrom n sc.names []).lookup x=some c:=by
 have q:=PySem.W.cellsFrom_some sc.names n [] (.inl h)
 exact Option.isSome_iff_exists.mp q
theorem Ud {CX:eP}{P:Program}{w:World}{K:PySem.W.Frag}{mg:Str→Option Value}{base:Heap}{N ps:List Str}{qual:Str}{scope:Scope}{f:Addr}{cd:Value}{A:Around}{outer:List Env}{s s1:Shared}{H:Hp}{E:XK}{us:List Value}{vs:List V}
  (S:bC N ps scope) (hd:A.handled=none) (e0:jU P w K mg base A outer s H) (hl:vs.length=ps.length) (r:Vals vs us)
  (x:InCallC s s.heap.objs.size (bindL (envOfC qual scope s.heap.objs.size f cd).kindOf (ps.zip us) fun _=>none) (cellsFrom (s.heap.objs.size+1) scope.names []) (bindC (envOfC qual scope s.heap.objs.size f cd).kindOf (ps.zip us) fun _=>none) s1):
  Inv (bc CX P w K mg base N qual scope f cd A outer s H E) [] (start N vs) H s1:=by
 have bH:ps.length≤N.length:=by have:=congrArg List.length S.pre;rw[List.length_take]at this;omega
 obtain⟨h1,tk,rfl,hk⟩:=x.done
 have fo:∀b:Addr,b∉(bc CX P w K mg base N qual scope f cd A outer s H E).ex:=fun b z=>absurd (show b∈([]:List Addr) from z) (by simp)
 refine⟨⟨e0.mod,S.kind,rfl,rfl,Nat.le_refl _,fun y z c h1 h2=> ?_,fun y hy=> ?_,fun y c _ h=> ?_,fun _=>hd,Around.frames_deeper e0.frames,.inr ⟨rfl,rfl⟩,fun b z=>absurd z (fo b),e0.bs,e0.fb,fun b _ _=>fo b,fun b z=>absurd z (fo b),e0.cf,e0.dH⟩,
  rfl,e0.bare,Un.kept hk,⟨_,x.toInCall.ns,fun i y v h1 h2 h3=> ?_⟩,fun y c h=> ⟨_,x.cell y c h⟩,e0.af.fresh (Nat.le_refl _),fun y c h=> ?_,fun p hp=>absurd (show p∈([]:List (Addr×Obj)) from hp) (by simp),e0.af.kept hk,?_⟩
 ·exact name_of_addr x.apart (PySem.mem_of_lookup h1) (PySem.mem_of_lookup h2)
 ·have hy:scope.names.lookup y=some .cell∨scope.names.lookup y=some .free:=hy
  rcases hy with hy |hy
  ·exact Wj hy
  ·exact absurd rfl (S.vW _ (PySem.mem_of_lookup hy))
 ·exact Nat.le_of_lt (x.above y c (PySem.mem_of_lookup h))
 ·have hi:i<vs.length:=by
   unfold start at h2
   by_cases hi:i<vs.length
   ·exact hi
   ·rw[List.getElem?_append_right (by simpa using hi)]at h2
    rw[List.getElem?_replicate]at h2
    split at h2<;>cases h2
  have ha:vs[i]? =some v:=by
   unfold start at h2
   rw[List.getElem?_append_left (by simpa using hi),List.getElem?_map]at h2
   cases e:vs[i]? with
   |none=>rw[e]at h2;cases h2
   |some a=>rw[e]at h2;cases h2;rfl
  obtain⟨u,hu,rv⟩:=r.get ha
  have hp:ps[i]? =some y:=by
   rw[←S.pre,List.getElem?_take_of_lt (by omega)];exact h1
  have qI:ps.Nodup:=by rw[←S.pre];exact S.nd.sublist (List.take_sublist _ _)
  refine⟨u,rv,?_⟩
  rcases S.par y (List.mem_of_getElem? hp) with k |k
  ·exact .inl ⟨k,JD qI hp hu k⟩
  ·obtain⟨c,e⟩:=Wj (n:=s.heap.objs.size+1) k
   refine .inr ⟨.inl k,c,e,?_⟩
   have q:=x.cell y c e
   rw[JF qI hp hu (by show scope.names.lookup y≠_;rw[k];decide)]at q
   exact q
 ·exact e0.af.fresh (Nat.le_of_lt (x.above y c (PySem.mem_of_lookup h)))
 ·unfold start
  show _=N.length
  rw[List.length_append,List.length_map,List.length_replicate]
  omega
theorem UL {CX:eP}{P:Program}{w:World}{K:PySem.W.Frag}{mg:Str→Option Value}{base:Heap}{k:Nat}{f:Addr}{name qual:Str}{params:Arguments}{body:List Stmt}{scope:Scope}{dV kV doc pm aj ct oc:Value}{an od:Option Addr}
    {cJ:Array (Option Value)}{N ps:List Str}{sp:Sp} (lk:K.lookup f=some ⟨oc,od,.func (PySem.W.fnOf name qual params body scope dV kV doc pm an aj ct),cJ⟩) (bI:PySem.W.codeIn K aj qual=true) (S:bC N ps scope)
    (len:∀vs H Q E,sp vs H Q E→vs.length=ps.length)
    (oz:∀(A:Around) (outer:List Env) (s:Shared) (H:Hp) (vs:List V) (Q:VK) (E:XK),bj k (A.deeper (envOfC qual scope s.heap.objs.size f aj))→sp vs H Q E→
      ∃t,cH (bc CX P w K mg base N qual scope f aj A outer s H E) body t∧t {nx:=fun _ H'=>Q .aa H',rt:=Q} (start N vs) H):
    az P w K mg base CX (k+1) f (PySem.W.fnOf name qual params body scope dV kV doc pm an aj ct) ps sp:=by
  refine⟨len,fun A outer s H args us vs Q E hr e0 hb r bX=> ?_⟩
  have hl:=len _ _ _ _ bX
  have KX:K.In s.heap:=e0.mod.fV.keeps fun b o e=> (e0.bs b o e).1
  have lim:s.heap.NoLimit:=e0.mod.nolimit.keeps fun b o e=> (e0.bs b o e).1
  have yj:∀y∈ps.zip us,scope.names.lookup y.1=some .local∨(scope.names.lookup y.1=some .cell∧((cellsFrom (s.heap.objs.size+1) scope.names []).lookup y.1).isSome=true):=fun⟨n,v⟩ hy=>by
    rcases S.par n (List.of_mem_zip hy).1 with q |q
    · exact .inl q
    · exact .inr ⟨q,PySem.W.cellsFrom_some _ _ _ (.inl q)⟩
  refine codeAny_call_function hr.depth (KX _ _ lk) rfl S.co S.gen rfl (PySem.W.codeRec_of KX bI) (hb _ _ _ _ ?_)
  refine wpAny_newFunctionEnv_cells S.kind yj fun env he s1 x=> ?_
  subst he
  refine⟨lim.keeps x.toInCall.keep,codeAny_func ?_⟩
  obtain⟨t,ht,hq⟩:=oz A outer s H vs Q E (hr.deeper _) bX
  have I:Inv (bc CX P w K mg base N qual scope f aj A outer s H E) [] (start N vs) H s1:=Ud S hr.hd e0 hl r x
  refine wpAny_mono (ht [] s1 (start N vs) H _ I hq) (fun fl s' hs=> ?_) fun e s' hs=>hs
  have fin:∀{ag:St}{H':Hp}{v:V}{u:Value},Inv (bc CX P w K mg base N qual scope f aj A outer s H E) [] ag H' s'→RelV v u→Q v H'→CE outer P w H s Q u s':=
    fun {ag H' v u} J rv q=> ⟨v,H',J.os,J.bare,J.base,J.af,rv,q⟩
  cases fl with
  |ret u=>
   obtain⟨v,ag,H',J,rv,q⟩:=hs
   exact fin J rv q
  |next=>
   obtain⟨ag,H',J,q⟩:=hs
   exact fin (v:=V.aa) (u:=Value.none) J rfl q
  |brk=>
   obtain⟨_,_,_,q⟩:=hs
   exact False.elim q
  |cont=>
   obtain⟨_,_,_,q⟩:=hs
   exact False.elim q
section
variable {X:Cx}{x:Str}{p pos:Pos}{e:Expr}{es:List Expr}{t:TA}{id T:String}{r:List V→Hp→VK→Prop}
def pW (r:List V→Hp→VK→Prop) (t:TA):TE:=fun σ H Q=>t σ H fun vs H1=>r vs H1 Q
theorem Zi (hc:cj X (.builtin id) r) (hg:Gl X x) (hm:X.mg x=none) (hv:bootBuiltins x=some (.builtin id)) (ha:PA X (e::es) t) (hn:x≠ "__name__" :=by decide) (dr:(x==("__debug__" :Str))=false:=by decide)
  (he:starEach (e::es) X.env=(false,eval e X.env)::starEach es X.env:=by rfl) (bH:(backTo pos (starEach es X.env)).any (·.1)=false:=by rfl):PE X (.Call (.Name x p) (e::es) [] pos) (pW r t):=by
 intro pins s σ H Q I h
 refine wpAny_Call_Name_kw (JT I hg hm hv ?_ hn dr)
 exact PyProof.Rows.callWith_builtin1 (ak (ha pos pins s σ H _ I h) fun us s1 ⟨vs,H1,I1,r1,q1⟩=>hc pins s1 σ H1 vs us Q I1 r1 q1) he bH
theorem ZS (hc:cj X (.type T) r) (hg:Gl X x) (hm:X.mg x=none) (hv:bootBuiltins x=some (.type T)) (ha:PA X (e::es) t) (hn:x≠ "__name__" :=by decide) (dr:(x==("__debug__" :Str))=false:=by decide)
  (he:starEach (e::es) X.env=(false,eval e X.env)::starEach es X.env:=by rfl) (bH:(backTo pos (starEach es X.env)).any (·.1)=false:=by rfl):PE X (.Call (.Name x p) (e::es) [] pos) (pW r t):=by
 intro pins s σ H Q I h
 refine wpAny_Call_Name_kw (JT I hg hm hv ?_ hn dr)
 exact PyProof.Rows.callWith_type1 (ak (ha pos pins s σ H _ I h) fun us s1 ⟨vs,H1,I1,r1,q1⟩=>hc pins s1 σ H1 vs us Q I1 r1 q1) he bH
end
end L2
namespace HT
open PySem PyProof.Rows
section
open PySem.SeqAt
open PySem.AutoSeq1 (wpAny_loadPart')
open PySem.MeetsSeq PySem.MeetsSeq2 PySem.MeetsSeq3
end
section
variable {prog:Program}{w:World}{A:Around}{E:Value→Shared→Prop}{s:Shared}
theorem Ar {t b:Addr}{vs ws:List Value}{Q:Value→Shared→Prop}(ht:IsTup s.heap t vs.toArray) (hb:IsTup s.heap b ws.toArray) (hv:vs≠[])
  (h1:ws=[]→Q (.ref t) s) (h2:ws≠[]→Q (.ref s.heap.objs.size) {s with heap:=s.heap.push {cls:=.type "tuple",data:=.seq (vs++ws).toArray} })
  (cF:vs.length+ws.length≤sizeLine):wpAny (model prog w) A (binaryOp .Add (.ref t) (.ref b)) Q E s:=by
 obtain⟨⟨cls,dd,data,sl⟩,ho,hc,n,hd⟩:=id ht
 obtain⟨⟨Aq,lE,data2,gB⟩,gR,gT,n2,hd2⟩:=id hb
 simp only at hc hd gT hd2
 subst hc hd gT hd2
 have e:vs.toArray++ws.toArray=(vs++ws).toArray:=by simp
 by_cases hw:ws=[]
 ·exact concat_meets ⟨_,ho,rfl⟩ ⟨_,gR,rfl⟩ noFill_tuple_add seq_tuple_add PySem.F.slot_tuple_add PySem.F.entry_tuple_add (PySem.F.args_tuple_add_2 _ _)
   (tuple_addW1 t b vs.toArray ws.toArray n n2 dd lE sl gB (by simpa using hv) (by simp[hw])) ⟨ho,gR,h1 hw⟩
 ·refine concat_meets ⟨_,ho,rfl⟩ ⟨_,gR,rfl⟩ noFill_tuple_add seq_tuple_add PySem.F.slot_tuple_add PySem.F.entry_tuple_add (PySem.F.args_tuple_add_2 _ _)
   (tuple_addW2 t b vs.toArray ws.toArray n n2 dd lE sl gB (by simpa using hv) (by simpa using hw) (by rw[List.size_toArray,List.size_toArray];exact cF)) ⟨ho,gR,?_⟩
  rw[e]
  exact h2 hw
def aQ (n d:Nat):Option Int→Nat
 |none=>d
 |some v=>if v<0 then (v+(n:Int)).toNat else min v.toNat n
theorem qk (n d:Nat):aQ n d none=d:=rfl
theorem kq (n d k:Nat):aQ n d (some (k:Int))=min k n:=by
 show(if (k:Int)<0 then ((k:Int)+(n:Int)).toNat else min (k:Int).toNat n)=min k n
 rw[if_neg (by omega),Int.toNat_natCast]
theorem AN (n d:Nat) (hd:d≤n) (o:Option Int):aQ n d o≤n:=by
 cases o with
 |none=>exact hd
 |some v=>
  show(if v<0 then (v+(n:Int)).toNat else min v.toNat n)≤n
  by_cases hv:v<0
  ·rw[if_pos hv];omega
  ·rw[if_neg hv];exact Nat.min_le_right _ _
theorem WZ (v:Int) (n d:Nat):(if v<0 then max (v+(n:Int)) 0 else min v (n:Int))=((aQ n d (some v):Nat):Int):=by
 show(if v<0 then max (v+(n:Int)) 0 else min v (n:Int))=(((if v<0 then (v+(n:Int)).toNat else min v.toNat n):Nat):Int)
 by_cases hv:v<0
 ·simp only[if_pos hv];omega
 ·simp only[if_neg hv];omega
theorem WG (lo hi:Option Int) (n:Nat):Builtin.Slice.sliceAdjust lo hi 1 (n:Int)=(((aQ n 0 lo:Nat):Int),((aQ n n hi:Nat):Int)):=by
 have h1:¬((1:Int)<0):=by omega
 unfold Builtin.Slice.sliceAdjust
 simp only[h1,if_false]
 refine Prod.ext ?_ ?_
 ·cases lo with
  |none=>rfl
  |some v=>exact WZ v n 0
 ·cases hi with
  |none=>rfl
  |some v=>exact WZ v n n
theorem Wv (i j:Nat):Builtin.Slice.slicePlaces (i:Int) (j:Int) 1=j - i:=by
 unfold Builtin.Slice.slicePlaces
 have h1:(1:Int)>0:=by omega
 simp only[h1,if_true,Int.ediv_one]
 split<;>omega
theorem Y2 {v:Value}{o:Option Int}{Q:Option Int→Shared→Prop}(p:IsPart v o) (h:Q o s):wpAny (model prog w) A (Builtin.Slice.slicePartIndex v) Q E s:=by
 cases p with
 |none=>exact slicePart_none h
 |int i t=>exact slicePart_int h
theorem YJ {sl:Addr}{vl vu:Value}{lo hi:Option Int}{n:Nat}{Q:Int×Int×Nat→Shared→Prop}(hs:s.heap.IsSliceOf sl vl vu .none) (pl:IsPart vl lo) (pu:IsPart vu hi)
  (h:Q (((aQ n 0 lo:Nat):Int),1,aQ n n hi - aQ n 0 lo) s):wpAny (model prog w) A (Builtin.Slice.sliceApplied (.ref sl) (pure (n:Int))) Q E s:=by
 obtain⟨os,eT,lg,gi⟩:=id hs
 unfold Builtin.Slice.sliceApplied Builtin.Slice.sliceFields
 refine wpAny_bind (wpAny_bind (wpAny_field eT gi (x:=vl) rfl (wpAny_bind (wpAny_field eT gi (x:=vu) rfl (wpAny_bind (wpAny_field eT gi (x:=.none) rfl (wpAny_pure ?_)))))))
 refine wpAny_bind (slicePart_none ?_)
 show wpAny _ _ (if ((1:Int)==0)=true then _ else _) _ _ s
 rw[if_neg (by decide)]
 refine wpAny_bind (Y2 pl (wpAny_bind (Y2 pu (wpAny_bind (wpAny_pure ?_)))))
 show wpAny _ _ (match Builtin.Slice.sliceAdjust lo hi 1 (n:Int) with |(lo,hi)=>pure (lo,(1:Int),Builtin.Slice.slicePlaces lo hi 1)) _ _ s
 rw[WG lo hi n]
 show wpAny _ _ (pure (((aQ n 0 lo:Nat):Int),(1:Int),Builtin.Slice.slicePlaces ((aQ n 0 lo:Nat):Int) ((aQ n n hi:Nat):Int) 1)) _ _ s
 rw[Wv]
 exact wpAny_pure h
theorem Ur (xs:Array Value) (i k:Nat):((List.range k).filterMap fun(m:Nat)=>xs[((i:Int)+(m:Int)*1).toNat]?).toArray=((xs.toList.drop i).take k).toArray:=by
 have e:(fun(m:Nat)=>xs[((i:Int)+(m:Int)*1).toNat]?)=fun m=>xs[i+m]? :=by
  funext m
  have:((i:Int)+(m:Int)*1).toNat=i+m:=by omega
  rw[this]
 rw[e]
 have:=pick_run xs i k
 rw[List.filterMap_map]at this
 have e2:((fun x=>xs[x]?)∘fun x=>i+x)=fun m=>xs[i+m]? :=rfl
 rw[e2]at this
 rw[this]
theorem zy {t sl:Addr}{items:Array Value}{vl vu:Value}{lo hi:Option Int}{Q:Value→Shared→Prop}(ht:IsTup s.heap t items) (hs:s.heap.IsSliceOf sl vl vu .none) (pl:IsPart vl lo) (pu:IsPart vu hi)
  (hw:¬(aQ items.size 0 lo=0∧aQ items.size items.size hi=items.size))
  (h:Q (.ref s.heap.objs.size) {s with heap:=s.heap.push {cls:=.type "tuple",data:=.seq ((items.toList.drop (aQ items.size 0 lo)).take (aQ items.size items.size hi - aQ items.size 0 lo)).toArray} })
  (cF:items.size≤sizeLine):wpAny (model prog w) A (getItem (.ref t) (.ref sl)) Q E s:=by
 have fv:sizeOk (.seq ((items.toList.drop (aQ items.size 0 lo)).take (aQ items.size items.size hi - aQ items.size 0 lo)).toArray):=by
  show((items.toList.drop (aQ items.size 0 lo)).take (aQ items.size items.size hi - aQ items.size 0 lo)).toArray.size≤sizeLine
  rw[List.size_toArray,List.length_take,List.length_drop,Array.length_toList]
  omega
 have hj:aQ items.size items.size hi≤items.size:=AN _ _ (Nat.le_refl _) hi
 obtain⟨os,eT,lg,gi⟩:=id hs
 have iE:s.TypeIs (.ref sl) "slice" :=⟨os,eT,lg⟩
 unfold getItem
 try with_reducible refine wpAny_holding ?_
 first |refine wpAny_bind (wpAny_pure ?_) |skip
 refine wpAny_bind (wpAny_sequenceKey ht.typeIs (by decide) ?_)
 refine wpAny_bind (wpAny_callSpecial?_slot (name:=Str.ofString "__getitem__") ht.typeIs PyProof.Rows.slot_tuple_getitem
  (wpAny_call_entry PyProof.Rows.slot_tuple_getitem ht.typeIs entry_tuple_getitem ?_ (args_tuple_getitem _ _)))
 show wpAny _ _ (Builtin.Tuple.tupleItemsOf (.ref t) >>=_) _ _ s
 refine wpAny_bind (tupleItemsOf_ ht ?_)
 refine wpAny_bind (wpAny_typeOf iE ?_)
 rw[if_pos (by decide)]
 refine wpAny_bind (YJ hs pl pu ?_)
 have dF:¬((((aQ items.size 0 lo:Nat):Int)==0&&(1:Int)==1&&(aQ items.size items.size hi - aQ items.size 0 lo)==items.size)=true):=by
  intro q
  rw[Bool.and_eq_true,Bool.and_eq_true]at q
  have q1:((aQ items.size 0 lo:Nat):Int)=0:=eq_of_beq q.1.1
  have q2:aQ items.size items.size hi - aQ items.size 0 lo=items.size:=eq_of_beq q.2
  exact hw ⟨by omega,by omega⟩
 show wpAny _ _ (if (((aQ items.size 0 lo:Nat):Int)==0&&(1:Int)==1&&(aQ items.size items.size hi - aQ items.size 0 lo)==items.size)=true then _ else _) _ _ s
 rw[if_neg dF,Ur]
 first
  |exact wpAny_bind (m:=Builtin.Tuple.tupleExact _) (wpAny_newObj_type (wpAny_pure ⟨_,rfl,wpAny_pure h⟩) fv)
  |exact wpAny_bind (m:=Builtin.Tuple.tupleExact _) (wpAny_newObj_type (wpAny_bind (wpAny_pure (wpAny_pure ⟨_,rfl,wpAny_pure h⟩))) fv)
  |exact wpAny_bind (wpAny_bind (m:=Builtin.Tuple.tupleExact _) (wpAny_newObj_type (wpAny_pure (wpAny_pure ⟨_,rfl,wpAny_pure h⟩)) fv))
  |exact wpAny_bind (wpAny_bind (m:=Builtin.Tuple.tupleExact _) (wpAny_newObj_type (wpAny_pure ⟨_,rfl,wpAny_pure h⟩) fv))
end
end HT
namespace L2
open PySem PySem.Spec PyProof.Rows
abbrev TO:=St→Hp→(Option Int→Hp→Prop)→Prop
def PO (X:Cx) (e:Option Expr) (t:TO):Prop:=
 ∀(pins:List (Addr×Obj)) (s:Shared) (σ:St) (H:Hp) (Q:Option Int→Hp→Prop),Inv X pins σ H s→t σ H Q→
  wpAny (model X.prog X.w) X.A (evalPart e X.env) (fun u s'=> ∃o H',Inv X pins σ H' s'∧IsPart u o∧Q o H') X.xe s
def j8:TO:=fun _ H Q=>Q none H
def j7 (t:TE):TO:=fun σ H Q=>t σ H fun x H1=> ∃i,x=.int i∧Q (some i) H1
theorem WD {ns:List Int} :∀{us:List Value},Vals (ns.map V.int) us→IntsAre us ns:=by
 induction ns with
 |nil=>intro us r;rw[List.map_nil]at r;cases r;exact .nil
 |cons n ns ih=>
  intro us r
  rw[List.map_cons]at r
  cases r with
  |cons r1 r2=>
   obtain⟨t,e⟩:=r1
   subst e
   exact .cons n t (ih r2)
section
variable {X:Cx}{e:Expr}{te:TE}{lo hi:Option Expr}{tl th:TO}{pos p2:Pos}
theorem Ym:PO X none j8:=by
 intro pins s σ H Q I h
 rw[evalPart_none]
 exact wpAny_pure ⟨none,H,I,.none,h⟩
theorem Yl (h:PE X e te):PO X (some e) (j7 te):=by
 intro pins s σ H Q I hw
 rw[evalPart_some]
 refine ak (h pins s σ H _ I hw) fun u s1 ⟨x,H1,I1,r1,q1⟩=> ?_
 obtain⟨i,rfl,q⟩:=q1
 obtain⟨t,rfl⟩:=r1
 exact⟨some i,H1,I1,.int i t,q⟩
def sR (X:Cx) (r:V→Option Int→Option Int→Hp→VK→Prop):Prop:=
 ∀(pins:List (Addr×Obj)) (s:Shared) (σ:St) (H:Hp) (x:V) (v vl vu:Value) (lo hi:Option Int) (sl:Addr) (Q:VK),Inv X pins σ H s→RelV x v→s.heap.IsSliceOf sl vl vu .none→IsPart vl lo→IsPart vu hi→r x lo hi H Q→
  ∃T id,typeLookup (.type T) "__getitem__" =pure (some (.builtin id))∧s.TypeIs v T∧wpAny (model X.prog X.w) X.A (getItem v (.ref sl)) (EP X pins σ Q) X.xe s
def j6 (r:V→Option Int→Option Int→Hp→VK→Prop) (te:TE) (tl th:TO):TE:=fun σ H Q=>te σ H fun x H1=>tl σ H1 fun l H2=>th σ H2 fun u H3=>r x l u H3 Q
theorem Ye {r:V→Option Int→Option Int→Hp→VK→Prop}(hr:sR X r) (he:PE X e te) (hl:PO X lo tl) (hu:PO X hi th):PE X (.Subscript e (.Slice lo hi none p2) pos) (j6 r te tl th):=by
 intro pins s σ H Q I h
 refine Subscript_ (ak (he pins s σ H _ I h) fun v s1 ⟨x,H1,I1,r1,q1⟩=> ?_)
 refine wpAny_Slice (ak (hl pins s1 σ H1 _ I1 q1) fun vl s2 ⟨l,H2,I2,pl,q2⟩=>ak (hu pins s2 σ H2 _ I2 q2) fun vu s3 ⟨u,H3,I3,pu,q3⟩=> ?_)
 rw[evalPart_none]
 refine wpAny_pure ?_
 have I4:Inv X pins σ H3 {s3 with heap:=s3.heap.push {cls:=.type "slice",data:=.fields #[vl,vu,.none]} } :=I3.kept (t':=s3.toks) fun b ob q=>Heap.get?_push_of_some _ q
 obtain⟨T,id,hT,ht,hg⟩:=hr pins {s3 with heap:=s3.heap.push {cls:=.type "slice",data:=.fields #[vl,vu,.none]} } σ H3 x v vl vu l u s3.heap.objs.size Q I4 r1 (Heap.IsSliceOf.new ..) pl pu q3
 show wpAny (model X.prog X.w) X.A (subscriptTail e (.Slice lo hi none p2) v (.ref s3.heap.objs.size)) (EP X pins σ Q) X.xe {s3 with heap:=s3.heap.push {cls:=.type "slice",data:=.fields #[vl,vu,.none]} }
 exact tail_any (ops:=[.ref s3.heap.objs.size,v]) ht hT hg (by with_unfolding_all rfl)
def gn (xs:List V) (lo hi:Option Int):List V:=(xs.drop (HT.aQ xs.length 0 lo)).take (HT.aQ xs.length xs.length hi - HT.aQ xs.length 0 lo)
theorem Wg (xs:List V) (lo hi:Option Int):(gn xs lo hi).length≤xs.length:=by
 unfold gn
 rw[List.length_take,List.length_drop]
 omega
def fO (K:PySem.W.Frag):V→Option Int→Option Int→Hp→VK→Prop:=fun x lo hi H Q=> ∃a xs,x=.ref a∧ah K H a xs∧
 ¬(HT.aQ xs.length 0 lo=0∧HT.aQ xs.length xs.length hi=xs.length)∧∀p,H p=none→Q (.ref p) (upd H p (.tup (gn xs lo hi)))
theorem YK:sR X (fO X.K):=by
 intro pins s σ H x v vl vu lo hi sl Q I rx hs pl pu h
 obtain⟨a,xs,rfl,hx,hw,q⟩:=h
 cases rx
 obtain⟨its,r,ht,hz⟩:=I.tuple hx
 have hlen:its.toArray.size=xs.length:=by rw[List.size_toArray];exact r.length.symm
 refine⟨"tuple",_,PyProof.Rows.slot_tuple_getitem.lookup,ht.typeIs,?_⟩
 refine HT.zy ht hs pl pu (by rw[hlen];exact hw) ?_ (by rw[hlen];exact hz)
 rw[hlen]
 refine⟨.ref s.heap.objs.size,_,I.laid (t':=s.toks) (o:=.tup (gn xs lo hi)) (fun b ob q=>Heap.get?_push_of_some _ q) (Nat.le_refl _) ?_,rfl,q _ (I.af.fresh (Nat.le_refl _))⟩
 exact⟨Nat.le_trans (Wg xs lo hi) hz,_,(r.drop (HT.aQ xs.length 0 lo)).take (HT.aQ xs.length xs.length hi - HT.aQ xs.length 0 lo),IsTup.new _ _,_,Heap.get?_push_size _ rfl,rfl⟩
def qq (K:PySem.W.Frag):R2:=fun x y H Q=> ∃a b xs ys,x=.ref a∧y=.ref b∧ah K H a xs∧ah K H b ys∧xs≠[]∧xs.length+ys.length≤sizeLine∧
 (ys=[]→Q (.ref a) H)∧(ys≠[]→∀p,H p=none→Q (.ref p) (upd H p (.tup (xs++ys))))
theorem Vals.nJ {xs:List V}{us:List Value}(r:Vals xs us):us=[]↔xs=[]:=by
 cases r with
 |nil=>simp
 |cons _ _=>simp
theorem U7:aW X (binaryOp .Add) (qq X.K):=by
 intro pins s σ H x y v u Q I rx ry h
 obtain⟨a,b,xs,ys,rfl,rfl,ha,hb,hx,hz,q1,q2⟩:=h
 cases rx
 cases ry
 obtain⟨its,r1,p1,_⟩:=I.tuple ha
 obtain⟨gN,r2,p2,_⟩:=I.tuple hb
 refine HT.Ar p1 p2 (fun z=>hx (r1.nJ.mp z)) (fun z=> ⟨.ref a,H,I,rfl,q1 (r2.nJ.mp z)⟩) (fun z=> ?_) (by rw[←r1.length,←r2.length];exact hz)
 refine⟨.ref s.heap.objs.size,_,I.laid (t':=s.toks) (o:=.tup (xs++ys)) (fun b ob q=>Heap.get?_push_of_some _ q) (Nat.le_refl _) ?_,rfl,q2 (fun w=>z (r2.nJ.mpr w)) _ (I.af.fresh (Nat.le_refl _))⟩
 exact⟨by rw[List.length_append];exact hz,_,r1.append r2,IsTup.new _ _,_,Heap.get?_push_size _ rfl,rfl⟩
end
def fq (n:Nat) (i:Int):Option Nat:=if 0≤i then (if i<n then some i.toNat else none) else if -(n:Int)≤i then some (i+n).toNat else none
def ej {α:Type} (xs:List α) (i:Int):Option α:=(fq xs.length i).bind fun j=>xs[j]?
theorem JV {n:Nat}{i:Int}{j:Nat}(h:fq n i=some j):seqIndex? i n=some j∧j<n∧ -(n:Int)≤i∧i<n:=by
 unfold fq at h
 by_cases h0:0≤i
 ·rw[if_pos h0]at h
  by_cases h1:i<n
  ·rw[if_pos h1]at h
   have e:i.toNat=j:=Option.some.inj h
   exact⟨by rw[seqIndex_of h0 h1,e],by omega,by omega,h1⟩
  ·rw[if_neg h1]at h;cases h
 ·rw[if_neg h0]at h
  by_cases h1: -(n:Int)≤i
  ·rw[if_pos h1]at h
   have e:(i+n).toNat=j:=Option.some.inj h
   exact⟨by rw[seqIndex_neg (by omega) h1,e],by omega,h1,by omega⟩
  ·rw[if_neg h1]at h;cases h
theorem W0 {α:Type}{xs:List α}{i:Int}{v:α}(h:ej xs i=some v):∃j,seqIndex? i xs.length=some j∧xs[j]? =some v∧j<xs.length∧ -(xs.length:Int)≤i∧i<xs.length:=by
 unfold ej at h
 cases e:fq xs.length i with
 |none=>rw[e]at h;cases h
 |some j=>
  rw[e]at h
  obtain⟨h1,h2,h3,h4⟩:=JV e
  exact⟨j,h1,h,h2,h3,h4⟩
theorem Z4 {α:Type}{xs:List α}{j:Nat}{v:α}(h:xs[j]? =some v):ej xs (j:Int)=some v:=by
 have hj:j<xs.length:=(List.getElem?_eq_some_iff.mp h).1
 have e:fq xs.length (j:Int)=some j:=by
  unfold fq
  rw[if_pos (by omega),if_pos (by omega)];simp
 unfold ej;rw[e];exact h
def BM (b:Expr):Prop:=∀o i,subscripted b false o i=operate [o,i] (getItem o i)
def lI (X:Cx) (r:R2):Prop:=
 ∀(value slice:Expr) (pins:List (Addr×Obj)) (s:Shared) (σ:St) (H:Hp) (x y:V) (v u:Value) (Q:VK),Inv X pins σ H s→RelV x v→RelV y u→r x y H Q→
  subscripted slice false v u=operate [v,u] (getItem v u)→wpAny (model X.prog X.w) X.A (subscriptTail value slice v u) (EP X pins σ Q) X.xe s
def sU (X:Cx) (id:String) (r:V→List V→Hp→VK→Prop):Prop:=
 ∀(pins:List (Addr×Obj)) (s:Shared) (σ:St) (H:Hp) (x:V) (xs:List V) (v:Value) (us:List Value) (Q:VK),Inv X pins σ H s→RelV x v→Vals xs us→r x xs H Q→
  wpAny (model X.prog X.w) X.A (call (.builtin id) (v::us)) (EP X pins σ Q) X.xe s
section
variable {X:Cx}{a b:Expr}{ta tb:TE}{pos:Pos}
theorem Zx {r:R2}(hr:lI X r) (ha:PE X a ta) (hb:PE X b tb) (hs:BM b):PE X (.Subscript a b pos) (hG r ta tb):=by
 intro pins s σ H Q I h
 exact Subscript_ (oY ha hb I h fun v u s2 x y H2 I2 rx ry q=>hr a b pins s2 σ H2 x y v u Q I2 rx ry q (hs _ _))
def qo (K:PySem.W.Frag):R2:=fun x y H Q=> ∃p xs i v,x=.ref p∧y=.int i∧ai K H p xs∧ej xs i=some v∧Q v H
def vA (K:PySem.W.Frag):R2:=fun x y H Q=> ∃p xs i v,x=.ref p∧y=.int i∧ah K H p xs∧ej xs i=some v∧Q v H
theorem ZG:lI X (qo X.K):=by
 intro value slice pins s σ H x y v u Q I rx ry h hs
 obtain⟨p,xs,i,z,rfl,rfl,hq,he,q⟩:=h
 cases rx
 obtain⟨t,rfl⟩:=ry
 obtain⟨its,r,pl,hz⟩:=I.list hq
 obtain⟨j,h1,h2,h3,h4,h5⟩:=W0 he
 obtain⟨w,ew,dS⟩:=r.get h2
 have hl:=r.length
 have hn:=kK
 have fin:EP X pins σ Q w s:=⟨z,H,I,dS,q⟩
 by_cases h0:0≤i
 ·have hj:i.toNat=j:=by
   rw[seqIndex_of h0 h5]at h1
   exact Option.some.inj h1
  exact item_listR pl.isList h0 (by omega) (by rw[hj];simpa using ew) fin hs
 ·have hj:(i+(its.toArray.size:Int)).toNat=j:=by
   rw[seqIndex_neg (by omega) h4]at h1
   rw[List.size_toArray,←hl]
   exact Option.some.inj h1
  exact subscriptTail_builtinR (x:=w) pl.isList.typeIs slot_list_getitem.lookup
   (wpAny_getItem_list_neg (Q:=fun r s'=>r=w∧EP X pins σ Q r s') pl.isList (by omega) (by rw[List.size_toArray]<;>omega) (by omega) (by rw[hj];simpa using ew) ⟨rfl,fin⟩) hs
theorem ZI:lI X (vA X.K):=by
 intro value slice pins s σ H x y v u Q I rx ry h hs
 obtain⟨p,xs,i,z,rfl,rfl,hq,he,q⟩:=h
 cases rx
 obtain⟨t,rfl⟩:=ry
 obtain⟨its,r,pl,hz⟩:=I.tuple hq
 obtain⟨j,h1,h2,h3,h4,h5⟩:=W0 he
 obtain⟨w,ew,dS⟩:=r.get h2
 have hl:=r.length
 have hn:=kK
 have fin:EP X pins σ Q w s:=⟨z,H,I,dS,q⟩
 exact subscriptTail_builtinR (x:=w) pl.typeIs slot_tuple_getitem.lookup
  (getItem_tuple (j:=j) (Q:=fun r s'=>r=w∧EP X pins σ Q r s') pl (by omega) (by omega) (by rw[List.size_toArray,←hl];exact h1) (by simpa using ew) ⟨rfl,fin⟩) hs
theorem Wy (its:List Value) (n j:Nat) (u:Value):Obj.mapSeq (·.setIfInBounds j u) {cls:=.type "list",data:=.seq its.toArray n} = {cls:=.type "list",data:=.seq (its.set j u).toArray n} :=by
 simp[Obj.mapSeq]
theorem Inv.lst {pins:List (Addr×Obj)}{σ:St}{H:Hp}{s:Shared}{p:Addr}{xs:List V}(I:Inv X pins σ H s) (h:H p=some (.lst xs)):
  ∃(its:List Value) (n:Nat),Vals xs its∧s.heap.get? p=some {cls:=.type "list",data:=.seq its.toArray n}∧xs.length≤sizeLine:=by
 obtain⟨z,its,n,r,e⟩:=I.af p _ h
 exact⟨its,n,r,e,z⟩
theorem Inv.wA {pins:List (Addr×Obj)}{σ:St}{H:Hp}{s:Shared}{p:Addr}{xs ys:List V}{its its':List Value}{n n':Nat}{f:Obj→Obj}(I:Inv X pins σ H s) (h:H p=some (.lst xs))
  (ho:s.heap.get? p=some {cls:=.type "list",data:=.seq its.toArray n}) (hf:f {cls:=.type "list",data:=.seq its.toArray n} = {cls:=.type "list",data:=.seq its'.toArray n'}) (r:Vals ys its') (hz:ys.length≤sizeLine) (t:Nat):
  Inv X pins σ (upd H p (.lst ys)) {s with heap:=s.heap.update p f,toks:=t} :=by
 have e:(s.heap.update p f).get? p=some {cls:=.type "list",data:=.seq its'.toArray n'} :=by
  rw[Heap.get?_update_self f ho (by rw[hf]<;>rfl),hf]
 refine I.write (x:=p) (e:=p) (by rw[h];trivial) (.inl rfl) (fun b u hb q=> (Heap.get?_update_other _ _ (Ne.symm hb)).trans q) ⟨_,e⟩ ?_
 exact⟨hz,its',n',r,e⟩
def vq:V→V→V→Hp→(Hp→Prop)→Prop:=fun o i v H Q=> ∃p xs k j,o=.ref p∧i=.int k∧H p=some (.lst xs)∧fq xs.length k=some j∧Q (upd H p (.lst (xs.set j v)))
theorem JZ:sS X vq:=by
 intro pins s σ H o i v ov iv u Q I ro ri rv h
 obtain⟨p,xs,k,j,rfl,rfl,hp,hj,q⟩:=h
 cases ro
 obtain⟨t,rfl⟩:=ri
 obtain⟨its,n,r,ho,hz⟩:=I.lst hp
 obtain⟨h1,h2,h3,h4⟩:=JV hj
 have hl:=r.length
 have hn:=kK
 have I':Inv X pins σ (upd H p (.lst (xs.set j v))) {s with heap:=s.heap.update p (Obj.mapSeq (·.setIfInBounds j u))} :=
  I.wA hp ho (Wy its n j u) (r.set rv j) (by rw[List.length_set];exact hz) s.toks
 by_cases h0:0≤k
 ·have hk:k.toNat=j:=by
   rw[seqIndex_of h0 h4]at h1
   exact Option.some.inj h1
  exact PySem.W.ki_setAt ho h0 (by omega) (by rw[List.size_toArray,←hl];exact h4) (by rw[hk];exact⟨_,I',q⟩)
 ·have hk:(k+(its.toArray.size:Int)).toNat=j:=by
   rw[seqIndex_neg (by omega) h3]at h1
   rw[List.size_toArray,←hl]
   exact Option.some.inj h1
  exact PySem.W.ki_setBack ho (by omega) (by rw[List.size_toArray,←hl];exact h3) (by omega) (by rw[hk];exact⟨_,I',q⟩)
def du:V→Bool
 | .aa=>true
 | .bl _=>true
 | .int _=>true
 | .str _=>true
 |_=>false
def bO:V→V→Bool
 | .aa,.aa=>true
 | .bl a,.bl b=>a==b
 | .bl a,.int b=> (if a then 1 else 0)==b
 | .int a,.bl b=>a==(if b then 1 else 0)
 | .int a,.int b=>a==b
 | .str a,.str b=>a==b
 |_,_=>false
theorem UR {A:Around}{s:Shared}{y x:V}{u v:Value}(ry:RelV y u) (rx:RelV x v) (fy:du y=true) (fx:du x=true):SeqAt.EqAt A s u v (bO y x):=by
 cases y with
 |aa=>
  cases ry
  cases x with
  |aa=>cases rx;exact SeqAt.EqAt.same _
  |bl b=>cases rx;exact SeqAt.EqAt.none_bool b
  |int b=>obtain⟨t,rfl⟩:=rx;exact SeqAt.EqAt.none_int b t
  |str b=>obtain⟨t,rfl⟩:=rx;exact SeqAt.EqAt.none_str b t
  |_=>exact absurd (show false=true from fx) Bool.false_ne_true
 |bl a=>
  cases ry
  cases x with
  |aa=>cases rx;exact SeqAt.EqAt.bool_none a
  |bl b=>cases rx;exact SeqAt.EqAt.bool_bool a b
  |int b=>obtain⟨t,rfl⟩:=rx;exact SeqAt.EqAt.bool_int a b t
  |str b=>obtain⟨t,rfl⟩:=rx;exact SeqAt.EqAt.bool_str a b t
  |_=>exact absurd (show false=true from fx) Bool.false_ne_true
 |int a=>
  obtain⟨t',rfl⟩:=ry
  cases x with
  |aa=>cases rx;exact SeqAt.EqAt.int_none a t'
  |bl b=>cases rx;exact SeqAt.EqAt.int_bool a t' b
  |int b=>obtain⟨t,rfl⟩:=rx;exact SeqAt.EqAt.int_int a t' b t
  |str b=>obtain⟨t,rfl⟩:=rx;exact SeqAt.EqAt.int_str a t' b t
  |_=>exact absurd (show false=true from fx) Bool.false_ne_true
 |str a=>
  obtain⟨t',rfl⟩:=ry
  cases x with
  |aa=>cases rx;exact SeqAt.EqAt.str_none a t'
  |bl b=>cases rx;exact SeqAt.EqAt.str_bool a t' b
  |int b=>obtain⟨t,rfl⟩:=rx;exact SeqAt.EqAt.str_int a t' b t
  |str b=>obtain⟨t,rfl⟩:=rx;exact SeqAt.EqAt.str_str a t' b t
  |_=>exact absurd (show false=true from fx) Bool.false_ne_true
 |_=>exact absurd (show false=true from fy) Bool.false_ne_true
def cN (x:V) (u:Value):Bool:=match u with
 | .none=>bO .aa x
 | .bool b=>bO (.bl b) x
 | .int i _=>bO (.int i) x
 | .str z _=>bO (.str z) x
 |_=>false
theorem UQ {x y:V}{u:Value}(r:RelV y u) (f:du y=true):cN x u=bO y x:=by
 cases y with
 |aa=>cases r;rfl
 |bl b=>cases r;rfl
 |int i=>obtain⟨t,rfl⟩:=r;rfl
 |str z=>obtain⟨t,rfl⟩:=r;rfl
 |_=>exact absurd (show false=true from f) Bool.false_ne_true
theorem YI {x:V} :∀{xs:List V}{us:List Value},Vals xs us→xs.all du=true→us.any (cN x)=xs.any fun y=>bO y x
 |_,_,.nil,_=>rfl
 |y::xs,u::us,.cons r t,f=>by
  rw[List.all_cons,Bool.and_eq_true]at f
  rw[List.any_cons,List.any_cons,UQ r f.1,YI t f.2]
theorem Yj {A:Around}{s:Shared}{x:V}{v:Value}(rx:RelV x v) (fx:du x=true):∀{xs:List V}{us:List Value},Vals xs us→xs.all du=true→∀u∈us,SeqAt.EqAt A s u v (cN x u)
 |_,_,.nil,_=>fun u hu=>by cases hu
 |y::xs,u::us,.cons r t,f=>fun u' hu=>by
  rw[List.all_cons,Bool.and_eq_true]at f
  rcases List.mem_cons.mp hu with rfl |hu
  ·rw[UQ r f.1];exact UR r rx f.1 fx
  ·exact Yj rx fx t f.2 u' hu
def fX (x:V) (xs:List V):Bool:=xs.any fun y=>bO y x
def qp (K:PySem.W.Frag) (neg:Bool):R2:=fun x y H Q=> ∃p xs,y=.ref p∧(ai K H p xs∨ah K H p xs)∧du x=true∧xs.all du=true∧Q (.bl (if neg then !fX x xs else fX x xs)) H
theorem W7:aW X (compareOp .In) (qp X.K false):=by
 intro pins s σ H x y v u Q I rx ry h
 obtain⟨p,xs,rfl,hq,fx,fs,q⟩:=h
 cases ry
 rcases hq with hq |hq
 ·obtain⟨its,r,pl,hz⟩:=I.list hq
  refine SeqAt.in_listAt (cN x) pl.isList (fun w hw=>Yj rx fx r fs w (by simpa using hw)) ⟨.bl _,H,I,rfl,?_⟩
  rw[show its.toArray.any (cN x)=its.any (cN x) by simp,YI r fs]
  exact q
 ·obtain⟨its,r,pl,hz⟩:=I.tuple hq
  refine SeqAt.in_tupleAt (cN x) pl (fun w hw=>Yj rx fx r fs w (by simpa using hw)) ⟨.bl _,H,I,rfl,?_⟩
  rw[show its.toArray.any (cN x)=its.any (cN x) by simp,YI r fs]
  exact q
theorem Yh:aW X (compareOp .NotIn) (qp X.K true):=by
 intro pins s σ H x y v u Q I rx ry h
 obtain⟨p,xs,rfl,hq,fx,fs,q⟩:=h
 cases ry
 rcases hq with hq |hq
 ·obtain⟨its,r,pl,hz⟩:=I.list hq
  refine SeqAt.notIn_listAt (cN x) pl.isList (fun w hw=>Yj rx fx r fs w (by simpa using hw)) ⟨.bl _,H,I,rfl,?_⟩
  rw[show its.toArray.any (cN x)=its.any (cN x) by simp,YI r fs]
  exact q
 ·obtain⟨its,r,pl,hz⟩:=I.tuple hq
  refine SeqAt.notIn_tupleAt (cN x) pl (fun w hw=>Yj rx fx r fs w (by simpa using hw)) ⟨.bl _,H,I,rfl,?_⟩
  rw[show its.toArray.any (cN x)=its.any (cN x) by simp,YI r fs]
  exact q
theorem Zr:cj X (.builtin "len") (fun xs H Q=> ∃p ys,xs=[.ref p]∧(ai X.K H p ys∨ah X.K H p ys)∧Q (.int ys.length) H):=by
 intro pins s σ H xs us Q I r h
 obtain⟨p,ys,rfl,hq,q⟩:=h
 obtain⟨u,rfl,rx⟩:=vals1 r
 cases rx
 have hn:=kK
 rcases hq with hq |hq
 ·obtain⟨its,r',pl,hz⟩:=I.list hq
  have hlen:=r'.length
  exact Calls.call_len_list pl.isList (by simp only[List.size_toArray]<;>omega) ⟨.int ys.length,H,I.tok _,⟨s.toks+1,by rw[List.size_toArray,hlen]⟩,q⟩
 ·obtain⟨its,r',pl,hz⟩:=I.tuple hq
  have hlen:=r'.length
  exact len_tuple pl (by simp only[List.size_toArray]<;>omega) ⟨.int ys.length,H,I.tok _,⟨s.toks+1,by rw[List.size_toArray,hlen]⟩,q⟩
theorem YH:cj X (.type "list") (fun xs H Q=> ∃p ys,xs=[.ref p]∧(ai X.K H p ys∨ah X.K H p ys)∧∀l,H l=none→Q (.ref l) (upd H l (.lst ys))):=by
 intro pins s σ H xs us Q I r h
 obtain⟨p,ys,rfl,hq,q⟩:=h
 obtain⟨u,rfl,rx⟩:=vals1 r
 cases rx
 have fin:∀(its:List Value),Vals ys its→ys.length≤sizeLine→∀(h':Heap) (c':Nat),(∀b o',s.heap.get? b=some o'→h'.get? b=some o')→
   h'.get? s.heap.objs.size=some {cls:=.type "list",dict:=none,data:=.seq its.toArray c',slots:= #[]}→EP X pins σ Q (.ref s.heap.objs.size) {s with heap:=h'} :=fun its r' hz h' c' kp e=>
  ⟨.ref s.heap.objs.size,_,I.laid (t':=s.toks) kp (Nat.le_refl _) (show aX X.prog X.w _ h' _ (.lst ys) from ⟨hz,its,c',r',e⟩),rfl,q _ (I.af.fresh (Nat.le_refl _))⟩
 rcases hq with hq |hq
 ·obtain⟨its,r',pl,hz⟩:=I.list hq
  have hlen:=r'.length
  obtain⟨o,ho,hc,n,hd⟩:=pl.isList
  exact call_list_seq p (.inl rfl) ho hc hd (fun h' c' kp e=>fin its r' hz h' c' kp e) (by simp only[List.size_toArray]<;>omega)
 ·obtain⟨its,r',pl,hz⟩:=I.tuple hq
  have hlen:=r'.length
  obtain⟨o,ho,hc,n,hd⟩:=pl
  exact call_list_seq p (.inr rfl) ho hc hd (fun h' c' kp e=>fin its r' hz h' c' kp e) (by simp only[List.size_toArray]<;>omega)
theorem Jn:cj X (.type "tuple") (fun xs H Q=> ∃p ys,xs=[.ref p]∧((ai X.K H p ys∧∀l,H l=none→Q (.ref l) (upd H l (.tup ys)))∨(ah X.K H p ys∧Q (.ref p) H))):=by
 intro pins s σ H xs us Q I r h
 obtain⟨p,ys,rfl,h⟩:=h
 obtain⟨u,rfl,rx⟩:=vals1 r
 cases rx
 rcases h with ⟨hq,q⟩ |⟨hq,q⟩
 ·obtain⟨its,r',pl,hz⟩:=I.list hq
  have hlen:=r'.length
  refine call_tuple_list pl.isList (fun h' kp=> ?_) (by simp only[List.size_toArray]<;>omega)
  have I1:Inv X pins σ H {s with heap:=h'} :=I.kept (t':=s.toks) kp
  have I2:Inv X pins σ (upd H h'.objs.size (.tup ys)) {s with heap:=h'.push {cls:=.type "tuple",data:=.seq its.toArray} } :=
   I1.laid (t':=s.toks) (fun b o e=>Heap.get?_push_of_some _ e) (Nat.le_refl _) (show aX X.prog X.w _ _ _ (.tup ys) from ⟨hz,its,r',IsTup.new _ _,_,Heap.get?_push_size _ rfl,rfl⟩)
  exact⟨.ref h'.objs.size,_,I2,rfl,q _ (I1.af.fresh (Nat.le_refl _))⟩
 ·obtain⟨its,r',pl,hz⟩:=I.tuple hq
  exact call_tuple_same pl ⟨.ref p,H,I,rfl,q⟩
def pN (K:PySem.W.Frag) (T:String) (x:V) (H:Hp):Prop:=match x with
 | .str _=>T= "str"
 | .int _=>T= "int"
 | .ref p=> (T= "list" ∧∃xs,ai K H p xs)∨(T= "tuple" ∧((∃o,K.lookup p=some o∧o.cls=.type "tuple" ∧o.dict=none)∨∃xs,H p=some (.tup xs)))∨
   (T= "dict" ∧((∃kvs,H p=some (.dK kvs))∨∃kvs,H p=some (.dT kvs)))∨(T= "set" ∧∃S n,H p=some (.set S n))
 |_=>False
theorem AQ {pins:List (Addr×Obj)}{σ:St}{H:Hp}{s:Shared}{T:String}{x:V}{v:Value}(I:Inv X pins σ H s) (r:RelV x v) (ty:pN X.K T x H):
  s.TypeIs v T∧∀a,v=.ref a→∃ob,s.heap.get? a=some ob∧ob.dict=none:=by
 cases x with
 |str z=>
  obtain⟨t,rfl⟩:=r
  cases (show T= "str" from ty)
  exact⟨typeIs_str s z t,fun _ e=>nomatch e⟩
 |int i=>
  obtain⟨t,rfl⟩:=r
  cases (show T= "int" from ty)
  exact⟨typeIs_int s i t,fun _ e=>nomatch e⟩
 |ref p=>
  cases r
  rcases ty with ⟨rfl,xs,hq⟩ |⟨rfl,⟨o,hk,hc,hd⟩ |⟨xs,hx⟩⟩ |⟨rfl,hk⟩ |⟨rfl,S,n,hk⟩
  ·obtain⟨its,_,pl,_⟩:=I.list hq
   refine⟨pl.isList.typeIs,fun a e=> ?_⟩
   cases e
   obtain⟨o,n,e,c,hd,_⟩:=pl
   exact⟨o,e,hd⟩
  ·refine⟨⟨o,I.bp p o hk,hc⟩,fun a e=> ?_⟩
   cases e
   exact⟨o,I.bp _ o hk,hd⟩
  ·obtain⟨_,_,_,⟨o,e,c,_⟩,o2,e2,hd⟩:=(show aX X.prog X.w H s.heap p (.tup xs) from I.af p _ hx)
   refine⟨⟨o,e,c⟩,fun a e3=> ?_⟩
   cases e3
   exact⟨o2,e2,hd⟩
  ·have z:∃o,s.heap.get? p=some o∧o.ExactDict:=by
    rcases hk with ⟨kvs,hk⟩ |⟨kvs,hk⟩
    ·obtain⟨_,_,_,_,o,_,_,e,ex,_⟩:=I.af p _ hk
     exact⟨o,e,ex⟩
    ·obtain⟨_,_,_,_,o,_,_,e,ex,_⟩:=I.af p _ hk
     exact⟨o,e,ex⟩
   obtain⟨o,e,ex⟩:=z
   refine⟨⟨o,e,ex.1⟩,fun a e2=> ?_⟩
   cases e2
   exact⟨o,e,ex.2.1⟩
  ·obtain⟨o,_,_,_,e,ex,_⟩:=I.af p _ hk
   refine⟨⟨o,e,ex.1⟩,fun a e2=> ?_⟩
   cases e2
   exact⟨o,e,ex.2.1⟩
 |_=>exact False.elim ty
def pX (K:PySem.W.Frag) (T:String) (r:V→List V→Hp→VK→Prop) (to:TE) (t:TA):TE:=fun σ H Q=>to σ H fun x H1=>pN K T x H1∧t σ H1 fun xs H2=>r x xs H2 Q
variable {o e:Expr}{es:List Expr}{to:TE}{t:TA}{name:Str}{apos bb:Pos}{T id:String}{r:V→List V→Hp→VK→Prop}
theorem J5 (pa:PlainAttrs T) (slot:Slot T name id) (xl:typeOf (.builtin id)=pure (.type "method_descriptor")) (hm:sU X id r) (ho:PE X o to) (ha:PA X (e::es) t)
    (yX:attributeBase o name X.env (eval o X.env)=eval o X.env:=by rfl)
    (yu:((backTo bb (starEach (e::es) X.env)).all (fun x=> !x.1)&&(backToKw bb (keywordEach [] X.env)).all (fun x=>x.1.isSome)
      &&decide ((e::es).length+([]:List Keyword).length+(if ([]:List Keyword).isEmpty then 0 else 1)<30))=true:=by rfl)
    (yf:(apos.endLine==bb.line)=true:=by rfl) (hs:starEach (e::es) X.env=(false,eval e X.env)::starEach es X.env:=by rfl) (xU:(backTo bb (starEach es X.env)).any (·.1)=false:=by rfl):
    PE X (.Call (.Attribute o name apos) (e::es) [] bb) (pX X.K T r to t):=by
  intro pins s σ H Q I h
  refine wpAny_Call_method_late yX yu yf rfl (ak (ho pins s σ H _ I h) fun v s1 ⟨x,H1,I1,r1,ty,q1⟩=> ?_)
  obtain⟨h1,h2⟩:=AQ I1 r1 ty
  refine⟨T,id,pa,slot,xl,h1,h2,?_⟩
  have hA:=ha bb pins s1 σ H1 _ I1 q1
  rw[hs]at hA ⊢
  refine Calls.callWith_builtin (by show(false||(backTo bb (starEach es X.env)).any (·.1))=false;rw[xU]<;>rfl) (Calls.evalArgs_plain ?_)
  exact ak hA fun us s2 ⟨vs,H2,I2,r2,q2⟩=>hm pins s2 σ H2 x vs v us Q I2 r1 r2 q2
end
def sV (X:Cx) (id:String) (r:V→List V→Hp→VK→Prop):Prop:=
 ∀(pins:List (Addr×Obj)) (s:Shared) (σ:St) (H:Hp) (x:V) (xs:List V) (v:Value) (us:List Value) (Q:VK),Inv X pins σ H s→RelV x v→Vals xs us→r x xs H Q→
  wpAny (model X.prog X.w) X.A (call (.builtin id) (v::us)) (EP X pins σ Q) X.xe s
theorem Vals.one:∀{x:V}{us:List Value},Vals [x] us→∃u,us=[u]∧RelV x u
 |_,_,.cons r .nil=> ⟨_,rfl,r⟩
theorem Vals.eraseIdx:∀{xs:List V}{us:List Value}(i:Nat),Vals xs us→Vals (xs.eraseIdx i) (us.eraseIdx i)
 |_,_,_,.nil=> .nil
 |_,_,0,.cons _ t=>t
 |_,_,i+1,.cons r t=> .cons r (Vals.eraseIdx i t)
theorem Vals.rep {xs:List V}{us:List Value}(h:Vals xs us):∀k:Nat,Vals (List.replicate k xs).flatten (List.replicate k us).flatten
 |0=> .nil
 |k+1=>by
  rw[List.replicate_succ,List.replicate_succ,List.flatten_cons,List.flatten_cons]
  exact Vals.append h (Vals.rep h k)
theorem Jx {α:Type} :∀(l:List α) (i:Nat),(l.eraseIdx i).length≤l.length
 | [],_=>Nat.le_refl _
 |_::_,0=>Nat.le_succ _
 |_::r,i+1=>Nat.succ_le_succ (Jx r i)
theorem JA (its:List Value):∀(k:Nat) (acc:List Value),
  List.foldl (fun x1 x2=>x1++x2) acc.toArray (List.replicate k its.toArray)=(acc++(List.replicate k its).flatten).toArray
 |0,acc=>by simp
 |k+1,acc=>by
  have e:acc.toArray++its.toArray=(acc++its).toArray:=by simp
  have e2:(acc++its)++(List.replicate k its).flatten=acc++(List.replicate (k+1) its).flatten:=by
   rw[List.replicate_succ,List.flatten_cons,List.append_assoc]
  rw[←e2,←JA its k (acc++its),←e,List.replicate_succ,List.foldl_cons]
section
variable {X:Cx}{pins:List (Addr×Obj)}{σ:St}{H:Hp}{s:Shared}{l b:Addr}{xs ys zs:List V}
theorem Inv.qL {its its':List Value}{n:Nat}{f:Array Value→Array Value}{t':Nat}(I:Inv X pins σ H s) (hH:H l=some (.lst xs))
  (e:s.heap.get? l=some {cls:=.type "list",data:=.seq its.toArray n}) (hf:f its.toArray=its'.toArray) (hv:Vals ys its') (hz:ys.length≤sizeLine):
  Inv X pins σ (upd H l (.lst ys)) {s with heap:=s.heap.update l (Obj.mapSeq f),toks:=t'} :=by
 have q:=PySem.IsL.update e f
 rw[hf]at q
 refine I.write (x:=l) (e:=l) (by rw[hH];exact trivial) (.inl rfl) (fun b' u hb hu=> (Heap.get?_update_other s.heap (Obj.mapSeq f) (Ne.symm hb)).trans hu) ⟨_,q⟩ ?_
 exact⟨hz,its',_,hv,q⟩
theorem Inv.wC {its:List Value}{t':Nat}(I:Inv X pins σ H s) (hv:Vals ys its) (hz:ys.length≤sizeLine):
  Inv X pins σ (upd H s.heap.objs.size (.lst ys)) {s with heap:=s.heap.push {cls:=.type "list",data:=.seq its.toArray},toks:=t'} :=
 I.laid (fun _ _ q=>Heap.get?_push_of_some _ q) (Nat.le_refl _) ⟨hz,its,0,hv,Heap.get?_push_size _ rfl⟩
theorem Inv.fresh (I:Inv X pins σ H s):H s.heap.objs.size=none:=I.af.fresh (Nat.le_refl _)
theorem Inv.kJ (I:Inv X pins σ H s) (hH:H l=some (.lst xs)):xs.length≤sizeLine∧∃(its:List Value) (n:Nat),Vals xs its∧xs.length=its.length∧s.heap.get? l=some {cls:=.type "list",data:=.seq its.toArray n} :=by
 obtain⟨z,its,n,r,e⟩:=I.af l _ hH
 exact⟨z,its,n,r,r.length,e⟩
end
section
variable {X:Cx}
def qr:V→List V→Hp→VK→Prop:=fun x vs H Q=> ∃l xs y,x=.ref l∧vs=[y]∧H l=some (.lst xs)∧xs.length<sizeLine∧Q .aa (upd H l (.lst (xs++[y])))
theorem YN:sV X "list.append" qr:=by
 intro pins s σ H x vs v us Q I rx rv h
 obtain⟨l,xs,y,rfl,rfl,hH,hz,q⟩:=h
 cases rx
 obtain⟨u,rfl,ru⟩:=rv.one
 obtain⟨z,its,n,r,hl,e⟩:=I.kJ hH
 refine call_meets F.slot_list_append ⟨_,e,rfl⟩ F.entry_list_append (F.args_list_append_2 _ _) (PySem.list_append l its.toArray n u (by rw[List.size_toArray];omega)) ⟨e,?_⟩
 refine⟨.aa,_,I.qL (its':=its++[u]) hH e (by simp) (r.append (.cons ru .nil)) ?_,rfl,q⟩
 rw[List.length_append,List.length_singleton]
 omega
def vw:V→List V→Hp→VK→Prop:=fun x vs H Q=> ∃l xs i k y,x=.ref l∧vs=[.int i]∧H l=some (.lst xs)∧ -(2^63)≤i∧i<2^63∧seqIndex? i xs.length=some k∧xs[k]? =some y∧Q y (upd H l (.lst (xs.eraseIdx k)))
theorem UI:sV X "list.pop" vw:=by
 intro pins s σ H x vs v us Q I rx rv h
 obtain⟨l,xs,i,k,y,rfl,rfl,hH,h1,h2,hk,hy,q⟩:=h
 cases rx
 obtain⟨u,rfl,ru⟩:=rv.one
 obtain⟨t,rfl⟩:=ru
 obtain⟨z,its,n,r,hl,e⟩:=I.kJ hH
 obtain⟨w,hw,dS⟩:=r.get hy
 refine call_meets F.slot_list_pop ⟨_,e,rfl⟩ F.entry_list_pop (F.args_list_pop_2 _ _)
  (MeetsSeq.list_pop_at l its.toArray n i t k w (fitsIndex_both h1 h2) (by rw[List.size_toArray,←hl];exact hk) (by rw[←Array.getElem?_toList];exact hw) (by rw[List.size_toArray];omega)) ⟨e,?_⟩
 refine⟨y,_,I.qL (its':=its.eraseIdx k) hH e ?_ (r.eraseIdx k) ?_,dS,q⟩
 ·show its.toArray.eraseIdxIfInBounds k=(its.eraseIdx k).toArray
  rw[List.eraseIdxIfInBounds_toArray]
 ·have:=Jx xs k
  omega
def vD:R2:=fun x y H Q=> ∃l b xs zs,x=.ref l∧y=.ref b∧H l=some (.lst xs)∧H b=some (.lst zs)∧xs.length+zs.length≤sizeLine∧∀p,H p=none→Q (.ref p) (upd H p (.lst (xs++zs)))
theorem Yb:aW X (binaryOp .Add) vD:=by
 intro pins s σ H x y v u Q I rx ry h
 obtain⟨l,b,xs,zs,rfl,rfl,hH,hB,hz,q⟩:=h
 cases rx
 cases ry
 obtain⟨z,its,n,r,hl,e⟩:=I.kJ hH
 obtain⟨z2,gN,n2,r2,ji,e2⟩:=I.kJ hB
 refine PySem.P.add_list e e2 ?_ (by rw[List.size_toArray,List.size_toArray];omega)
 have ea:its.toArray++gN.toArray=(its++gN).toArray:=by simp
 rw[ea]
 exact⟨.ref _,_,I.wC (t':=s.toks) (r.append r2) (by rw[List.length_append];omega),rfl,q _ I.fresh⟩
theorem WS {α:Type}(xs:List α) (k:Nat):(List.replicate k xs).flatten.length=k*xs.length:=by
 induction k with
 |zero=>simp
 |succ k ih=>rw[List.replicate_succ,List.flatten_cons,List.length_append,ih,Nat.succ_mul,Nat.add_comm]
end
end L2
namespace tx
open PySem PySem.W PySem.Calls PyProof.Rows
theorem YX {P:Params}{h:Heap} :∀(ns:List Int) (vs:List Value),WellAll P h vs (ns.map WData.int)→IntsAre vs ns:=by
 intro ns
 induction ns with
 |nil=>
  intro vs w
  rw[List.map_nil]at w
  cases w
  exact .nil
 |cons n ns ih=>
  intro vs w
  rw[List.map_cons]at w
  cases w with
  |cons a b=>
   cases a
   exact .cons _ _ (ih _ b)
theorem W3 {l:OpenLaw}{n:Nat}(hn:l.most=some n) {P:Params}{h:Heap}{args:List WData}{vals:List Value}
  (kQ:l.row.toRowW.claim.pre args=true) (nV:WellAll P h vals args):
  ∃a vs ns,vals=[Value.ref a]∧args=[WData.list (ns.map WData.int)]∧h.get? a=some {cls:=.type "list",data:=.seq vs.toArray}∧IntsAre vs ns∧ns.length≤n:=by
 have xx:WShape.hasAll [] args [.list .int]=true:=(pre_splitW kQ).1
 have hc:l.pre.holds [] {args:=args} =true:=(pre_splitW kQ).2
 obtain⟨d,r,rfl,h1,h2⟩:=hasAllW_cons xx
 obtain rfl:=hasAllW_nil h2
 obtain⟨xs,rfl,h3⟩:=hasW_list h1
 obtain⟨ns,rfl⟩:=items_int h3
 have hlen:ns.length≤n:=by
  unfold OpenLaw.pre at hc
  have h4:(WTm.not (.lt (.lit (.int (n:Int))) (.len (.arg 0)))).holds [] {args:=[.list (ns.map .int)]} =true:=by
   have h4:=(holds_andW hc).1
   rw[hn]at h4
   exact h4
  have h5:=condW_of h4 (w_not (w_lt w_lit (w_len_list (w_arg rfl))))
  rw[List.length_map]at h5
  refine Nat.le_of_not_lt fun q=> ?_
  have q':(n:Int)< ((ns.length:Nat):Int):=by omega
  first
   |(rw[decide_eq_true q']at h5;exact absurd h5 (by decide))
   |(simp at h5;omega)
 cases nV with
 |cons w1 w2=>
  cases w2
  cases w1 with
  |list ho jt=>exact⟨_,_,ns,rfl,rfl,ho,YX ns _ jt,hlen⟩
theorem W5 (l:OpenLaw) (args:List WData):l.row.toRowW.claim.post args (.bool true) args=true:=
 postW_of (r:=l.row.toRowW) (X:=(true==true))
  (show WShape.has [] (.bool true) .bool=true by first |rfl |decide |simp[WShape.has,WShape.arms,WShape.armsAll])
  (show(WTm.eq .res (.lit (.bool true))).value [] {args:=args,res:=some (.bool true),after:=args} =some (.bool (true==true)) from w_eq_bool (w_res rfl) w_lit) rfl
theorem AD {l:OpenLaw}{n:Nat}{q:Program}{loose:List Str}{XP:(Str→Option Value)→Heap→Prop}{YP:World→Heap→Prop}{d:DefRec}
    (hn:l.most=some n) (ou:d.params.defaults=[])
    (call:∀(w:World) (bt au:Shared) (mg mb:Str→Option Value) (fa:Addr) (o:Obj) (pm cd doc:Value) (a:Addr) (vs:List Value) (ns:List Int),
      Ground q loose [] XP w bt mg mb au.heap→YP w au.heap→
      au.heap.get? fa=some o→o.data=.func (docDef d.name d.params d.body d.scope pm cd doc)→au.heap.CodeRec cd d.name→mg d.name=some (.ref fa)→
      au.heap.get? a=some {cls:=.type "list",data:=.seq vs.toArray}→IntsAre vs ns→ns.length≤n→au.gens= #[]→
      codeAny (model l.prog w) callerA (.call (.ref fa) ⟨[.ref a],[]⟩) (fun r s'=>r=.ok (.ret (.bool true))∧OldK au.heap s'.heap∧s'.os=au.os∧AllBare s'.gens) au):
    WalkO q loose XP YP l.row.toRowW d [] (fun f vs=>PySem.call f vs):=by
  intro w bt au mg mb G Y fa o pm cd doc dV kV ho hd bI hD hmg hg args vals as kQ CH Cy nV oj
  obtain rfl:dV=.none:=Dflts.none hD ou
  obtain rfl:kV=.none:=Dflts.noKw hD
  obtain⟨a,vs,ns,rfl,rfl,oa,hints,hlen⟩:=W3 hn kQ nV
  refine enter_call (codeAny_mono (call w bt au mg mb fa o pm cd doc a vs ns G Y ho (fd_plain hd) bI hmg oa hints hlen hg) fun r s' hq=> ?_)
  obtain⟨rfl,h2,h3,h4⟩:=hq
  exact⟨.inl ⟨.bool true,.bool true,[],rfl,fun _=>rfl,.bool true,W5 l _,fun _=> ⟨List.Pairwise.nil,fun _ hm=> (nomatch hm)⟩⟩,h2,h3,h4⟩
end tx
namespace L2
open PySem PySem.Spec PyProof.Rows
theorem Js:∀{vs:List Value}{ns:List Int},IntsAre vs ns→Vals (ns.map V.int) vs
 |_,_,.nil=> .nil
 |_,_,.cons n t h=> .cons ⟨t,rfl⟩ (Js h)
def dc (s:Stmt):Arguments:=match s with
 | .FunctionDef _ a _ _ _ _ _ _ _ _=>a
 |_=> {posonlyargs:=[],args:=[],vararg:=none,kwonlyargs:=[],kw_defaults:=[],kwarg:=none,defaults:=[]}
def bB (s:Stmt):List Stmt:=match s with
 | .FunctionDef _ _ b _ _ _ _ _ _ _=>b
 |_=> []
def aq (s:Stmt):Scope:=match s with
 | .FunctionDef _ _ _ _ _ _ sc _ _ _=>sc
 |_=> {kind:=.function,names:=[],isGenerator:=false,isCoroutine:=false}
abbrev aP:eP:=fun _ _ _ _ _ _=>False
abbrev E0:XK:=fun _ _ _=>False
theorem qC {X:Cx} :Passes aP X E0:=fun _ _ _ _ _ _ _ h=>h.elim
structure ba (K:PySem.W.Frag) (x qual:Str) (st:Stmt) (f:Addr) (fd:FuncData):Prop where
 ex:∃(oc:Value) (od:Option Addr) (kV doc pm:Value) (an:Option Addr) (aj ct:Value) (cJ:Array (Option Value)),
  fd=PySem.W.fnOf x qual (dc st) (bB st) (aq st) .none kV doc pm an aj ct∧K.lookup f=some ⟨oc,od,.func fd,cJ⟩∧PySem.W.codeIn K aj qual=true
 kp:PySem.W.keepIn K (.ref f)=true
section
variable {P:Program}{w:World}{K:PySem.W.Frag}{mg:Str→Option Value}{base:Heap}
theorem ba.ok {x qual:Str}{st:Stmt}{f:Addr}{fd:FuncData}{N ps:List Str}{k:Nat}{sp:Sp}(F:ba K x qual st f fd) (S:bC N ps (aq st)) (len:∀vs H Q E,sp vs H Q E→vs.length=ps.length)
    (oz:∀(aj:Value) (A:Around) (outer:List Env) (s:Shared) (H:Hp) (vs:List V) (Q:VK) (E:XK),bj k (A.deeper (envOfC qual (aq st) s.heap.objs.size f aj))→sp vs H Q E→
      ∃t,cH (bc aP P w K mg base N qual (aq st) f aj A outer s H E).bZ (bB st) t∧t {nx:=fun _ H'=>Q .aa H',rt:=Q} (start N vs) H):az P w K mg base aP (k+1) f fd ps sp:=by
  obtain⟨oc,od,kV,doc,pm,an,aj,ct,cJ,rfl,lk,bI⟩:=F.ex
  refine UL lk bI S len fun A outer s H vs Q E hr bX=> ?_
  obtain⟨t,h,q⟩:=oz aj A outer s H vs Q E hr bX
  exact⟨t,h.bZ,q⟩
theorem ba.binds {x qual:Str}{st:Stmt}{f:Addr}{fd:FuncData}{ps:List Str}(F:ba K x qual st f fd)
  (h:∀(kV doc pm:Value) (an:Option Addr) (aj ct:Value) (us:List Value),us.length=ps.length→bindArgs (PySem.W.fnOf x qual (dc st) (bB st) (aq st) .none kV doc pm an aj ct) ⟨us,[]⟩=pure (ps.zip us)):Binds K fd ps []:=by
 obtain⟨oc,od,kV,doc,pm,an,aj,ct,cJ,rfl,lk,bI⟩:=F.ex
 exact .all (h kV doc pm an aj ct)
theorem Bj {x qual:Str}{st:Stmt}{f:Addr}{oc:Value}{od an:Option Addr}{cJ:Array (Option Value)}{kV doc pm aj ct:Value}(l:K.lookup f=some ⟨oc,od,.func (PySem.W.fnOf x qual (dc st) (bB st) (aq st) .none kV doc pm an aj ct),cJ⟩)
  (c:PySem.W.codeIn K aj qual=true) (k:PySem.W.keepIn K (.ref f)=true):ba K x qual st f (PySem.W.fnOf x qual (dc st) (bB st) (aq st) .none kV doc pm an aj ct):=⟨⟨oc,od,kV,doc,pm,an,aj,ct,cJ,rfl,l,c⟩,k⟩
end
theorem BD {A:Around}{k:Nat}(hr:bj k A):A.units+1<cLine:=Nat.lt_of_le_of_lt (Nat.add_le_add_left (by decide:1≤64) _) hr.units
theorem mn {n:Nat}(h:n≤1000):n<sizeLine:=Nat.lt_of_le_of_lt h (by decide)
section
variable {X:Cx}
theorem pv (i:Nat) {x:Str}{pos:Pos}(hN:X.N[i]? =some x:=by rfl) (hv:jK X.env.scope x:=by first |exact Or.inl rfl |exact Or.inr (Or.inl rfl) |exact Or.inr (Or.inr rfl)) (hd:(x==("__debug__" :Str))=false:=by decide)
  (bI:(x==("__classdict__" :Str))=false:=by decide):PE X (.Name x pos) (j4 i):=Y5 hN hv hd bI
end
theorem aR {A B:Prop}(h:B):if false=true then A else B:=by
 rw[if_neg Bool.false_ne_true]
 exact h
theorem av {A B:Prop}(h:A):if true=true then A else B:=by
 rw[if_pos rfl]
 exact h
theorem nQ {c A B:Prop} [Decidable c] (h1:c→A) (h2:¬c→B):if c then A else B:=by
 by_cases h:c
 ·rw[if_pos h]
  exact h1 h
 ·rw[if_neg h]
  exact h2 h
def ae (H H':Hp):Prop:=∀b o,H b=some o→H' b=some o
theorem ae.refl (H:Hp):ae H H:=fun _ _ h=>h
theorem ae.trans {H H1 H2:Hp}(a:ae H H1) (b:ae H1 H2):ae H H2:=fun c o h=>b c o (a c o h)
theorem ae.free {H H':Hp}(e:ae H H') {l:Addr}(h:H' l=Option.none):H l=Option.none:=by
 cases q:H l with
 |none=>rfl
 |some o=>
  rw[e l o q]at h
  cases h
section
variable {X:Cx}{pins:List (Addr×Obj)}{σ:St}{H:Hp}{s:Shared}{a:Addr}{y v:V}{u r:Value}{o:Option V}{A:Around}{E:Value→Shared→Prop}
theorem Inv.big (I:Inv X pins σ H s):sysModules<s.heap.objs.size:=by
 have h:mainGlobals<s.heap.objs.size:=(I.mod.glob.keeps I.bk).lt
 exact Nat.lt_trans (by decide) h
end
theorem US {P:Program}{w:World}{H:Hp}(h:Heap) (hb:sysModules<h.objs.size):aX P w H (h.push {cls:=.type "dict",data:=.dict #[]}) h.objs.size (.dK []):=
 ⟨Nat.zero_le _,beq_eq_false_iff_ne.mpr (Ne.symm (Nat.ne_of_lt hb)),[],.nil,Heap.DictOf.new h⟩
def uB:TE:=fun _ H Q=> ∀p,H p=none→Q (.ref p) (upd H p (.dK []))
section
variable {X:Cx}{pos:Pos}
theorem J2:PE X (.Dict [] [] pos) uB:=fun pins s σ H Q I h=>
 wpAny_Dict_empty ⟨.ref s.heap.objs.size,_,I.laid (a:=s.heap.objs.size) (o:=.dK []) (t':=s.toks) (fun _ _ q=>Heap.get?_push_of_some _ q) (Nat.le_refl _) (US s.heap I.big),rfl,h _ (I.af.fresh (Nat.le_refl _))⟩
end
structure M1 (X:Cx) (o:Expr) (m:Str) (apos:Pos) (e:Expr) (bb:Pos):Prop where
 base:attributeBase o m X.env (eval o X.env)=eval o X.env
 zK:((backTo bb (starEach [e] X.env)).all (fun x=> !x.1)&&(backToKw bb (keywordEach [] X.env)).all (fun x=>x.1.isSome)
  &&decide (([e]:List Expr).length+([]:List Keyword).length+(if ([]:List Keyword).isEmpty then 0 else 1)<30))=true
 line:(apos.endLine==bb.line)=true
 trees:backTo bb (starEach [e] X.env)=[(false,eval e X.env)]
structure M2 (X:Cx) (o:Expr) (m:Str) (apos:Pos) (e f:Expr) (bb:Pos):Prop where
 base:attributeBase o m X.env (eval o X.env)=eval o X.env
 zK:((backTo bb (starEach [e,f] X.env)).all (fun x=> !x.1)&&(backToKw bb (keywordEach [] X.env)).all (fun x=>x.1.isSome)
  &&decide (([e,f]:List Expr).length+([]:List Keyword).length+(if ([]:List Keyword).isEmpty then 0 else 1)<30))=true
 line:(apos.endLine==bb.line)=true
 trees:backTo bb (starEach [e,f] X.env)=[(false,eval e X.env),(false,eval f X.env)]
def cg (scope:Scope) (env:Env):List (Str×Addr):=scope.names.foldl (fun cs y=>if y.2==.free then (y.1,(env.cells.lookup y.1).getD 0)::cs else cs) []
theorem Yd {scope:Scope}{env:Env}(h:∀y∈scope.names,y.2=.free→∃c,env.cells.lookup y.1=some c):closureFor scope env=pure (cg scope env):=by
 unfold closureFor cg
 have key:∀(l:List (Str×NameKind)) (cs:List (Str×Addr)),(∀y∈l,y.2=.free→∃c,env.cells.lookup y.1=some c)→
   (forIn l cs (fun x r=>match x with |(name,kind)=>if (kind==NameKind.free)=true then do let c ←cellOf env name;pure (ForInStep.yield ((name,c)::r)) else pure (ForInStep.yield r)):Sem (List (Str×Addr)))
    =pure (l.foldl (fun cs y=>if y.2==.free then (y.1,(env.cells.lookup y.1).getD 0)::cs else cs) cs):=by
  intro l
  induction l with
  |nil=>intro cs _;rfl
  |cons y l ih=>
   intro cs hl
   obtain⟨n,k⟩:=y
   rw[List.forIn_cons,List.foldl_cons]
   by_cases hk:k=.free
   ·subst hk
    obtain⟨c,hc⟩:=hl (n,.free) List.mem_cons_self rfl
    have bN:env.cells.lookup n=some c:=hc
    have e1:cellOf env n=pure c:=by unfold cellOf;rw[bN]
    simp only[beq_self_eq_true,if_true,e1,bN,Option.getD_some,pure_bind]
    exact ih _ fun y hy=>hl y (List.mem_cons_of_mem _ hy)
   ·have hb:(k==NameKind.free)=false:=by simpa using hk
    simp only[hb,Bool.false_eq_true,if_false,pure_bind]
    exact ih _ fun y hy=>hl y (List.mem_cons_of_mem _ hy)
 simp only[key scope.names [] h,pure_bind]
 all_goals rfl
theorem Yf {scope:Scope}{env:Env}{x:Str}{c:Addr}(h:(cg scope env).lookup x=some c):c=(env.cells.lookup x).getD 0∧(x,NameKind.free)∈scope.names:=by
 unfold cg at h
 have key:∀(l:List (Str×NameKind)) (cs:List (Str×Addr)),(l.foldl (fun cs y=>if y.2==.free then (y.1,(env.cells.lookup y.1).getD 0)::cs else cs) cs).lookup x=some c→
   (c=(env.cells.lookup x).getD 0∧(x,NameKind.free)∈l)∨cs.lookup x=some c:=by
  intro l
  induction l with
  |nil=>intro cs h;exact .inr h
  |cons y l ih=>
   intro cs h
   obtain⟨n,k⟩:=y
   rw[List.foldl_cons]at h
   rcases ih _ h with ⟨h1,h2⟩ |h'
   ·exact .inl ⟨h1,List.mem_cons_of_mem _ h2⟩
   ·by_cases hk:k=.free
    ·subst hk
     simp only[beq_self_eq_true,if_true]at h'
     rw[List.lookup_cons]at h'
     cases hx:x==n with
     |true=>
      rw[hx]at h'
      have e:x=n:=by simpa using hx
      subst e
      have e':(env.cells.lookup x).getD 0=c:=Option.some.inj h'
      exact .inl ⟨e'.symm,List.mem_cons_self⟩
     |false=>rw[hx]at h';exact .inr h'
    ·have hb:(k==NameKind.free)=false:=by simpa using hk
     simp only[hb,Bool.false_eq_true,if_false]at h'
     exact .inr h'
 rcases key _ _ h with h |h
 ·exact h
 ·simp at h
theorem Jc {scope:Scope}{env:Env}{x:Str}(h:(x,NameKind.free)∈scope.names):∃c,(cg scope env).lookup x=some c:=by
 unfold cg
 have key:∀(l:List (Str×NameKind)) (cs:List (Str×Addr)),((x,NameKind.free)∈l∨∃c,cs.lookup x=some c)→∃c,(l.foldl (fun cs y=>if y.2==.free then (y.1,(env.cells.lookup y.1).getD 0)::cs else cs) cs).lookup x=some c:=by
  intro l
  induction l with
  |nil=>
   intro cs h
   rcases h with h |h
   ·simp at h
   ·exact h
  |cons y l ih=>
   intro cs h
   obtain⟨n,k⟩:=y
   rw[List.foldl_cons]
   refine ih _ ?_
   by_cases hk:k=.free
   ·subst hk
    simp only[beq_self_eq_true,if_true]
    rw[List.lookup_cons]
    cases hx:x==n with
    |true=>exact .inr ⟨_,rfl⟩
    |false=>
     rcases h with h |h
     ·rcases List.mem_cons.mp h with e |h
      ·have e1:x=n:=congrArg Prod.fst e
       simp[e1]at hx
      ·exact .inl h
     ·exact .inr h
   ·have hb:(k==NameKind.free)=false:=by simpa using hk
    simp only[hb,Bool.false_eq_true,if_false]
    rcases h with h |h
    ·rcases List.mem_cons.mp h with e |h
     ·exact absurd (congrArg Prod.snd e).symm hk
     ·exact .inl h
    ·exact .inr h
 exact key _ _ (.inl h)
def rl (env:Env) (y:Str×NameKind):Str×NameKind:=if (y.2==NameKind.free&&env.scope.kind==.function&&env.kindOf y.1==some .cell) then (y.1,NameKind.cell) else y
theorem Uk (env:Env) (y:Str×NameKind):(rl env y).1=y.1:=by unfold rl;split<;>rfl
theorem U1 {env:Env}{y:Str×NameKind}(h:y.2=.free):(rl env y).2=.cell∨(rl env y).2=.free:=by
 unfold rl;split
 ·exact .inl rfl
 ·exact .inr h
theorem BB {env:Env}{y:Str×NameKind}(h:y.2≠.free):rl env y=y:=by
 have hb:(y.2==NameKind.free)=false:=by simpa using h
 unfold rl;rw[hb];simp
theorem Ys (scope:Scope) (env:Env):(relabel scope env).names=scope.names.map (rl env):=rfl
theorem JJ {scope:Scope}{env:Env}{x:Str}(hc:∀y∈scope.names,y.2≠.cell) (h:(relabel scope env).names.lookup x=some .cell∨(relabel scope env).names.lookup x=some .free):(x,NameKind.free)∈scope.names:=by
 rw[Ys]at h
 have key:∀(l:List (Str×NameKind)),(∀y∈l,y.2≠.cell)→(∃k,(k=NameKind.cell∨k=.free)∧(l.map (rl env)).lookup x=some k)→(x,NameKind.free)∈l:=by
  intro l
  induction l with
  |nil=>rintro _ ⟨k,_,h⟩;simp at h
  |cons y l ih=>
   rintro hl ⟨k',eV,h⟩
   obtain⟨n,k⟩:=y
   have e1:(rl env (n,k))=(n,(rl env (n,k)).2):=Prod.ext (Uk env _) rfl
   rw[List.map_cons,e1,List.lookup_cons]at h
   cases hx:x==n with
   |true=>
    have e:x=n:=by simpa using hx
    subst e
    by_cases hk:k=.free
    ·subst hk;exact List.mem_cons_self
    ·rw[hx]at h
     rw[BB (env:=env) (y:=(x,k)) hk]at h
     have e:k=k':=Option.some.inj h
     subst e
     rcases eV with z |z
     ·exact absurd z (hl _ List.mem_cons_self)
     ·exact absurd z hk
   |false=>
    rw[hx]at h
    exact List.mem_cons_of_mem _ (ih (fun y hy=>hl y (List.mem_cons_of_mem _ hy)) ⟨k',eV,h⟩)
 refine key _ hc ?_
 rcases h with h |h
 ·exact⟨_,.inl rfl,h⟩
 ·exact⟨_,.inr rfl,h⟩
theorem Yr {scope:Scope}{env:Env}{x:Str}(h:scope.names.lookup x=some .free):(relabel scope env).names.lookup x=some .cell∨(relabel scope env).names.lookup x=some .free:=by
 rw[Ys]
 have key:∀(l:List (Str×NameKind)),l.lookup x=some .free→(l.map (rl env)).lookup x=some .cell∨(l.map (rl env)).lookup x=some .free:=by
  intro l
  induction l with
  |nil=>intro h;simp at h
  |cons y l ih=>
   intro h
   obtain⟨n,k⟩:=y
   have e1:(rl env (n,k))=(n,(rl env (n,k)).2):=Prod.ext (Uk env _) rfl
   rw[List.map_cons,e1,List.lookup_cons]
   rw[List.lookup_cons]at h
   cases hx:x==n with
   |true=>
    rw[hx]at h
    have e:k=.free:=Option.some.inj h
    rcases U1 (env:=env) (y:=(n,k)) e with z |z
    ·exact .inl (congrArg some z)
    ·exact .inr (congrArg some z)
   |false=>rw[hx]at h;exact ih h
 exact key _ h
def bJ (X:Cx) (N':List Str) (scope:Scope) (C:Addr) (s2:Shared) (H2:Hp) (fp:List Addr):Cx:=
 {X with N:=N',bt:=s2,fG:=H2,env:=compEnvC scope (cg scope X.env) C X.env,outer:=X.stack,stack:=X.stack,ex:=fp,fn:=fun _=>false,pn:=[],xe:=fun _ _=>False}
def lF (so si:Scope) (N N':List Str) (ts:Nat) (bh:List Nat):Bool:=
 decide (si.kind=.function)&&si.names.all (fun y=>y.2 !=.cell)&&si.names.all (fun y=>y.2 !=.local||si.names.lookup y.1==some .local)
 &&si.names.all (fun y=>y.2 !=.free||so.names.lookup y.1==some .cell||so.names.lookup y.1==some .free)
 &&decide N'.Nodup&&decide (N'.length=ts+bh.length)
 &&(List.range bh.length).all (fun k=> (N'[ts+k]? ==(bh[k]?.bind fun j=>N[j]?))&&(N'[ts+k]?.isSome)&&(N'[ts+k]?.all fun x=>so.names.lookup x !=some .local&&si.names.lookup x==some .free))
def gp (ts:Nat) (bh:List Nat) (σ:St):St:=List.replicate ts none++bh.map fun j=> (σ[j]?).join
structure pD (X:Cx) (N':List Str) (ts:Nat) (bh:List Nat) (scope:Scope):Prop where
 kind:scope.kind=.function
 fm:∀y∈scope.names,y.2≠.cell
 names:∀y∈scope.names,y.2=.local→scope.names.lookup y.1=some .local
 free:∀y∈scope.names,y.2=.free→X.env.kindOf y.1=some .cell∨X.env.kindOf y.1=some .free
 nd:N'.Nodup
 len:N'.length=ts+bh.length
 As:∀k j,bh[k]? =some j→∃x,N'[ts+k]? =some x∧X.N[j]? =some x∧X.env.kindOf x≠some .local∧scope.names.lookup x=some .free
theorem Yu {x:Str}{k:NameKind} :∀{l:List (Str×NameKind)},l.lookup x=some k→(x,k)∈l
 | [],h=>by simp at h
 |(n,j)::l,h=>by
  rw[List.lookup_cons]at h
  cases hx:x==n with
  |true=>
   rw[hx]at h
   have e:x=n:=by simpa using hx
   have e':j=k:=Option.some.inj h
   subst e e'
   exact List.mem_cons_self
  |false=>rw[hx]at h;exact List.mem_cons_of_mem _ (Yu h)
theorem Wi {X:Cx}{N':List Str}{ts:Nat}{bh:List Nat}{scope:Scope}(h:lF X.env.scope scope X.N N' ts bh=true):pD X N' ts bh scope:=by
 unfold lF at h
 simp only[Bool.and_eq_true]at h
 obtain⟨⟨⟨⟨⟨⟨h1,h2⟩,h3⟩,h4⟩,h5⟩,h6⟩,h7⟩:=h
 refine⟨of_decide_eq_true h1,fun y hy z=> ?_,fun y hy z=> ?_,fun y hy z=> ?_,of_decide_eq_true h5,of_decide_eq_true h6,fun k j hk=> ?_⟩
 ·have q:=List.all_eq_true.mp h2 y hy
  rw[z]at q;exact absurd q (by decide)
 ·have q:=List.all_eq_true.mp h3 y hy
  rw[z]at q
  simpa using q
 ·have q:=List.all_eq_true.mp h4 y hy
  rw[z]at q
  simpa[Env.kindOf] using q
 ·have aw:k<bh.length:=(List.getElem?_eq_some_iff.mp hk).1
  have q:=List.all_eq_true.mp h7 k (List.mem_range.mpr aw)
  simp only[Bool.and_eq_true]at q
  obtain⟨⟨q1,q2⟩,q3⟩:=q
  obtain⟨x,hx⟩:=Option.isSome_iff_exists.mp q2
  rw[hx]at q1 q3
  rw[hk]at q1
  have e1:some x=X.N[j]? :=by simpa using q1
  have nk:(X.env.scope.names.lookup x !=some .local&&scope.names.lookup x==some .free)=true:=q3
  simp only[Bool.and_eq_true]at nk
  refine⟨x,hx,e1.symm,?_,by simpa using nk.2⟩
  have z:=nk.1
  intro e
  have e':X.env.scope.names.lookup x=some .local:=e
  rw[e']at z
  exact absurd z (by decide)
section
variable {X:Cx}{pins:List (Addr×Obj)}{σ:St}{H:Hp}{s:Shared}
theorem AV {N':List Str}{ts:Nat}{bh:List Nat}{scope:Scope}{fp:List Addr}{h':Heap}{t':Nat}{m:Str→Option Value}{C:Addr}(S:pD X N' ts bh scope) (I:Inv X pins σ H s) (hf:∀b∈fp,bL X pins H b)
  (ho:∀b∈fp,∃o,s.heap.get? b=some o) (hC:s.heap.objs.size≤C) (hn:h'.Ns C m) (k:∀b o,s.heap.get? b=some o→h'.get? b=some o):
  Inv (bJ X N' scope C s H fp) [] (gp ts bh σ) H {s with heap:=h',toks:=t'} :=by
 have sub:∀x c,(cg scope X.env).lookup x=some c→X.env.cells.lookup x=some c:=fun x c e=>by
  obtain⟨e1,e2⟩:=Yf e
  obtain⟨c',bN⟩:=I.ok.has x (S.free _ e2 rfl)
  rw[bN]at e1
  rw[bN,e1];rfl
 have dE:∀b o,s.heap.get? b=some o→b≠C:=fun b o e=>Nat.ne_of_lt (Nat.lt_of_lt_of_le (Heap.lt_size e) hC)
 refine⟨⟨I.ok.mod,?_,I.ok.glob,I.ok.blt,hC,fun x y c e1 e2=>I.ok.inj x y c (sub x c e1) (sub y c e2),fun x hx=> ?_,fun x c z _=>absurd z Bool.false_ne_true,I.ok.hd,I.ok.frames,.inl rfl,fun b hb=> ?_,fun b o e=>I.bs b o e,Nat.le_trans I.ok.fb I.sz,fun b o e hb=> ?_,fun b hb=> ?_,I.stack,I.iR⟩,
  rfl,I.bare,Un.kept k,⟨m,hn,fun i x v e1 e2 e3=> ?_⟩,fun x c e=> ?_,I.af.fresh hC,fun x c e=>I.cZ x c (sub x c e),fun p hp=>absurd (show p∈([]:List (Addr×Obj)) from hp) (by simp),I.af.kept k,?_⟩
 ·show(relabel scope X.env).kind=.function
  exact S.kind
 ·exact Jc (JJ S.fm hx)
 ·obtain⟨o,e⟩:=ho b hb
  refine⟨dE b o e,fun x c ec=> ?_⟩
  exact(hf b hb).2.2.2.2.1 x c (sub x c ec)
 ·obtain⟨e1,e2⟩:=I.bs b o e
  obtain⟨f0,f1,f2,f3,f4,f5⟩:=hf b hb
  rcases f3 with z |z
  ·exact I.ok.gM b o e z
  ·exact absurd (Nat.lt_of_lt_of_le (Heap.lt_size (I.ok.bs b o e).1) z) (Nat.lt_irrefl _)
 ·intro z
  obtain⟨f0,f1,f2,f3,f4,f5⟩:=hf b hb
  rcases List.mem_cons.mp (I.kd b z) with q |q
  ·exact f1 q
  ·exact f2 q
 ·-- the Cj values
  have hlen:¬i<ts:=fun aw=>by
   unfold gp at e2
   rw[List.getElem?_append_left (by simpa using aw),List.getElem?_replicate]at e2
   split at e2<;>cases e2
  have jE:(bh.map fun j=> (σ[j]?).join)[i - ts]? =some (some v):=by
   unfold gp at e2
   rw[List.getElem?_append_right (by simpa using hlen),List.length_replicate]at e2
   exact e2
  rw[List.getElem?_map]at jE
  cases hc:bh[i - ts]? with
  |none=>rw[hc]at jE;cases jE
  |some j=>
   rw[hc]at jE
   have lD:(σ[j]?).join=some v:=Option.some.inj jE
   have e4:σ[j]? =some (some v):=by
    cases q:σ[j]? with
    |none=>rw[q]at lD;cases lD
    |some o=>rw[q]at lD;exact congrArg some lD
   obtain⟨x',n1,n2,n3,n4⟩:=S.As _ _ hc
   have ei:ts+(i - ts)=i:=by omega
   rw[ei]at n1
   have ex:x=x':=by
    have oV:N'[i]? =some x:=e1
    rw[n1]at oV;exact(Option.some.inj oV).symm
   subst ex
   obtain⟨mX,CF,hl⟩:=I.loc
   have tI:jK X.env.scope x:=by
    rcases S.free _ (Yu n4) rfl with z |z
    ·exact .inr (.inl z)
    ·exact .inr (.inr z)
   obtain⟨u,ru,lk⟩:=hl j x v n2 e4 tI
   refine⟨u,ru,?_⟩
   rcases lk with ⟨z,_⟩ |⟨z,c,ec,gj⟩
   ·exact absurd z n3
   ·obtain⟨c',bN⟩:=Jc (env:=X.env) (Yu n4)
    have:=sub x c' bN
    rw[ec]at this
    cases this
    refine .inr ⟨?_,c,bN,gj.keeps k⟩
    exact Yr n4
 ·obtain⟨v,z⟩:=I.cell x c (sub x c e)
  exact⟨v,z.keeps k⟩
 ·show(gp ts bh σ).length=N'.length
  unfold gp
  rw[List.length_append,List.length_replicate,List.length_map,S.len]
end
def AccAt (h:Heap) (D:Addr) (ys:List V):Prop:=ys.length≤sizeLine∧∃(its:List Value) (n:Nat),Vals ys its∧h.get? D=some {cls:=.type "list",data:=.seq its.toArray n}
theorem AccAt.keep {h h':Heap}{D:Addr}{ys:List V}(a:AccAt h D ys) (k:∀o,h.get? D=some o→h'.get? D=some o):AccAt h' D ys:=by
 obtain⟨z,its,n,r,e⟩:=a
 exact⟨z,its,n,r,k _ e⟩
abbrev TC:=List V→St→Hp→(List V→St→Hp→Prop)→Prop
def jL (Y:Cx) (D:Addr) (m:Sem PySem.Fin→Sem PySem.Fin) (t:TC):Prop:=
 ∀(pins:List (Addr×Obj)) (s:Shared) (σ:St) (H:Hp) (ys:List V) (Q:List V→St→Hp→Prop) (k:Sem PySem.Fin) (R:PySem.Fin→Shared→Prop),Inv Y pins σ H s→bL Y pins H D→AccAt s.heap D ys→t ys σ H Q→
  (∀s' bM ag H',Inv Y pins ag H' s'→bL Y pins H' D→AccAt s'.heap D bM→Q bM ag H'→wpAny (model Y.prog Y.w) Y.A k R (fun _ _=>False) s')→wpAny (model Y.prog Y.w) Y.A (m k) R (fun _ _=>False) s
def pP (ifs:List Expr) (env:Env):Sem Bool:=forIn ifs true fun c r=>if r=true then do let ok ←isTrue c env (eval c env);pure (ForInStep.yield ok) else pure (ForInStep.yield r)
def iI (Y:Cx) (ifs:List Expr) (t:TT):Prop:=
 ∀(pins:List (Addr×Obj)) (s:Shared) (σ:St) (H:Hp) (Q:Bool→Hp→Prop),Inv Y pins σ H s→t σ H Q→wpAny (model Y.prog Y.w) Y.A (pP ifs Y.env) (TP Y pins σ Q) Y.xe s
def lV:TT:=fun _ H Q=>Q true H
section
variable {Y:Cx}{D:Addr}
theorem YY:iI Y [] lV:=fun pins s σ H Q I h=>wpAny_tests_nil ⟨H,I,h⟩
theorem JM {c:Expr}{t:TT}(hc:PT Y c t):iI Y [c] t:=fun pins s σ H Q I h=>wpAny_tests_one (hc pins s σ H Q I h)
def uz (te:TE):TC:=fun ys σ H Q=>te σ H fun v H1=>ys.length<sizeLine∧Q (ys++[v]) σ H1
theorem AccAt.fm {h:Heap}{ys:List V}(a:AccAt h D ys):∀b∈[D],∃o,h.get? b=some o∧∀v,o.data≠.cell v:=fun b hb=>by
 have e:b=D:=by simpa using hb
 subst e
 obtain⟨z,its,n,r,e⟩:=a
 exact⟨_,e,fun v z=>by
  have z':Data.seq its.toArray n=Data.cell v:=z
  cases z'⟩
theorem AccAt.through {h:Heap}{pins:List (Addr×Obj)}{ag:St}{H':Hp}{s':Shared}{ys:List V}(a:AccAt h D ys) (I:Inv Y (pins++fj [D] h) ag H' s'):AccAt s'.heap D ys∧H' D=none:=by
 obtain⟨z,its,n,r,e⟩:=a
 have q:=I.pin (D,_) (List.mem_append_right _ (List.mem_append_right _ (ZK (List.mem_singleton.mpr rfl) e)))
 exact⟨⟨z,its,n,r,q.1⟩,q.2.1⟩
theorem Z6 {elt:Expr}{te:TE}(hx:Y.xe=fun _ _=>False) (he:PE Y elt te):
    jL Y D (fun k=> (do let _ ←call (.builtin "list.append") [.ref D,←eval elt Y.env]) >>=fun _=>k) (uz te):=by
  intro pins s σ H ys Q k R I f a h hk
  refine wpAny_bind (wpAny_mono (Q:=fun _ s'=> ∃bM ag H',Inv Y pins ag H' s'∧bL Y pins H' D∧AccAt s'.heap D bM∧Q bM ag H') ?_ (fun _ s' ⟨bM,ag,H',q1,q2,q3,q4⟩=>hk s' bM ag H' q1 q2 q3 q4) fun _ _ z=>z)
  have I':=I.pinned (fp:=[D]) (fun b hb=>by have e:b=D:=by simpa using hb
                                            subst e;exact f) a.fm
  refine wpAny_bind (wpAny_mono (he _ s σ H _ I' h) (fun u s1 ⟨v,H1,I1,ru,hz,q⟩=> ?_) fun e s1 z=>by rw[hx]at z;exact z)
  obtain⟨a1,n1⟩:=a.through I1
  have f1:bL Y pins H1 D:=⟨n1,f.2⟩
  obtain⟨z,its,n,r,e⟩:=a1
  have hl:=r.length
  refine wpAny_bind (call_meets F.slot_list_append ⟨_,e,rfl⟩ F.entry_list_append (F.args_list_append_2 _ _) (PySem.list_append D its.toArray n u (by rw[List.size_toArray];omega)) ⟨e,wpAny_pure ?_⟩)
  have q2:=PySem.IsL.update e (·.push u)
  obtain⟨f0,g1,g2,g3,g4,g5⟩:=f1
  have I2:Inv Y pins σ H1 {s1 with heap:=s1.heap.update D (Obj.mapSeq (·.push u))} :=I1.fh.turned (t':=s1.toks) (it:=D) (fun b o hb eb=> (Heap.get?_update_other s1.heap _ (Ne.symm hb)).trans eb) f0 g1 g3 g4 g5
  refine⟨ys++[v],σ,H1,I2,⟨f0,g1,g2,g3,g4,g5⟩,⟨by rw[List.length_append,List.length_singleton];omega,its++[u],(if ((its.toArray.push u).size==its.toArray.size)=true then n else n+1),r.append (.cons ru .nil),?_⟩,q⟩
  have e3:its.toArray.push u=(its++[u]).toArray:=by simp
  rw[←e3]
  exact q2
def inner (elt:Expr) (gens:List Comprehension) (scope:Scope) (pos:Pos) (d:Nat) (acc:Value) (env:Env) (k:Sem PySem.Fin):Sem PySem.Fin:=
 match gens[d+1]? with
 |some g'=>eval g'.iter env >>=fun x=>standAt g'.iter.pos >>=fun _=>foldedSetIterable g'.iter env x >>=fun x=>holding [x] (pyIter x) >>=fun iu=>
  runOwn (.compStart (.ListComp elt gens scope pos) (d+1) iu acc env) env >>=fun _=>k
 |none=> (do let _ ←call (.builtin "list.append") [acc,←eval elt env]) >>=fun _=>k
set_option maxHeartbeats 400000 in
theorem Wh (elt tg iter:Expr) (ifs:List Expr) (gens:List Comprehension) (scope:Scope) (pos:Pos) (d:Nat) (it acc:Value) (env:Env) (hg:gens[d]? =some ⟨tg,iter,ifs,0⟩) (h2:∀g',gens[d+1]? =some g'→g'.is_async=0):
  compTurn (.ListComp elt gens scope pos) d it acc env=(standAt iter.pos >>=fun _=>pyNext it >>=fun r=>match r with
   |none=>pure (.done .next)
   |some v=>letOwnedTupleGo tg it v >>=fun _=>assign tg env v >>=fun _=>pP ifs env >>=fun ok=>
    if ok=true then inner elt gens scope pos d acc env (again (.compLoop (.ListComp elt gens scope pos) d it acc env)) else again (.compLoop (.ListComp elt gens scope pos) d it acc env)):=by
 unfold compTurn inner
 dsimp only
 rw[hg]
 generalize hn:gens[d+1]? =o
 cases o with
 |none=>rfl
 |some g'=>
  have e:=h2 g' hn
  obtain⟨t',i',f',a'⟩:=g'
  have e':a'=0:=e
  subst e'
  rfl
def hJ (g:TG) (tt:TT) (ti:TC) (J:It):TC:=fun ys σ H Q=> ∃W:Nat→Nat→List V→St→Hp→Prop,(∃m,W 0 m ys σ H)∧∀i m ys σ H,W i m ys σ H→
 (J.stop i H∧Q ys σ H)∨(J.go i H∧∃N:List V→St→Hp→Prop,(∀bM ag H',N bM ag H'→∃m',m'<m∧W (i+1) m' bM ag H')∧
  ∀x H',J.g9 i H x H'→g x σ H' fun bo H2=>tt bo H2 fun b H3=>if b=true then ti ys bo H3 N else N ys bo H3)
theorem Uf {elt tg iter:Expr}{ifs:List Expr}{gens:List Comprehension}{scope:Scope}{pos:Pos}{d:Nat}{it:Addr}{fp:List Addr}{tn:Nat→Heap→Prop}{J:It}{g:TG}{tt:TT}{ti:TC}{pins:List (Addr×Obj)}{s:Shared}{σ:St}{H:Hp}{ys:List V}{Q:List V→St→Hp→Prop}
    (hx:Y.xe=fun _ _=>False) (hc:Y.calm=true) (hg:gens[d]? =some ⟨tg,iter,ifs,0⟩) (T:Turn Y.prog Y.w Y.K tg J fp it tn) (hf:∀b∈fp,bL Y pins H b) (st:tn 0 s.heap) (hD:D∉fp)
    (h2:∀g',gens[d+1]? =some g'→g'.is_async=0) (pg:PG Y tg g) (pt:iI Y ifs tt) (pi:jL Y D (inner elt gens scope pos d (.ref D) Y.env) ti)
    (I:Inv Y pins σ H s) (f:bL Y pins H D) (a:AccAt s.heap D ys) (h:hJ g tt ti J ys σ H Q):
    codeAny (model Y.prog Y.w) Y.A (.compLoop (.ListComp elt gens scope pos) d (.ref it) (.ref D) Y.env) (fun r s'=>match r with
      | .ok _=> ∃bM ag H',Inv Y pins ag H' s'∧bL Y pins H' D∧AccAt s'.heap D bM∧Q bM ag H'
      | .error _=>False) s:=by
  obtain⟨W,⟨m0,w0⟩,turn⟩:=h
  have stat:∀{H':Hp},(∀b∈fp,H' b=none)→∀b∈fp,bL Y pins H' b:=fun hn b hb=> ⟨hn b hb,(hf b hb).2⟩
  refine codeAny_loop rfl (fun n s'=> ∃i bM ag H',Inv Y pins ag H' s'∧bL Y pins H' D∧AccAt s'.heap D bM∧tn i s'.heap∧(∀b∈fp,H' b=none)∧W i n bM ag H') (fun n s3 hI=> ?_) m0 ⟨0,ys,σ,H,I,f,a,st,fun b hb=> (hf b hb).1,w0⟩
  obtain⟨i,iP,dN,H3,I3,f3,a3,cI,lA,w3⟩:=hI
  show wpAny _ Y.A ((compTurn (.ListComp elt gens scope pos) d (.ref it) (.ref D) Y.env).onRaise (fun x=>do noteFrame x Y.env;theTreesLotGoes x)) _ _ s3
  refine wpAny_noted (wpAny_mono (E:=fun _ _=>False) ?_ (fun _ _ q=>q) fun _ _ z=>z.elim)
  rw[Wh elt tg iter ifs gens scope pos d (.ref it) (.ref D) Y.env hg h2]
  refine wpAny_bind (wpAny_standAt (wpAny_bind ?_))
  have aD:∀{h h':Heap},(∀b o,b∉fp→h.get? b=some o→h'.get? b=some o)→∀{zs},AccAt h D zs→AccAt h' D zs:=fun k _ q=>q.keep fun o e=>k D o hD e
  have sY:=I3.pinned (fp:=[D]) (fun b hb=>by have e:b=D:=by simpa using hb
                                             subst e;exact f3) a3.fm
  have p9:∀b∈fp,bL Y (pins++fj [D] s3.heap) H3 b:=fun b hb=>by
    obtain⟨g0,g1,g2,g3,g4,g5⟩:=stat lA b hb
    refine⟨g0,g1,g2,g3,g4,fun p hp=> ?_⟩
    rcases List.mem_append.mp hp with z |z
    · exact g5 p (List.mem_append_left _ z)
    · rcases List.mem_append.mp z with z |z
      · exact g5 p (List.mem_append_right _ z)
      · intro q
        have e:p.1=D:=by simpa using (YL z).1
        exact hD (by rw[←e,q];exact hb)
  rcases turn i n iP dN H3 w3 with ⟨stop,qn⟩ |⟨go,N,hN,step⟩
  · refine wpAny_mono (T.done Y rfl rfl rfl hc i _ s3 dN H3 (fun _ _=>False) sY p9 cI stop) (fun r s4 ⟨hr,I4⟩=> ?_) fun _ _ z=>z
    subst hr
    obtain⟨a4,n4⟩:=a3.through I4
    exact wpAny_pure ⟨iP,dN,H3,I4.fh,f3,a4,qn⟩
  · refine wpAny_mono (T.item Y rfl rfl rfl hc i _ s3 dN H3 (fun _ _=>False) sY p9 cI go) (fun r s4 ⟨u,hr,h4⟩=> ?_) fun _ _ z=>z
    subst hr
    refine wpAny_bind (wpAny_mono h4 (fun _ s5 ⟨x,H5,I5,r5,y5,dk,oK⟩=> ?_) fun _ _ z=>z)
    obtain⟨a5,n5⟩:=a3.through I5
    have f5:bL Y pins H5 D:=⟨n5,f3.2⟩
    have xZ:∀b∈D::fp,∃o,s5.heap.get? b=some o∧∀v,o.data≠.cell v:=fun b hb=>by
      rcases List.mem_cons.mp hb with e |hb
      · exact a5.fm b (by simp[e])
      · exact T.obj _ _ dk b hb
    have pq:=I5.fh.pinned (fp:=D::fp) (fun b hb=>by
      rcases List.mem_cons.mp hb with e |hb
      · rw[e];exact f5
      · exact stat oK b hb) xZ
    refine wpAny_bind (wpAny_mono (pg _ s5 dN H5 x u _ pq r5 (step x H5 y5)) (fun _ s6 ⟨iN,H6,I6,q6⟩=> ?_) fun _ _ z=>by rw[hx]at z;exact z)
    refine wpAny_bind (wpAny_mono (pt _ s6 iN H6 _ I6 q6) (fun b s7 ⟨H7,I7,q7⟩=> ?_) fun _ _ z=>by rw[hx]at z;exact z)
    have qB:∀{ck:St}{H7:Hp}{s7:Shared},Inv Y (pins++fj (D::fp) s5.heap) ck H7 s7→AccAt s7.heap D iP∧H7 D=none:=fun {ck H7 s7} J=>by
      obtain⟨z,its,n,r,e⟩:=id a5
      have q:=J.pin (D,_) (List.mem_append_right _ (List.mem_append_right _ (ZK List.mem_cons_self e)))
      exact⟨⟨z,its,n,r,q.1⟩,q.2.1⟩
    have qA:∀{ck:St}{H7:Hp}{s7:Shared},Inv Y (pins++fj (D::fp) s5.heap) ck H7 s7→tn (i+1) s7.heap∧∀b∈fp,H7 b=none:=fun {ck H7 s7} J=>by
      refine⟨T.keep _ _ _ dk fun b hb o e=> (J.pin (b,o) (List.mem_append_right _ (List.mem_append_right _ (ZK (List.mem_cons_of_mem _ hb) e)))).1,fun b hb=> ?_⟩
      obtain⟨o,e,dd⟩:=T.obj _ _ dk b hb
      exact(J.pin (b,o) (List.mem_append_right _ (List.mem_append_right _ (ZK (List.mem_cons_of_mem _ hb) e)))).2.1
    cases b with
    |false=>
     simp only[Bool.false_eq_true,if_false]at q7 ⊢
     obtain⟨m',hm,w7⟩:=hN _ _ _ q7
     obtain⟨a7,n7⟩:=qB I7
     obtain⟨t7,r7⟩:=qA I7
     exact wpAny_pure ⟨rfl,m',hm,i+1,iP,iN,H7,I7.fh,⟨n7,f3.2⟩,a7,t7,r7,w7⟩
    |true=>
     simp only[if_true]at q7 ⊢
     obtain⟨a7,n7⟩:=qB I7
     obtain⟨t7,r7⟩:=qA I7
     have BO:=I7.fh.pinned (fp:=fp) (stat r7) (T.obj _ _ t7)
     have f7:bL Y (pins++fj fp s7.heap) H7 D:=by
       obtain⟨g0,g1,g2,g3,g4,g5⟩:=f3
       refine⟨n7,g1,g2,g3,g4,fun p hp=> ?_⟩
       rcases List.mem_append.mp hp with z |z
       · exact g5 p (List.mem_append_left _ z)
       · rcases List.mem_append.mp z with z |z
         · exact g5 p (List.mem_append_right _ z)
         · intro q
           exact hD (by rw[←q];exact(YL z).1)
     refine pi _ s7 iN H7 iP N _ _ BO f7 a7 q7 fun s8 tE jW H8 I8 f8 a8 q8=> ?_
     obtain⟨m',hm,w8⟩:=hN _ _ _ q8
     refine wpAny_pure ⟨rfl,m',hm,i+1,tE,jW,H8,I8.fh,⟨f8.1,f3.2⟩,a8,T.keep _ _ _ t7 fun b hb o e=> (I8.pin (b,o) (List.mem_append_right _ (List.mem_append_right _ (ZK hb e)))).1,fun b hb=> ?_,w8⟩
     obtain⟨o,e,dd⟩:=T.obj _ _ t7 b hb
     exact(I8.pin (b,o) (List.mem_append_right _ (List.mem_append_right _ (ZK hb e)))).2.1
theorem WE {elt tg iter:Expr}{ifs:List Expr}{gens:List Comprehension}{scope:Scope}{pos:Pos}{d:Nat}{it:Addr}{R:Result→Shared→Prop}{s:Shared}{A:Around}{prog:Program}{w:World}{env:Env}{acc:Value}{fp:List Addr}{tn:Nat→Heap→Prop}{J:It}{K:PySem.W.Frag}
  (hg:gens[d]? =some ⟨tg,iter,ifs,0⟩) (T:Turn prog w K tg J fp it tn) {i:Nat} (st:tn i s.heap) (h:codeAny (model prog w) A (.compLoop (.ListComp elt gens scope pos) d (.ref it) acc env) R s):
  codeAny (model prog w) A (.compStart (.ListComp elt gens scope pos) d (.ref it) acc env) R s:=by
 refine codeAny_of_tree ?_
 show wpAny _ _ ((compStart (.ListComp elt gens scope pos) d (.ref it) acc env).onRaise (fun x=>do noteFrame x env;standAt theWindowsPlace)) _ _ s
 refine wpAny_notedAt ?_
 have yt:(clausesOf (.ListComp elt gens scope pos))[d]? =some ⟨tg,iter,ifs,0⟩:=hg
 unfold compStart
 rw[yt]
 show wpAny _ _ (ask >>=_) _ _ s
 refine wpAny_bind (wpAny_askSetting (wpAny_ite ?_))
 split
 ·first
   |exact wpAny_bind (wpAny_pure (wpAny_pure (And.intro rfl h)))
   |exact wpAny_pure (And.intro rfl h)
 ·refine wpAny_bind (wpAny_rule ?_)
  show wpAny _ _ (standAt iter.pos >>=_) _ _ s
  exact wpAny_bind (wpAny_standAt (wpAny_bind (T.self A i s _ _ st (wpAny_pure (And.intro rfl h)))))
end
section
variable {X:Cx}{pins:List (Addr×Obj)}{σ:St}{H H':Hp}{s s':Shared}
theorem Wk {N':List Str}{scope:Scope}{C D:Addr}{fp:List Addr}{ag:St}{ys:List V}{pl:List (Addr×Obj)}{h':Heap}(I:Inv X pins σ H s) (hf:∀b∈fp,bL X pins H b) (hC:s.heap.objs.size≤C) (hD:s.heap.objs.size≤D) (gW:D≠C)
  (J:Inv (bJ X N' scope C s H fp) pl ag H' s') (n:H' D=none) (a:AccAt s'.heap D ys) (sb:Heap.SameBut C s'.heap h'):Inv X pins σ (upd H' D (.lst ys)) {s' with heap:=h'} :=by
 have dE:∀b o,s.heap.get? b=some o→b≠C:=fun b o e=>Nat.ne_of_lt (Nat.lt_of_lt_of_le (Heap.lt_size e) hC)
 have wc:∀b o,s.heap.get? b=some o→b≠D:=fun b o e=>Nat.ne_of_lt (Nat.lt_of_lt_of_le (Heap.lt_size e) hD)
 have nM:∀b o,H b=some o→b≠D:=fun b o e=>Nat.ne_of_lt (Nat.lt_of_lt_of_le (I.af.lt e) hD)
 have fC:H' C=none:=J.free
 have u:Un (ay X.stack) fp H H' s.heap s'.heap:=J.base
 refine I.sj (s':= {s' with heap:=h'}) (ch:=fp) J.os ⟨fun b o e nb hb hx=> (sb.2 b (dE b o e)).trans (u.keep b o e nb hb hx),fun b o e nb hb hx=> ?_,fun b o e nb hx=>by rw[Zg (wc b o e)];exact u.free b o e nb hx,fun b o e hx=> ?_,
  fun b xs e=>by rw[Zg (nM b _ e)];exact u.dj b xs e,fun b o xs e=>by rw[Zg (nM b _ e)];exact u.cY b o xs e,fun b ps e=>by rw[Zg (nM b _ e)];exact u.cP b ps e⟩ (fun b v e=> ?_) J.bare fun b hb=> ?_
 ·obtain⟨sl,q⟩:=u.slot b o e nb hb hx
  exact⟨sl,(sb.2 b (dE b o e)).trans q⟩
 ·obtain⟨o',q⟩:=u.there b o e hx
  exact⟨o',(sb.2 b (dE b o e)).trans q⟩
 ·by_cases hb:b=D
  ·subst hb
   rw[Zb]at e
   cases e
   obtain⟨z,its,k,r,q⟩:=a
   exact⟨z,its,k,r,(sb.2 b gW).trans q⟩
  ·rw[Zg hb]at e
   refine(J.af b v e).dD (fun c w hc q=> (sb.2 c ?_).trans q) (fun c q=>by rw[Zg (Ze q n)];exact q) fun c xs q=>by rw[Zg (Ze q n)];exact q
   rcases hc with z |z
   ·rw[z];exact Ze e fC
   ·exact Ze z fC
 ·obtain⟨f0,f1,f2,f3,f4,f5⟩:=hf b hb
  exact⟨f3,f1,f4,f5⟩
theorem Jb {elt tg iter:Expr}{ifs:List Expr}{rest:List Comprehension}{scope:Scope}{pos:Pos}{N':List Str}{ts:Nat}{bh:List Nat}{it:Addr}{fp:List Addr}{tn:Nat→Heap→Prop}{J:It}{g:TG}{tt:TT}{ti:TC}{Q:List V→Hp→Prop}{E:Value→Shared→Prop}{RR:Value→Addr→Result→Shared→Prop}
  (S:pD X N' ts bh scope) (hc:X.calm=true) (I:Inv X pins σ H s) (T:Turn X.prog X.w X.K tg J fp it tn) (st:tn 0 s.heap) (hf:∀b∈fp,bL X pins H b)
  (h2:∀g',(Comprehension.mk tg iter ifs 0::rest)[0+1]? =some g'→g'.is_async=0)
  (pg:∀C,PG (bJ X N' scope C s H fp) tg g) (pt:∀C,iI (bJ X N' scope C s H fp) ifs tt)
  (pi:∀C D,jL (bJ X N' scope C s H fp) D (inner elt (⟨tg,iter,ifs,0⟩::rest) scope pos 0 (.ref D) (bJ X N' scope C s H fp).env) ti)
  (h:hJ g tt ti J [] (gp ts bh σ) H fun ys _ H2=>Q ys H2)
  (y8:∀C D s' ag H' ys fl,s.heap.objs.size≤C→s.heap.objs.size≤D→D≠C→Inv (bJ X N' scope C s H fp) [] ag H' s'→H' D=none→AccAt s'.heap D ys→Q ys H'→RR (.ref D) C (.ok fl) s'):
  wpAny (model X.prog X.w) X.A (newList []) (fun acc uG=>wpAny (model X.prog X.w) X.A (newFunctionEnv scope X.env.globals (cg scope X.env) [] X.env.qual none .none (some X.env)) (fun se uF=>
   codeAny (model X.prog X.w) X.A (.compStart (.ListComp elt (⟨tg,iter,ifs,0⟩::rest) scope pos) 0 (.ref it) acc {se with scope:=relabel scope X.env}) (RR acc se.locals) uF) E uG) E s:=by
 refine wpAny_newObj_type (wpAny_newFunctionEnv S.fm (by intro y hy;simp at hy) (fun ft og kO=> ?_) S.kind)
 dsimp only at og kO ⊢
 generalize oE:s.heap.push {cls:=.type "list",dict:=none,data:=.seq ([]:List Value).toArray} =h0 at og kO ⊢
 have hC:h0.objs.size=s.heap.objs.size+1:=by rw[←oE,Heap.size_push]
 have gW:s.heap.objs.size≠h0.objs.size:=by rw[hC];exact Nat.ne_of_lt (Nat.lt_succ_self _)
 have oF:s.heap.objs.size≤h0.objs.size:=by rw[hC];exact Nat.le_succ _
 have dE:∀b o,s.heap.get? b=some o→b≠h0.objs.size:=fun b o e=>Nat.ne_of_lt (Nat.lt_of_lt_of_le (Heap.lt_size e) oF)
 have old:∀b o,s.heap.get? b=some o→ft.get? b=some o:=fun b o e=>kO.extBut b o (dE b o e) (Heap.get?_push_of_some _ (oE▸Heap.get?_push_of_some _ e))
 have cX:ft.get? s.heap.objs.size=some {cls:=.type "list",data:=.seq ([]:List Value).toArray 0} :=kO.extBut _ _ gW (Heap.get?_push_of_some _ (oE▸Heap.get?_push_size _ rfl))
 have ho:∀b∈fp,∃o,s.heap.get? b=some o:=fun b hb=>let ⟨o,e,_⟩:=T.obj _ _ st b hb;⟨o,e⟩
 have I1:Inv (bJ X N' scope h0.objs.size s H fp) [] (gp ts bh σ) H {s with heap:=ft,toks:=s.toks+([]:List (Str×Value)).length} :=AV S I hf ho oF og old
 have fresh:=I.af.fresh (a:=s.heap.objs.size) (Nat.le_refl _)
 have zI:∀b∈fp,bL (bJ X N' scope h0.objs.size s H fp) [] H b:=fun b hb=>by
  obtain⟨f0,f1,f2,f3,f4,f5⟩:=hf b hb
  refine⟨f0,(I1.ok.iF b hb).1,I1.ok.gY b hb,.inl hb,(I1.ok.iF b hb).2,fun p hp=>absurd (show p∈([]:List (Addr×Obj)) from hp) (by simp)⟩
 have fD:bL (bJ X N' scope h0.objs.size s H fp) [] H s.heap.objs.size:=by
  refine⟨fresh,gW,fun z=> ?_,.inr (Nat.le_refl _),fun x c e z=> ?_,fun p hp=>absurd (show p∈([]:List (Addr×Obj)) from hp) (by simp)⟩
  ·obtain⟨_,o,bS,_⟩:=I.stack.mem z
   exact absurd (Heap.lt_size bS) (Nat.lt_irrefl _)
  ·obtain⟨e1,e2⟩:=Yf e
   obtain⟨c',bN⟩:=I.ok.has x (S.free _ e2 rfl)
   obtain⟨v,q⟩:=I.cell x c' bN
   rw[bN]at e1
   have e3:c=c':=e1
   have l:=q.lt
   rw[←e3,z]at l
   exact absurd l (Nat.lt_irrefl _)
 have aD:AccAt ft s.heap.objs.size []:=⟨Nat.zero_le _,[],0,.nil,cX⟩
 have zv:s.heap.objs.size∉fp:=fun z=>by obtain⟨o,e⟩:=ho _ z;exact absurd (Heap.lt_size e) (Nat.lt_irrefl _)
 have dP:tn 0 ft:=T.keep _ _ _ st fun b _ o e=>old b o e
 have run:=WE (elt:=elt) (gens:=⟨tg,iter,ifs,0⟩::rest) (scope:=scope) (pos:=pos) (d:=0) rfl T dP
  (Uf (Y:=bJ X N' scope h0.objs.size s H fp) (D:=s.heap.objs.size) (Q:=fun ys _ H2=>Q ys H2) (elt:=elt) (gens:=⟨tg,iter,ifs,0⟩::rest) (scope:=scope) (pos:=pos) (d:=0) rfl hc rfl T zI dP zv h2 (pg _) (pt _) (pi _ _) I1 fD aD h)
 refine codeAny_mono run fun r s' hr=> ?_
 cases r with
 |error e=>exact hr.elim
 |ok fl=>
  obtain⟨bM,ag,H',q1,q2,q3,q4⟩:=hr
  exact y8 _ _ s' ag H' bM fl oF (Nat.le_refl _) gW q1 q2.1 q3 q4
end
def pV (wi:TI) (ts:Nat) (bh:List Nat) (g:TG) (tt:TT) (ti:TC):TE:=fun σ H Q=>wi σ H fun J H1=>hJ g tt ti J [] (gp ts bh σ) H1 fun ys _ H2=> ∀p,H2 p=none→Q (.ref p) (upd H2 p (.lst ys))
section
variable {X:Cx}{elt tg iter:Expr}{ifs:List Expr}{rest:List Comprehension}{scope:Scope}{pos:Pos}{wi:TI}{g:TG}{tt:TT}{ti:TC}
theorem Yz (N':List Str) (ts:Nat) (bh:List Nat) (hi:PI X tg iter wi) (pg:∀C s H fp,PG (bJ X N' scope C s H fp) tg g) (pt:∀C s H fp,iI (bJ X N' scope C s H fp) ifs tt)
  (pi:∀C s H fp D,jL (bJ X N' scope C s H fp) D (inner elt (⟨tg,iter,ifs,0⟩::rest) scope pos 0 (.ref D) (bJ X N' scope C s H fp).env) ti)
  (ok:lF X.env.scope scope X.N N' ts bh=true:=by rfl) (hc:X.calm=true:=by rfl) (h2:∀g',(Comprehension.mk tg iter ifs 0::rest)[0+1]? =some g'→g'.is_async=0:=by(intro g' h;cases h<;>rfl))
  (hs:∀x,foldedSetIterable iter X.env x=pure x:=by intro _;rfl):
  PE X (.ListComp elt (⟨tg,iter,ifs,0⟩::rest) scope pos) (pV wi ts bh g tt ti):=by
 intro pins s σ H Q I h
 have S:=Wi ok
 rw[eval_ListComp]
 refine wpAny_comprehension_free (use:=none) rfl hs (Yd fun y hy e=>I.ok.has _ (S.free y hy e)) S.kind S.names (ak (hi pins s σ H _ I h) fun v s1 h1=>ak h1 fun iu s2 lu=> ?_)
 obtain⟨it,fp,tn,J,H2,e,I2,T,cD,f2,q2⟩:=lu
 subst e
 refine Jb (RR:=fun acc C=>compPost (model X.prog X.w) X.A X.xe none _ acc C) S hc I2 T cD f2 h2 (fun C=>pg C _ _ _) (fun C=>pt C _ _ _) (fun C D=>pi C _ _ _ D) q2 ?_
 intro C D s' ag H' ys fl hC hD gW J' n a q
 obtain⟨m,hn,_⟩:=J'.loc
 exact⟨m,hn,fun h' sb=> ⟨.ref D,_,Wk I2 f2 hC hD gW J' n a sb,rfl,q D n⟩⟩
theorem WJ (N':List Str) (ts:Nat) (bh:List Nat) {i:Nat}{x:Str}{px qa:Pos}(hN:X.N.Nodup) (dW:X.N[i]? =some x) (hx:Loc X.env.scope x) (hi:PI X tg iter wi) (pg:∀C s H fp,PG (bJ X N' scope C s H fp) tg g) (pt:∀C s H fp,iI (bJ X N' scope C s H fp) ifs tt)
  (pi:∀C s H fp D,jL (bJ X N' scope C s H fp) D (inner elt (⟨tg,iter,ifs,0⟩::rest) scope pos 0 (.ref D) (bJ X N' scope C s H fp).env) ti)
  (nX:swapsWith (.ListComp elt (⟨tg,iter,ifs,0⟩::rest) scope pos) (some (.Name x px)) qa.line X.env=pure true:=by rfl)
  (ok:lF X.env.scope scope X.N N' ts bh=true:=by rfl) (hc:X.calm=true:=by rfl) (h2:∀g',(Comprehension.mk tg iter ifs 0::rest)[0+1]? =some g'→g'.is_async=0:=by(intro g' h;cases h<;>rfl))
  (hs:∀x,foldedSetIterable iter X.env x=pure x:=by intro _;rfl) (dX:X.fn x=true∨X.env.scope.names.lookup x=some .local:=by first |exact .inl rfl |exact .inr rfl |assumption):
  PS X (.Assign [.Name x px] (.ListComp elt (⟨tg,iter,ifs,0⟩::rest) scope pos) qa) (ka (pV wi ts bh g tt ti) (jB i)):=by
 intro pins s σ H D I h
 have S:=Wi ok
 rw[exec_Assign_Name_used _ _ _ _ nX]
 refine wpAny_bind (wpAny_standAt (wpAny_bind ?_))
 show wpAny _ X.A (do let _ ←comprehension (.ListComp elt (⟨tg,iter,ifs,0⟩::rest) scope pos) scope X.env _ (newList []) false (eval iter X.env) (some (assign (.Name x px) X.env))) _ _ s
 refine wpAny_bind (wpAny_mono (wpAny_comprehension_free (use:=some (assign (.Name x px) X.env)) (Q:=fun _ s'=> ∃ag H',Inv X pins ag H' s'∧D.nx ag H') rfl hs (Yd fun y hy e=>I.ok.has _ (S.free y hy e)) S.kind S.names
  (ak (hi pins s σ H _ I h) fun v s1 h1=>ak h1 fun iu s2 lu=> ?_)) (fun _ s' hq=>wpAny_pure (wpAny_pure hq)) fun _ _ e=>e)
 obtain⟨it,fp,tn,J,H2,e,I2,T,cD,f2,q2⟩:=lu
 subst e
 refine Jb (RR:=fun acc C=>compPost (model X.prog X.w) X.A X.xe (some (assign (.Name x px) X.env)) _ acc C) S hc I2 T cD f2 h2 (fun C=>pg C _ _ _) (fun C=>pt C _ _ _) (fun C D=>pi C _ _ _ D) q2 ?_
 intro C B s' ag H' ys fl hC hB rT J' n a q
 obtain⟨m,hn,_⟩:=J'.loc
 have IX:Inv X pins σ (upd H' B (.lst ys)) s':=Wk I2 f2 hC hB rT J' n a (Heap.SameBut.refl C s'.heap)
 have fC:=I2.lB (H':=upd H' B (.lst ys)) (b:=C) hC (by rw[Zg (Ne.symm rT)];exact J'.free)
 obtain⟨f0,f1,CU,f3,f4,f5⟩:=fC
 show wpAny _ X.A (assign (.Name x px) X.env (.ref B)) _ _ s'
 refine wpAny_assign_Name (Jt (v:=.ref B) (u:=.ref B) IX hN dW hx rfl (fun cT BP ⟨c,sb,eY⟩=> ?_) dX)
 have zx:C≠c:=by
  rcases eY with z |z
  ·rw[z];exact f1
  ·exact(f4 x c z).symm
 refine⟨m,Heap.Ns.sameBut hn sb zx,fun h' vj=> ?_⟩
 refine⟨σ.set i (some (.ref B)),_,BP.turned (t':=cT.toks) (it:=C) (fun b o hb e=> (vj.2 b hb).trans e) f0 f1 f3 f4 f5,q B n⟩
end
section
variable {X:Cx}
theorem ZC {c:String} :cj X (.builtin "isinstance") (fun xs H Q=> ∃x t b,xs=[x,.ty c]∧cA X.K H x t∧PySem.W.kitOne X.K t (.type c)=some b∧Q (.bl b) H):=by
 intro pins s σ H xs us Q I r h
 obtain⟨x,t,b,rfl,ty,e,q⟩:=h
 obtain⟨u,v,rfl,ru,rv⟩:=vals2 r
 cases rv
 exact Uc I ru ty e fun tk=> ⟨.bl b,H,I.tok tk,rfl,q⟩
theorem Jf (hc:X.calm=true:=by rfl):cj X (.builtin "all") (fun xs H Q=> ∃(p:Addr) (bs:List Bool),xs=[.ref p]∧ai X.K H p (bs.map V.bl)∧Q (.bl (bs.all id)) H):=by
 intro pins s σ H xs us Q I r h
 obtain⟨p,bs,rfl,hp,q⟩:=h
 obtain⟨u,rfl,ru⟩:=vals1 r
 cases ru
 obtain⟨its,rv,pl,hz⟩:=I.list hp
 have hb:∀(i:Nat) (v:Value),its.toArray[i]? =some v→v=.bool (bs.getD i false):=fun i v e=>by
  have e':its[i]? =some v:=by simpa using e
  have hl:=rv.length
  have hi:i<its.length:=(List.getElem?_eq_some_iff.mp e').1
  have iy:i< (bs.map V.bl).length:=by omega
  obtain⟨u,hu,ru⟩:=rv.get (i:=i) (x:=(bs.map V.bl)[i]) (by simp)
  rw[e']at hu
  cases hu
  rw[List.getElem_map]at ru
  have yn:i<bs.length:=by simpa using iy
  have e2:bs.getD i false=bs[i]:=by simp[List.getD_eq_getElem?_getD,yn]
  rw[e2]
  exact ru
 refine call_all_walk (wpAny_pyIter_list pl.isList ?_)
 have cu:p≠s.heap.objs.size:=Nat.ne_of_lt (by obtain⟨o,n,e,_⟩:=pl;exact Heap.lt_size e)
 refine⟨s.heap.objs.size,_,_,_,_,_,fun i=>bs.getD i false,rfl,Walks.list (A:=X.A.in1) (show X.A.in1.handled=none from I.ok.hd hc) s.heap.objs.size p cu its.toArray,⟨⟨_,Heap.get?_push_size _ rfl,rfl,rfl⟩,pl.isList.at fun o e=>Heap.get?_push_of_some _ e⟩,fun i v s' Q' E' hP hQ=> ?_,fun h' tk hk=> ?_⟩
 ·rw[hb i v hP]
  exact wpAny_truthy_bool hQ
 ·have e:(List.range its.toArray.size).all (fun i=>bs.getD i false)=bs.all id:=by
   have hl:its.toArray.size=bs.length:=by have:=rv.length;rw[List.length_map]at this;simpa using this.symm
   rw[hl,Bool.eq_iff_iff,List.all_eq_true,List.all_eq_true]
   constructor
   ·intro h b hb
    obtain⟨i,hi,e⟩:=List.mem_iff_getElem.mp hb
    have:=h i (List.mem_range.mpr hi)
    rw[List.getD_eq_getElem?_getD,List.getElem?_eq_getElem hi,Option.getD_some,e]at this
    exact this
   ·intro h i hi
    have iy:=List.mem_range.mp hi
    rw[List.getD_eq_getElem?_getD,List.getElem?_eq_getElem iy,Option.getD_some]
    exact h _ (List.getElem_mem iy)
  rw[e]
  refine⟨.bl (bs.all id),H,I.kept fun b o eb=>hk b o ?_ (Heap.get?_push_of_some _ eb),rfl,q⟩
  intro z
  have e1:b=s.heap.objs.size:=by simpa using z
  exact absurd (Heap.lt_size eb) (by rw[e1];exact Nat.lt_irrefl _)
def il (ns:List Int):Nat:=(PyProof.Rows.firstMet (fun i=>ns.getD i 0) ns.length).length
theorem Jo (hc:X.calm=true:=by rfl):cj X (.type "set") (fun xs H Q=> ∃(p:Addr) (ns:List Int),xs=[.ref p]∧ai X.K H p (ns.map V.int)∧ns.length≤1000∧∀q S,H q=none→Q (.ref q) (upd H q (.set S (il ns)))):=by
 intro pins s σ H xs us Q I r h
 obtain⟨p,ns,rfl,hp,hn,q⟩:=h
 obtain⟨u,rfl,ru⟩:=vals1 r
 cases ru
 obtain⟨its,rv,pl,hz⟩:=I.list hp
 have hl:=rv.length
 rw[List.length_map]at hl
 refine call_set_list (I.ok.hd hc) pl.isList (WD rv) (by rw[List.size_toArray,←hl];unfold scanBound;omega) fun h' tk hs hk=> ?_
 have e:its.toArray.size=ns.length:=by simp[hl]
 rw[e]at hs
 exact⟨.ref s.heap.objs.size,_,I.laid (a:=s.heap.objs.size) (o:=.set _ (il ns)) (fun b o eb=>hk b o (Heap.lt_size eb) eb) (Nat.le_refl _) hs,rfl,q _ _ I.fresh⟩
theorem Jq:cj X (.builtin "len") (fun xs H Q=> ∃p S n,xs=[.ref p]∧H p=some (.set S n)∧Q (.int n) H):=by
 intro pins s σ H xs us Q I r h
 obtain⟨p,S,n,rfl,hp,q⟩:=h
 obtain⟨u,rfl,ru⟩:=vals1 r
 cases ru
 obtain⟨o,es,ep,t,h1,h2,h3,h4,h5,h6,h7,h8⟩:=(show aX X.prog X.w H s.heap p (.set S n) from I.af p _ hp)
 refine call_len_set h1 h2 h3 h7 (by have:scanBound=4096:=rfl;omega) ⟨.int n,H,I.tok _,⟨_,by rw[h8]⟩,q⟩
theorem YV:cj X (.type "range") (fun xs H Q=> ∃j:Int,xs=[.int j]∧∀q,H q=none→Q (.ref q) (upd H q (.bW 0 j))):=by
 intro pins s σ H xs us Q I r h
 obtain⟨j,rfl,q⟩:=h
 obtain⟨u,rfl,ru⟩:=vals1 r
 obtain⟨t,rfl⟩:=ru
 refine call_range_1 ?_
 exact⟨.ref s.heap.objs.size,_,I.laid (a:=s.heap.objs.size) (o:=.bW 0 j) (fun b o eb=>Heap.get?_push_of_some _ eb) (Nat.le_refl _) ⟨_,_,_,Heap.get?_push_size _ rfl⟩,rfl,q _ I.fresh⟩
def upTo (n:Nat):List V:=(List.range n).map fun(i:Nat)=>V.int (i:Int)
theorem YC {acc:Array Value}{n:Nat}(h:ItemsOf (fun i v=> ∃t,v=.int (0+i*1) t) acc n):Vals (upTo n) acc.toList:=by
 obtain⟨h1,h2⟩:=h
 obtain⟨l⟩:=acc
 have h1:l.length=n:=h1
 have h2:∀(j:Nat) (v:Value),l[j]? =some v→∃t,v=.int (j:Int) t:=fun j v e=>by
  obtain⟨t,q⟩:=h2 j v (by simpa using e)
  exact⟨t,by rw[q];congr 1;omega⟩
 have key:∀(l:List Value) (k:Nat),(∀(j:Nat) (v:Value),l[j]? =some v→∃t,v=.int ((k+j:Nat):Int) t)→Vals ((List.range' k l.length).map fun(i:Nat)=>V.int (i:Int)) l:=by
  intro l
  induction l with
  |nil=>intro k _;exact .nil
  |cons v l ih=>
   intro k h
   rw[List.length_cons,List.range'_succ,List.map_cons]
   obtain⟨t,e⟩:=h 0 v rfl
   refine .cons ⟨t,by rw[e];simp⟩ (ih (k+1) fun j w q=> ?_)
   obtain⟨t',e'⟩:=h (j+1) w (by simpa using q)
   exact⟨t',by rw[e'];congr 1;omega⟩
 have:=key l 0 (fun j v e=>by simpa using h2 j v e)
 unfold upTo
 rw[←h1,List.range_eq_range']
 exact this
theorem Jp (hc:X.calm=true:=by rfl):cj X (.type "list") (fun xs H Q=> ∃(p:Addr) (j:Int),xs=[.ref p]∧H p=some (.bW 0 j)∧0≤j∧j≤1000∧∀q,H q=none→Q (.ref q) (upd H q (.lst (upTo j.toNat)))):=by
 intro pins s σ H xs us Q I r h
 obtain⟨p,j,rfl,hp,h0,h1,q⟩:=h
 obtain⟨u,rfl,ru⟩:=vals1 r
 cases ru
 obtain⟨t,u,v,e⟩:=(show aX X.prog X.w H s.heap p (.bW 0 j) from I.af p _ hp)
 refine call_list_range (n:=j.toNat) (I.ok.hd hc) e (small_one (by omega) (by omega) (by omega) (by omega)) (by rw[rangeSize_one];split<;>omega) (by omega) fun h' tk acc c' hk hS cX=> ?_
 have r2:=YC cX
 have hlen:(upTo j.toNat).length≤sizeLine:=by unfold upTo;rw[List.length_map,List.length_range,sizeLine_eq];omega
 exact⟨.ref s.heap.objs.size,_,I.laid (a:=s.heap.objs.size) (o:=.lst (upTo j.toNat)) hk (Nat.le_refl _) ⟨hlen,acc.toList,c',r2,by simpa using hS⟩,rfl,q _ I.fresh⟩
theorem UA:aW X (binaryOp .Add) (fun x y H Q=> ∃a b ys,x=.ref a∧y=.ref b∧ah X.K H a []∧ah X.K H b ys∧Q (.ref b) H):=by
 intro pins s σ H x y u v Q I rx ry h
 obtain⟨a,b,ys,rfl,rfl,ha,hb,q⟩:=h
 cases rx
 cases ry
 obtain⟨its,rv,pl,hz⟩:=I.tuple ha
 obtain⟨gN,kB,gJ,cE⟩:=I.tuple hb
 cases rv
 obtain⟨⟨cls,dd,data,sl⟩,ho,eW,n,hd⟩:=id pl
 obtain⟨⟨Aq,lE,data2,gB⟩,gR,gT,n2,hd2⟩:=id gJ
 simp only at eW hd gT hd2
 subst eW hd gT hd2
 exact concat_meets ⟨_,ho,rfl⟩ ⟨_,gR,rfl⟩ noFill_tuple_add seq_tuple_add PySem.F.slot_tuple_add PySem.F.entry_tuple_add (PySem.F.args_tuple_add_2 _ _)
   (tuple_addW0 a b #[] gN.toArray n n2 dd lE sl gB rfl) ⟨ho,gR,⟨.ref b,H,I,rfl,q⟩⟩
end
theorem Y8 {K:PySem.W.Frag}{a:Addr}{xs:List V}{g:TG}{tt:TT}{ti:TC}{ys:List V}{σ:St}{H:Hp}{Q:List V→St→Hp→Prop}(Pv:Nat→List V→St→Hp→Prop) (h0:Pv 0 ys σ H)
  (hl:∀i ys σ H,i≤xs.length→Pv i ys σ H→ah K H a xs)
  (hs:∀i x ys σ H,xs[i]? =some x→Pv i ys σ H→g x σ H fun bo H2=>tt bo H2 fun b H3=>if b=true then ti ys bo H3 (Pv (i+1)) else Pv (i+1) ys bo H3)
  (hd:∀ys σ H,Pv xs.length ys σ H→Q ys σ H):hJ g tt ti (iJ K a) ys σ H Q:=by
 refine⟨fun i m ys σ H=>m=xs.length - i∧i≤xs.length∧Pv i ys σ H,⟨xs.length,by simp,Nat.zero_le _,h0⟩,?_⟩
 rintro i m ys σ H ⟨rfl,hi,p⟩
 have q:=hl i ys σ H hi p
 by_cases aw:i<xs.length
 ·refine .inr ⟨⟨xs,xs[i],q,by simp[aw]⟩,Pv (i+1),fun bM ag H' p'=> ⟨xs.length - (i+1),by omega,rfl,aw,p'⟩,fun x H' y=> ?_⟩
  obtain⟨e,y⟩:=y
  subst e
  exact hs i x ys σ _ (y xs q) p
 ·have e:i=xs.length:=by omega
  subst e
  exact .inl ⟨⟨xs,q,Nat.le_refl _⟩,hd ys σ H p⟩
theorem Jw {K:PySem.W.Frag}{a:Addr}{xs:List V}{g:TG}{tt:TT}{ti:TC}{ys:List V}{σ:St}{H:Hp}{Q:List V→St→Hp→Prop}(Pv:Nat→List V→St→Hp→Prop) (h0:Pv 0 ys σ H)
  (hl:∀i ys σ H,i≤xs.length→Pv i ys σ H→ai K H a xs)
  (hs:∀i x ys σ H,xs[i]? =some x→Pv i ys σ H→g x σ H fun bo H2=>tt bo H2 fun b H3=>if b=true then ti ys bo H3 (Pv (i+1)) else Pv (i+1) ys bo H3)
  (hd:∀ys σ H,Pv xs.length ys σ H→Q ys σ H):hJ g tt ti (iK K a) ys σ H Q:=by
 refine⟨fun i m ys σ H=>m=xs.length - i∧i≤xs.length∧Pv i ys σ H,⟨xs.length,by simp,Nat.zero_le _,h0⟩,?_⟩
 rintro i m ys σ H ⟨rfl,hi,p⟩
 have q:=hl i ys σ H hi p
 by_cases aw:i<xs.length
 ·refine .inr ⟨⟨xs,xs[i],q,by simp[aw]⟩,Pv (i+1),fun bM ag H' p'=> ⟨xs.length - (i+1),by omega,rfl,aw,p'⟩,fun x H' y=> ?_⟩
  obtain⟨e,y⟩:=y
  subst e
  exact hs i x ys σ _ (y xs q) p
 ·have e:i=xs.length:=by omega
  subst e
  exact .inl ⟨⟨xs,q,Nat.le_refl _⟩,hd ys σ H p⟩
theorem Y9 {lo:Int}{n:Nat}{g:TG}{tt:TT}{ti:TC}{ys:List V}{σ:St}{H:Hp}{Q:List V→St→Hp→Prop}(Pv:Nat→List V→St→Hp→Prop) (h0:Pv 0 ys σ H)
  (hs:∀i ys σ H,i<n→Pv i ys σ H→g (.int (lo+i)) σ H fun bo H2=>tt bo H2 fun b H3=>if b=true then ti ys bo H3 (Pv (i+1)) else Pv (i+1) ys bo H3)
  (hd:∀ys σ H,Pv n ys σ H→Q ys σ H):hJ g tt ti (g7 lo n) ys σ H Q:=by
 refine⟨fun i m ys σ H=>m=n - i∧i≤n∧Pv i ys σ H,⟨n,by simp,Nat.zero_le _,h0⟩,?_⟩
 rintro i m ys σ H ⟨rfl,hi,p⟩
 by_cases aw:i<n
 ·refine .inr ⟨aw,Pv (i+1),fun bM ag H' p'=> ⟨n - (i+1),by omega,rfl,aw,p'⟩,fun x H' y=> ?_⟩
  obtain⟨e,y⟩:=y
  subst e y
  exact hs i ys σ _ aw p
 ·have e:i=n:=by omega
  subst e
  exact .inl ⟨Nat.le_refl _,hd ys σ H p⟩
theorem pb {X:Cx}{N':List Str}{scope:Scope}{C:Addr}{s:Shared}{H:Hp}{fp:List Addr}(i:Nat) {x:Str}{pos:Pos}(hN:N'.Nodup:=by decide+kernel) (hi:N'[i]? =some x:=by rfl) (hx:(relabel scope X.env).names.lookup x=some .local:=by rfl):
  PG (bJ X N' scope C s H fp) (.Name x pos) (jB i):=ZN (X:=bJ X N' scope C s H fp) hN hi (.inl hx) (.inr hx)
def Def (P:Program) (w:World) (K:PySem.W.Frag) (mg:Str→Option Value) (base:Heap) (k:Nat) (x:Str) (ps:List Str) (sp:Sp):Prop:=
 ∃f fd,az P w K mg base aP k f fd ps sp∧mg x=some (.ref f)∧PySem.W.keepIn K (.ref f)=true∧Binds K fd ps []
section
variable {X:Cx}{k:Nat}{x:Str}{ps:List Str}{sp:Sp}{e:Expr}{es:List Expr}{t:TA}{p pos:Pos}
theorem Zj (d:Def X.prog X.w X.K X.mg X.base k x ps sp) (hr:bj k X.A) (ha:PA X (e::es) t) (hg:Gl X x:=by rfl) (dr:(x==("__debug__" :Str))=false:=by decide)
  (he:starEach (e::es) X.env=(false,eval e X.env)::starEach es X.env:=by rfl) (bH:(backTo pos (starEach es X.env)).any (·.1)=false:=by rfl):
  PE X (.Call (.Name x p) (e::es) [] pos) (hW sp [] E0 t):=by
 obtain⟨f,fd,F,hm,hk,hb⟩:=d
 exact WN F hr hg hm hk hb .nil qC ha dr he bH
end
def bV (K:PySem.W.Frag) (H:Hp) (x:V):Prop:=∃T,cA K H x (.type T)
def whole:V→Bool
 | .int _=>true
 |_=>false
def aT:V→Int→Int→Bool
 | .int i,a,b=>decide (a≤i)&&decide (i≤b)
 |_,_,_=>false
def lS:Option HO→Option (List V)
 |some (.tup xs)=>some xs
 |_=>none
def ao (H:Hp):V→Option (List V)
 | .ref a=>lS (H a)
 |_=>none
theorem Zm {H:Hp}{a:Addr} :ao H (.ref a)=lS (H a):=rfl
theorem Zo {H:Hp}{a:Addr}{xs:List V}(h:H a=some (.tup xs)):ao H (.ref a)=some xs:=by rw[Zm,h];rfl
theorem W2 {o:Option HO}{xs:List V}(h:lS o=some xs):o=some (.tup xs):=by
 cases o with
 |none=>cases h
 |some o=>cases o<;>first |(cases h;rfl) |cases h
theorem Zq {H:Hp}{x:V}{xs:List V}(h:ao H x=some xs):∃a,x=.ref a∧H a=some (.tup xs):=by
 cases x with
 |ref a=>exact⟨a,rfl,W2 h⟩
 |_=>cases h
theorem ae.ao {H H':Hp}(s:ae H H') {x:V}{xs:List V}(h:L2.ao H x=some xs):L2.ao H' x=some xs:=by
 obtain⟨a,rfl,q⟩:=Zq h
 exact Zo (s _ _ q)
theorem ae.ip {K:PySem.W.Frag}{H H':Hp}(s:ae H H') {x:V}(h:bV K H x):bV K H' x:=by
 obtain⟨T,t⟩:=h
 cases t with
 |aa=>exact⟨_,.aa⟩
 |bl y=>exact⟨_,.bl y⟩
 |int i=>exact⟨_,.int i⟩
 |str y=>exact⟨_,.str y⟩
 |dY y=>exact⟨_,.dY y⟩
 |lst e=>exact⟨_,.lst (s _ _ e)⟩
 |bw e=>exact⟨_,.bw (s _ _ e)⟩
 |tup e=>exact⟨_,.tup (s _ _ e)⟩
 |dK e=>exact⟨_,.dK (s _ _ e)⟩
 |dT e=>exact⟨_,.dT (s _ _ e)⟩
def nR:V→Bool
 | .int _=>true
 | .bl _=>true
 |_=>false
def qO:V→Bool
 | .bl _=>true
 |_=>false
theorem WU {K:PySem.W.Frag}{H:Hp}{x:V}{T:String}(t:cA K H x (.type T)):PySem.W.kitOne K (.type T) (.type "int")=some (nR x):=by cases t<;>rfl
theorem J9 {K:PySem.W.Frag}{H:Hp}{x:V}{T:String}(t:cA K H x (.type T)):PySem.W.kitOne K (.type T) (.type "bool")=some (qO x):=by cases t<;>rfl
theorem YO {K:PySem.W.Frag}{H:Hp}{x:V}{T:String}(t:cA K H x (.type T)):PySem.W.kitOne K (.type T) (.type "tuple")=some (ao H x).isSome:=by
 cases t with
 |tup e=>rw[Zo e];rfl
 |lst e=>rw[Zm,e];rfl
 |bw e=>rw[Zm,e];rfl
 |dK e=>rw[Zm,e];rfl
 |dT e=>rw[Zm,e];rfl
 |_=>rfl
theorem Wa (x:V):whole x=(nR x&& !qO x):=by cases x<;>rfl
def uf (i j k:Nat) (ta:TA):TS:=fun D σ H=>ta σ H fun vs H1=> ∃v w z,vs=[v,w,z]∧D.nx (((σ.set k (some z)).set j (some w)).set i (some v)) H1
theorem JN {X:Cx}{pos:Pos}{i j k:Nat}{x y z:Str}{a b c:Expr}{ta:TA}{px py pz pt:Pos}{kt k2 gG} (hc:X.calm=true) (hN:X.N.Nodup) (hi:X.N[i]? =some x) (hj:X.N[j]? =some y) (hk:X.N[k]? =some z)
  (hx:X.env.scope.names.lookup x=some .local) (hy:X.env.scope.names.lookup y=some .local) (hz:X.env.scope.names.lookup z=some .local) (ha:PA X [a,b,c] ta)
  (hw:swappedStores [.Tuple [.Name x px,.Name y py,.Name z pz] kt pt] (.Tuple [a,b,c] k2 gG) X.env=pure (some [x,y,z]):=by rfl)
  (hs:swapsWithSole [.Tuple [.Name x px,.Name y py,.Name z pz] kt pt] (.Tuple [a,b,c] k2 gG) pos.line X.env=pure false:=by rfl):
  PS X (.Assign [.Tuple [.Name x px,.Name y py,.Name z pz] kt pt] (.Tuple [a,b,c] k2 gG) pos) (uf i j k ta):=by
 intro pins s σ H D I h
 rw[exec_Assign_arm]
 refine wpAny_bind (wpAny_standAt ?_)
 rw[hs]
 refine wpAny_bind (wpAny_pure ?_)
 rw[if_neg (by decide)]
 refine wpAny_bind (Tuple_ (ak (ha _ pins s σ H _ I h) fun us s1 ⟨vs,H1,I1,r1,q1⟩=> ?_))
 obtain⟨v,w,t,e1,q1⟩:=q1
 subst e1
 obtain⟨u1,u2,u3,rfl,rv,dS,rt⟩:∃u1 u2 u3,us=[u1,u2,u3]∧RelV v u1∧RelV w u2∧RelV t u3:=by
  cases r1 with
  |cons p q=>
   cases q with
   |cons p' q'=>
    cases q' with
    |cons vL vF=>
     cases vF
     exact⟨_,_,_,rfl,p,p',vL⟩
 refine wpAny_newObj_type ?_ (by show 3≤sizeLine;decide)
 have I2:Inv X pins σ H1 {s1 with heap:=s1.heap.push {cls:=.type "tuple",data:=.seq [u1,u2,u3].toArray} } :=I1.kept (t':=s1.toks) fun b o e=>Heap.get?_push_of_some _ e
 rw[hw]
 refine wpAny_bind (wpAny_pure ?_)
 show wpAny (model X.prog X.w) X.A (do rule "assign.swapped-stores";let items ←unpackItems (.ref s1.heap.objs.size) 3 none;assignInOrder [fun v=>bindName X.env z v,fun v=>bindName X.env y v,fun v=>bindName X.env x v] items.reverse;pure Flow.next) _ _ _
 refine wpAny_bind (wpAny_rule (wpAny_bind (unpackItems_tuple (items:= #[u1,u2,u3]) (I.ok.hd hc) (IsTup.new s1.heap _) fun h' nU=> ?_)))
 have I3:=I2.kept (h':=h') (t':=s1.toks) fun b o e=>nU b o (Nat.ne_of_lt (Heap.lt_size e)) e
 show wpAny _ _ (assignInOrder [fun v=>bindName X.env z v,fun v=>bindName X.env y v,fun v=>bindName X.env x v] [u3,u2,u1] >>=fun _=>pure Flow.next) _ _ _
 refine wpAny_bind (assignInOrder_cons (wpAny_bindName (ZT I3 hN hk (.inl hz) rt (fun s2 I4=> ?_) (.inr hz))))
 refine assignInOrder_cons (wpAny_bindName (ZT I4 hN hj (.inl hy) dS (fun s3 I5=> ?_) (.inr hy)))
 refine assignInOrder_cons (wpAny_bindName (ZT I5 hN hi (.inl hx) rv (fun s4 I6=>assignInOrder_nil (wpAny_pure ?_)) (.inr hx)))
 exact⟨_,H1,I6,q1⟩
def ar (p:Addr) (H H':Hp):Prop:=∀b o,H b=some o→b≠p→H' b=some o
theorem ar.refl (p:Addr) (H:Hp):ar p H H:=fun _ _ h _=>h
theorem ar.trans {p:Addr}{H H1 H2:Hp}(a:ar p H H1) (b:ar p H1 H2):ar p H H2:=fun c o h n=>b c o (a c o h n) n
theorem ae.x {p:Addr}{H H1:Hp}(a:ae H H1):ar p H H1:=fun c o h _=>a c o h
theorem ar.upd {p:Addr}{H:Hp}{o:HO} :ar p H (L2.upd H p o):=fun b u h n=>by rw[Zg n];exact h
theorem Bu {X:Cx}(hu:X.A.units<cLine):aW X (compareOp .Eq) (fun x y H Q=> ∃(a b:Addr) (xs:List V),x=.ref a∧y=.ref b∧ai X.K H a xs∧ai X.K H b []∧Q (.bl xs.isEmpty) H):=by
 intro pins s σ H x y u v Q I rx ry h
 obtain⟨a,b,xs,rfl,rfl,ha,hb,q⟩:=h
 cases rx
 cases ry
 obtain⟨its,rv,pl,hz⟩:=I.list ha
 obtain⟨gN,kB,gJ,cE⟩:=I.list hb
 cases kB
 cases rv with
 |nil=>exact SeqAt.eq_listAt (e:=fun _=>true) pl.isList gJ.isList rfl hu (fun j h1 h2=>absurd h2 (by simp)) ⟨.bl true,H,I,rfl,q⟩
 |cons r t=>exact SeqAt.eq_list_lengthsAt pl.isList gJ.isList (by simp) hu ⟨.bl false,H,I,rfl,q⟩
theorem Bv {X:Cx}(hu:X.A.units<cLine):aW X (compareOp .NotEq) (fun x y H Q=> ∃(a b:Addr) (xs:List V),x=.ref a∧y=.ref b∧ai X.K H a xs∧ai X.K H b []∧Q (.bl (!xs.isEmpty)) H):=by
 intro pins s σ H x y u v Q I rx ry h
 obtain⟨a,b,xs,rfl,rfl,ha,hb,q⟩:=h
 cases rx
 cases ry
 obtain⟨its,rv,pl,hz⟩:=I.list ha
 obtain⟨gN,kB,gJ,cE⟩:=I.list hb
 cases kB
 cases rv with
 |nil=>exact SeqAt.RcNeAt.lists (e:=fun _=>true) pl.isList gJ.isList rfl hu (fun j h1 h2=>absurd h2 (by simp)) _ _ _ _ ⟨.bl false,H,I,rfl,q⟩
 |cons r t=>exact SeqAt.RcNeAt.lists_lengths pl.isList gJ.isList (by simp) hu _ _ _ _ ⟨.bl true,H,I,rfl,q⟩
structure Fl (P:Program) (w:World) (outer:List Env) (H:Hp) (s:Shared) (e C:Addr) (H':Hp) (s':Shared):Prop where
 os:s'.os=s.os
 bare:AllBare s'.gens
 un:Un (ay outer) [] H H' s.heap s'.heap
 af:aZ P w H' s'.heap
 oN:∃B a0,Heap.FlyingW B outer e (.ref C) a0 s'.heap∧(∀b o,s.heap.get? b=some o→b∉ay outer→∃u,B.get? b=some u)∧∀b o,H' b=some o→∃u,B.get? b=some u
def bA (P:Program) (w:World):eP:=fun outer H s E ev s'=> ∃e C H',ev=.ref e∧Fl P w outer H s e C H' s'∧E (.ref e) (some C) H'
section
variable {P:Program}{w:World}{base:Heap}{env:Env}{outer:List Env}{s0 s1 s2:Shared}{H0 H1 H2:Hp}{e C L:Addr}{A:Around}
theorem Yp {B h1 h2:Heap}{H:Hp}(x:aZ P w H h1) (br:∀b o,H b=some o→∃u,B.get? b=some u) (k1:B.StaysIn h1) (k2:B.StaysIn h2):aZ P w H h2:=fun a o ha=>
  (x a o ha).dD (fun b u hb hq=>by
    have:∃u',B.get? b=some u':=by
      rcases hb with rfl |hb
      · exact br _ _ ha
      · exact br _ _ hb
    obtain⟨u',hu⟩:=this
    have e1:=k1 b u' hu
    rw[hq]at e1
    cases e1
    exact k2 b _ hu) (fun _ q=>q) fun _ _ q=>q
theorem Y0 {B h':Heap}(u0:Un (ay outer) [] H0 H1 s0.heap s1.heap) (u1:Un (ay (env::outer)) [] H1 H2 s1.heap s2.heap) (hf:env.frame=some L) (ab:s0.heap.objs.size≤L) (fu:s0.heap.FunFrames base outer) (fz:∀b∈ay outer,H0 b=none)
  (br:∀b o,s1.heap.get? b=some o→b∉ay (env::outer)→∃u,B.get? b=some u) (k1:B.StaysIn s2.heap) (k2:B.StaysIn h') (up:s2.heap.UpToSlots h'):Un (ay outer) [] H0 H2 s0.heap h':=by
 have gS:∀b,b∈ay (env::outer)↔b=L∨b∈ay outer:=fun b=>by
  show b∈(env::outer).filterMap (·.frame)↔_
  rw[List.filterMap_cons_some (f:=fun(x:Env)=>x.frame) (a:=env) (b:=L) hf,List.mem_cons]
  exact Iff.rfl
 have out:∀b o,s0.heap.get? b=some o→b∉ay outer→b∉ay (env::outer):=fun b o hb hn hm=>by
  rcases (gS b).mp hm with q |q
  ·rw[q]at hb
   exact absurd (Nat.lt_of_lt_of_le (Heap.lt_size hb) ab) (Nat.lt_irrefl _)
  ·exact hn q
 have nP:∀b o u,s2.heap.get? b=some o→B.get? b=some u→h'.get? b=some o:=fun b o u hb hu=>by
  have e1:=k1 b u hu
  rw[hb]at e1
  cases e1
  exact k2 b _ hu
 have ik:∀b o,s0.heap.get? b=some o→b∈ay outer→∃sl,h'.get? b=some {o with slots:=sl} :=fun b o hb hm=>by
  obtain⟨_,o',bS,nf⟩:=fu.mem hm
  rw[hb]at bS
  cases bS
  obtain⟨uP,e1⟩:=u0.slot b o hb (fz b hm) hm (by simp)
  have n1:=u0.free b o hb (fz b hm) (by simp)
  obtain⟨gB,e2⟩:=u1.slot b _ e1 n1 ((gS b).mpr (.inr hm)) (by simp)
  obtain⟨uO,e3⟩:=up b _ e2 nf
  exact⟨uO,e3⟩
 refine⟨fun b o hb hn qZ _=> ?_,fun b o hb hn hm _=>ik b o hb hm,fun b o hb hn hx=> ?_,fun b o hb _=> ?_,fun b xs hb=>u1.dj b xs (u0.dj b xs hb),fun b o u hb=>u1.cY b o u (u0.cY b o u hb),fun b ps hb=> ?_⟩
 ·have e1:=u0.keep b o hb hn qZ (by simp)
  have n1:=u0.free b o hb hn (by simp)
  have iD:=out b o hb qZ
  have e2:=u1.keep b o e1 n1 iD (by simp)
  obtain⟨u,hu⟩:=br b o e1 iD
  exact nP b o u e2 hu
 ·obtain⟨o1,e1⟩:=u0.there b o hb (by simp)
  have n1:=u0.free b o hb hn (by simp)
  exact u1.free b o1 e1 n1 (by simp)
 ·by_cases hm:b∈ay outer
  ·obtain⟨sl,q⟩:=ik b o hb hm
   exact⟨_,q⟩
  ·obtain⟨o1,e1⟩:=u0.there b o hb (by simp)
   obtain⟨u,hu⟩:=br b o1 e1 (out b o hb hm)
   exact⟨u,k2 b u hu⟩
 ·obtain⟨m1,q1⟩:=u0.cP b ps hb
  obtain⟨m2,q2⟩:=u1.cP b _ q1
  exact⟨m1++m2,by rw[q2,Array.append_assoc]⟩
end
theorem vK {P:Program}{w:World}{K:PySem.W.Frag}{mg:Str→Option Value}{base:Heap}{N:List Str}{qual:Str}{scope:Scope}{f:Addr}{cd:Value}{A:Around}{outer:List Env}{s:Shared}{H:Hp}{E:XK} :
  Passes (bA P w) (bc (bA P w) P w K mg base N qual scope f cd A outer s H E) E:=by
 intro pins σ H1 s1 ev s2 I h
 obtain⟨e,C,H',rfl,F,hE⟩:=h
 obtain⟨B,a0,fl,br,de⟩:=F.oN
 refine wpAny_leaves_onW (L:=s.heap.objs.size) I.ok.frames rfl fl fun h' gX up=> ?_
 refine⟨e,C,H',rfl,⟨F.os.trans I.os,F.bare,Y0 (base:=base) (L:=s.heap.objs.size) I.base F.un rfl (Nat.le_refl _) I.ok.cf I.ok.dH br fl.1 gX.1 up,Yp F.af de fl.1 gX.1,B,a0,gX,fun b o hb hn=> ?_,de⟩,hE⟩
 obtain⟨o1,e1⟩:=I.base.there b o hb (by simp[bc])
 refine br b o1 e1 fun hm=> ?_
 have cU:b∈(envOfC qual scope s.heap.objs.size f cd::outer).filterMap (·.frame):=hm
 rw[List.filterMap_cons_some (f:=fun(x:Env)=>x.frame) (a:=envOfC qual scope s.heap.objs.size f cd) (b:=s.heap.objs.size) rfl]at cU
 rcases List.mem_cons.mp cU with q |q
 ·rw[q]at hb
  exact absurd (Heap.lt_size hb) (Nat.lt_irrefl _)
 ·exact hn q
theorem WV {K:PySem.W.Frag}{h:Heap}{C:Addr}{gr:List Value}{newId:String}(X:K.In h) (q:PySem.W.excIn K C gr newId=true):
  ∃bm N nm qn bs hdct sn sub ab col dd k0 k1 k2 k3 k5 mN,h.get? C=some (excClassObj nm qn C N bs bm hdct sn sub ab col dd k0 k1 k2 k3 k5 newId)∧h.Ns N mN∧mN "__init__" =none∧OwnTail h gr bm:=by
 unfold PySem.W.excIn at q
 split at q
 ·rename_i dd cd sl lk
  split at q
  ·rename_i c2 bm j0 j1 j2 j3 nn j5 em es
   rw[Bool.and_eq_true,Bool.and_eq_true,Bool.and_eq_true,Bool.and_eq_true,Bool.and_eq_true]at q
   obtain⟨⟨⟨⟨⟨q1,q2⟩,q3⟩,q4⟩,q5⟩,q6⟩:=q
   have z1:=beq_iff_eq.mp q1
   have z2:=beq_iff_eq.mp q2
   have z6:=beq_iff_eq.mp q6
   subst z1 z2
   have ob:=X _ _ lk
   have z3:cd.hasDel=false:=by revert q3;cases cd.hasDel<;>simp
   have zs:sl= #[j0,j1,j2,j3,some (.builtin nn),j5]:=by
    apply Array.toList_inj.mp
    rw[es]
   refine⟨bm,cd.ns,cd.name,cd.qualname,cd.bases,cd.hasDict,cd.slotNames,cd.subclasses,cd.abstract,cd.collection,dd,j0,j1,j2,j3,j5,h.nsMap cd.ns,?_,.of_isNs (PySem.W.isNs_of_in X q5),PySem.W.nsMap_none_of_in X q5 z6,PySem.W.tail_of_in X q4⟩
   rw[ob,zs]
   obtain⟨a1,a2,a3,a4,a5,a6,a7,a8,a9,a10,a11⟩:=cd
   cases em
   cases z3
   rfl
  ·cases q
 ·cases q
def ue (C:Addr) (E:XK) (ta:TA):TS:=fun _ σ H=>ta σ H fun vs H1=>vs.length≤sizeLine∧∀e,E (.ref e) (some C) H1
theorem J8 {P:Program}{w:World}{K:PySem.W.Frag}{mg:Str→Option Value}{base:Heap}{N:List Str}{qual:Str}{scope:Scope}{f:Addr}{cd:Value}{A:Around}{outer:List Env}{s s1:Shared}{H H1:Hp}{E:XK}
  {pins:List (Addr×Obj)}{σ:St}{h':Heap}{e C:Addr}{vs:List Value} (I:Inv (bc (bA P w) P w K mg base N qual scope f cd A outer s H E) pins σ H1 s1) (mk:Heap.MadeExcOf s1.heap h' e (.ref C) vs) (hE:E (.ref e) (some C) H1):
  (bc (bA P w) P w K mg base N qual scope f cd A outer s H E).xe (.ref e) {s1 with heap:=h'} :=by
 have fw:∀env∈(envOfC qual scope s.heap.objs.size f cd::outer),∀b,env.frame=some b→b∈ay (envOfC qual scope s.heap.objs.size f cd::outer):=fun env he b hb=>List.mem_filterMap.mpr ⟨env,he,hb⟩
 have st:=I.stack
 refine wpAny_leaves_madeW (L:=s.heap.objs.size) (base:=PySem.W.hideAll s1.heap (ay (envOfC qual scope s.heap.objs.size f cd::outer))) (h:=s1.heap) I.ok.frames rfl (fun b o q=>PySem.W.of_hideAll _ q) (PySem.W.funFrames_hide st fw) mk fun h2 t fl tp _ up=> ?_
 have br:∀b o,s1.heap.get? b=some o→b∉ay (envOfC qual scope s.heap.objs.size f cd::outer)→∃u,(PySem.W.hideAll s1.heap (ay (envOfC qual scope s.heap.objs.size f cd::outer))).get? b=some u:=fun b o hb hn=> ⟨o,PySem.W.hideAll_get _ hb hn⟩
 have de:∀b o,H1 b=some o→∃u,(PySem.W.hideAll s1.heap (ay (envOfC qual scope s.heap.objs.size f cd::outer))).get? b=some u:=fun b o hb=>by
  have hl:=I.af.lt hb
  have hx:∃u,s1.heap.get? b=some u:=by
   have ok:=I.af b o hb
   cases o with
   |lst xs=>obtain⟨_,_,_,_,q⟩:=ok;exact⟨_,q⟩
   |tup xs=>obtain⟨_,_,_,⟨ob,q,_⟩,_⟩:=ok;exact⟨_,q⟩
   |par xs=>obtain⟨_,_,_,ob,q,_⟩:=ok;exact⟨_,q⟩
   |dK kvs=>obtain⟨_,_,_,_,ob,_,_,q,_⟩:=ok;exact⟨_,q⟩
   |dT kvs=>obtain⟨_,_,_,_,ob,_,_,q,_⟩:=ok;exact⟨_,q⟩
   |set S n=>obtain⟨ob,_,_,_,q,_⟩:=ok;exact⟨_,q⟩
   |ins C dx fs=>obtain⟨_,_,_,q,_⟩:=ok;exact⟨_,q⟩
   |own y=>exact ok
   |xd fs=>obtain⟨_,⟨_,_,_,q,_⟩,_⟩:=ok;exact⟨_,q⟩
   |bW lo hi=>obtain⟨_,_,_,q⟩:=ok;exact⟨_,q⟩
   |bw ob u=>exact⟨_,ok.1⟩
   |bE ps=>exact⟨_,(show s1.heap.get? b=some _ from ok)⟩
   |met f y=>exact⟨_,(show s1.heap.get? b=some _ from ok)⟩
   |ext φ=>exact ok.2.1
  obtain⟨u,hu⟩:=hx
  exact br b u hu fun hm=>by
   have:=I.iR b hm
   rw[this]at hb
   cases hb
 have k1:Heap.StaysIn (PySem.W.hideAll s1.heap (ay (envOfC qual scope s.heap.objs.size f cd::outer))) h':=fun b o q=>mk.keeps b o (PySem.W.of_hideAll _ q)
 refine⟨e,C,H1,rfl,⟨I.os,I.bare,Y0 (s1:=s1) (s2:= {s1 with heap:=h'}) (base:=base) (L:=s.heap.objs.size) I.base (Un.kept mk.keeps) rfl (Nat.le_refl _) I.ok.cf I.ok.dH br k1 fl.1 up,Yp (I.af.kept mk.keeps) de k1 fl.1,_,_,fl,fun b o hb hn=> ?_,de⟩,hE⟩
 obtain⟨o1,e1⟩:=I.base.there b o hb (by simp[bc])
 refine br b o1 e1 fun hm=> ?_
 have cU:b∈(envOfC qual scope s.heap.objs.size f cd::outer).filterMap (·.frame):=hm
 rw[List.filterMap_cons_some (f:=fun(x:Env)=>x.frame) (a:=envOfC qual scope s.heap.objs.size f cd) (b:=s.heap.objs.size) rfl]at cU
 rcases List.mem_cons.mp cU with q |q
 ·rw[q]at hb
  exact absurd (Heap.lt_size hb) (Nat.lt_irrefl _)
 ·exact hn q
theorem Uo {P:Program}{w:World}{K:PySem.W.Frag}{mg:Str→Option Value}{base:Heap}{N:List Str}{qual:Str}{scope:Scope}{f:Addr}{cd:Value}{A:Around}{outer:List Env}{s:Shared}{H:Hp}{E:XK}{x:Str}{C:Addr}{B newId nS:String}{gr:List Value}
  {da:Expr}{rest:List Expr}{np bb pos:Pos}{ta:TA} (FB:ExcBaseFacts B newId nS gr) (hmg:mg x=some (.ref C)) (hex:PySem.W.excIn K C gr newId=true) (hg:Gl (bc (bA P w) P w K mg base N qual scope f cd A outer s H E) x)
  (ha:PA (bc (bA P w) P w K mg base N qual scope f cd A outer s H E) (da::rest) ta)
  (he:starEach (da::rest) (envOfC qual scope s.heap.objs.size f cd)=(false,eval da (envOfC qual scope s.heap.objs.size f cd))::starEach rest (envOfC qual scope s.heap.objs.size f cd):=by rfl)
  (bH:(backTo bb (starEach rest (envOfC qual scope s.heap.objs.size f cd))).any (·.1)=false:=by rfl) (hd:(x==("__debug__" :Str))=false:=by decide):
  PS (bc (bA P w) P w K mg base N qual scope f cd A outer s H E) (.Raise (some (.Call (.Name x np) (da::rest) [] bb)) none pos) (ue C E ta):=by
 intro pins s1 σ H1 D I h
 obtain⟨bm,Nn,nm,qn,bs,hdct,sn,sub,ab,col,dd,k0,k1,k2,k3,k5,mN,hC,hN,oh,T⟩:=WV I.mod.fV hex
 refine wpAny_Raise_call_subT (C:=C) (nm:=nm) (q:=qn) (N:=Nn) (bs:=bs) (bm:=bm) (hdct:=hdct) (sn:=sn) (sub:=sub) (ab:=ab) (col:=col) (dd:=dd) (k0:=k0) (k1:=k1) (k2:=k2) (k3:=k3) (k5:=k5)
  FB (mN:=mN) (T.hasType FB.hasBase) (I.ok.hd rfl) ?_ oh (Yi I hg hmg ⟨rfl,?_⟩ hd)
 ·show(backTo bb (starEach (da::rest) (envOfC qual scope s.heap.objs.size f cd))).any (·.1)=false
  rw[he]
  show(false||(backTo bb (starEach rest (envOfC qual scope s.heap.objs.size f cd))).any (·.1))=false
  rw[bH]
  rfl
 ·have q:=ha bb pins s1 σ H1 _ I h
  show wpAny _ _ (evalArgs (.ref C) true (backTo bb (starEach (da::rest) (envOfC qual scope s.heap.objs.size f cd))) []) _ _ _
  have q':wpAny (model P w) (A.deeper (envOfC qual scope s.heap.objs.size f cd)) (spliced (backTo bb (starEach (da::rest) (envOfC qual scope s.heap.objs.size f cd)))) _ _ s1:=q
  rw[he]at q' ⊢
  refine Calls.evalArgs_plain (wpAny_mono q' (fun us s2 h2=> ?_) fun _ _ y=>y)
  obtain⟨vs,H2,I2,r,hz,hE⟩:=h2
  refine⟨rfl,by rw[←r.length];exact hz,I2.bk _ _ hC,hN.keeps I2.bk,T.keeps I2.bk,fun h' e mk=> ?_⟩
  exact J8 I2 mk (hE e)
section
variable {X:Cx}
def uv (ta tb:TE):TE:=fun σ H Q=>ta σ H fun v H1=> ∃x,v=.str x∧(Str.empty++x).length≤sizeLine∧tb σ H1 fun u H2=> ∃n:Int,u=.int n∧n.natAbs.log2<1920∧(Str.empty++x++(Str.ofString (toString n))).length≤sizeLine∧∀z,Q (.str z) H2
theorem U5 {a b:Expr}{ta tb:TE}{p pos:Pos}(ha:PE X a ta) (hb:PE X b tb):PE X (.JoinedStr [a,.FormattedValue b (-1) none p] pos) (uv ta tb):=by
 intro pins s σ H Q I h
 refine JoinedStr_many (joinParts_cons (wpAny_mono (ha pins s σ H _ I h) (fun u s1 h1=> ?_) fun _ _ y=>y))
 obtain⟨v,H1,I1,r1,x,rfl,hz,h2⟩:=h1
 obtain⟨t,rfl⟩:=r1
 refine⟨hz,joinParts_cons (FormattedValue_plain (wpAny_mono (hb pins s1 σ H1 _ I1 h2) (fun u s2 h3=> ?_) fun _ _ y=>y))⟩
 obtain⟨v,H2,I2,r2,n,rfl,hn,cE,q⟩:=h3
 obtain⟨t2,rfl⟩:=r2
 refine formatField_int_small hn ⟨cE,?_⟩
 refine joinParts_nil ?_ cE
 exact⟨.str _,H2,(I2.tok _).tok _,⟨_,rfl⟩,q _⟩
end
section
variable {P:Program}{w:World}{K:PySem.W.Frag}{mg:Str→Option Value}{base:Heap}
theorem ba.nA {x qual:Str}{st:Stmt}{f:Addr}{fd:FuncData}{N ps:List Str}{k:Nat}{sp:Sp}(F:ba K x qual st f fd) (S:bC N ps (aq st)) (len:∀vs H Q E,sp vs H Q E→vs.length=ps.length)
    (hb:∀(aj:Value) (A:Around) (outer:List Env) (s:Shared) (H:Hp) (vs:List V) (Q:VK) (E:XK),bj k (A.deeper (envOfC qual (aq st) s.heap.objs.size f aj))→sp vs H Q E→
      ∃t,cH (bc (bA P w) P w K mg base N qual (aq st) f aj A outer s H E) (bB st) t∧t {nx:=fun _ H'=>Q .aa H',rt:=Q} (start N vs) H):az P w K mg base (bA P w) (k+1) f fd ps sp:=by
  obtain⟨oc,od,kV,doc,pm,an,aj,ct,cJ,rfl,lk,bI⟩:=F.ex
  exact UL lk bI S len fun A outer s H vs Q E hr bX=>hb aj A outer s H vs Q E hr bX
def dA (P:Program) (w:World) (K:PySem.W.Frag) (mg:Str→Option Value) (base:Heap) (k:Nat) (x:Str) (ps:List Str) (sp:Sp):Prop:=
 ∃f fd,az P w K mg base (bA P w) k f fd ps sp∧mg x=some (.ref f)∧PySem.W.keepIn K (.ref f)=true∧Binds K fd ps []
theorem J4 {N:List Str}{qual:Str}{scope:Scope}{f:Addr}{cd:Value}{A:Around}{outer:List Env}{s:Shared}{H:Hp}{E:XK}{k:Nat}{x:Str}{ps:List Str}{sp:Sp}{e:Expr}{es:List Expr}{t:TA}{p pos:Pos}
  (d:dA P w K mg base k x ps sp) (hr:bj k (A.deeper (envOfC qual scope s.heap.objs.size f cd))) (ha:PA (bc (bA P w) P w K mg base N qual scope f cd A outer s H E) (e::es) t) (hg:Gl (bc (bA P w) P w K mg base N qual scope f cd A outer s H E) x:=by rfl)
  (dr:(x==("__debug__" :Str))=false:=by decide)
  (he:starEach (e::es) (envOfC qual scope s.heap.objs.size f cd)=(false,eval e (envOfC qual scope s.heap.objs.size f cd))::starEach es (envOfC qual scope s.heap.objs.size f cd):=by rfl)
  (bH:(backTo pos (starEach es (envOfC qual scope s.heap.objs.size f cd))).any (·.1)=false:=by rfl):
  PE (bc (bA P w) P w K mg base N qual scope f cd A outer s H E) (.Call (.Name x p) (e::es) [] pos) (hW sp [] E t):=by
 obtain⟨g,fd,F,hm,hk,hb⟩:=d
 exact WN F hr hg hm hk hb .nil vK ha dr he bH
end
end L2
namespace L2
open PySem PySem.Spec PyProof.Rows PySem.Builtin PySem.Builtin.ObjectAttr PySem.Builtin.Getset_descriptor
def aY (e C:Addr):HO:=.ext fun h=> ∃o,h.get? e=some o∧o.cls=.ref C
structure fH (K:PySem.W.Frag) (C:Addr):Prop where
 ga:PySem.W.findIn K (.ref C) "__getattribute__" =some (some (.builtin "BaseException.__getattribute__"))
 hook:PySem.W.findIn K (.ref C) "__getattr__" =some none
 cl:PySem.W.findIn K (.ref C) "__class__" =some (some (.builtin "object.__class__"))
 ob:PySem.W.mroIn K C (.type "object")=some true
 bx:PySem.W.mroIn K C (.type "BaseException")=some true
 cls:(PySem.W.clsIn K C).isSome=true
section
variable {prog:Program}{w:World}{A:Around}{E:Value→Shared→Prop}{s:Shared}{K:PySem.W.Frag}{e C:Addr}{o:Obj}{R:Result→Shared→Prop}
theorem YQ {M:Model}{h:Heap}(hx:h.get? e=some o) (hc:o.cls=.ref C):PySem.W.Looks M h (typeOf (.ref e)) (.ref C):=hc▸(PySem.W.Looks.ld hx).andThen .now
theorem UN {tp:Value}(X:K.In s.heap) (hx:s.heap.get? e=some o) (hc:o.cls=.ref C) (Z:fH K C) (h:R (.ok (.ret (.ref C))) s):
  codeAny (model prog w) A (.call (.builtin "getset_descriptor.__get__") ⟨[.builtin "object.__class__",.ref e,tp],[]⟩) R s:=by
 obtain⟨h0,g0,d0,t0,o0⟩:=s
 have LT:=YQ (M:=model prog w) hx hc
 have LM:=PySem.W.looks_mroIn (M:=model prog w) X Z.ob
 refine codeAny_call_builtin PySem.W.KF.slot_gs.plain PySem.W.KF.entry_gs (PySem.W.KF.slot_gs.check _ _ _ _ _ _ _ _ PySem.W.KF.type_class (PySem.W.KF.args_gs _ _ _) ?_)
 unfold Builtin.«getset_descriptor.__get__» descrGet
 rw[PySem.W.dga_obj]
 refine wpAny_bind (wpAny_pure ?_)
 unfold descrGetter descrCheckInstance descrNameAndClass isInstance
 simp only[PySem.W.KF.owner_class]
 repeat lk
 refine⟨Code.quiet_builtin _ (by decide+kernel),codeAny_builtin PySem.W.KF.entry_class ?_⟩
 unfold Builtin.«object.__class__» shownTypeOf
 repeat lk
 exact h
theorem Ue {tk:Tok}{Q:PySem.Fin→Shared→Prop}(X:K.In s.heap) (hx:s.heap.get? e=some o) (hc:o.cls=.ref C) (Z:fH K C) (hq:Q (.done (.ret (.ref C))) s):
  wpAny (model prog w) A (Builtin.«object.__getattribute__» ⟨[.ref e,.str "__class__" tk],[]⟩) Q E s:=by
 obtain⟨h0,g0,d0,t0,o0⟩:=s
 have LT:=YQ (M:=model prog w) hx hc
 have LC:=PySem.W.looks_findIn (M:=model prog w) X Z.cl
 have CN:(⟨h0,g0,d0,t0,o0⟩:Shared).TypeIs (.builtin "object.__class__") "getset_descriptor" :=F.typeOf_object_class
 have f5:=F.typeOf_object_class
 have f6:=F.slot_gs_get.lookup
 have f7:=F.slot_gs_set.lookup
 repeat (any_goals (first |assumption |with_reducible refine LT.at ?_ |with_reducible refine LC.at ?_ |wp_step))
 refine UN (s:=⟨h0,g0,d0,t0,o0⟩) X hx hc Z ?_
 exact wpAny_pure hq
theorem UO {tk:Tok}(X:K.In s.heap) (hx:s.heap.get? e=some o) (hc:o.cls=.ref C) (Z:fH K C) (hq:R (.ok (.ret (.ref C))) s):
  codeAny (model prog w) A (.call (.builtin "BaseException.__getattribute__") ⟨[.ref e,.str "__class__" tk],[]⟩) R s:=by
 refine codeAny_call_builtin F.attr_ValueError.ga.plain F.entry_bexc_ga ?_
 obtain⟨h0,g0,d0,t0,o0⟩:=s
 have LT:=YQ (M:=model prog w) hx hc
 have LB:=PySem.W.looks_mroIn (M:=model prog w) X Z.bx
 have hk:builtinKind "BaseException.__getattribute__" =some .slot:=by decide+kernel
 have bX:splitId "BaseException.__getattribute__" =some ("BaseException", "__getattribute__"):=by decide+kernel
 have ha:=F.args_bexc_ga (.ref e) (.str "__class__" tk)
 simp only[checkBuiltinCall,hk,bX]
 have LI:PySem.W.Looks (model prog w) h0 (isInstance (.ref e) (.type "BaseException")) true:=LT.andThen LB
 refine wpAny_bind (LI.at ?_)
 repeat (first |exact Ue (s:=⟨h0,g0,d0,t0,o0⟩) X hx hc Z hq |assumption |wp_step)
theorem UP {Q:Option Value→Shared→Prop}(X:K.In s.heap) (hx:s.heap.get? e=some o) (hc:o.cls=.ref C) (Z:fH K C) (hq:Q (some (.ref C)) {s with toks:=s.toks+1}):
  wpAny (model prog w) A (getAttr? (.ref e) "__class__") Q E s:=by
 obtain⟨h0,g0,d0,t0,o0⟩:=s
 have LT:=YQ (M:=model prog w) hx hc
 have L1:=PySem.W.looks_findIn (M:=model prog w) X Z.ga
 have L2:=PySem.W.looks_findIn (M:=model prog w) X Z.hook
 have f3:=F.attr_ValueError.ga.bind (.ref e)
 have wZ:(Value.builtin "BaseException.__getattribute__" ==Value.builtin "object.__getattribute__")=false:=by decide+kernel
 have Cs:(onTheHeap (Value.ref C)&&Value.builtin "BaseException.__getattribute__" ==Value.builtin "object.__getattribute__")=false:=by rw[wZ];rfl
 unfold getAttr? getAttrBy? getAttrBy
 refine wpAny_bind (wpAny_mkText (wpAny_bind (wpAny_attempt (wpAny_holding (wpAny_bind (LT.at (wpAny_bind (L1.at ?_))))))))
 repeat (any_goals (first |assumption |with_reducible refine L2.at ?_ |wp_step))
 refine UO (s:=⟨h0,g0,d0,t0+1,o0⟩) X hx hc Z ?_
 repeat (any_goals (first |assumption |wp_step))
theorem UJ (Z:fH K C):PySem.W.KitX K (.ref e) (.ref C) (fun h=> ∃o,h.get? e=some o∧o.cls=.ref C) where
 ty:=fun M h _ ⟨o,hx,hc⟩=>YQ hx hc
 it:=fun M h X _=>by
  obtain⟨cd,bI⟩:=Option.isSome_iff_exists.mp Z.cls
  unfold PySem.W.clsIn at bI
  split at bI
  ·rename_i lk
   intro A2 Q2 E2 s2 k q
   unfold isType loadHead
   exact wpAny_bind (wpAny_loadPart (k _ _ (X _ _ lk)) (wpAny_pure q))
  ·cases bI
 ne:=fun h tp dd its n sl X qS=>by
  obtain⟨cd,bI⟩:=Option.isSome_iff_exists.mp Z.cls
  refine Bool.eq_false_iff.mpr fun q=> ?_
  have z:C=tp:=Value.ref.inj (beq_iff_eq.mp q)
  rw[←z]at qS
  unfold PySem.W.clsIn at bI
  split at bI
  ·rename_i lk
   have y:=(X _ _ lk).symm.trans qS
   cases y
  ·cases bI
 ca:=fun X ⟨o,hx,hc⟩ k=>UP X hx hc Z k
end
section
variable {X:Cx}
theorem Zl:cj X (.builtin "isinstance") (fun xs H Q=> ∃e C y c b,xs=[.ref e,y]∧H e=some (aY e C)∧fH X.K C∧(∀u,RelV y u→u=c)∧PySem.W.kitOne X.K (.ref C) c=some b∧Q (.bl b) H):=by
 rintro pins s σ H vs us Q I r ⟨e,C,y,c,b,rfl,he,Z,hy,hk,q⟩
 cases r with
 |cons r1 r2=>
  cases r2 with
  |cons r3 r4=>
   cases r4
   rw[hy _ r3]
   rw[show _=Value.ref e from r1]
   obtain⟨p,_,_⟩:=(show aX X.prog X.w H s.heap e (aY e C) from I.af e _ he)
   exact PySem.W.kia_one (UJ Z) I.bp p hk (fun z=>nomatch z) fun tk=> ⟨.bl b,H,I.tok _,rfl,q⟩
end
end L2
namespace L2
open PySem PySem.Spec PyProof.Rows
abbrev Cx.dn (X:Cx) (e:Value):Cx:= {X with A:=X.A.mark (some e),calm:=false,xe:=fun _ _=>False}
section
variable {X:Cx}{pins:List (Addr×Obj)}{σ:St}{H H':Hp}{s s':Shared}
theorem Inv.dn (I:Inv X pins σ H s) (e:Value):Inv (X.dn e) pins σ H s:=
 ⟨⟨I.ok.mod,I.ok.kind,I.ok.glob,I.ok.blt,I.ok.above,I.ok.inj,I.ok.has,I.ok.gq,fun h=>Bool.noConfusion h,I.ok.frames,I.ok.hX,I.ok.iF,I.ok.bs,I.ok.fb,I.ok.gM,I.ok.gY,I.ok.cf,I.ok.dH⟩,I.os,I.bare,I.base,I.loc,I.cell,I.free,I.cZ,I.pin,I.af,I.len⟩
theorem Inv.tL {e:Value}(I:Inv (X.dn e) pins σ H s) (hd:X.calm=true→X.A.handled=none):Inv X pins σ H s:=
 ⟨⟨I.ok.mod,I.ok.kind,I.ok.glob,I.ok.blt,I.ok.above,I.ok.inj,I.ok.has,I.ok.gq,hd,I.ok.frames,I.ok.hX,I.ok.iF,I.ok.bs,I.ok.fb,I.ok.gM,I.ok.gY,I.ok.cf,I.ok.dH⟩,I.os,I.bare,I.base,I.loc,I.cell,I.free,I.cZ,I.pin,I.af,I.len⟩
theorem Inv.sf {e C:Addr}{B h':Heap}{o:Obj}(I:Inv X pins σ H s) (un:Un (ay X.stack) [] H H' s.heap s'.heap) (os:s'.os=s.os) (bare:AllBare s'.gens) (af:aZ X.prog X.w H' s'.heap)
  (br:∀b o,s.heap.get? b=some o→b∉ay X.stack→∃u,B.get? b=some u) (de:∀b o,H' b=some o→∃u,B.get? b=some u) (be:B.get? e=none) (k1:B.StaysIn s'.heap) (k2:B.StaysIn h') (up:s'.heap.UpToSlots h')
  (he:h'.get? e=some o) (hc:o.cls=.ref C) (hd:∃vs,o.data=.fields vs):Inv X pins σ (upd H' e (aY e C)) {s' with heap:=h'}∧H' e=none:=by
 have n0:H' e=none:=by
  cases q:H' e with
  |none=>rfl
  |some u=>
   obtain⟨u',hu⟩:=de e u q
   rw[be]at hu
   cases hu
 have ik:∀b o,s.heap.get? b=some o→b∈ay X.stack→∃sl,h'.get? b=some {o with slots:=sl} :=fun b o hb hm=>by
  obtain⟨_,o',bS,nf⟩:=I.stack.mem hm
  rw[hb]at bS
  cases bS
  obtain⟨uP,e1⟩:=un.slot b o hb (I.iR b hm) hm (by simp)
  obtain⟨gB,e2⟩:=up b _ e1 nf
  exact⟨gB,e2⟩
 have vU:∀b u,s.heap.get? b=some u→b≠e:=fun b u hb z=>by
  rw[z]at hb
  by_cases hm:e∈ay X.stack
  ·obtain⟨_,o',bS,nf⟩:=I.stack.mem hm
   rw[hb]at bS
   cases bS
   obtain⟨sl,q⟩:=ik e u hb hm
   rw[he]at q
   cases q
   obtain⟨vs,hv⟩:=hd
   exact nf vs hv
  ·obtain⟨u',hu⟩:=br e u hb hm
   rw[be]at hu
   cases hu
 have nP:∀b o u,s'.heap.get? b=some o→B.get? b=some u→h'.get? b=some o:=fun b o u hb hu=>by
  have e1:=k1 b u hu
  rw[hb]at e1
  cases e1
  exact k2 b _ hu
 refine⟨I.sj (s':= {s' with heap:=h'}) (ch:=[]) os ⟨fun b u hb hn hf _=> ?_,fun b u hb hn hm _=>ik b u hb hm,fun b u hb hn _=> ?_,fun b u hb _=> ?_,fun b xs hb=> ?_,fun b u v hb=> ?_,fun b ps hb=> ?_⟩ ?_ bare (fun b hb=>absurd hb (by simp)),n0⟩
 ·have e1:=un.keep b u hb hn hf (by simp)
  obtain⟨u',hu⟩:=br b u hb hf
  exact nP b u u' e1 hu
 ·rw[Zg (vU b u hb)]
  exact un.free b u hb hn (by simp)
 ·by_cases hm:b∈ay X.stack
  ·obtain⟨sl,q⟩:=ik b u hb hm
   exact⟨_,q⟩
  ·obtain⟨u',hu⟩:=br b u hb hm
   exact⟨u',k2 b u' hu⟩
 ·have q:=un.dj b xs hb
  rw[Zg (Ze q n0)]
  exact q
 ·have q:=un.cY b u v hb
  rw[Zg (Ze q n0)]
  exact q
 ·obtain⟨m,q⟩:=un.cP b ps hb
  exact⟨m,by rw[Zg (Ze q n0)];exact q⟩
 ·intro b u hb
  by_cases eZ:b=e
  ·subst eZ
   rw[Zb]at hb
   cases hb
   refine⟨⟨o,he,hc⟩,⟨o,he⟩,fun h1 h2 p k=> ?_⟩
   obtain⟨o1,q1,q2⟩:=p
   exact⟨o1,k _ q1,q2⟩
  ·rw[Zg eZ]at hb
   have x:=Yp af de k1 k2 b u hb
   refine x.dD (fun c w' eY q=>q) (fun c q=> ?_) fun c xs q=> ?_
   ·rw[Zg (Ze q n0)];exact q
   ·rw[Zg (Ze q n0)];exact q
end
def t9 (X:Cx) (ic ie:Nat) (cS:Addr) (k:Nat) (ts:TS):TS:=fun D σ H=> ∃f fd sp,σ[ic]? =some (some (.ref f))∧(∀s,aZ X.prog X.w H s→PySem.W.FnAt f s)∧az X.prog X.w X.K X.mg X.base (bA X.prog X.w) k f fd [] sp∧(∀s,BindsTo s fd ⟨[],[]⟩ [])∧
 sp [] H (fun _ _=>False) fun ev c H'=> ∃e C,ev=.ref e∧c=some C∧PySem.W.exmOne X.K (.ref C) (.ref cS)=some true∧(H' e=none→ts {nx:=fun ag H2=>D.nx (ag.set ie none) H2,rt:=fun _ _=>False} (σ.set ie (some (.ref e))) (upd H' e (aY e C)))
theorem Wu {X:Cx}{ic ie k:Nat}{c n S:Str}{cS:Addr}{b0:Stmt}{p8:List Stmt}{ts:TS}{p1 p2 p3 p4 p5 p6:Pos}(CL:X.calm=true) (gP:X.stack=X.env::X.outer) (dq:X.env.frame=some X.env.locals) (hN:X.N.Nodup) (ym:X.N[ic]? =some c) (xa:jK X.env.scope c)
  (kW:X.N[ie]? =some n) (jh:X.env.scope.names.lookup n=some .local) (hS:X.mg S=some (.ref cS)) (yq:Gl X S) (hr:bj k X.A) (xr:∀e,cH (X.dn (.ref e)) (b0::p8) ts)
  (yx:(c==("__debug__" :Str))=false:=by decide) (yw:(c==("__classdict__" :Str))=false:=by decide) (yy:(S==("__debug__" :Str))=false:=by decide)
  (nX:swapsWith (.Call (.Name c p1) [] [] p2) none p3.line X.env=pure false:=by rfl):
  PS X (.Try [.Expr (.Call (.Name c p1) [] [] p2) p3] [.ExceptHandler (some (.Name S p4)) (some n) (b0::p8) p5] [] [] p6) (t9 X ic ie cS k ts):=by
 intro pins s σ H D I h
 obtain⟨f,fd,sp,gO,dX,F,hb,bX⟩:=h
 refine wpAny_Try_except ?_
 refine wpAny_execs_cons (wpAny_Expr_any ?_ I.quiet nX)
 refine wpAny_Call_Name_kw ?_
 have nm:=Y5 (X:=X.dC (fun _ _=>False)) (i:=ic) (x:=c) (pos:=p1) ym xa yx yw pins s σ H (fun v H2=>v=.ref f∧H2=H) (I.dC _) ⟨_,gO,rfl,rfl⟩
 refine wpAny_mono nm (fun u s1 h1=> ?_) (fun _ _ z=>z.elim)
 obtain⟨v,H1,I1,r1,rfl,rfl⟩:=h1
 have I1:=I1.fg
 obtain rfl:u=Value.ref f:=r1
 refine PySem.W.callWith_F0 (dX _ I1.af) ?_
 refine wpAny_call (codeAny_mono (F.run X.A X.stack s1 H1 ⟨[],[]⟩ [] [] _ _ hr I1.r8 (hb s1) .nil bX) fun r s2 hq=> ?_)
 cases r with
 |ok fl=>
  cases fl with
  |ret u=>obtain⟨_,_,_,_,_,_,_,z⟩:=hq;exact z.elim
  |next=>exact hq.elim
  |brk=>exact hq.elim
  |cont=>exact hq.elim
 |error ev=>
  obtain⟨e,C,H2,rfl,FL,e',C',q1,q2,hx,hk⟩:=hq
  cases q1
  cases q2
  obtain⟨B,a0,fl,br,de⟩:=FL.oN
  rw[gP]at fl
  show wpAny (model X.prog X.w) X.A (noteFrame (.ref e) X.env) _ X.xe s2
  have oM:X.A.frames=some (X.env::X.outer):=by rw[←gP];exact I.ok.frames
  refine wpAny_looks_onW (L:=X.env.locals) oM dq fl fun h4 held pK=> ?_
  refine wpAny_landsW held fun h5 oO pJ=> ?_
  have dw:∃o vs,h5.get? e=some o∧o.cls=.ref C∧o.data=.fields vs:=by
   obtain⟨oe,vs,g1,g2,g3,_⟩:=oO.first
   exact⟨oe,vs,g1,g2,g3⟩
  obtain⟨o5,B7,rW,rV,zG⟩:=dw
  have c5:=I1.sf (h':=h5) FL.un FL.os FL.bare FL.af br de fl.2.1 fl.1 oO.1 (pK.trans pJ) rW rV ⟨_,zG⟩
  have I5:=c5.1.dn (.ref e)
  refine wpAny_handleBy_cons (codeAny_handlers_test ?_) (by intro q;cases q)
  refine Yi (X:=X.dn (.ref e)) I5 yq hS ?_ yy
  have LX:=PySem.W.exm_one (M:=model X.prog X.w) (c:=.ref cS) (e:=e) I5.bp (YQ rW rV) hx
  refine LX.at ?_
  refine codeAny_handlers_suite_as ?_
  refine lands_againW (s:= {s2 with heap:=h5}) oO fun h6 rZ tK=> ?_
  obtain⟨o6,B6,zF,zE,zD,_⟩:=rZ.first
  obtain⟨I6,n6⟩:=I1.sf (h':=h6) FL.un FL.os FL.bare FL.af br de fl.2.1 fl.1 rZ.1 ((pK.trans pJ).trans tK) zF zE ⟨_,zD⟩
  have I6:=I6.dn (.ref e)
  have xn:=hk n6
  refine ZT (X:=X.dn (.ref e)) (i:=ie) I6 hN kW (.inl jh) (v:=.ref e) (u:=.ref e) rfl (fun s7 I7=> ?_) (.inr jh)
  refine wpAny_mono (xr e pins s7 _ _ _ I7 xn) (fun zJ s8 h8=> ?_) fun _ _ z=>z.elim
  cases zJ with
  |ret u=>obtain⟨_,_,_,_,_,z⟩:=h8;exact z.elim
  |brk=>obtain⟨_,_,_,z⟩:=h8;exact z.elim
  |cont=>obtain⟨_,_,_,z⟩:=h8;exact z.elim
  |next=>
   obtain⟨jW,H8,I8,q8⟩:=h8
   have I8:=I8.tL (fun z=>I.ok.hd z)
   obtain⟨m8,q0,yh⟩:=I8.loc
   have oy:(X.env.scope.kind==.class||(X.env.scope.kind==.module&&X.env.locals !=X.env.globals))=false:=by rw[I8.ok.kind];rfl
   refine wpAny_nameGoes_keeps jh q0 oy fun h9 v9 x8 gQ=> ?_
   have st:=ZT (M:=model X.prog X.w) (A:=X.A) (E:=fun _ _=>False) (X:=X) (i:=ie) I8 hN kW (.inl jh) (v:=.aa) (u:=.none) rfl (Q:=fun _ _=>True) (fun _ _=>trivial) (.inr jh)
   refine⟨jW.set ie none,H8,?_,q8⟩
   have aw:ie<jW.length:=by rw[I8.len];exact(List.getElem?_eq_some_iff.mp kW).1
   obtain⟨oL,_,_,hoL,_⟩:=id q0
   have dJ:=I8.dJ
   refine⟨I8.ok,I8.os,I8.bare,⟨fun b o eb nb hb hx=> ?_,fun b o eb nb hb hx=> ?_,I8.base.free,fun b o eb hx=> ?_,I8.base.dj,I8.base.cY,I8.base.cP⟩,⟨_,x8,fun j y v' e1 e2 e3=> ?_⟩,fun y cc ec=> ?_,I8.free,I8.cZ,fun p hp=> ?_,fun b ob eb=> ?_,by simpa using I8.len⟩
   ·exact(gQ.2 b (Nat.ne_of_lt (Nat.lt_of_lt_of_le (Heap.lt_size eb) I8.ok.above))).trans (I8.base.keep b o eb nb hb hx)
   ·obtain⟨sl,q⟩:=I8.base.slot b o eb nb hb hx
    exact⟨sl,(gQ.2 b (Nat.ne_of_lt (Nat.lt_of_lt_of_le (Heap.lt_size eb) I8.ok.above))).trans q⟩
   ·obtain⟨o',q⟩:=I8.base.there b o eb hx
    exact⟨o',(gQ.2 b (Nat.ne_of_lt (Nat.lt_of_lt_of_le (Heap.lt_size eb) I8.ok.above))).trans q⟩
   ·by_cases hj:j=ie
    ·subst hj
     rw[List.getElem?_set_self aw]at e2
     cases e2
    ·rw[List.getElem?_set_ne (Ne.symm hj)]at e2
     obtain⟨u',r',q⟩:=yh j y v' e1 e2 e3
     refine⟨u',r',?_⟩
     rcases q with ⟨kk,q⟩ |⟨kk,c',ec,z⟩
     ·refine .inl ⟨kk,?_⟩
      have ne:y≠n:=fun z=>hj (Y7 hN e1 (z▸kW))
      simp[ne,q]
     ·exact .inr ⟨kk,c',ec,z.sameBut gQ (dJ y c' ec)⟩
   ·obtain⟨w',z⟩:=I8.cell y cc ec
    exact⟨w',z.sameBut gQ (dJ y cc ec)⟩
   ·obtain⟨e1,n1,ne1,wb,d1⟩:=I8.pin p hp
    exact⟨(gQ.2 p.1 ne1).trans e1,n1,ne1,wb,d1⟩
   ·refine(I8.af b ob eb).dD (fun cc w' eY q=> (gQ.2 cc ?_).trans q) (fun _ q=>q) fun _ _ q=>q
    rintro rfl
    rcases eY with rfl |eY
    ·rw[I8.free]at eb;cases eb
    ·rw[I8.free]at eY;cases eY
def dI (c:Addr) (q:Str):HO:=.ext fun h=>h.CodeRec (.ref c) q
def ir (f:Addr) (q:Str) (params:Arguments) (body:Expr) (scope:Scope) (cl:List (Str×Addr)) (pm:Value) (c:Addr) (ct:Value):HO:=.ext fun h=>h.get? f=some (PySem.W.kla_obj "<lambda>" q params body scope cl pm c ct)
def pj (H:Hp) (f:Addr) (q:Str) (params:Arguments) (body:Expr) (scope:Scope) (cl:List (Str×Addr)):Prop:=∃pm c ct,H f=some (ir f q params body scope cl pm c ct)∧H c=some (dI c q)
def BJ (H:Hp) (q:Str) (ps:Array Value):Prop:=TriplesOk ps.toList∧∀pos cv,codeAmong pos ps.toList=some cv→∃c,cv=.ref c∧H c=some (dI c q)
def TabAt (H:Hp) (P:Addr) (q:Str):Prop:=∃ps,H P=some (.bE ps)∧BJ H q ps
theorem YG {h h':Heap}{c:Addr}{q:Str}(x:h.CodeRec (.ref c) q) (k:∀o,h.get? c=some o→h'.get? c=some o):h'.CodeRec (.ref c) q:=by
 obtain⟨c2,oc,vs,tq,e,g1,g2,g3⟩:=x
 cases e
 exact⟨c,oc,vs,tq,rfl,k _ g1,g2,g3⟩
theorem UV {P:Program}{w:World}{H:Hp}{h:Heap}{c:Addr}{q:Str}(x:h.CodeRec (.ref c) q):aX P w H h c (dI c q):=by
 obtain⟨c2,oc,vs,tq,e,g1,g2,g3⟩:=id x
 cases e
 exact⟨x,⟨_,g1⟩,fun h1 h2 p k=>YG p k⟩
theorem WT {P:Program}{w:World}{H:Hp}{h:Heap}{f:Addr}{q:Str}{params:Arguments}{body:Expr}{scope:Scope}{cl:List (Str×Addr)}{pm:Value}{c:Addr}{ct:Value}(x:h.get? f=some (PySem.W.kla_obj "<lambda>" q params body scope cl pm c ct)):
  aX P w H h f (ir f q params body scope cl pm c ct):=⟨x,⟨_,x⟩,fun h1 h2 p k=>k _ p⟩
theorem Ji {pos p2:Pos}{c cv:Value} :∀(l:List Value),TriplesOk l→codeAmong p2 (l++[rawInt pos.line,rawInt pos.col,c])=some cv→codeAmong p2 l=some cv∨cv=c
 | [],_,h=>by
  have h':(if (pos.line:Int)==(p2.line:Int)&&(pos.col:Int)==(p2.col:Int) then some c else codeAmong p2 [])=some cv:=h
  split at h'
  ·exact .inr (Option.some.inj h').symm
  ·cases h'
 | .int a t:: .int b u::x::r,ht,h=>by
  have h':(if a==p2.line&&b==p2.col then some x else codeAmong p2 (r++[rawInt pos.line,rawInt pos.col,c]))=some cv:=h
  show(if a==p2.line&&b==p2.col then some x else codeAmong p2 r)=some cv∨cv=c
  split at h'
  ·rename_i hq
   rw[if_pos hq]
   exact .inl h'
  ·rename_i hq
   rw[if_neg hq]
   exact Ji r ht h'
theorem Yw {pos:Pos}{c:Value} :∀(l:List Value),TriplesOk l→TriplesOk (l++[rawInt pos.line,rawInt pos.col,c])
 | [],_=>trivial
 | .int _ _:: .int _ _::_::r,h=>Yw r h
structure sX (X:Cx) (c P:Addr):Prop where
 code:X.env.code=.ref c
 hd:PySem.W.CodeHd X.base c P
 bm:∃bm ob,X.mg "__builtins__" =some (.ref bm)∧bm≠builtinsNs∧X.base.get? bm=some ob∧ob.cls=.type "module" ∧ob.dict=some builtinsNs∧ob.data=.plain
def uq (X:Cx) (P:Addr) (params:Arguments) (body:Expr) (scope:Scope):TE:=fun σ H Q=>TabAt H P (X.env.qual++ "<lambda>")∧∀f H',ar P H H'→H f=none→TabAt H' P (X.env.qual++ "<lambda>")→pj H' f (X.env.qual++ "<lambda>") params body scope (cg scope X.env)→Q (.ref f) H'
theorem Bx {X:Cx}{c P:Addr}{params:Arguments}{body:Expr}{scope:Scope}{pos:Pos}(L:sX X c P) (ow:defaultsOf params X.env=([],[])) (dq:∀y∈scope.names,y.2=.free→X.env.kindOf y.1=some .cell∨X.env.kindOf y.1=some .free):
  PE X (.Lambda params body scope pos) (uq X P params body scope):=by
 intro pins s σ H Q I h
 obtain⟨⟨ps,hP,hT,hC⟩,q⟩:=h
 have oP:s.heap.get? P=some (PySem.W.tabObj ps):=I.af P _ hP
 have eW:=Yd (scope:=scope) (env:=X.env) fun y hy e=>I.ok.has _ (dq y hy e)
 have lz:s.heap.Ns mainGlobals X.mg:=I.mod.glob.keeps I.bk
 obtain⟨bm,ob,b1,b2,b3,b4,b5,b6⟩:=L.bm
 have yr:mainGlobals≠P:=fun z=>by
  obtain⟨o,es,ep,e,d,_⟩:=lz
  rw[z,oP]at e
  cases e
  cases d
 have gU:bm≠P:=fun z=>by
  have e:=I.bk _ _ b3
  rw[z,oP]at e
  cases e
  cases b4
 have yY:bm≠mainGlobals:=fun z=>by
  obtain⟨o,es,ep,e,d,_⟩:=lz
  have e2:=I.bk _ _ b3
  rw[z,e]at e2
  cases e2
  rw[d]at b6
  cases b6
 have BA:s.heap.BuiltinsAt X.mg P:=⟨bm,ob,b1,b2,yY,gU,I.bk _ _ b3,b4,b5,b6⟩
 refine PySem.W.kla_eval ow ?_
 cases hf:codeAmong pos ps.toList with
 |some cv=>
  obtain⟨c',rfl,bN⟩:=hC pos cv hf
  refine PySem.W.kla_makeFunctionHit eW I.ok.glob lz L.code (L.hd.keeps I.bk) oP hT hf BA fun gZ h' tk hk cF=> ?_
  have nf:H h'.objs.size=none:=I.af.fresh cF
  have s1:ae H (upd H h'.objs.size (ir h'.objs.size (X.env.qual++ "<lambda>") params body scope (cg scope X.env) ((X.mg "__name__").getD .none) c' gZ)):=fun b o hb=>by rw[Zg (Ze hb nf)];exact hb
  refine⟨.ref h'.objs.size,_,I.laid (t':=tk) (a:=h'.objs.size) (fun b u e=>Heap.get?_push_of_some _ (hk b u e)) cF (WT (Heap.get?_push_size _ rfl)),rfl,?_⟩
  exact q _ _ (fun b o hb _=>s1 b o hb) nf ⟨ps,s1 _ _ hP,hT,fun p2 oW z=>by obtain⟨c2,e2,h2⟩:=hC p2 oW z;exact⟨c2,e2,s1 _ _ h2⟩⟩ ⟨_,c',gZ,Zb,s1 _ _ bN⟩
 |none=>
  refine PySem.W.kla_makeFunction eW I.ok.glob lz L.code (L.hd.keeps I.bk) oP hT hf yr BA fun c' gZ h' tk hx kX aw xR nW=> ?_
  have wz:∀b o,s.heap.get? b=some o→b<c':=fun b o e=>Nat.lt_of_lt_of_le (Heap.lt_size e) kX
  have Cm:∀b o,H b=some o→b<c':=fun b o e=>Nat.lt_of_lt_of_le (I.af.lt e) kX
  have nc:H c'=none:=I.af.fresh kX
  have nf:H h'.objs.size=none:=I.af.fresh (Nat.le_trans kX (Nat.le_of_lt aw))
  have vG:P≠c':=Ze hP nc
  have qw:P≠h'.objs.size:=Ze hP nf
  have cnf:c'≠h'.objs.size:=Nat.ne_of_lt aw
  generalize rB:h'.objs.size=f at nf qw cnf
  generalize n8:ps++ #[rawInt pos.line,rawInt pos.col,Value.ref c']=gH at nW
  generalize oj:ir f (X.env.qual++ "<lambda>") params body scope (cg scope X.env) ((X.mg "__name__").getD .none) c' gZ=lo
  have keep:∀b o,b≠P→s.heap.get? b=some o→(h'.push (PySem.W.kla_obj "<lambda>" (X.env.qual++ "<lambda>") params body scope (cg scope X.env) ((X.mg "__name__").getD .none) c' gZ)).get? b=some o:=fun b o hb e=>Heap.get?_push_of_some _ (hx b o hb e)
  have bY:∀b o,H b=some o→b≠P→upd (upd (upd H P (.bE gH)) c' (dI c' (X.env.qual++ "<lambda>"))) f lo b=some o:=fun b o hb cu=>by
   rw[Zg (Ze hb nf),Zg (Ze hb nc),Zg cu]
   exact hb
  have o7:upd (upd (upd H P (.bE gH)) c' (dI c' (X.env.qual++ "<lambda>"))) f lo P=some (.bE gH):=by rw[Zg qw,Zg vG,Zb]
  have atC:upd (upd (upd H P (.bE gH)) c' (dI c' (X.env.qual++ "<lambda>"))) f lo c'=some (dI c' (X.env.qual++ "<lambda>")):=by rw[Zg cnf,Zb]
  have sH:upd (upd (upd H P (.bE gH)) c' (dI c' (X.env.qual++ "<lambda>"))) f lo f=some lo:=Zb
  have J:Inv X pins σ (upd (upd (upd H P (.bE gH)) c' (dI c' (X.env.qual++ "<lambda>"))) f lo) {s with heap:=h'.push (PySem.W.kla_obj "<lambda>" (X.env.qual++ "<lambda>") params body scope (cg scope X.env) ((X.mg "__name__").getD .none) c' gZ),toks:=tk} :=by
   refine I.un (t':=tk) ⟨fun b o e n _ _=>keep b o (fun z=>by rw[z,hP]at n;cases n) e,fun b o e n _ _=> ⟨o.slots,keep b o (fun z=>by rw[z,hP]at n;cases n) e⟩,fun b o e n _=> ?_,fun b o e _=> ?_,fun b xs e=>bY b _ e (fun z=>by rw[z,hP]at e;cases e),fun b o u e=>bY b _ e (fun z=>by rw[z,hP]at e;cases e),fun b qs e=> ?_⟩ ?_
   ·have hl:=wz b o e
    rw[Zg (by rw[←rB];exact Nat.ne_of_lt (Nat.lt_trans hl aw)),Zg (Nat.ne_of_lt hl),Zg (fun z=>by rw[z,hP]at n;cases n)]
    exact n
   ·by_cases hb:b=P
    ·rw[hb];exact⟨_,Heap.get?_push_of_some _ nW⟩
    ·exact⟨o,keep b o hb e⟩
   ·by_cases hb:b=P
    ·rw[hb,hP]at e
     cases e
     exact⟨_,by rw[hb,o7,n8]⟩
    ·exact⟨#[],by rw[bY b _ e hb];simp⟩
   ·intro b o hb
    by_cases h1:b=f
    ·rw[h1,sH]at hb
     cases hb
     rw[h1,←oj]
     refine WT ?_
     rw[←rB]
     exact Heap.get?_push_size _ rfl
    ·by_cases h2:b=c'
     ·rw[h2,atC]at hb
      cases hb
      rw[h2]
      exact UV (YG xR fun o e=>Heap.get?_push_of_some _ e)
     ·by_cases h3:b=P
      ·rw[h3,o7]at hb
       cases hb
       rw[h3]
       exact Heap.get?_push_of_some _ nW
      ·have iD:H b=some o:=by rw[Zg h1,Zg h2,Zg h3]at hb;exact hb
       refine(I.af b o iD).dD (fun z u hz e=>keep z u ?_ e) (fun z e=> ?_) fun z xs e=> ?_
       ·rcases hz with hz |hz
        ·rw[hz];exact h3
        ·intro cE;rw[cE,hP]at hz;cases hz
       ·exact bY z _ e fun cE=>by rw[cE,hP]at e;cases e
       ·exact bY z _ e fun cE=>by rw[cE,hP]at e;cases e
  refine⟨.ref f,_,J,rfl,?_⟩
  refine q f _ (fun b o hb cu=>bY b o hb cu) nf ⟨gH,o7,?_,fun p2 oW z=> ?_⟩ ⟨_,c',gZ,by rw[sH,←oj],atC⟩
  ·rw[←n8,Array.toList_append]
   exact Yw _ hT
  ·rw[←n8,Array.toList_append]at z
   rcases Ji _ hT z with z |z
   ·obtain⟨c2,e2,h2⟩:=hC p2 oW z
    exact⟨c2,e2,bY _ _ h2 fun cE=>by rw[cE,hP]at h2;cases h2⟩
   ·exact⟨c',z,atC⟩
theorem vJ {X:Cx}{E:XK}(wY:∀e s',wpAny (model X.prog X.w) X.A (leaving X.env e) (fun _ cT=>bA X.prog X.w X.outer X.fG X.bt E e cT) (fun e' cT=>bA X.prog X.w X.outer X.fG X.bt E e' cT) s'→X.xe e s')
  (gP:X.stack=X.env::X.outer) (dq:X.env.frame=some X.env.locals) (hex:X.ex=[]):Passes (bA X.prog X.w) X E:=by
 intro pins σ H1 s1 ev s2 I h
 obtain⟨e,C,H',rfl,F,hE⟩:=h
 obtain⟨B,a0,fl,br,de⟩:=F.oN
 have un:=F.un
 rw[gP]at fl br un
 have ib:Un (ay X.outer) [] X.fG H1 X.bt.heap s1.heap:=by have:=I.base;rw[hex]at this;exact this
 have oM:X.A.frames=some (X.env::X.outer):=by rw[←gP];exact I.ok.frames
 refine wY _ _ (wpAny_leaves_onW (L:=X.env.locals) oM dq fl fun h' gX up=> ?_)
 refine⟨e,C,H',rfl,⟨F.os.trans I.os,F.bare,Y0 (base:=X.base) (L:=X.env.locals) ib un dq I.ok.above I.ok.cf I.ok.dH br fl.1 gX.1 up,Yp F.af de fl.1 gX.1,B,a0,gX,fun b o hb hn=> ?_,de⟩,hE⟩
 obtain⟨o1,e1⟩:=ib.there b o hb (by simp)
 refine br b o1 e1 fun hm=> ?_
 have cU:b∈(X.env::X.outer).filterMap (·.frame):=hm
 rw[List.filterMap_cons_some (f:=fun(x:Env)=>x.frame) (a:=X.env) (b:=X.env.locals) dq]at cU
 rcases List.mem_cons.mp cU with q |q
 ·rw[q]at hb
  exact absurd (Nat.lt_of_lt_of_le (Heap.lt_size hb) I.ok.above) (Nat.lt_irrefl _)
 ·exact hn q
def jF (P:Program) (w:World) (K:PySem.W.Frag) (mg:Str→Option Value) (base:Heap) (N:List Str) (q:Str) (scope:Scope) (f:Addr) (cd:Value) (cl:List (Str×Addr)) (A:Around) (outer:List Env) (s:Shared) (H:Hp) (E:XK):Cx where
 prog:=P
 w:=w
 K:=K
 mg:=mg
 base:=base
 A:=A.deeper (PySem.W.envX q scope s.heap.objs.size f cd cl)
 N:=N
 bt:=s
 fG:=H
 env:=PySem.W.envX q scope s.heap.objs.size f cd cl
 outer:=outer
 stack:=PySem.W.envX q scope s.heap.objs.size f cd cl::outer
 ex:=[]
 calm:=true
 fn:=fun _=>false
 pn:=[]
 xe:=fun e s'=>wpAny (model P w) (A.deeper (PySem.W.envX q scope s.heap.objs.size f cd cl)) (leaving (PySem.W.envX q scope s.heap.objs.size f cd cl) e) (fun _ cT=>bA P w outer H s E e cT) (fun e' cT=>bA P w outer H s E e' cT) s'
structure C2 (base:Heap) (scope:Scope) (cl:List (Str×Addr)) (x y:Str) (vx vy:V):Prop where
 kx:scope.names.lookup x=some .free
 ky:scope.names.lookup y=some .free
 only:∀z,scope.names.lookup z=some .cell∨scope.names.lookup z=some .free→z=x∨z=y
 ne:x≠y
 cx:∃c u,cl.lookup x=some c∧base.IsCell c (some u)∧RelV vx u
 cy:∃c u,cl.lookup y=some c∧base.IsCell c (some u)∧RelV vy u
 mem:∀z c,cl.lookup z=some c→z=x∨z=y
 inj:∀c,cl.lookup x=some c→cl.lookup y=some c→False
theorem YE {h b1 b2:Heap} :∀{l:List Env},h.FunFrames b1 l→(∀b∈ay l,b2.get? b=none)→h.FunFrames b2 l
 | [],_,_=>trivial
 |env::r,⟨hk,⟨L,o,hf,_,ho,hd⟩,hr⟩,hn=> ⟨hk,⟨L,o,hf,hn L (List.mem_filterMap.mpr ⟨env,.head _,hf⟩),ho,hd⟩,YE hr fun b hb=>hn b (by
  obtain⟨e,he,q⟩:=List.mem_filterMap.mp hb
  exact List.mem_filterMap.mpr ⟨e,.tail _ he,q⟩)⟩
theorem Inv.rebase {X:Cx}{pins:List (Addr×Obj)}{σ:St}{H:Hp}{s:Shared}(I:Inv X pins σ H s):
  ∃df,X.base.StaysIn df∧jU X.prog X.w X.K X.mg df X.A X.stack s H∧∀b o,s.heap.get? b=some o→H b=none→b∉ay X.stack→df.get? b=some o:=by
 have br:∀b o,s.heap.get? b=some o→H b=none→b∉ay X.stack→(PySem.W.hideAll (dG s.heap H) (ay X.stack)).get? b=some o:=fun b o e n hf=>PySem.W.hideAll_get _ (Wd e n) hf
 have st:X.base.StaysIn (PySem.W.hideAll (dG s.heap H) (ay X.stack)):=fun b o e=>br b o (I.bs b o e).1 (I.bs b o e).2 fun hm=>by
  have:=(I.stack.mem hm).1
  rw[e]at this
  cases this
 refine⟨_,st,⟨I.ok.frames,⟨I.mod.fV.keeps st,I.mod.glob.keeps st,?_,I.mod.nolimit.keeps st⟩,fun b o e=>WQ (PySem.W.of_hideAll _ e),?_,YE I.stack fun b hb=>PySem.W.hideAll_none _ hb,I.iR,I.af,I.bare⟩,br⟩
 ·obtain⟨mb,h1,h2⟩:=I.mod.blt
  exact⟨mb,h1.keeps st,h2⟩
 ·rw[PySem.W.hideAll_size,Jy]
  exact Nat.le_refl _
def Ap:Const→Option V
 | .int n=>some (.int n)
 | .bool b=>some (.bl b)
 | .str x=>some (.str x)
 | .none=>some .aa
 |_=>none
def iW:Expr→Option V
 | .Constant c _ _=>Ap c
 | .UnaryOp .USub (.Constant (.int n) _ _) _=>some (.int (-n))
 | .BinOp (.Constant (.int a) _ _) .Pow (.Constant (.int b) _ _) _=>if 0≤b∧b≤1000000∧a.natAbs<2^64 then some (.int (a^b.toNat)) else none
 |_=>none
def iV:List Expr→Option (List V)
 | []=>some []
 |e::r=>match iW e,iV r with
  |some v,some vs=>some (v::vs)
  |_,_=>none
inductive Lit where
 |sc (v:V)
 |tup (xs:List V)
 |lst (xs:List V)
 |bU
def dg (H:Hp) (v:V):Lit→Prop
 | .sc u=>v=u
 | .tup xs=> ∃a:Addr,v=.ref a∧H a=some (.tup xs)
 | .lst xs=> ∃a:Addr,v=.ref a∧H a=some (.lst xs)
 | .bU=> ∃a:Addr,v=.ref a∧H a=some (.dK [])
theorem dg.same {H H':Hp}{v:V} :∀{l:Lit},dg H v l→ae H H'→dg H' v l
 | .sc _,h,_=>h
 | .tup _,⟨a,e,h⟩,s=> ⟨a,e,s _ _ h⟩
 | .lst _,⟨a,e,h⟩,s=> ⟨a,e,s _ _ h⟩
 | .bU,⟨a,e,h⟩,s=> ⟨a,e,s _ _ h⟩
def litOf:Expr→Option Lit
 | .Tuple es _ _=>match iV es with
  |some xs=>if xs.length≤1000 then some (.tup xs) else none
  |none=>none
 | .List es _=>match iV es with
  |some xs=>if xs.length≤1000 then some (.lst xs) else none
  |none=>none
 | .Dict [] [] _=>some .bU
 |e=> (iW e).map .sc
def litsOf:List Expr→Option (List Lit)
 | []=>some []
 |e::r=>match litOf e,litsOf r with
  |some v,some vs=>some (v::vs)
  |_,_=>none
section
variable {X:Cx}
theorem sN {e:Expr}{v:V}(h:iW e=some v):PE X e (tC v)∧(∀es,starEach (e::es) X.env=(false,eval e X.env)::starEach es X.env)∧∀a:Addr,v≠.ref a:=by
 unfold iW at h
 split at h
 ·rename_i c j p
  cases c with
  |int n=>cases h;exact⟨Zf,fun _=>rfl,fun a z=>by cases z⟩
  |bool b=>cases h;exact⟨YT,fun _=>rfl,fun a z=>by cases z⟩
  |str x=>cases h;exact⟨ZH,fun _=>rfl,fun a z=>by cases z⟩
  |none=>cases h;exact⟨ZX,fun _=>rfl,fun a z=>by cases z⟩
  |_=>cases h
 ·cases h
  refine⟨fun pins s σ H Q I q=>sO Uh Zf pins s σ H Q I ⟨_,rfl,q⟩,fun _=>rfl,fun a z=>by cases z⟩
 ·split at h
  ·rename_i hc
   cases h
   refine⟨fun pins s σ H Q I q=>Zn Ux Zf Zf pins s σ H Q I ⟨_,_,rfl,rfl,hc,q⟩,fun _=>rfl,fun a z=>by cases z⟩
  ·cases h
 ·cases h
theorem Wx:∀{es:List Expr}{vs:List V},iV es=some vs→PA X es (fun _ H Q=>Q vs H)
 | [],vs,h=>by cases h;exact Zc
 |e::r,vs,h=>by
  unfold iV at h
  split at h
  ·rename_i v ws h1 h2
   cases h
   obtain⟨p1,p2,_⟩:=sN (X:=X) h1
   exact fun pos pins s σ H Q I q=>Za p1 (Wx h2) (p2 r) pos pins s σ H Q I q
  ·cases h
theorem By {e:Expr}{l:Lit}(h:litOf e=some l):PE X e (fun _ H Q=> ∀v H',ae H H'→dg H' v l→(∀a:Addr,v=.ref a→H a=none)→Q v H')∧∀es,starEach (e::es) X.env=(false,eval e X.env)::starEach es X.env:=by
 unfold litOf at h
 split at h
 ·split at h
  ·rename_i xs hx
   split at h
   ·rename_i hl
    cases h
    refine⟨fun pins s σ H Q I q=>ZE (Wx hx) pins s σ H Q I ⟨Nat.le_of_lt (mn hl),fun p hp=>q _ _ (fun b o hb=>by rw[Zg (Ze hb hp)];exact hb) ⟨p,rfl,Zb⟩ fun a z=>by cases z;exact hp⟩,fun _=>rfl⟩
   ·cases h
  ·cases h
 ·split at h
  ·rename_i xs hx
   split at h
   ·rename_i hl
    cases h
    refine⟨fun pins s σ H Q I q=>Zu (Wx hx) pins s σ H Q I ⟨Nat.le_of_lt (mn hl),fun p hp=>q _ _ (fun b o hb=>by rw[Zg (Ze hb hp)];exact hb) ⟨p,rfl,Zb⟩ fun a z=>by cases z;exact hp⟩,fun _=>rfl⟩
   ·cases h
  ·cases h
 ·cases h
  exact⟨fun pins s σ H Q I q=>J2 pins s σ H Q I fun p hp=>q _ _ (fun b o hb=>by rw[Zg (Ze hb hp)];exact hb) ⟨p,rfl,Zb⟩ fun a z=>by cases z;exact hp,fun _=>rfl⟩
 ·rename_i x0 h1 h2 h3
  cases hs:iW e with
  |none=>rw[hs]at h;cases h
  |some v=>
   rw[hs]at h
   cases h
   obtain⟨p1,p2,p3⟩:=sN (X:=X) hs
   exact⟨fun pins s σ H Q I q=>p1 pins s σ H Q I (q v H (ae.refl H) rfl fun a z=>absurd z (p3 a)),p2⟩
theorem YA:∀{es:List Expr}{ls:List Lit},litsOf es=some ls→PA X es (fun _ H Q=> ∀vs H',ae H H'→Paired (dg H') vs ls→(∀a,V.ref a∈vs→H a=none)→Q vs H')
 | [],ls,h=>by cases h;exact fun pos pins s σ H Q I q=>Zc pos pins s σ H Q I (q [] H (ae.refl H) .nil fun a z=>nomatch z)
 |e::r,ls,h=>by
  unfold litsOf at h
  split at h
  ·rename_i v ws h1 h2
   cases h
   obtain⟨p1,p2⟩:=By (X:=X) h1
   exact fun pos pins s σ H Q I q=>Za p1 (YA h2) (p2 r) pos pins s σ H Q I fun v1 H1 s1 l1 n1 vs H2 s2 pr n2=>q (v1::vs) H2 (s1.trans s2) (.cons (l1.same s2) pr) fun a z=>by
    rcases List.mem_cons.mp z with z |z
    ·exact n1 a z.symm
    ·exact s1.free (n2 a z)
  ·cases h
end
end L2
namespace L2
open PySem PySem.Spec PyProof.Rows SeqAt
def nT (items:Array Value) (x:Value) (i:Nat) (_:Option PySem.Fin×Unit):Sem (ForInStep (Option PySem.Fin×Unit)):=
 match items[i]? with
 |some y=> (do
  let b ←eqBool y x
  if b=true then (do let v ←retInt (i:Int);pure (ForInStep.done (some v,()))) else pure (ForInStep.yield (none,())))
 |_=>pure (ForInStep.yield (none,()))
theorem Wc {prog:Program}{w:World}{A:Around}{E:Value→Shared→Prop}{s:Shared}{items:Array Value}{x:Value}{e:Value→Bool}{j:Nat}{Q:Option PySem.Fin×Unit→Shared→Prop}(hj:j<items.size) (hit:e items[j]=true) (dF:∀m (hm:m<items.size),m<j→e items[m]=false)
  (he:∀y,y∈items→EqAt A s y x (e y)) (h:Q (some (.done (.ret (.int j s.toks))),()) {s with toks:=s.toks+1}):
  ∀k i,i+k=items.size→i≤j→wpAny (model prog w) A (forIn (List.range' i k) ((none:Option PySem.Fin),()) (nT items x)) Q E s
 |0,i,hk,hi=>by omega
 |k+1,i,hk,hi=>by
  have aw:i<items.size:=by omega
  rw[List.range'_succ,List.forIn_cons]
  refine wpAny_bind ?_
  unfold nT
  rw[Array.getElem?_eq_getElem aw]
  refine wpAny_bind (he _ (Array.getElem_mem aw) prog w _ _ ?_)
  by_cases oq:i=j
  ·subst oq
   rw[hit,if_pos rfl]
   refine wpAny_bind ?_
   wp_walk
   exact h
  ·rw[dF i aw (by omega),if_neg Bool.false_ne_true]
   refine wpAny_pure ?_
   exact Wc hj hit dF he h k (i+1) (by omega) (by omega)
theorem Jj (l:Addr) (items:Array Value) (n:Nat) (dd:Option Addr) (sl:Array (Option Value)) (x:Value) (e:Value→Bool) (j:Nat) (hj:j<items.size) (hit:e items[j]=true) (dF:∀m (hm:m<items.size),m<j→e items[m]=false):
  Meets (Builtin.«tuple.index» ⟨[.ref l,x],[]⟩)
   (fun A R s=>s.heap.get? l=some {cls:=.type "tuple",dict:=dd,data:=.seq items n,slots:=sl}∧(∀y,y∈items→EqAt A.in1 s y x (e y))∧R (.ok (.ret (.int j s.toks))) {s with toks:=s.toks+1}):=
 .of_wp fun prog w A R s h=>by
  obtain⟨hp,g,d,tk,os⟩:=s;obtain⟨hl,he,h⟩:=h
  wp_walk using AutoSeq1.wpAny_loadPart' hl
  show wpAny (model prog w) A.in1 (forIn (m:=Sem) [:min items.size items.size] ((none:Option PySem.Fin),()) (nT items x)) _ _ _
  rw[Std.Legacy.Range.forIn_eq_forIn_range']
  refine Wc hj hit dF he ?_ _ _ (by simp[Std.Legacy.Range.size]) (Nat.zero_le _)
  exact wpAny_pure ⟨_,rfl,h⟩
def vp (K:PySem.W.Frag):V→List V→Hp→VK→Prop:=fun v vs H Q=> ∃(a:Addr) (xs:List V) (x:V) (j:Nat),v=.ref a∧vs=[x]∧ah K H a xs∧du x=true∧xs.all du=true∧(∃y,xs[j]? =some y∧bO y x=true)∧(∀m y,m<j→xs[m]? =some y→bO y x=false)∧Q (.int (j:Int)) H
theorem Ua {X:Cx} :sU X "tuple.index" (vp X.K):=by
 intro pins s σ H v vs u us Q I rv vo h
 obtain⟨a,xs,x,j,rfl,rfl,hq,fx,fs,⟨y,hy,ey⟩,dF,q⟩:=h
 cases rv
 obtain⟨ux,rfl,rx⟩:=vals1 vo
 obtain⟨its,r,pl,hz⟩:=I.tuple hq
 obtain⟨o,ho,hc,n,hd⟩:=id pl
 obtain⟨cls,dd,dt,sl⟩:=o
 replace hc:cls=.type "tuple" :=hc
 replace hd:dt=.seq its.toArray n:=hd
 subst hc hd
 obtain⟨uy,xj,Cc⟩:=r.get hy
 have oo:j<its.length:=(List.getElem?_eq_some_iff.mp xj).1
 have jI:∀k (hk:k<its.length),∃z,xs[k]? =some z∧RelV z its[k]:=fun k hk=>by
  have ix:k<xs.length:=by rw[r.length];exact hk
  obtain⟨w,hw,dS⟩:=r.get (List.getElem?_eq_getElem ix)
  rw[List.getElem?_eq_getElem hk]at hw
  cases hw
  exact⟨_,List.getElem?_eq_getElem ix,dS⟩
 have eqs:∀(A:Around) (k:Nat) (hk:k<its.length) z,xs[k]? =some z→EqAt A s its[k] ux (bO z x):=fun A k hk z fY=>by
  obtain⟨z',cE,rz⟩:=jI k hk
  rw[fY]at cE
  cases cE
  exact UR rz rx (List.all_eq_true.mp fs z (List.mem_of_getElem? fY)) fx
 have vd:∀k l' (hk:k<its.length) (hl:l'<its.length) zk zl,xs[k]? =some zk→xs[l']? =some zl→its[k]=its[l']→bO zk x=bO zl x:=fun k l' hk hl zk zl h1 h2 he=>by
  obtain⟨z1,e1,r1⟩:=jI k hk
  obtain⟨z2,e2,r2⟩:=jI l' hl
  rw[h1]at e1;rw[h2]at e2
  cases e1;cases e2
  rw[he]at r1
  have f1:=List.all_eq_true.mp fs zk (List.mem_of_getElem? h1)
  have f2:=List.all_eq_true.mp fs zl (List.mem_of_getElem? h2)
  have:zk=zl:=by
   generalize its[l']=val at r1 r2
   cases zk<;>cases zl<;>first
    |rfl
    |(exact absurd f1 Bool.false_ne_true)
    |(exact absurd f2 Bool.false_ne_true)
    |(cases r1;cases r2;rfl)
    |(cases r1;cases r2;done)
    |(obtain⟨_,rfl⟩:=r1;obtain⟨_,e⟩:=r2;cases e;rfl)
    |(obtain⟨_,rfl⟩:=r1;obtain⟨_,e⟩:=r2;cases e;done)
    |(obtain⟨_,rfl⟩:=r1;cases r2;done)
    |(cases r1;obtain⟨_,e⟩:=r2;cases e;done)
  rw[this]
 classical
 refine call_meets F.slot_tuple_index ⟨_,ho,rfl⟩ F.entry_tuple_index (F.args_tuple_index_2 _ _)
  (Jj a its.toArray n dd sl ux (fun val=>decide (∃(k:Nat) (z:V),its[k]? =some val∧xs[k]? =some z∧bO z x=true)) j (by simpa using oo) ?_ ?_) ⟨ho,fun val xc=> ?_,?_⟩
 ·refine decide_eq_true ⟨j,y,?_,hy,ey⟩
  simp[oo]
 ·intro m hm yc
  refine decide_eq_false ?_
  rintro⟨k,z,hk,fY,ez⟩
  have cU:m<its.length:=by simpa using hm
  obtain⟨zm,qR,_⟩:=jI m cU
  have eV:=(List.getElem?_eq_some_iff.mp hk)
  obtain⟨iw,jk⟩:=eV
  have e2:=vd k m iw cU z zm fY qR (by rw[jk];simp)
  rw[ez,dF m zm yc qR]at e2
  cases e2
 ·have xb:val∈its:=by simpa using xc
  obtain⟨k,iw,jk⟩:=List.getElem_of_mem xb
  obtain⟨z,fY,rz⟩:=jI k iw
  have ee:=eqs X.A.in1 k iw z fY
  rw[jk]at ee
  have:decide (∃(k:Nat) (z:V),its[k]? =some val∧xs[k]? =some z∧bO z x=true)=bO z x:=by
   cases hb:bO z x with
   |true=>exact decide_eq_true ⟨k,z,by rw[List.getElem?_eq_getElem iw,jk],fY,hb⟩
   |false=>
    refine decide_eq_false ?_
    rintro⟨k2,z2,h1,h2,h3⟩
    obtain⟨ji,iA⟩:=List.getElem?_eq_some_iff.mp h1
    have:=vd k2 k ji iw z2 z h2 fY (by rw[iA,jk])
    rw[h3,hb]at this
    cases this
  rw[this]
  exact ee
 ·exact⟨.int (j:Int),H,I.tok _,⟨_,rfl⟩,q⟩
theorem Uq {α β:Type}{F:α→β→Prop} :∀{fU:List α}{fT:List β}{i:Nat}{x:α},Paired F fU fT→fU[i]? =some x→∃y,fT[i]? =some y∧F x y
 |_,_,_,_,.nil,h=>by simp at h
 |_,_,0,_,.cons r _,h=>by simp at h;subst h;exact⟨_,rfl,r⟩
 |_,_,i+1,_,.cons _ t,h=>by
  obtain⟨y,e,q⟩:=Uq t (i:=i) (by simpa using h)
  exact⟨y,by simpa using e,q⟩
theorem rY {α β:Type}{f g:α→Option β} :∀{l:List α},(∀x∈l,f x=g x)→l.filterMap f=l.filterMap g
 | [],_=>rfl
 |a::l,h=>by
  rw[List.filterMap_cons,List.filterMap_cons,h a List.mem_cons_self,rY fun x hx=>h x (List.mem_cons_of_mem _ hx)]
section
variable {X:Cx}
def pA (K:PySem.W.Frag) (H:Hp) (x y:V):Prop:=(∃i:Int,x=.int i∧y=.int i)∨∃(a b:Addr) (ns:List Int),x=.ref a∧y=.ref b∧ai K H a (ns.map V.int)∧ai K H b (ns.map V.int)
theorem AU {s:Shared}{ns:List Int}{us vs:List Value}(A:Around) (r1:Vals (ns.map V.int) us) (r2:Vals (ns.map V.int) vs):∀j (h1:j<us.toArray.size) (h2:j<vs.toArray.size),EqAt A s us.toArray[j] vs.toArray[j] true:=fun j h1 h2=>by
 have l1:=r1.length
 have hj:j<ns.length:=by simp at h1 l1;omega
 have e:(ns.map V.int)[j]? =some (V.int ns[j]):=by simp[hj]
 obtain⟨u,hu,ru⟩:=r1.get e
 obtain⟨v,hv,rv⟩:=r2.get e
 obtain⟨t1,rfl⟩:=ru
 obtain⟨t2,rfl⟩:=rv
 have e1:us.toArray[j]=Value.int ns[j] t1:=by simpa using (List.getElem?_eq_some_iff.mp hu).2
 have e2:vs.toArray[j]=Value.int ns[j] t2:=by simpa using (List.getElem?_eq_some_iff.mp hv).2
 rw[e1,e2]
 have z:=EqAt.int_int (A:=A) (s:=s) ns[j] t1 ns[j] t2
 simpa using z
theorem Bi {pins:List (Addr×Obj)}{σ:St}{H:Hp}{s:Shared}{x y:V}{u v:Value}(A:Around) (hu:A.units<cLine) (I:Inv X pins σ H s) (h:pA X.K H x y) (ru:RelV x u) (rv:RelV y v):EqAt A s u v true:=by
 rcases h with ⟨i,rfl,rfl⟩ |⟨a,b,ns,rfl,rfl,ha,hb⟩
 ·obtain⟨t1,rfl⟩:=ru
  obtain⟨t2,rfl⟩:=rv
  have z:=EqAt.int_int (A:=A) (s:=s) i t1 i t2
  simpa using z
 ·cases ru
  cases rv
  by_cases rK:a=b
  ·subst rK
   exact EqAt.same _
  ·obtain⟨us,r1,p1,_⟩:=I.list ha
   obtain⟨vs,r2,p2,_⟩:=I.list hb
   have cF:us.toArray.size=vs.toArray.size:=by have:=r1.length;have:=r2.length;simp at *;omega
   have z:=RcAt.lists (e:=fun _=>true) p1.isList p2.isList cF hu (AU A.in1 r1 r2)
   have e:(List.range us.toArray.size).all (fun _=>true)=true:=by simp
   rw[e]at z
   exact EqAt.of_refs rK z
def vt (K:PySem.W.Frag) (r:Bool):R2:=fun x y H Q=> ∃(a b:Addr) (xs ys:List V),x=.ref a∧y=.ref b∧ai K H a xs∧ai K H b ys∧Paired (pA K H) xs ys∧Q (.bl r) H
theorem Bg {pins:List (Addr×Obj)}{σ:St}{H:Hp}{s:Shared}{xs ys:List V}{us vs:List Value}(A:Around) (hu:A.units<cLine) (I:Inv X pins σ H s) (pr:Paired (pA X.K H) xs ys) (r1:Vals xs us) (r2:Vals ys vs):∀j (h1:j<us.toArray.size) (h2:j<vs.toArray.size),EqAt A s us.toArray[j] vs.toArray[j] true:=fun j h1 h2=>by
 have l1:=r1.length
 have hj:j<xs.length:=by simp at h1;omega
 obtain⟨y,hy,e⟩:=Uq pr (List.getElem?_eq_getElem hj)
 obtain⟨u,xk,ru⟩:=r1.get (List.getElem?_eq_getElem hj)
 obtain⟨v,xi,rv⟩:=r2.get hy
 have e1:us.toArray[j]=u:=by simpa using (List.getElem?_eq_some_iff.mp xk).2
 have e2:vs.toArray[j]=v:=by simpa using (List.getElem?_eq_some_iff.mp xi).2
 rw[e1,e2]
 exact Bi A hu I e ru rv
theorem Bw (hu:X.A.units+1<cLine):aW X (compareOp .NotEq) (vt X.K false):=by
 intro pins s σ H x y u v Q I rx ry h
 obtain⟨a,b,xs,ys,rfl,rfl,ha,hb,pr,q⟩:=h
 cases rx
 cases ry
 obtain⟨us,r1,p1,_⟩:=I.list ha
 obtain⟨vs,r2,p2,_⟩:=I.list hb
 have cF:us.toArray.size=vs.toArray.size:=by have:=r1.length;have:=r2.length;have:=Paired.length pr;simp at *;omega
 refine RcNeAt.lists (e:=fun _=>true) p1.isList p2.isList cF (Nat.lt_of_succ_lt hu) (Bg X.A.in1 hu I pr r1 r2) _ _ _ _ ?_
 have e:(List.range us.toArray.size).all (fun _=>true)=true:=by simp
 rw[e]
 exact⟨.bl false,H,I,rfl,q⟩
end
section
variable {prog:Program}{w:World}{A:Around}{E:Value→Shared→Prop}{s:Shared}
theorem Ul (xs:Array Value):((List.range xs.size).filterMap fun(k:Nat)=>xs[(((xs.size:Int) - 1)+(k:Int)*(-1)).toNat]?)=xs.toList.reverse:=by
 have e:((List.range xs.size).filterMap fun(k:Nat)=>xs[(((xs.size:Int) - 1)+(k:Int)*(-1)).toNat]?)=(((List.range xs.size).map fun k=>xs.size - 1 - k).filterMap fun m=>xs[m]?):=by
  rw[List.filterMap_map]
  refine rY ?_
  intro k hk
  have:=List.mem_range.mp hk
  have e2:(((xs.size:Int) - 1)+(k:Int)*(-1)).toNat=xs.size - 1 - k:=by omega
  show xs[_]? =xs[_]?
  rw[e2]
 rw[e,PySem.W.krv_range,List.filterMap_reverse,PySem.W.krv_all]
theorem YD {t sl:Addr}{items:Array Value}{tk:Tok}{Q:Value→Shared→Prop}(ht:IsTup s.heap t items) (hs:s.heap.IsSliceOf sl .none .none (.int (-1) tk))
  (h:Q (.ref s.heap.objs.size) {s with heap:=s.heap.push {cls:=.type "tuple",data:=.seq items.toList.reverse.toArray} }) (cF:items.size≤sizeLine):wpAny (model prog w) A (getItem (.ref t) (.ref sl)) Q E s:=by
 have fv:sizeOk (.seq items.toList.reverse.toArray):=by
  show items.toList.reverse.toArray.size≤sizeLine
  simpa using cF
 obtain⟨os,eT,lg,gi⟩:=id hs
 have iE:s.TypeIs (.ref sl) "slice" :=⟨os,eT,lg⟩
 unfold getItem
 try with_reducible refine wpAny_holding ?_
 first |refine wpAny_bind (wpAny_pure ?_) |skip
 refine wpAny_bind (wpAny_sequenceKey ht.typeIs (by decide) ?_)
 refine wpAny_bind (wpAny_callSpecial?_slot (name:=Str.ofString "__getitem__") ht.typeIs PyProof.Rows.slot_tuple_getitem
  (wpAny_call_entry PyProof.Rows.slot_tuple_getitem ht.typeIs entry_tuple_getitem ?_ (args_tuple_getitem _ _)))
 show wpAny _ _ (Builtin.Tuple.tupleItemsOf (.ref t) >>=_) _ _ s
 refine wpAny_bind (tupleItemsOf_ ht ?_)
 refine wpAny_bind (wpAny_typeOf iE ?_)
 rw[if_pos (by decide)]
 unfold Builtin.Slice.sliceApplied Builtin.Slice.sliceFields
 refine wpAny_bind (wpAny_bind (wpAny_bind (wpAny_field eT gi (x:=.none) rfl (wpAny_bind (wpAny_field eT gi (x:=.none) rfl (wpAny_bind (wpAny_field eT gi (x:=.int (-1) tk) rfl (wpAny_pure ?_))))))))
 refine wpAny_bind (slicePart_int ?_)
 show wpAny _ _ (if ((-1:Int)==0)=true then _ else _) _ _ s
 rw[if_neg (by decide)]
 refine wpAny_bind (slicePart_none (wpAny_bind (slicePart_none (wpAny_bind (wpAny_pure ?_)))))
 have AK:Builtin.Slice.sliceAdjust none none (-1) (items.size:Int)=((items.size:Int) - 1, -1):=rfl
 have nu:Builtin.Slice.slicePlaces ((items.size:Int) - 1) (-1) (-1)=items.size:=by
  unfold Builtin.Slice.slicePlaces
  rw[if_neg (by decide)]
  by_cases h0:items.size=0
  ·rw[h0];rfl
  ·rw[if_pos (by omega)]
   have e:((items.size:Int) - 1 - -1 - 1)/(- -1)=(items.size:Int) - 1:=by
    rw[show(- -1:Int)=1 by decide,Int.ediv_one]
    omega
   rw[e]
   omega
 show wpAny _ _ (match Builtin.Slice.sliceAdjust none none (-1) (items.size:Int) with |(lo,hi)=>pure (lo,(-1:Int),Builtin.Slice.slicePlaces lo hi (-1))) _ _ s
 rw[AK]
 show wpAny _ _ (pure ((items.size:Int) - 1,(-1:Int),Builtin.Slice.slicePlaces ((items.size:Int) - 1) (-1) (-1))) _ _ s
 rw[nu]
 refine wpAny_pure ?_
 have dF:¬((((items.size:Int) - 1)==0&&(-1:Int)==1&&items.size==items.size)=true):=by
  intro q
  rw[Bool.and_eq_true,Bool.and_eq_true]at q
  exact absurd q.1.2 (by decide)
 show wpAny _ _ (if (((items.size:Int) - 1)==0&&(-1:Int)==1&&items.size==items.size)=true then _ else _) _ _ s
 rw[if_neg dF,Ul]
 first
  |exact wpAny_bind (m:=Builtin.Tuple.tupleExact _) (wpAny_newObj_type (wpAny_pure ⟨_,rfl,wpAny_pure h⟩) fv)
  |exact wpAny_bind (m:=Builtin.Tuple.tupleExact _) (wpAny_newObj_type (wpAny_bind (wpAny_pure (wpAny_pure ⟨_,rfl,wpAny_pure h⟩))) fv)
  |exact wpAny_bind (wpAny_bind (m:=Builtin.Tuple.tupleExact _) (wpAny_newObj_type (wpAny_pure (wpAny_pure ⟨_,rfl,wpAny_pure h⟩)) fv))
  |exact wpAny_bind (wpAny_bind (m:=Builtin.Tuple.tupleExact _) (wpAny_newObj_type (wpAny_pure ⟨_,rfl,wpAny_pure h⟩) fv))
end
section
variable {X:Cx}{e:Expr}{te:TE}{p1 p2 p3 pos:Pos}{j:Nat}
def ub (K:PySem.W.Frag) (te:TE):TE:=fun σ H Q=>te σ H fun x H1=> ∃a xs,x=.ref a∧ah K H1 a xs∧∀p,H1 p=none→Q (.ref p) (upd H1 p (.tup xs.reverse))
theorem JX:∀{xs:List V}{us:List Value},Vals xs us→Vals xs.reverse us.reverse
 |_,_,.nil=> .nil
 |_,_,.cons r t=>by
  rw[List.reverse_cons,List.reverse_cons]
  exact(JX t).append (.cons r .nil)
theorem WM (he:PE X e te):PE X (.Subscript e (.Slice none none (some (.UnaryOp .USub (.Constant (.int 1) j p1) p2)) p3) pos) (ub X.K te):=by
 intro pins s σ H Q I h
 refine Subscript_ (ak (he pins s σ H _ I h) fun v s1 ⟨x,H1,I1,r1,a,xs,ex,hq,q⟩=> ?_)
 subst ex
 cases r1
 refine wpAny_Slice ?_
 rw[evalPart_none]
 refine wpAny_pure (wpAny_pure ?_)
 rw[evalPart_some]
 refine ak (sO Uh Zf pins s1 σ H1 (fun v H2=>v=.int (-1)∧H2=H1) I1 ⟨_,rfl,rfl,rfl⟩) fun vk s2 ⟨y,H2,I2,r2,ey,eh⟩=> ?_
 subst ey eh
 obtain⟨tk,rfl⟩:=r2
 have I4:Inv X pins σ H2 {s2 with heap:=s2.heap.push {cls:=.type "slice",data:=.fields #[.none,.none,.int (-1) tk]} } :=I2.kept (t':=s2.toks) fun b ob q=>Heap.get?_push_of_some _ q
 obtain⟨its,r,pl,hz⟩:=I4.tuple hq
 refine tail_any (ops:=[.ref a,.ref s2.heap.objs.size]) pl.typeIs PyProof.Rows.slot_tuple_getitem.lookup ?_ (by with_unfolding_all rfl)
 have cF:its.toArray.size≤sizeLine:=by rw[List.size_toArray,←r.length];exact hz
 refine YD pl (Heap.IsSliceOf.new ..) ?_ cF
 refine⟨.ref _,_,I4.laid (a:=(s2.heap.push {cls:=.type "slice",data:=.fields #[.none,.none,.int (-1) tk]}).objs.size) (o:=.tup xs.reverse) (t':=s2.toks) (fun b u z=>Heap.get?_push_of_some _ z) (Nat.le_refl _) ⟨by rw[List.length_reverse];exact hz,its.reverse,JX r,⟨_,Heap.get?_push_size _ rfl,rfl,0,(by show Data.seq its.toArray.toList.reverse.toArray 0=Data.seq its.reverse.toArray 0;simp)⟩,_,Heap.get?_push_size _ rfl,rfl⟩,rfl,q _ (I4.af.fresh (Nat.le_refl _))⟩
end
end L2
namespace L2
open PySem PySem.Spec PyProof.Rows
structure One (base:Heap) (scope:Scope) (cl:List (Str×Addr)) (x:Str) (vx:V):Prop where
 kx:scope.names.lookup x=some .free
 only:∀z,scope.names.lookup z=some .cell∨scope.names.lookup z=some .free→z=x
 cx:∃c u,cl.lookup x=some c∧base.IsCell c (some u)∧RelV vx u
 mem:∀z c,cl.lookup z=some c→z=x
structure Src (prog:Program) (w:World) (i l:Addr) (n:Nat) (f:Nat→Value) (S:Nat→Heap→Prop):Prop where
 here:∀k h,S k h→∃o,h.get? i=some o
 dD:∀k h h',S k h→(∀c,c=i∨c=l→∀o,h.get? c=some o→h'.get? c=some o)→S k h'
 item:∀(A:Around) k (s:Shared) (Q:Value→Shared→Prop) (E:Value→Shared→Prop),k<n→S k s.heap→(∀h',S (k+1) h'→Heap.SameBut i s.heap h'→Q (f k) {s with heap:=h'})→wpAny (model prog w) A (Builtin.SmallTypes.nextOf (.ref i)) Q E s
 stop:∀(A:Around) (s:Shared) (Q:Value→Shared→Prop) (E:Value→Shared→Prop),A.handled=none→S n s.heap→(∀h' e,Heap.ExtBut i s.heap h'→(∃o,h'.get? e=some o∧o.cls=.type "StopIteration")→E (.ref e) {s with heap:=h'})→wpAny (model prog w) A (Builtin.SmallTypes.nextOf (.ref i)) Q E s
end L2
namespace L2
open PySem PySem.Spec PyProof.Rows SeqAt
structure Cells (base:Heap) (scope:Scope) (cl:List (Str×Addr)) (N:List Str) (vs:List V):Prop where
 len:vs.length=N.length
 only:∀z,scope.names.lookup z=some .cell∨scope.names.lookup z=some .free→z∈N
 at_:∀(i:Nat) x v,N[i]? =some x→vs[i]? =some v→scope.names.lookup x=some .free∧∃c u,cl.lookup x=some c∧base.IsCell c (some u)∧RelV v u
 mem:∀z c,cl.lookup z=some c→z∈N
 inj:∀x y c,cl.lookup x=some c→cl.lookup y=some c→x=y
theorem AW {P:Program}{w:World}{K:PySem.W.Frag}{mg:Str→Option Value}{base:Heap}{f:Addr}{q:Str}{params:Arguments}{body:Expr}{scope:Scope}{cl:List (Str×Addr)}{pm:Value}{c:Addr}{ct:Value}{k:Nat}{N:List Str}{ws:List V}{sp:Sp}
    (T:Cells base scope cl N ws) (hk:scope.kind=.function) (yQ:scope.isCoroutine=false) (yp:scope.isGenerator=false) (gj:∀z∈scope.names,z.2≠.cell)
    (bX:∀vs H Q E,sp vs H Q E→vs=[]∧H f=some (ir f q params body scope cl pm c ct)∧H c=some (dI c q))
    (hb:∀(A:Around) (outer:List Env) (s:Shared) (H:Hp) (Q:VK) (E:XK),bj k (A.deeper (PySem.W.envX q scope s.heap.objs.size f (.ref c) cl))→sp [] H Q E→
      ∃t,PE (jF P w K mg base N q scope f (.ref c) cl A outer s H E) body t∧t (ws.map some) H Q):
    az P w K mg base (bA P w) (k+1) f (PySem.W.kla_fn "<lambda>" q params body scope cl pm (.ref c) ct) [] sp:=by
  refine⟨fun vs H Q E h=>by rw[(bX vs H Q E h).1];rfl,fun A outer s H args us vs Q E hr e0 oB rv h=> ?_⟩
  obtain⟨rfl,hf,hc⟩:=bX _ _ _ _ h
  have of:s.heap.get? f=some (PySem.W.kla_obj "<lambda>" q params body scope cl pm c ct):=(e0.af f _ hf).1
  have oc:s.heap.CodeRec (.ref c) q:=(e0.af c _ hc).1
  have lim:s.heap.NoLimit:=e0.mod.nolimit.keeps fun b o e=> (e0.bs b o e).1
  refine PySem.W.kla_callFunE hr.depth of rfl yQ yp rfl oc (oB _ _ _ _ ?_)
  refine wpAny_newFunctionEnv gj (fun z hz=>by cases rv;exact absurd hz (by simp)) (fun h1 jf xy=> ?_) hk
  have k1:∀b o,s.heap.get? b=some o→h1.get? b=some o:=fun b o e=>xy.extBut b o (Nat.ne_of_lt (Heap.lt_size e)) (Heap.get?_push_of_some _ e)
  refine⟨lim.keeps k1,?_⟩
  show codeAny _ A (.expr body (PySem.W.envX q scope s.heap.objs.size f (.ref c) cl)) _ _
  obtain⟨t,ht,hq⟩:=hb A outer s H Q E (hr.deeper _) h
  have oX:∀{a:Addr}{v:Option Value},base.IsCell a v→h1.IsCell a v∧H a=none:=fun {a v} ⟨o,ho,hd⟩=> ⟨⟨o,k1 _ _ (e0.bs _ _ ho).1,hd⟩,(e0.bs _ _ ho).2⟩
  have sy:∀z,z∈N→∃c u,cl.lookup z=some c∧base.IsCell c (some u):=fun z hz=>by
    obtain⟨i,hi,e⟩:=List.getElem_of_mem hz
    have iy:i<ws.length:=by rw[T.len];exact hi
    obtain⟨_,c,u,h1,h2,_⟩:=T.at_ i z ws[i] (by rw[←e];exact List.getElem?_eq_getElem hi) (List.getElem?_eq_getElem iy)
    exact⟨c,u,h1,h2⟩
  have cells:∀z a,cl.lookup z=some a→∃v,base.IsCell a v:=fun z a hz=>by
    obtain⟨c,u,h1,h2⟩:=sy z (T.mem z a hz)
    rw[hz]at h1;cases h1;exact⟨_,h2⟩
  have I:Inv (jF P w K mg base N q scope f (.ref c) cl A outer s H E) [] (ws.map some) H {s with heap:=h1,toks:=s.toks+(([]:List Str).zip us).length} :=by
    refine⟨⟨e0.mod,hk,rfl,rfl,Nat.le_refl _,fun a b cc h2 h3=> ?_,fun a ha=> ?_,fun a cc hn=>Bool.noConfusion hn,fun _=>hr.hd,Around.frames_deeper e0.frames,.inr ⟨rfl,rfl⟩,fun b z=>absurd (show b∈([]:List Addr) from z) (by simp),e0.bs,e0.fb,fun b _ _ z=>absurd (show b∈([]:List Addr) from z) (by simp),fun b z=>absurd (show b∈([]:List Addr) from z) (by simp),e0.cf,e0.dH⟩,
      rfl,e0.bare,Un.kept k1,⟨_,jf,fun i z v h2 h3 h4=> ?_⟩,fun z a hz=> ?_,e0.af.fresh (Nat.le_refl _),fun z a hz=> ?_,fun p hp=>absurd (show p∈([]:List (Addr×Obj)) from hp) (by simp),e0.af.kept k1,(by rw[List.length_map];exact T.len)⟩
    · have h2:cl.lookup a=some cc:=h2
      have h3:cl.lookup b=some cc:=h3
      exact T.inj _ _ _ h2 h3
    · obtain⟨c,_,h1,_⟩:=sy a (T.only a ha)
      exact⟨c,h1⟩
    · have oH:(ws.map some)[i]? =some (some v):=h3
      rw[List.getElem?_map]at oH
      obtain⟨v',e',Ag⟩:=Option.map_eq_some_iff.mp oH
      cases Ag
      obtain⟨kx,c,u,h5,h6,h7⟩:=T.at_ i z v h2 e'
      exact⟨u,h7,.inr ⟨.inr kx,c,h5,(oX h6).1⟩⟩
    · obtain⟨v,b⟩:=cells z a hz
      exact⟨v,(oX b).1⟩
    · obtain⟨v,b⟩:=cells z a hz
      exact(oX b).2
  refine PySem.W.kla_codeExpr (wpAny_mono (ht [] _ _ H _ I hq) (fun u s' hs=> ?_) fun e s' hs=>hs)
  obtain⟨v,H',J,r,z⟩:=hs
  exact⟨v,H',J.os,J.bare,J.base,J.af,r,z⟩
end L2
namespace L2
open PySem PySem.Spec PyProof.Rows
theorem YM:fillsNumberSlot (.type "tuple") "mul" =pure false:=
 PySem.fillsNumberSlot_seq (id:= "tuple.__mul__") (r:=some (.builtin "tuple.__rmul__")) PySem.F.slot_tuple_mul.lookup (by decide+kernel) PySem.F.slot_tuple_rmul.lookup (by decide+kernel)
theorem JI:seqRepeat? (.type "tuple")=pure (some (.builtin "tuple.__mul__")):=by
 unfold seqRepeat?
 rw[PySem.seqSlot_of (T:= "tuple") (name:= "__mul__") (id:= "tuple.__mul__") PySem.F.slot_tuple_mul.lookup (by decide+kernel),PySem.seqSlot_of (T:= "tuple") (name:= "__rmul__") (id:= "tuple.__rmul__") PySem.F.slot_tuple_rmul.lookup (by decide+kernel)]
 rfl
theorem Y3 (a:Int) (t:Tok) (l:Addr) (items:Array Value) (n:Nat) (d:Option Addr) (sl:Array (Option Value)):
  Meets (Builtin.«int.__rmul__» ⟨[.int a t,.ref l],[]⟩) (fun _ R s=>s.heap.get? l=some {cls:=.type "tuple",dict:=d,data:=.seq items n,slots:=sl}∧R (.ok (.ret Value.notImplemented)) s):=
 .of_wp fun prog w A R s h=>by obtain⟨hp,g,d,tk,os⟩:=s;obtain⟨hl,h⟩:=h;wp_walk;exact⟨_,rfl,h⟩
theorem Jl (l:Addr) (items:Array Value) (n:Nat) (d:Option Addr) (sl:Array (Option Value)) (u:Tok):
  Meets (Builtin.«tuple.__mul__» ⟨[.ref l,.int 1 u],[]⟩) (fun _ R s=>s.heap.get? l=some {cls:=.type "tuple",dict:=d,data:=.seq items n,slots:=sl}∧R (.ok (.ret (.ref l))) s):=
 .of_wp fun prog w A R s h=>by
  obtain⟨hp,g,d,tk,os⟩:=s;obtain⟨hl,h⟩:=h
  wp_walk;exact⟨_,rfl,h⟩
theorem Ja (l:Addr) (items:Array Value) (n:Nat) (d:Option Addr) (sl:Array (Option Value)) (x:Int) (u:Tok) (h0:items.isEmpty=false) (h1:(x==1)=false) (h2:1≤x) (hs:items.size*x.toNat≤1000) (hx:x≤1000) (hz:(List.foldl (fun x1 x2=>x1++x2) #[] (List.replicate x.toNat items)).size≤sizeLine):
  Meets (Builtin.«tuple.__mul__» ⟨[.ref l,.int x u],[]⟩) (fun _ R s=>s.heap.get? l=some {cls:=.type "tuple",dict:=d,data:=.seq items n,slots:=sl}∧R (.ok (.ret (Value.ref s.heap.objs.size))) {s with heap:=s.heap.push {cls:=Value.type "tuple",data:=Data.seq (List.foldl (fun x1 x2=>x1++x2) #[] (List.replicate x.toNat items))},toks:=s.toks}):=
 .of_wp fun prog w A R s h=>by
  obtain⟨hp,g,d,tk,os⟩:=s;obtain⟨hl,h⟩:=h
  have a1:decide (x< -(2^63))=false:=decide_eq_false (by omega)
  have a2:decide (x≥2^63)=false:=decide_eq_false (by omega)
  have a3:decide (x≤0)=false:=decide_eq_false (by omega)
  have hn:(items.size:Int)*x≤1000:=by
   have e:x=(x.toNat:Int):=by omega
   rw[e]
   exact_mod_cast hs
  have a4:¬((items.size:Int)*x> (2^63 - 1)/8):=by omega
  have a5:Builtin.Tuple.tupleTooMany ((items.size:Int)*x)=false:=by
   unfold Builtin.Tuple.tupleTooMany
   have e:=sizeLine_eq
   simp
   omega
  wp_walk
  rw[if_neg (by rw[a1,a2];decide)]
  have ht:IsTup hp l items:=⟨_,hl,rfl,n,rfl⟩
  refine wpAny_bind (tupleItemsOf_ ht ?_)
  dsimp only
  rw[if_neg (by rw[h0,h1];decide),if_neg (by rw[a3,h0];decide),if_neg a4,a5,if_neg Bool.false_ne_true]
  wp_walk;exact⟨_,rfl,h⟩
section
variable {X:Cx}
def vv:R2:=fun x y H Q=> ∃a k xs,x=.ref a∧y=.int k∧H a=some (.tup xs)∧xs≠[]∧1≤k∧k≤1000∧xs.length*k.toNat≤1000∧∀(c:Addr) H',ae H H'→H' c=some (.tup (List.replicate k.toNat xs).flatten)→Q (.ref c) H'
theorem U6:aW X (binaryOp .Mult) vv:=by
  intro pins s σ H x y v u Q I rx ry h
  obtain⟨l,k,xs,rfl,rfl,hH,cu,h1,h2,hz,q⟩:=h
  cases rx
  obtain⟨t,rfl⟩:=ry
  obtain⟨its,r,pl,_⟩:=I.tuple (ah.of hH)
  have hl:=r.length
  obtain⟨⟨cls,dd,data,sl⟩,ho,eW,n,hd⟩:=id pl
  simp only at eW hd
  subst eW hd
  have f0:∀m:Nat,List.foldl (fun x1 x2=>x1++x2) #[] (List.replicate m its.toArray)=(List.replicate m its).flatten.toArray:=fun m=>by
    have:=JA its m []
    rw[List.nil_append]at this
    exact this
  have cF:its.toArray.size*k.toNat≤1000:=by rw[List.size_toArray,←hl];exact hz
  have h0:its.toArray.isEmpty=false:=by
    cases its with
    |nil=>
     cases xs with
     |nil=>exact absurd rfl cu
     |cons a b=>cases hl
    |cons a b=>rfl
  refine wpAny_binaryOp_repeat_ref (T:= "tuple") (U:= "int") (by decide) ⟨_,ho,rfl⟩ (fun s'=>typeIs_int s' k t) YM PySem.F.fills_int_mul PySem.F.slot_int_rmul JI PySem.F.slot_int_index.lookup
    (call_meets PySem.F.slot_int_rmul (typeIs_int s k t) PySem.F.entry_int_rmul (PySem.F.args_int_rmul_2 _ _) (Y3 k t l its.toArray n dd sl)
      ⟨ho,rfl,⟨_,ho,rfl⟩,?_⟩)
  by_cases hk:k=1
  · subst hk
    refine call_meets PySem.F.slot_tuple_mul ⟨_,ho,rfl⟩ PySem.F.entry_tuple_mul (PySem.F.args_tuple_mul_2 _ _) (Jl l its.toArray n dd sl t) ⟨ho,⟨.ref l,H,I,rfl,q l H (ae.refl _) ?_⟩⟩
    rw[hH]
    simp
  · refine call_meets PySem.F.slot_tuple_mul ⟨_,ho,rfl⟩ PySem.F.entry_tuple_mul (PySem.F.args_tuple_mul_2 _ _) (Ja l its.toArray n dd sl k t h0 (by simpa using hk) h1 cF h2 ?_) ⟨ho,?_⟩
    · rw[f0,List.size_toArray,WS,sizeLine_eq]
      rw[List.size_toArray,Nat.mul_comm]at cF
      omega
    · rw[f0]
      refine⟨.ref s.heap.objs.size,upd H s.heap.objs.size (.tup (List.replicate k.toNat xs).flatten),?_,rfl,q _ _ (fun b o hb=>by rw[Zg (Ze hb I.fresh)];exact hb) Zb⟩
      refine I.laid (t':=s.toks) (fun b o e=>Heap.get?_push_of_some _ e) (Nat.le_refl _) ⟨by rw[WS,sizeLine_eq,Nat.mul_comm];omega,_,r.rep k.toNat,?_⟩
      exact⟨⟨_,Heap.get?_push_size s.heap rfl,rfl,0,rfl⟩,_,Heap.get?_push_size s.heap rfl,rfl⟩
end
end L2
namespace PyProof.Rows.gu
open PySem
structure Ord (r:Keyed→Keyed→Bool):Prop where
 C1:∀x y,r x y=true→r y x=false
 Cg:∀x y z,r y x=false→r z y=false→r z x=false
abbrev Pw (r:Keyed→Keyed→Bool) (l:List Keyed):Prop:=l.Pairwise fun x y=>r y x=false
structure JW (r:Keyed→Keyed→Bool) (a b out:Array Keyed) (ia ib:Nat):Prop where
 perm:(out.toList++(a.toList.drop ia++b.toList.drop ib)).Perm (a.toList++b.toList)
 uM:Pw r out.toList
 AB:∀x∈out.toList,∀y∈a.toList.drop ia++b.toList.drop ib,r y x=false
structure C4 (r:Keyed→Keyed→Bool) (a b:Array Keyed):Prop where
 o:Ord r
 sa:Pw r a.toList
 sb:Pw r b.toList
structure JH (r:Keyed→Keyed→Bool) (a b out:Array Keyed) (na nb:Nat):Prop where
 la:na≤a.size
 lb:nb≤b.size
 perm:((a.toList.take na++b.toList.take nb)++out.toList.reverse).Perm (a.toList++b.toList)
 uM:Pw r out.toList.reverse
 AB:∀y∈a.toList.take na++b.toList.take nb,∀x∈out.toList,r x y=false
structure CB (jH:Array Keyed) (κ:SortKind) (lo:Nat) (st bP:SortSt):Prop where
 kind:kindOf bP=κ
 pend:pendingOf bP=pendingOf st
 fail:failedOf bP=failedOf st
 perm:(arrOf bP).Perm jH
 pre:∀k,k<lo→(arrOf bP)[k]? =(arrOf st)[k]?
def seg (L:List Keyed) (s n:Nat):List Keyed:=(L.drop s).take n
def Runs (r:Keyed→Keyed→Bool) (L:List Keyed):List (Nat×Nat×Nat)→Nat→Nat→Prop
 | [],p,q=>p=q
 |x::rest,p,q=>x.1=p∧1≤x.2.1∧Pw r (seg L x.1 x.2.1)∧Runs r L rest (p+x.2.1) q
section
variable {prog:Program}{w:World}{A:Around}{E:Value→Shared→Prop}{s:Shared}{κ:SortKind}{jH:Array Keyed}{r:Keyed→Keyed→Bool}
structure RS (jH:Array Keyed) (κ:SortKind) (r:Keyed→Keyed→Bool) (st:SortSt) (lo:Nat):Prop where
 kind:kindOf st=κ
 perm:(arrOf st).Perm jH
 fail:failedOf st=none
 runs:Runs r (arrOf st).toList (pendingOf st).toList 0 lo
 le:lo≤jH.size
end
end PyProof.Rows.gu
namespace PyProof.Rows.gu
open PySem PySem.W
end PyProof.Rows.gu
namespace L2
open PySem PySem.Spec PyProof.Rows PyProof.Rows.gu
abbrev I4:=Int×Int×Int×Int
end L2
namespace PyProof.Rows.gu
open PySem
end PyProof.Rows.gu
namespace L2
open PySem PySem.Spec PyProof.Rows PyProof.Rows.gu
end L2
namespace L2
open PySem PySem.Spec PyProof.Rows
mutual
inductive Sh (H:Hp):V→PyData→Prop
 |aa:Sh H .aa .none
 |bl (b:Bool):Sh H (.bl b) (.bool b)
 |int (i:Int):Sh H (.int i) (.int i)
 |str (x:Str):Sh H (.str x) (.str x)
 |tup {a:Addr}{xs:List V}{ds:List PyData} :H a=some (.tup xs)→fE H xs ds→Sh H (.ref a) (.tuple ds)
 |lst {a:Addr}{xs:List V}{ds:List PyData} :H a=some (.lst xs)→fE H xs ds→Sh H (.ref a) (.list ds)
 |bU {a:Addr} :H a=some (.dK [])→Sh H (.ref a) (.dict [])
inductive fE (H:Hp):List V→List PyData→Prop
 |nil:fE H [] []
 |cons {v:V}{vs:List V}{d:PyData}{ds:List PyData} :Sh H v d→fE H vs ds→fE H (v::vs) (d::ds)
end
section
variable {X:Cx}{pins:List (Addr×Obj)}{σ:St}{H:Hp}{s:Shared}
mutual
theorem J1 (I:Inv X pins σ H s):∀{v:V}{d:PyData}{u:Value},Sh H v d→RelV v u→∃as,Reads s.heap u d as∧((∃a,v=.ref a∧H a=some (.dK []))→sysModules∉as)
 |_,_,u,.aa,r=>by
  have e:u=.none:=r
  subst e
  exact⟨[],.none,fun _ h=>nomatch h⟩
 |_,_,u,.bl b,r=>by
  have e:u=.bool b:=r
  subst e
  exact⟨[],.bool b,fun _ h=>nomatch h⟩
 |_,_,u,.int i,r=>by
  obtain⟨t,rfl⟩:=r
  exact⟨[],.int i t,fun _ h=>nomatch h⟩
 |_,_,u,.str x,r=>by
  obtain⟨t,rfl⟩:=r
  exact⟨[],.str x t,fun _ h=>nomatch h⟩
 |_,_,u,.tup (a:=a) h rs,r=>by
  have e:u=.ref a:=r
  subst e
  obtain⟨its,rv,⟨o,ho,hc,n,hd⟩,_⟩:=I.tuple (ah.of h)
  obtain⟨as,q⟩:=nj I rs rv
  exact⟨as,.tuple ho hc hd (by simpa using q),fun⟨b,e,hb⟩=>by cases e;rw[h]at hb;cases hb⟩
 |_,_,u,.lst (a:=a) h rs,r=>by
  have e:u=.ref a:=r
  subst e
  obtain⟨_,its,n,rv,ho⟩:=(show aX X.prog X.w H s.heap a (.lst _) from I.af a _ h)
  obtain⟨as,q⟩:=nj I rs rv
  exact⟨a::as,.list ho rfl rfl (by simpa using q),fun⟨b,e,hb⟩=>by cases e;rw[h]at hb;cases hb⟩
 |_,_,u,.bU (a:=a) h,r=>by
  have e:u=.ref a:=r
  subst e
  obtain⟨_,hs,vs,kv,hm⟩:=(show aX X.prog X.w H s.heap a (.dK []) from I.af a _ h)
  cases kv
  obtain⟨o,es,ep,ho,hc,hd,hk,hp,hn⟩:=hm
  have hz:es.toList=[]:=by
   have:=hp.length
   simp at this
   simpa using this
  refine⟨a::[]++[],.dict (kvs:=[]) ho hc.1 hd (by rw[hz];exact .nil) (by rw[hz];exact .nil),fun _ hm=> ?_⟩
  simp only[List.append_nil,List.mem_singleton]at hm
  rw[hm]at hs
  simp at hs
theorem nj (I:Inv X pins σ H s):∀{vs:List V}{ds:List PyData}{us:List Value},fE H vs ds→Vals vs us→∃as,ReadsAll s.heap us ds as
 |_,_,_,.nil,.nil=> ⟨[],.nil⟩
 |_,_,_,.cons h t,.cons r rs=>by
  obtain⟨as,q,_⟩:=J1 I h r
  obtain⟨bs,qs⟩:=nj I t rs
  exact⟨as++bs,.cons q qs⟩
end
end
section
variable {X:Cx}
theorem Je (hu:X.A.units+64<cLine) (hg:X.A.guards=some []):cj X (.builtin "repr") (fun xs H Q=> ∃(x:V) (d:PyData),xs=[x]∧Sh H x d∧d.showable=true∧d.shown.length≤sizeLine∧d.depth≤60∧(d.hasDict=true→∃a,x=.ref a∧H a=some (.dK []))∧Q (.str d.shown) H):=by
 intro pins s σ H xs us Q I rv h
 obtain⟨x,d,rfl,rd,hs,hz,hd,hh,q⟩:=h
 obtain⟨u,rfl,ru⟩:=vals1 rv
 obtain⟨as,r,hn⟩:=J1 I rd ru
 have fin:∀h' u' tk,(∀b o,s.heap.get? b=some o→h'.get? b=some o)→EP X pins σ Q (.str d.shown u') {s with heap:=h',toks:=tk} :=fun h' u' tk hk=> ⟨.str d.shown,H,I.kept hk,⟨_,rfl⟩,q⟩
 cases rd with
 |aa=>
  have e:u=.none:=ru
  subst e
  exact P.repr_of_none (fin _ _ _ fun _ _ e=>e)
 |bl b=>
  have e:u=.bool b:=ru
  subst e
  have:=fin s.heap s.toks (s.toks+1) fun _ _ e=>e
  simp only[PyData.shown]at this
  exact P.repr_of_bool this
 |int i=>
  obtain⟨t,rfl⟩:=ru
  have:=fin s.heap s.toks (s.toks+1) fun _ _ e=>e
  simp only[PyData.shown]at this
  exact P.repr_of_int (by simpa[PyData.showable] using hs) this
 |str x=>
  obtain⟨t,rfl⟩:=ru
  have:=fin s.heap s.toks (s.toks+1) fun _ _ e=>e
  simp only[PyData.shown]at this hz
  exact P.repr_of_str this hz
 |tup h rs=>
  cases ru
  exact repr_of_reads' r hs (fun z=>hn (hh z)) hg (by omega) (fun _ _ e=>e) fin hz
 |lst h rs=>
  cases ru
  exact repr_of_reads' r hs (fun z=>hn (hh z)) hg (by omega) (fun _ _ e=>e) fin hz
 |bU h=>
  cases ru
  exact repr_of_reads' r hs (fun z=>hn (hh z)) hg (by omega) (fun _ _ e=>e) fin hz
end
end L2
namespace L2
open PySem PySem.Spec PyProof.Rows
theorem aZ.dz {P:Program}{w:World}{H:Hp}{h:Heap}(x:aZ P w H h) {b:Addr}{o:HO}(hb:H b=some o):∃ob,h.get? b=some ob:=by
 have ok:=x b o hb
 cases o with
 |lst xs=>obtain⟨_,_,_,_,q⟩:=ok;exact⟨_,q⟩
 |tup xs=>obtain⟨_,_,_,⟨ob,q,_⟩,_⟩:=ok;exact⟨_,q⟩
 |par xs=>obtain⟨_,_,_,ob,q,_⟩:=ok;exact⟨_,q⟩
 |dK kvs=>obtain⟨_,_,_,_,ob,_,_,q,_⟩:=ok;exact⟨_,q⟩
 |dT kvs=>obtain⟨_,_,_,_,ob,_,_,q,_⟩:=ok;exact⟨_,q⟩
 |set S n=>obtain⟨ob,_,_,_,q,_⟩:=ok;exact⟨_,q⟩
 |ins C dx fs=>obtain⟨_,_,_,q,_⟩:=ok;exact⟨_,q⟩
 |own y=>exact ok
 |xd fs=>obtain⟨_,⟨_,_,_,q,_⟩,_⟩:=ok;exact⟨_,q⟩
 |bW lo hi=>obtain⟨_,_,_,q⟩:=ok;exact⟨_,q⟩
 |bw ob u=>exact⟨_,ok.1⟩
 |bE ps=>exact⟨_,(show h.get? b=some _ from ok)⟩
 |met f y=>exact⟨_,(show h.get? b=some _ from ok)⟩
 |ext φ=>exact ok.2.1
theorem aZ.rX {P:Program}{w:World}{H:Hp}{h:Heap}(x:aZ P w H h) {b:Addr}(q:h.get? b=none):H b=none:=by
 cases e:H b with
 |none=>rfl
 |some u=>
  obtain⟨ob,z⟩:=x.dz e
  rw[q]at z;cases z
theorem Inv.wJ {X:Cx}{pins:List (Addr×Obj)}{σ:St}{H:Hp}{s:Shared}{h':Heap}{a:Addr}{o:HO}{t':Nat}(I:Inv X pins σ H s) (k:∀b u,s.heap.get? b=some u→h'.get? b=some u) (hp:s.heap.get? a=none) (new:aX X.prog X.w (upd H a o) h' a o):
  Inv X pins σ (upd H a o) {s with heap:=h',toks:=t'} :=by
 have hn:=I.af.rX hp
 refine I.un ⟨fun b u q _ _ _=>k b u q,fun b u q _ _ _=> ⟨u.slots,k b u q⟩,fun b u q n _=>by rw[Zg (fun z=>by rw[z,hp]at q;cases q)];exact n,fun b u q _=> ⟨u,k b u q⟩,
  fun b xs q=>by rw[Zg (Ze q hn)];exact q,fun b u xs q=>by rw[Zg (Ze q hn)];exact q,fun b ps q=> ⟨#[],by rw[Zg (Ze q hn),q];simp⟩⟩ fun b u e=> ?_
 by_cases hb:b=a
 ·subst hb;rw[Zb]at e;cases e;exact new
 ·rw[Zg hb]at e
  exact(I.af b u e).dD (fun c v _ q=>k c v q) (fun c q=>by rw[Zg (Ze q hn)];exact q) fun c xs q=>by rw[Zg (Ze q hn)];exact q
section
variable {X:Cx}{x:Str}{C:Addr}{B newId nS:String}{gr:List Value}{da:Expr}{rest:List Expr}{np bb:Pos}{ta:TA}
def hV (C:Addr) (ta:TA):TE:=fun σ H Q=>ta σ H fun vs H1=>vs.length≤sizeLine∧∀e,H1 e=none→Q (.ref e) (upd H1 e (aY e C))
theorem ZQ (FB:ExcBaseFacts B newId nS gr) (hmg:X.mg x=some (.ref C)) (hex:PySem.W.excIn X.K C gr newId=true) (hg:Gl X x) (ha:PA X (da::rest) ta)
  (he:starEach (da::rest) X.env=(false,eval da X.env)::starEach rest X.env:=by rfl) (bH:(backTo bb (starEach rest X.env)).any (·.1)=false:=by rfl) (hd:(x==("__debug__" :Str))=false:=by decide):
  PE X (.Call (.Name x np) (da::rest) [] bb) (hV C ta):=by
 intro pins s1 σ H1 Q I h
 obtain⟨bm,Nn,nm,qn,bs,hdct,sn,sub,ab,col,dd,k0,k1,k2,k3,k5,mN,hC,hN,oh,T⟩:=WV I.mod.fV hex
 refine wpAny_Call_Name_kw (Yi I hg hmg ?_ hd)
 have q:=ha bb pins s1 σ H1 _ I h
 have xV:(backTo bb (starEach (da::rest) X.env)).any (·.1)=false:=by
  rw[he]
  show(false||(backTo bb (starEach rest X.env)).any (·.1))=false
  rw[bH]
  rfl
 unfold callWith
 have q2:wpAny (model X.prog X.w) X.A (evalArgs (.ref C) true (backTo bb (starEach (da::rest) X.env)) []) (fun a s2=>a.kw=[]∧AP X pins σ (fun vs H1=>vs.length≤sizeLine∧∀e,H1 e=none→Q (.ref e) (upd H1 e (aY e C))) a.pos s2) X.xe s1:=by
  rw[he]at q ⊢
  exact Calls.evalArgs_plain (wpAny_mono q (fun us s2 h2=> ⟨rfl,h2⟩) fun _ _ y=>y)
 refine wpAny_bind (wpAny_holding (wpAny_mono q2 (fun a s2 h2=>wpAny_bind (wpAny_standAt ?_)) fun _ _ y=>y))
 obtain⟨apos,AI⟩:=a
 obtain⟨yi,vs,H2,I2,r,hz,hE⟩:=h2
 obtain rfl:AI=[]:=yi
 obtain⟨hp,g,d,tk,os⟩:=s2
 have oG:=I2.bk _ _ hC
 have CQ:hp.get? C=_:=oG
 simp only[xV]
 refine wpAny_bind (wpAny_keeperOf_exc oG ?_)
 refine wpAny_bind (wpAny_call_exc_subT (hrest:=by have hl:vs.length=apos.length:=r.length;rw[hl]at hz;exact hz) FB (T.keeps I2.bk) oG (hN.keeps I2.bk) oh fun h' e hm=>wpAny_bind (wpAny_holding (wpAny_point (wpAny_pure ?_))))
 obtain⟨t,ht,_,_⟩:=hm.there
 exact⟨.ref e,upd H2 e (aY e C),I2.wJ (t':=tk) (h':=h') (a:=e) (o:=aY e C) (fun b o hb=>hm.keeps b o hb) hm.new ⟨⟨_,ht,rfl⟩,⟨_,ht⟩,fun h1 h2 ⟨o,q1,q2⟩ k=> ⟨o,k o q1,q2⟩⟩,rfl,hE e (I2.af.rX hm.new)⟩
end
end L2
namespace L2
open PySem PySem.Spec PyProof.Rows SeqAt
section
variable {X:Cx}
theorem Uz:aW X (compareOp .Is) (fun x y H Q=> ∃a b:Bool,x=.bl a∧y=.bl b∧Q (.bl (a==b)) H):=by
 intro pins s σ H x y u v Q I rx ry h
 obtain⟨a,b,rfl,rfl,q⟩:=h
 cases rx
 cases ry
 refine wpAny_is_plain rfl ⟨.bl _,H,I,?_,q⟩
 show Value.bool (Value.bool a==Value.bool b)=Value.bool (a==b)
 cases a<;>cases b<;>rfl
end
end L2
namespace U
open PySem L2 PyProof.Rows
def cG (K:PySem.W.Frag) (H:Hp) (a:Addr) (ns:List Int):Prop:=(∃o,H a=some (.bw o (.lst (ns.map V.int))))∨∃(o:Obj) (its:Array Value) (n:Nat),K.lookup a=some o∧o.cls=.type "list" ∧o.dict=none∧o.data=.seq its n∧its.size≤sizeLine∧Vals (ns.map V.int) its.toList
theorem cG.sq {K:PySem.W.Frag}{H:Hp}{a:Addr}{ns:List Int}(h:cG K H a ns):ai K H a (ns.map V.int):=by
 rcases h with ⟨o,h⟩ |h
 ·exact .inl (.inr ⟨o,h⟩)
 ·exact .inr h
theorem cG.same {K:PySem.W.Frag}{H H':Hp}{a:Addr}{ns:List Int}(h:cG K H a ns) (s:ae H H'):cG K H' a ns:=by
 rcases h with ⟨o,h⟩ |h
 ·exact .inl ⟨o,s _ _ h⟩
 ·exact .inr h
theorem cG.x {K:PySem.W.Frag}{H H':Hp}{a p:Addr}{ns:List Int}{o:HO}(h:cG K H a ns) (s:ar p H H') (hp:H p=some o) (hn:∀ob u,o≠.bw ob u):cG K H' a ns:=by
 rcases h with ⟨ob,h⟩ |h
 ·exact .inl ⟨ob,s _ _ h fun z=>by rw[z,hp]at h;cases h;exact hn _ _ rfl⟩
 ·exact .inr h
end U
namespace U
open PySem L2 PyProof.Rows PySem.Spec
def jV (mg:Str→Option Value) (h:Heap):Prop:=∃bm ob,mg "__builtins__" =some (.ref bm)∧bm≠builtinsNs∧h.get? bm=some ob∧ob.cls=.type "module" ∧ob.dict=some builtinsNs∧ob.data=.plain
theorem WA {P:Program}{w:World}{K:PySem.W.Frag}{mg mb:Str→Option Value}{k:Nat}{fa a:Addr}{Pts:List Addr}{fd:FuncData}{x:Str}{sp:Sp}{au:Shared}{vs:List Value}{ns:List Int}
  (KX:K.In au.heap) (jf:au.heap.Ns mainGlobals mg) (hb:au.heap.Ns builtinsNs mb) (lh:∀x:Str,x≠ "__name__" →mb x=bootBuiltins x) (yg:au.heap.NoLimit) (hg:au.gens= #[])
  (ha:au.heap.get? a=some {cls:=.type "list",data:=.seq vs.toArray}) (hi:IntsAre vs ns) (hl:ns.length≤sizeLine) (hr:bj k callerA)
  (iE:∀Pt∈Pts,au.heap.get? Pt=some (PySem.W.tabObj #[])) (zw:∀Pt∈Pts,∃c,PySem.W.CodeHd au.heap c Pt) (zh:∀Pt∈Pts,K.lookup Pt=none) (oA:jV mg au.heap)
  (F:∀base:Heap,K.In base→base.Ns mainGlobals mg→jV mg base→az P w K mg base aP k fa fd [x] sp) (yV:∀(s:Shared) (u:Value),BindsTo s fd ⟨[u],[]⟩ [(x,u)])
  (bX:∀H:Hp,cG K H a ns→(∀Pt∈Pts,H Pt=some (.bE #[]))→sp [.ref a] H (fun v _=>v=.bl true) fun _ _ _=>False):
  codeAny (model P w) callerA (.call (.ref fa) ⟨[.ref a],[]⟩) (fun r s'=>r=.ok (.ret (.bool true))∧OldK au.heap s'.heap∧s'.os=au.os∧AllBare s'.gens) au:=by
 have rv:=Js hi
 have wH:=hi.length
 have jv:∀{Pt:Addr},Pt∈Pts→au.heap.get? Pt=some {cls:=.none,data:=.fields #[]} :=fun h=>iE _ h
 have rM:a∉Pts:=fun z=>by have h:=jv z;rw[ha]at h;cases h
 have core:∀H:Hp,(∀b,b∉Pts→H b=none∨∃o xs,H b=some (.bw o (.lst xs)))→cG K H a ns→(∀Pt∈Pts,H Pt=some (.bE #[]))→aZ P w H au.heap→(∀b,H b≠none→b=a∨b∈Pts)→(H a≠none→K.lookup a=none)→
   codeAny (model P w) callerA (.call (.ref fa) ⟨[.ref a],[]⟩) (fun r s'=>r=.ok (.ret (.bool true))∧OldK au.heap s'.heap∧s'.os=au.os∧AllBare s'.gens) au:=by
  intro H hO hS hP af hA hK
  have oZ:∀{b:Addr}{o:Obj},au.heap.get? b=some o→H b=none→(dG au.heap H).get? b=some o:=fun e n=>Wd e n
  have fo:∀{b:Addr}{o:Obj},au.heap.get? b=some o→(∀vs n,o.data≠.seq vs n)→(∀ps,o.data≠.fields ps)→H b=none:=fun {b o} e d1 d2=>by
   cases q:H b with
   |none=>rfl
   |some u=>
    rcases hA b (by rw[q];simp) with e' |e'
    ·subst e'
     rw[ha]at e;cases e
     exact absurd rfl (d1 _ _)
    ·rw[jv e']at e;cases e
     exact absurd rfl (d2 _)
  have kF:∀{b:Addr}{m:Str→Option Value},au.heap.Ns b m→(dG au.heap H).Ns b m:=fun {b m} ⟨o,es,ep,e,d,r⟩=> ⟨o,es,ep,oZ e (fo e (fun _ _ z=>by rw[d]at z;cases z) fun _ z=>by rw[d]at z;cases z),d,r⟩
  have rN:K.In (dG au.heap H):=fun b o e=>oZ (KX b o e) (by
   cases q:H b with
   |none=>rfl
   |some u=>
    rcases hA b (by rw[q];simp) with e' |e'
    ·subst e'
     rw[hK (by rw[q];simp)]at e;cases e
    ·rw[zh _ e']at e;cases e)
  have hM:Mod K mg (dG au.heap H):=⟨rN,kF jf,⟨mb,kF hb,lh⟩,let ⟨mc,h1,h2⟩:=yg;⟨mc,kF h1,h2⟩⟩
  have yU:jV mg (dG au.heap H):=let ⟨bm,ob,b1,b2,b3,b4,b5,b6⟩:=oA;⟨bm,ob,b1,b2,oZ b3 (fo b3 (fun _ _ z=>by rw[b6]at z;cases z) fun _ z=>by rw[b6]at z;cases z),b4,b5,b6⟩
  have e0:jU P w K mg (dG au.heap H) callerA [] au H:=⟨rfl,hM,fun b o e=>WQ e,Nat.le_of_eq (Jy _ _),trivial,fun b hb=>absurd (show b∈([]:List Addr) from hb) (by simp),af,.of_eq hg⟩
  refine codeAny_mono ((F _ rN (kF jf) yU).run callerA [] au H ⟨[.ref a],[]⟩ [.ref a] [.ref a] _ _ hr e0 (yV au (.ref a)) (.cons rfl .nil) (bX H hS hP)) fun r s' h=> ?_
  cases r with
  |error e=>exact False.elim h
  |ok fl=>
   cases fl with
   |next=>exact False.elim h
   |brk=>exact False.elim h
   |cont=>exact False.elim h
   |ret u=>
    obtain⟨v,H',os,bare,un,qX,r',q⟩:=h
    have q':v=.bl true:=q
    subst q'
    obtain rfl:u=Value.bool true:=r'
    have old:∀b o,au.heap.get? b=some o→asItWas au.heap s'.heap b o:=fun b o e=>by
     cases q:H b with
     |none=>exact .inl (un.keep b o e q (by intro z;exact absurd (show b∈([]:List Addr) from z) (by simp)) (by simp))
     |some u=>
      by_cases gU:b∈Pts
      ·obtain⟨more,z⟩:=un.cP b _ (hP b gU)
       have e2:s'.heap.get? b=some {cls:=.none,data:=.fields (#[]++more)} :=qX b _ z
       rw[jv gU]at e
       cases e
       obtain⟨c,hC⟩:=zw b gU
       exact .inr (.inl ⟨(hC.tab (iE b gU)).isCodeTable,rfl, #[],more,rfl,e2⟩)
      ·rcases hO b gU with z |⟨ob,xs,z⟩
       ·rw[q]at z;cases z
       ·have z2:=un.cY b ob _ z
        obtain⟨e1,_⟩:=af b _ z
        obtain⟨e2,_⟩:=qX b _ z2
        rw[e]at e1;cases e1
        exact .inl e2
    exact⟨rfl,⟨old,fun b o e=>un.there b o e (by simp)⟩,os,bare⟩
 cases hk:K.lookup a with
 |some o=>
  have e:=KX a o hk
  rw[ha]at e
  cases e
  refine core (fun b=>if b∈Pts then some (.bE #[]) else none) (fun b n=> .inl (if_neg n)) (.inr ⟨_,vs.toArray,_,hk,rfl,rfl,rfl,by rw[List.size_toArray,wH];exact hl,by simpa using rv⟩) (fun Pt h=>if_pos h) (fun b u z=> ?_) (fun b z=> ?_) fun z=>absurd (if_neg rM) z
  ·by_cases hb:b∈Pts
   ·have z':=(if_pos hb).symm.trans z
    cases z'
    exact jv hb
   ·have z':=(if_neg hb).symm.trans z
    cases z'
  ·by_cases hb:b∈Pts
   ·exact .inr hb
   ·exact absurd (if_neg hb) z
 |none=>
  refine core (fun b=>if b∈Pts then some (.bE #[]) else if b=a then some (.bw {cls:=.type "list",data:=.seq vs.toArray} (.lst (ns.map V.int))) else none) (fun b n=> ?_) (.inl ⟨{cls:=.type "list",data:=.seq vs.toArray},(if_neg rM).trans (if_pos rfl)⟩) (fun Pt h=>if_pos h) (fun b u z=> ?_) (fun b z=> ?_) fun _=>hk
  ·by_cases hb:b=a
   ·exact .inr ⟨_,_,(if_neg n).trans (if_pos hb)⟩
   ·exact .inl ((if_neg n).trans (if_neg hb))
  ·by_cases hP:b∈Pts
   ·have z':=(if_pos hP).symm.trans z
    cases z'
    exact jv hP
   ·by_cases hb:b=a
    ·have z':=((if_neg hP).trans (if_pos hb)).symm.trans z
     cases z'
     subst hb
     exact⟨ha,by rw[List.length_map];exact hl,vs,_,rv,ha⟩
    ·have z':=((if_neg hP).trans (if_neg hb)).symm.trans z
     cases z'
  ·by_cases hP:b∈Pts
   ·exact .inr hP
   ·by_cases hb:b=a
    ·exact .inl hb
    ·exact absurd ((if_neg hP).trans (if_neg hb)) z
theorem tG {l:PySem.W.OpenLaw}{n k:Nat}{q:Program}{loose:List Str}{XP:(Str→Option Value)→Heap→Prop}{YP:World→Heap→Prop}{d:DefRec}{K:Params→PySem.W.Frag}{sp:PySem.W.Frag→Sp}{x:Str}{Pts:List Addr}
    (hn:l.most=some n) (x9:n≤sizeLine) (ou:d.params.defaults=[]) (hr:bj k callerA)
    (hY:∀(w:World) (h:Heap),YP w h→(K w.params).In h) (y4:∀(w:World) (h:Heap),YP w h→∀Pt∈Pts,h.get? Pt=some (PySem.W.tabObj #[]))
    (hC:∀(w:World) (h:Heap),(K w.params).In h→∀Pt∈Pts,∃c,PySem.W.CodeHd h c Pt) (zi:∀w:World,∀Pt∈Pts,(K w.params).lookup Pt=none)
    (F:∀(w:World) (mg:Str→Option Value) (fa:Addr) (h:Heap),(K w.params).In h→h.Ns mainGlobals mg→mg d.name=some (.ref fa)→
      ∃fd:FuncData,(∀(s:Shared) (u:Value),BindsTo s fd ⟨[u],[]⟩ [(x,u)])∧
       ∀base:Heap,(K w.params).In base→base.Ns mainGlobals mg→jV mg base→az l.prog w (K w.params) mg base aP k fa fd [x] (sp (K w.params)))
    (bX:∀(K:PySem.W.Frag) (H:Hp) (a:Addr) (ns:List Int),ns.length≤n→cG K H a ns→(∀Pt∈Pts,H Pt=some (.bE #[]))→sp K [.ref a] H (fun v _=>v=.bl true) fun _ _ _=>False):
    PySem.W.WalkO q loose XP YP l.row.toRowW d [] (fun f vs=>PySem.call f vs):=by
  refine tx.AD hn ou fun w bt au mg mb fa o pm cd doc a vs ns G Y ho hd bI hmg oa hints hlen hg=> ?_
  have KX:=hY w _ Y
  obtain⟨fd,hb,hF⟩:=F w mg fa _ KX G.T.g hmg
  exact WA KX G.T.g G.T.b G.T.builtins G.T.nolimit hg oa hints (Nat.le_trans hlen x9) hr (y4 w _ Y) (hC w _ KX) (zi w) G.T.bmain hF hb (fun H hS hP=>bX (K w.params) H a ns hlen hS hP)
def bD (K:PySem.W.Frag) (x:Str) (st:Stmt):Prop:=∃f fd,PySem.W.nsIn K mainGlobals x=some (some (.ref f))∧ba K x x st f fd
theorem bT {K:PySem.W.Frag}{x:Str}{st:Stmt}{f:Addr}{oc:Value}{od an:Option Addr}{cJ:Array (Option Value)}{kV doc pm aj ct:Value}(e1:PySem.W.nsIn K mainGlobals x=some (some (.ref f)))
  (e2:K.lookup f=some ⟨oc,od,.func (PySem.W.fnOf x x (dc st) (bB st) (aq st) .none kV doc pm an aj ct),cJ⟩) (e3:PySem.W.codeIn K aj x=true) (e4:PySem.W.keepIn K (.ref f)=true):bD K x st:=⟨f,_,e1,Bj e2 e3 e4⟩
section
variable {P:Program}{w:World}{K:PySem.W.Frag}{mg:Str→Option Value}{base:Heap}
abbrev iM (x:Str) (st:Stmt) (ps:List Str):Prop:=∀(kV doc pm:Value) (an:Option Addr) (aj ct:Value) (us:List Value),us.length=ps.length→bindArgs (PySem.W.fnOf x x (dc st) (bB st) (aq st) .none kV doc pm an aj ct) ⟨us,[]⟩=pure (ps.zip us)
theorem bD.to {h:Heap}{x:Str}{st:Stmt}{ps:List Str}{k:Nat}{sp:Sp}(d:bD K x st) (KX:K.In h) (G:h.Ns mainGlobals mg) (hb:iM x st ps) (ok:∀f fd,ba K x x st f fd→az P w K mg base aP k f fd ps sp):Def P w K mg base k x ps sp:=by
 obtain⟨f,fd,e,F⟩:=d
 exact⟨f,fd,ok f fd F,PySem.W.mg_of KX G e,F.kp,F.binds hb⟩
theorem bD.lT {h:Heap}{x:Str}{st:Stmt}{ps:List Str}{k:Nat}{sp:Sp}(d:bD K x st) (KX:K.In h) (G:h.Ns mainGlobals mg) (hb:iM x st ps) (ok:∀f fd,ba K x x st f fd→az P w K mg base (bA P w) k f fd ps sp):dA P w K mg base k x ps sp:=by
 obtain⟨f,fd,e,F⟩:=d
 exact⟨f,fd,ok f fd F,PySem.W.mg_of KX G e,F.kp,F.binds hb⟩
def kG (K:PySem.W.Frag) (x:Str):Bool:=match PySem.W.nsIn K mainGlobals x with |some none=>true |_=>false
theorem W9 {h:Heap}{x:Str}(KX:K.In h) (G:h.Ns mainGlobals mg) (e:kG K x=true):mg x=none:=by
 unfold kG at e
 split at e
 ·rename_i q
  exact PySem.W.mg_none_of KX G q
 ·cases e
end
end U
namespace HS
open PySem PySem.SetTable
abbrev BL (l:List Nat):Prop:=l.Pairwise (· < ·)
abbrev tb (m:Nat):SetTable:= {mask:=m,place:= #[],dummies:= #[],finger:=0,led:=false,moves:=0,plain:=false}
def AJ (m:Nat) (p:Probe):Probe:=(tb m).advance p
def it (m:Nat) (p:Probe):Nat→Probe
 |0=>p
 |k+1=>AJ m (it m p k)
abbrev fr (m i pt:Nat):Probe:= {j:=i,more:=runEnd m i - i,i,perturb:=pt,dummy:=none}
abbrev st (m:Nat) (h:Int):Probe:=fr m (bits h%(m+1)) (bits h)
def lp (m:Nat) (x:Nat×Nat):Nat×Nat:=leap m x.1 x.2
def nx (m i:Nat):Nat:=(i*5+1)%(m+1)
def sW (m:Nat) (vR:Nat→Prop) (p:Probe) (j:Nat):Prop:=∃n,(it m p n).j=j∧∀k<n,vR (it m p k).j
structure T0 (t:SetTable) (es:Array (Int×Value)):Prop where
 sz:t.place.size=es.size
 Cd:BL t.place.toList
 CY:t.dummies= #[]
 le:∀j∈t.place.toList,j<t.mask+1
 ld:∀z∈t.place.toList.zip es.toList,sW t.mask (·∈t.place.toList) (st t.mask z.2.1) z.1
def BK (m n:Nat):Prop:=(m=7∧n≤4)∨(m=31∧n≤18)∨(m=127∧n≤76)∨(m=511∧n≤306)
structure C5 (m:Nat) (hs:List Int) (owner:Array (Option Nat)):Prop where
 sz:owner.size=m+1
 lt:∀(j k:Nat),owner[j]? =some (some k)→k<hs.length
 at_:∀(k:Nat) (h:Int),hs[k]? =some h→∃j:Nat,owner[j]? =some (some k)∧sW m (fun x=> ∃k,owner[x]? =some (some k)) (st m h) j
 inj:∀(j j' k:Nat),owner[j]? =some (some k)→owner[j']? =some (some k)→j=j'
section
variable {prog:Program}{w:World}{K:Type} [DecidableEq K]
structure HK (knd:HeapKind prog w K):Prop where
 CZ:∀{A:Around}{E:Value→Shared→Prop}{s:Shared}{k:K}{a:Addr}{Q:Bool→Shared→Prop},knd.is s.heap k a→(∀b,Q b s)→wpAny (model prog w) A (hashByValue 8 (.ref a)) Q E s
 notCls:∀{A:Around}{E:Value→Shared→Prop}{s:Shared}{k:K}{a:Addr}{Q:Bool→Shared→Prop},knd.is s.heap k a→Q false s→wpAny (model prog w) A (ofAClassStatement 8 (.ref a)) Q E s
 Cr:∀{h h':Heap}{k:K}{a d:Addr}{o:Obj}{es ep t},knd.is h k a→h.get? d=some o→o.data=.set es ep t→Heap.SameBut d h h'→knd.is h' k a
variable {knd:HeapKind prog w K}{A:Around}{E:Value→Shared→Prop}{s:Shared}
def tm (knd:HeapKind prog w K) (h:Heap) (k:K) (e:Int×Value):Prop:=∃a,e.2=.ref a∧knd.is h k a∧e.1=knd.hash k
end
section
variable {prog:Program}{w:World}{K:Type} [DecidableEq K] {knd:HeapKind prog w K}{A:Around}{E:Value→Shared→Prop}{s:Shared}
structure C3 (knd:HeapKind prog w K) (h:Heap) (S:Addr) (ks:List K) (o:Obj) (es:Array (Int×Value)) (ep:Nat) (t:SetTable):Prop where
 ho:h.get? S=some o
 ex:o.ExactSet
 hd:o.data=.set es ep t
 T:T0 t es
 room:BK t.mask es.size
 el:∀e∈es.toList,∃k∈ks,tm knd h k e
 all:∀k∈ks,∃e∈es.toList,tm knd h k e
 sz:es.size=ks.length
end
end HS
namespace HS
open PySem PySem.SetTable PySem.Spec
section
variable {K:Type} [DecidableEq K]
def met (val:Nat→K):Nat→List K
 |0=> []
 |n+1=>if val n∈met val n then met val n else met val n++[val n]
variable {prog:Program}{w:World}{kk:KeyKind prog w K}{A:Around}{E:Value→Shared→Prop}{s:Shared}{R:Result→Shared→Prop}{I:Addr}{fp wr:List Addr}{G:Array GenState→Array GenState→Prop}{n:Nat}{P:Nat→Value→Prop}{St:Nat→Shared→Prop}
end
end HS
namespace L2
open PySem PySem.Spec PyProof.Rows
end L2
namespace L2
open PySem PySem.Spec PyProof.Rows SeqAt
end L2
namespace L2
open PySem PySem.Spec PyProof.Rows
end L2
namespace L2
open PySem PySem.Spec PyProof.Rows SeqAt
section
variable {X:Cx}
theorem Jr {a b:String} :cj X (.builtin "isinstance") (fun xs H Q=> ∃(x:V) (t:Addr) (T:Value) (r:Bool),xs=[x,.ref t]∧ah X.K H t [.ty a,.ty b]∧((∃i,x=.int i∧T=.type "int")∨(∃k,x=.bl k∧T=.type "bool")∨(x=.aa∧T=.type "NoneType")∨(∃l ys,x=.ref l∧H l=some (.lst ys)∧T=.type "list")∨∃l ys,x=.ref l∧H l=some (.tup ys)∧T=.type "tuple")∧
  PySem.W.kitAny X.K T [.type a,.type b]=some r∧Q (.bl r) H):=by
 intro pins s σ H xs us Q I rv h
 obtain⟨x,t,T,r,rfl,hq,hx,hk,q⟩:=h
 obtain⟨u,v,rfl,ru,rv⟩:=vals2 rv
 cases rv
 obtain⟨its,rt,pl,hz⟩:=I.tuple hq
 cases rt with
 |cons r1 r2=>
  cases r2 with
  |cons r3 r4=>
   cases r4
   cases r1
   cases r3
   obtain⟨o,ho,hc,n,hd⟩:=id pl
   obtain⟨cls,dd,dt,sl⟩:=o
   replace hc:cls=.type "tuple" :=hc
   replace hd:dt=.seq [Value.type a,Value.type b].toArray n:=hd
   subst hc hd
   rcases hx with ⟨i,rfl,rfl⟩ |⟨k,rfl,rfl⟩ |⟨rfl,rfl⟩ |⟨l,ys,rfl,hl,rfl⟩ |⟨l,ys,rfl,hl,rfl⟩
   ·obtain⟨tk,rfl⟩:=ru
    exact PySem.W.kia_tup PySem.W.kitx_int I.bp True.intro ho hk (fun z=>nomatch z) fun tk=> ⟨.bl r,H,I.tok _,rfl,q⟩
   ·cases ru
    exact PySem.W.kia_tup PySem.W.kitx_bool I.bp True.intro ho hk (fun z=>nomatch z) fun tk=> ⟨.bl r,H,I.tok _,rfl,q⟩
   ·cases ru
    exact PySem.W.kia_tup PySem.W.kitx_none I.bp True.intro ho hk (fun z=>nomatch z) fun tk=> ⟨.bl r,H,I.tok _,rfl,q⟩
   ·cases ru
    obtain⟨_,_,n,_,h1⟩:=(show aX X.prog X.w H s.heap l (.lst ys) from I.af l _ hl)
    exact PySem.W.kia_tup PySem.W.kitx_list I.bp ⟨_,h1,rfl⟩ ho hk (fun z=>nomatch z) fun tk=> ⟨.bl r,H,I.tok _,rfl,q⟩
   ·cases ru
    obtain⟨_,_,_,p,_⟩:=(show aX X.prog X.w H s.heap l (.tup ys) from I.af l _ hl)
    obtain⟨o,h1,h2,_⟩:=p
    exact PySem.W.kia_tup PySem.W.kitx_tuple I.bp ⟨o,h1,h2⟩ ho hk (fun z=>nomatch z) fun tk=> ⟨.bl r,H,I.tok _,rfl,q⟩
end
end L2
namespace L2
open PySem PySem.Spec PyProof.Rows
section
variable {X:Cx}{CX:eP}{k:Nat}{f:Addr}{fd:FuncData}{ps:List Str}{ds:List Value}{dv:List V}{sp:Sp}{E:XK}{x:Str}{p pos:Pos}{e:Expr}{es:List Expr}{t:TA}
theorem Ww {i:Nat}(F:az X.prog X.w X.K X.mg X.base CX k f fd ps sp) (hr:bj k X.A) (hv:PE X (.Name x p) (j4 i)) (hk:PySem.W.keepIn X.K (.ref f)=true) (hb:Binds X.K fd ps ds) (hd:Vals dv ds) (hx:Passes CX X E)
  (ha:PA X (e::es) t) (he:starEach (e::es) X.env=(false,eval e X.env)::starEach es X.env:=by rfl) (bH:(backTo pos (starEach es X.env)).any (·.1)=false:=by rfl):
  PE X (.Call (.Name x p) (e::es) [] pos) (fun σ H Q=>σ[i]? =some (some (.ref f))∧hW sp dv E t σ H Q):=by
 intro pins s σ H Q I h
 obtain⟨gO,h⟩:=h
 refine wpAny_Call_Name_kw (ak (hv pins s σ H (fun v H1=>v=.ref f∧H1=H) I ⟨_,gO,rfl,rfl⟩) fun u s1 ⟨v,H1,I1,rv,e1,e2⟩=> ?_)
 subst e1 e2
 cases rv
 refine PySem.W.callWith_K (h₀:=X.base) I1.ok.mod.fV hk (ak (ha pos pins s1 σ H1 _ I1 h) fun us s2 ⟨vs,H2,I2,r,q⟩=> ⟨I2.bp,?_⟩) he bH
 exact Ws F hr hb hd hx I2 r q
end
section
variable {prog:Program}{w:World}{A:Around}{E:Value→Shared→Prop}{s:Shared}
theorem Jm {Q:List Value→Shared→Prop}{r:Addr}{a b c:Int}{t u v:Tok}{n:Nat}(hh:A.handled=none) (hr:IsRange s.heap r a b c t u v) (nY:Builtin.Range.small a b c=true)
  (hn:Builtin.Range.rangeSize a b c=n) (hlen:n≤2^24)
  (hQ:∀(h':Heap) (tk:Nat) (acc:Array Value),(∀b o,s.heap.get? b=some o→h'.get? b=some o)→ItemsOf (fun i v=> ∃t,v=.int (a+i*c) t) acc n→Q acc.toList {s with heap:=h',toks:=tk}):wpAny (model prog w) A (collect (.ref r)) Q E s:=by
 unfold collect
 refine wpAny_bind (wpAny_runValue (codeAny_builtin F.entry_proto_collect ?_))
 rw[Around.under_plainId F.plain_proto_collect _]
 show wpAny _ A.in1 (newList [] >>=fun l=>again (.builtin "list.__iadd__" ⟨[l,.ref r],[]⟩)) _ _ s
 refine wpAny_bind (wpAny_newObj_type ?_)
 refine wpAny_pure ⟨plainId_quiet F.plain_list_iadd _,codeAny_builtin F.entry_list_iadd ?_⟩
 rw[Around.under_plainId F.plain_list_iadd _]
 have y7:(s.heap.push {cls:=.type "list",data:=.seq ([]:List Value).toArray}).get? s.heap.objs.size=some {cls:=.type "list",data:=.seq ([]:List Value).toArray} :=Heap.get?_push_size _ rfl
 show wpAny _ A.in1 (Builtin.List.listExtendWith (.ref s.heap.objs.size) (.ref r) (.ref s.heap.objs.size)) _ _ _
 refine wpAny_mono (wpAny_extend_range (A:=A) (R:=fun r s'=> ∃(h':Heap) (tk:Nat) (acc:Array Value) (c':Nat),r=.ok (.ret (.ref s.heap.objs.size))∧s'= {s with heap:=h',toks:=tk}∧(∀b o,s.heap.get? b=some o→h'.get? b=some o)∧h'.get? s.heap.objs.size=some {cls:=.type "list",dict:=none,data:=.seq acc c',slots:= #[]}∧ItemsOf (fun i v=> ∃t,v=.int (a+i*c) t) acc n)
  (s:= {s with heap:=s.heap.push {cls:=.type "list",data:=.seq ([]:List Value).toArray} }) hh (Heap.get?_push_of_some _ hr) nY hn hlen s.heap.objs.size (.ref s.heap.objs.size) 0 y7 fun h' tk AL c' hk jw cX=> ⟨h',tk,AL,c',rfl,rfl,fun b o e=>hk b o (Nat.ne_of_lt (Heap.lt_size e)) (Heap.get?_push_of_some _ e),jw,cX⟩) (fun fin s' h=> ?_) (fun e s' h=> ?_)
 ·cases fin with
  |done f=>
   obtain⟨h',tk,acc,c',e,rfl,hk,jw,cX⟩:=h
   cases e
   show wpAny _ A (load s.heap.objs.size >>=_) _ _ _
   refine wpAny_bind (wpAny_load jw ?_)
   exact wpAny_pure (hQ h' tk acc hk cX)
  |again c'=>
   refine⟨h.1,codeAny_mono h.2 fun r cT hr=> ?_⟩
   obtain⟨h',tk,acc,c',rfl,rfl,hk,jw,cX⟩:=hr
   show wpAny _ A (load s.heap.objs.size >>=_) _ _ _
   refine wpAny_bind (wpAny_load jw ?_)
   exact wpAny_pure (hQ h' tk acc hk cX)
 ·obtain⟨_,_,_,_,e,_⟩:=h
  cases e
theorem YR {Q:Value→Shared→Prop}{r:Addr}{a b c:Int}{t u v:Tok}{n:Nat}(hh:A.handled=none) (hr:IsRange s.heap r a b c t u v) (nY:Builtin.Range.small a b c=true)
  (hn:Builtin.Range.rangeSize a b c=n) (hlen:n≤2^24)
  (hQ:∀(h':Heap) (tk:Nat) (acc:Array Value),(∀b o,s.heap.get? b=some o→h'.get? b=some o)→ItemsOf (fun i v=> ∃t,v=.int (a+i*c) t) acc n→Q (.ref h'.objs.size) {s with heap:=h'.push {cls:=.type "tuple",data:=.seq acc},toks:=tk}):
  wpAny (model prog w) A (call (.type "tuple") [.ref r]) Q E s:=by
 refine callType_codes (Q₁:=fun obj au=>au.TypeIs obj "tuple" ∧Q obj au) F.called_tuple (F.typeCall_tuple_1 _) F.entry_object_init ?_ fun obj au ft=> ?_
 ·refine codeAny_of_tree ?_
  show wpAny _ A.in1.in1 (do checkBuiltinCall "tuple.__new__" ⟨[.type "tuple",.ref r],[]⟩;again (.builtin "tuple.__new__" ⟨[.type "tuple",.ref r],[]⟩)) _ _ s
  refine wpAny_bind (wpAny_of_eq (F.newCall_tuple_1 _) (wpAny_pure ⟨plainId_quiet F.plain_tuple_new _,codeAny_builtin F.entry_tuple_new ?_⟩))
  rw[Around.under_plainId F.plain_tuple_new _]
  have Cu:=sub_tuple_self
  have CK:=init_tuple_lookup
  have CG:=madeHere_tuple
  have y6:s.TypeIs (.ref r) "range" :=⟨_,hr,rfl⟩
  wp_walk using wpAny_typeOf y6,Jm (A:=A.in1.in1) hh hr nY hn hlen
  intro h' tk acc hk cX
  show wpAny _ _ (Builtin.Tuple.tupleExact acc.toList.toArray >>=fun v=>ret v) _ _ _
  unfold Builtin.Tuple.tupleExact
  refine wpAny_bind (wpAny_newObj_type ?_ (by show acc.toList.toArray.size≤sizeLine;simp only[Array.toArray_toList];rw[cX.1,sizeLine_eq];exact hlen))
  refine wpAny_pure ?_
  have e:acc.toList.toArray=acc:=by simp
  rw[e]
  exact⟨⟨_,Heap.get?_push_size _ rfl,rfl⟩,hQ h' tk acc hk cX⟩
 ·exact⟨ft.1,F.args_object_init_2 obj _,object_init_meets F.called_tuple.init.lookup F.called_tuple.made (by decide) prog w A.in1 _ au ⟨ft.1,rfl,ft.2⟩⟩
end
section
variable {X:Cx}
theorem Jd (hc:X.calm=true:=by rfl):cj X (.type "tuple") (fun xs H Q=> ∃(p:Addr) (j:Int),xs=[.ref p]∧H p=some (.bW 0 j)∧0≤j∧j≤1000∧∀q,H q=none→Q (.ref q) (upd H q (.tup (upTo j.toNat)))):=by
 intro pins s σ H xs us Q I r h
 obtain⟨p,j,rfl,hp,h0,h1,q⟩:=h
 obtain⟨u,rfl,ru⟩:=vals1 r
 cases ru
 obtain⟨t,u,v,e⟩:=(show aX X.prog X.w H s.heap p (.bW 0 j) from I.af p _ hp)
 refine YR (n:=j.toNat) (I.ok.hd hc) e (small_one (by omega) (by omega) (by omega) (by omega)) (by rw[rangeSize_one];split<;>omega) (by omega) fun h' tk acc hk cX=> ?_
 have r2:=YC cX
 have hlen:(upTo j.toNat).length≤sizeLine:=by unfold upTo;rw[List.length_map,List.length_range,sizeLine_eq];omega
 have I1:Inv X pins σ H {s with heap:=h',toks:=tk} :=I.kept hk
 have ea:acc=acc.toList.toArray:=by simp
 have I2:Inv X pins σ (upd H h'.objs.size (.tup (upTo j.toNat))) {s with heap:=h'.push {cls:=.type "tuple",data:=.seq acc},toks:=tk} :=by
  rw[ea]
  exact I1.laid (t':=tk) (fun b o e=>Heap.get?_push_of_some _ e) (Nat.le_refl _) (show aX X.prog X.w _ _ _ (.tup (upTo j.toNat)) from ⟨hlen,acc.toList,r2,IsTup.new _ _,_,Heap.get?_push_size _ rfl,rfl⟩)
 exact⟨.ref h'.objs.size,_,I2,rfl,q _ (I1.af.fresh (Nat.le_refl _))⟩
end
end L2
namespace U
open PySem L2 PyProof.Rows
def top (i:Nat):Stmt:=PySem.Challenge.pw_unlikesteps_k01_boards_and_lays_looked_a.main.body.getD i (.Pass ⟨0,0,0,0⟩)
structure Gs (mg:Str→Option Value):Prop where
 isinstance:mg "isinstance" =none
 int:mg "int" =none
 bool:mg "bool" =none
 tuple:mg "tuple" =none
 list:mg "list" =none
 len:mg "len" =none
 all:mg "all" =none
 set:mg "set" =none
 range:mg "range" =none
 max:mg "max" =none
 min:mg "min" =none
 enumerate:mg "enumerate" =none
 zip:mg "zip" =none
 repr:mg "repr" =none
 longest:∃t,mg "LONGEST_SIDE" =some (.int 12 t)
section
variable {P:Program}{w:World}{K:PySem.W.Frag}{mg:Str→Option Value}{base:Heap}
abbrev mz:Stmt:=top 19
def lZ (K:PySem.W.Frag):Sp:=fun vs H Q _=> ∃x,vs=[x]∧bV K H x∧Q (.bl (whole x)) H
theorem uX:bC ["thing"] ["thing"] (aq mz):=⟨rfl,rfl,rfl,by decide+kernel,rfl,by decide+kernel,by decide+kernel⟩
theorem UB {f:Addr}{fd:FuncData}(F:ba K "is_whole" "is_whole" mz f fd) (G:Gs mg):az P w K mg base aP 1 f fd ["thing"] (lZ K):=by
 refine F.ok uX (fun vs H Q E h=> ?_) (fun aj A outer s H vs Q E hr h=> ?_)
 ·obtain⟨x,rfl,_⟩:=h
  rfl
 ·obtain⟨x,rfl,⟨T,t⟩,q⟩:=h
  refine⟨_,Zk (Zs (ZJ (Zi (ZC (c:= "int")) rfl G.isinstance boot_isinstance (Za (pv 0) (Za (ZP (v:=.ty "int") rfl G.int boot_int rfl) Zc)))
   (Z2 (Uu (Zi (ZC (c:= "bool")) rfl G.isinstance boot_isinstance (Za (pv 0) (Za (ZP (v:=.ty "bool") rfl G.bool boot_bool rfl) Zc))))))),?_⟩
  refine⟨x,rfl,x,_,_,rfl,t,WU t,_,rfl,?_⟩
  rw[Wa]at q
  cases e:nR x with
  |false=>rw[e]at q;exact aR q
  |true=>rw[e]at q;exact av ⟨x,rfl,x,_,_,rfl,t,J9 t,_,rfl,q⟩
abbrev mx:Stmt:=top 20
def fI (K:PySem.W.Frag):Sp:=fun vs H Q _=> ∃x a b,vs=[x,.int a,.int b]∧bV K H x∧Q (.bl (aT x a b)) H
theorem uW:bC ["thing", "least", "most"] ["thing", "least", "most"] (aq mx):=⟨rfl,rfl,rfl,by decide+kernel,rfl,by decide+kernel,by decide+kernel⟩
theorem W8 {f:Addr}{fd:FuncData}(F:ba K "is_whole_within" "is_whole_within" mx f fd) (D1:Def P w K mg base 1 "is_whole" ["thing"] (lZ K)):az P w K mg base aP 2 f fd ["thing", "least", "most"] (fI K):=by
 refine F.ok uW (fun vs H Q E h=> ?_) (fun aj A outer s H vs Q E hr h=> ?_)
 ·obtain⟨x,a,b,rfl,_⟩:=h
  rfl
 ·obtain⟨x,a,b,rfl,t,q⟩:=h
  refine⟨_,Zk (Zs (ZJ (Zj D1 hr (Za (pv 0) Zc)) (Z2 (J3 WO WO (pv 1) (pv 0) (pv 2))))),?_⟩
  refine⟨x,rfl,x,rfl,t,_,rfl,?_⟩
  cases x with
  |int i=>
   refine av ⟨_,rfl,_,rfl,_,_,rfl,rfl,_,rfl,?_⟩
   have e:aT (.int i) a b=(decide (a≤i)&&decide (i≤b)):=rfl
   rw[e]at q
   cases e1:decide (a≤i) with
   |false=>rw[e1]at q;exact aR q
   |true=>rw[e1]at q;exact av ⟨_,rfl,_,_,rfl,rfl,q⟩
  |_=>exact aR q
abbrev mC:Stmt:=top 21
def ke (K:PySem.W.Frag):Sp:=fun vs H Q _=> ∃x n,vs=[x,.int n]∧bV K H x∧Q (.bl (match ao H x with |some xs=>decide ((xs.length:Int)=n) |none=>false)) H
theorem uY:bC ["thing", "many"] ["thing", "many"] (aq mC):=⟨rfl,rfl,rfl,by decide+kernel,rfl,by decide+kernel,by decide+kernel⟩
theorem UC {f:Addr}{fd:FuncData}(F:ba K "is_tuple_of" "is_tuple_of" mC f fd) (G:Gs mg):az P w K mg base aP 1 f fd ["thing", "many"] (ke K):=by
 refine F.ok uY (fun vs H Q E h=> ?_) (fun aj A outer s H vs Q E hr h=> ?_)
 ·obtain⟨x,n,rfl,_⟩:=h
  rfl
 ·obtain⟨x,n,rfl,⟨T,t⟩,q⟩:=h
  refine⟨_,Zk (Zs (ZJ (Zi (ZC (c:= "tuple")) rfl G.isinstance boot_isinstance (Za (pv 0) (Za (ZP (v:=.ty "tuple") rfl G.tuple boot_tuple rfl) Zc)))
   (Z2 (ZO YU (Zi Zr rfl G.len boot_len (Za (pv 0) Zc)) (pv 1) (bQ _))))),?_⟩
  refine⟨x,rfl,x,_,_,rfl,t,YO t,_,rfl,?_⟩
  cases e:ao H x with
  |none=>rw[e]at q;exact aR q
  |some xs=>
   rw[e]at q
   obtain⟨a,rfl,ha⟩:=Zq e
   refine av ⟨_,rfl,a,xs,rfl,.inr (ah.of ha),_,rfl,rfl,?_⟩
   have z:decide (V.int (xs.length:Int)=V.int n)=decide ((xs.length:Int)=n):=by simp
   rw[z]
   exact q
abbrev ng:Stmt:=top 22
def fW:Option (List V)→Bool
 |some [a,b]=>aT a 1 12&&aT b 1 12
 |_=>false
def bz (K:PySem.W.Frag) (H:Hp) (x:V):Prop:=bV K H x∧∀xs,ao H x=some xs→∀y∈xs,bV K H y
def ig (K:PySem.W.Frag):Sp:=fun vs H Q _=> ∃x,vs=[x]∧bz K H x∧∀H',ae H H'→Q (.bl (fW (ao H x))) H'
theorem vg:bC ["thing"] ["thing"] (aq ng):=⟨rfl,rfl,rfl,by decide+kernel,rfl,by decide+kernel,by decide+kernel⟩
theorem UH {f:Addr}{fd:FuncData}(F:ba K "is_board" "is_board" ng f fd) (G:Gs mg) (D1:Def P w K mg base 1 "is_tuple_of" ["thing", "many"] (ke K)) (D2:Def P w K mg base 2 "is_whole_within" ["thing", "least", "most"] (fI K)):
  az P w K mg base aP 3 f fd ["thing"] (ig K):=by
 obtain⟨tk,hL⟩:=G.longest
 refine F.ok vg (fun vs H Q E h=> ?_) (fun aj A outer s H vs Q E hr h=> ?_)
 ·obtain⟨x,rfl,_⟩:=h
  rfl
 ·obtain⟨x,rfl,⟨t,hi⟩,q⟩:=h
  refine⟨_,Zk (Zs (ZJ (Zj D1 (hr.mono (by decide)) (Za (pv 0) (Za Zf Zc)))
   (Z2 (Zi Jf rfl G.all boot_all (Za (Yz ["side"] 1 [] (JP (pv 0)) (fun C s H fp=>pb 0) (fun C s H fp=>YY)
    (fun C s H fp D=>Z6 rfl (Zj D2 (hr.mono (by decide)) (Za (pv 0) (Za Zf (Za (Zw (v:=.int 12) rfl hL ⟨_,rfl⟩) Zc)))))) Zc))))),?_⟩
  refine⟨x,rfl,x,2,rfl,t,_,rfl,?_⟩
  cases e:ao H x with
  |none=>rw[e]at q;exact aR (q H (ae.refl H))
  |some xs=>
   rw[e]at q
   obtain⟨a,rfl,ha⟩:=Zq e
   show if decide ((xs.length:Int)=2)=true then _ else _
   by_cases h2:xs.length=2
   ·rw[decide_eq_true (show(xs.length:Int)=2 by omega)]
    refine av ⟨_,rfl,a,rfl,⟨xs,ah.of ha⟩,?_⟩
    refine Y8 (xs:=xs) (fun i ys σ H2=>ys=(xs.take i).map (fun y=>V.bl (aT y 1 12))∧H2=H∧∃v,σ=[v]) ⟨rfl,rfl,none,rfl⟩ (fun i ys σ H2 _ ⟨_,e2,_⟩=>by rw[e2];exact ah.of ha) ?_ ?_
    ·rintro i y ys σ H2 hy ⟨rfl,rfl,v,rfl⟩
     have my:y∈xs:=List.mem_of_getElem? hy
     refine⟨y,rfl,y,1,12,rfl,hi xs e y my,?_,?_⟩
     ·rw[List.length_map,sizeLine_eq,List.length_take];omega
     ·refine⟨?_,rfl,_,rfl⟩
      rw[List.take_add_one,hy,List.map_append]
      rfl
    ·rintro ys σ H2 ⟨rfl,rfl,v,rfl⟩ p hp
     rw[List.take_length]
     refine⟨p,xs.map (fun y=>aT y 1 12),rfl,?_,?_⟩
     ·rw[List.map_map];exact ai.of Zb
     ·have e3:fW (some xs)=(xs.map (fun y=>aT y 1 12)).all id:=by
       match xs,h2 with
       | [a,b],_=>simp[fW]
      rw[←e3]
      exact q _ fun b o hb=>by rw[Zg (Ze hb hp)];exact hb
   ·rw[decide_eq_false (show ¬(xs.length:Int)=2 by omega)]
    have e3:fW (some xs)=false:=by
     match xs,h2 with
     | [],_=>rfl
     | [a],_=>rfl
     | [a,b],h=>exact absurd rfl h
     |a::b::c::r,_=>rfl
    rw[e3]at q
    exact aR (q H (ae.refl H))
end
section
theorem Yk (val:Nat→Int):∀n,((PyProof.Rows.firstMet val n).length=n↔((List.range n).map val).Nodup)
 |0=>by simp[PyProof.Rows.firstMet_zero]
 |n+1=>by
  have ih:=Yk val n
  have le:=PyProof.Rows.firstMet_length_le val n
  rw[PyProof.Rows.firstMet_succ,PyProof.Rows.step_length,PyProof.Rows.firstMet_any,List.range_succ,List.map_append]
  have e:(((List.range n).map val).any (· ==val n))=true↔val n∈(List.range n).map val:=by
   rw[List.any_eq_true]
   constructor
   ·rintro⟨x,hx,q⟩
    have:x=val n:=by simpa using q
    rw[←this];exact hx
   ·intro h;exact⟨_,h,by simp⟩
  have nd:((List.range n).map val++List.map val [n]).Nodup↔((List.range n).map val).Nodup∧¬val n∈(List.range n).map val:=by
   rw[List.nodup_append]
   constructor
   ·rintro⟨h1,_,h3⟩
    exact⟨h1,fun m=>h3 _ m (val n) (by simp) rfl⟩
   ·rintro⟨h1,h2⟩
    refine⟨h1,by simp,fun a ha b hb q=>h2 ?_⟩
    have iD:b=val n:=by simpa using hb
    rw[←iD,←q];exact ha
  rw[nd,←ih]
  by_cases m:val n∈(List.range n).map val
  ·rw[if_pos (e.mpr m)]
   constructor
   ·intro h;omega
   ·rintro⟨_,h⟩;exact absurd m h
  ·rw[if_neg (fun z=>m (e.mp z))]
   constructor
   ·intro h;exact⟨by omega,m⟩
   ·rintro⟨h,_⟩;omega
theorem Wq (ns:List Int):il ns=ns.length↔ns.Nodup:=by
 unfold il
 rw[Yk]
 have e:(List.range ns.length).map (fun i=>ns.getD i 0)=ns:=by
  refine List.ext_getElem (by simp) fun i h1 h2=> ?_
  rw[List.getElem_map,List.getElem_range,List.getD_eq_getElem?_getD,List.getElem?_eq_getElem h2,Option.getD_some]
 rw[e]
def rowsOf (xs:List V):List V:=xs.filter fun x=> !decide (x=.aa)
def bR (wd hg:Int):Option (List V)→Bool
 |some xs=>decide ((xs.length:Int)=wd)&&((rowsOf xs).all fun r=>aT r 0 (hg - 1))&&decide (rowsOf xs).Nodup
 |none=>false
def cO (H:Hp) (x:V) (wd hg:Int):Prop:=ao H x=some [.int wd,.int hg]∧1≤wd∧wd≤12∧1≤hg∧hg≤12
theorem cO.same {H H':Hp}{x:V}{wd hg:Int}(b:cO H x wd hg) (s:ae H H'):cO H' x wd hg:=⟨s.ao b.1,b.2⟩
theorem cO.is {H:Hp}{x:V}{wd hg:Int}(b:cO H x wd hg):fW (ao H x)=true:=by
 obtain⟨h,h1,h2,h3,h4⟩:=b
 rw[h]
 show(decide (1≤wd)&&decide (wd≤12)&&(decide (1≤hg)&&decide (hg≤12)))=true
 simp[h1,h2,h3,h4]
theorem cO.pl {K:PySem.W.Frag}{H:Hp}{x:V}{wd hg:Int}(b:cO H x wd hg):bz K H x:=by
 obtain⟨a,rfl,ha⟩:=Zq b.1
 refine⟨⟨_,.tup ha⟩,fun xs e y hy=> ?_⟩
 rw[b.1]at e
 cases e
 rcases List.mem_cons.mp hy with z |hy
 ·rw[z];exact⟨_,.int wd⟩
 ·rw[List.mem_singleton.mp hy];exact⟨_,.int hg⟩
theorem Wb {xs:List V}{lo hi:Int}(h:(xs.all fun r=>aT r lo hi)=true):∃ns:List Int,xs=ns.map V.int:=by
 induction xs with
 |nil=>exact⟨[],rfl⟩
 |cons x xs ih=>
  rw[List.all_cons,Bool.and_eq_true]at h
  obtain⟨ns,e⟩:=ih h.2
  cases x with
  |int i=>exact⟨i::ns,by rw[e];rfl⟩
  |_=>cases h.1
theorem Ju (ns:List Int):(ns.map V.int).Nodup↔ns.Nodup:=by
 induction ns with
 |nil=>simp
 |cons n ns ih=>rw[List.map_cons,List.nodup_cons,List.nodup_cons,ih];simp
end
section
variable {P:Program}{w:World}{K:PySem.W.Frag}{mg:Str→Option Value}{base:Heap}
abbrev kn:Stmt:=top 23
def l9 (K:PySem.W.Frag):Sp:=fun vs H Q _=> ∃x wd hg,vs=[x]∧cO H x wd hg∧∀H',ae H H'→Q .aa H'
theorem qh:bC ["board"] ["board"] (aq kn):=⟨rfl,rfl,rfl,by decide+kernel,rfl,by decide+kernel,by decide+kernel⟩
theorem JS {f:Addr}{fd:FuncData}(F:ba K "need_board" "need_board" kn f fd) (D1:Def P w K mg base 3 "is_board" ["thing"] (ig K)):az P w K mg base aP 4 f fd ["board"] (l9 K):=by
 refine F.ok qh (fun vs H Q E h=> ?_) (fun aj A outer s H vs Q E hr h=> ?_)
 ·obtain⟨x,wd,hg,rfl,_⟩:=h
  rfl
 ·obtain⟨x,wd,hg,rfl,b,q⟩:=h
  refine⟨_,Zk (ZU (Z9 (Z1 (Zj D1 hr (Za (pv 0) Zc)))) ZR ZA),?_⟩
  refine⟨x,rfl,x,rfl,b.pl,fun H' sm=> ⟨_,rfl,?_⟩⟩
  rw[b.is]
  exact aR (q H' sm)
abbrev ko:Stmt:=top 24
def iU (K:PySem.W.Frag):Sp:=fun vs H Q _=> ∃x y wd hg,vs=[x,y]∧cO H x wd hg∧bz K H y∧∀H',ae H H'→Q (.bl (bR wd hg (ao H y))) H'
theorem iX:bC ["board", "thing", "wide", "high", "rows"] ["board", "thing"] (aq ko):=⟨rfl,rfl,rfl,by decide+kernel,rfl,by decide+kernel,by decide+kernel⟩
theorem Bq {f:Addr}{fd:FuncData}(F:ba K "is_lay" "is_lay" ko f fd) (G:Gs mg) (D1:Def P w K mg base 4 "need_board" ["board"] (l9 K)) (D2:Def P w K mg base 1 "is_tuple_of" ["thing", "many"] (ke K))
  (D3:Def P w K mg base 2 "is_whole_within" ["thing", "least", "most"] (fI K)):az P w K mg base aP 5 f fd ["board", "thing"] (iU K):=by
 refine F.ok iX (fun vs H Q E h=> ?_) (fun aj A outer s H vs Q E hr h=> ?_)
 ·obtain⟨x,y,wd,hg,rfl,_⟩:=h
  rfl
 ·obtain⟨x,y,wd,hg,rfl,b,⟨ty,hy⟩,q⟩:=h
  refine⟨_,Zh (Yx (Zj D1 hr (Za (pv 0) Zc)))
   (Zh (JO (pv 0) (Us rfl (Yy (ZN (i:=2) iX.nd rfl (Or.inl rfl)) (Yy (ZN (i:=3) iX.nd rfl (Or.inr rfl)) WL))))
   (Zh (ZU (Z9 (Z1 (Zj D2 (hr.mono (by decide)) (Za (pv 1) (Za (pv 2) Zc))))) (Zk (Zs YT)) ZA)
   (Zh (WJ ["row"] 1 [] (i:=4) iX.nd rfl (Or.inl rfl) (JP (pv 1)) (fun C s H fp=>pb 0) (fun C s H fp=>JM (Wt (JQ (pv 0)))) (fun C s H fp D=>Z6 rfl (pv 0)))
   (Zk (Zs (ZJ (Zi Jf rfl G.all boot_all (Za (Yz ["row", "high"] 1 [3] (Yo (pv 4)) (fun C s H fp=>pb 0) (fun C s H fp=>YY)
     (fun C s H fp D=>Z6 rfl (Zj D3 (hr.mono (by decide)) (Za (pv 0) (Za Zf (Za (Zn JR (pv 1) Zf) Zc)))))) Zc))
    (Z2 (ZO YU (Zi Jq rfl G.len boot_len (Za (ZS Jo rfl G.set boot_set (Za (pv 4) Zc)) Zc)) (Zi Zr rfl G.len boot_len (Za (pv 4) Zc)) (bQ _))))))))),?_⟩
  refine⟨x,rfl,x,wd,hg,rfl,b,fun H1 s1=> ?_⟩
  have b1:=b.same s1
  obtain⟨a,rfl,ha⟩:=Zq b1.1
  refine⟨_,rfl,a,_,rfl,ah.of ha,rfl,_,_,rfl,_,_,rfl,rfl,?_⟩
  refine⟨y,rfl,_,rfl,y,wd,rfl,s1.ip ty,_,rfl,?_⟩
  cases e:ao H y with
  |none=>
   have e1:ao H1 y=none:=by
    obtain⟨T,t⟩:=ty
    cases t with
    |tup e2=>rw[Zo e2]at e;cases e
    |lst e2=>rw[Zm,s1 _ _ e2];rfl
    |bw e2=>rw[Zm,s1 _ _ e2];rfl
    |dK e2=>rw[Zm,s1 _ _ e2];rfl
    |dT e2=>rw[Zm,s1 _ _ e2];rfl
    |_=>rfl
   rw[e1]
   rw[e]at q
   exact av (q H1 s1)
  |some xs=>
   have e1:=s1.ao e
   rw[e1]
   rw[e]at q
   obtain⟨l,rfl,hl⟩:=Zq e1
   by_cases hw:(xs.length:Int)=wd
   ·refine(show if (!decide ((xs.length:Int)=wd))=true then _ else _ from ?_)
    rw[decide_eq_true hw]
    refine aR ?_
    have Ct:=b.2.2.1
    have hlen:xs.length≤12:=by omega
    refine⟨_,rfl,l,rfl,⟨xs,ah.of hl⟩,?_⟩
    refine Y8 (xs:=xs) (fun i ys σ H2=>ys=rowsOf (xs.take i)∧H2=H1∧∃v,σ=[v]) ⟨rfl,rfl,none,rfl⟩ (fun i ys σ H2 _ ⟨_,e2,_⟩=>by rw[e2];exact ah.of hl) ?_ ?_
    ·rintro i r ys σ H2 cb ⟨rfl,rfl,v,rfl⟩
     have et:rowsOf (xs.take (i+1))=rowsOf (xs.take i)++(if (!decide (r=V.aa))=true then [r] else []):=by
      unfold rowsOf
      rw[List.take_add_one,cb,List.filter_append]
      cases hh:(!decide (r=V.aa)) with
      |true=>simp[hh]
      |false=>simp[hh]
     refine⟨r,rfl,_,rfl,?_⟩
     cases hh:(!decide (r=V.aa)) with
     |true=>
      rw[hh]at et
      refine av ?_
      refine⟨r,rfl,?_,?_⟩
      ·have:=List.length_filter_le (fun x=> !decide (x=V.aa)) (xs.take i)
       unfold rowsOf
       rw[sizeLine_eq]
       rw[List.length_take]at this
       omega
      ·exact⟨by rw[et,if_pos rfl],rfl,_,rfl⟩
     |false=>
      rw[hh]at et
      exact aR ⟨by rw[et,if_neg Bool.false_ne_true,List.append_nil],rfl,_,rfl⟩
    ·rintro ys σ H2 ⟨rfl,rfl,v,rfl⟩ p hp
     rw[List.take_length]
     have Cw:(rowsOf xs).length≤12:=Nat.le_trans (List.length_filter_le _ _) hlen
     have s2:ae H2 (upd H2 p (.lst (rowsOf xs))):=fun b o hb=>by rw[Zg (Ze hb hp)];exact hb
     refine⟨_,rfl,p,rfl,⟨rowsOf xs,ai.of Zb⟩,?_⟩
     generalize zo:upd H2 p (HO.lst (rowsOf xs))=H3 at s2
     have je:H3 p=some (.lst (rowsOf xs)):=by rw[←zo];exact Zb
     refine Jw (xs:=rowsOf xs) (fun i ys σ H4=>ys=((rowsOf xs).take i).map (fun r=>V.bl (aT r 0 (hg - 1)))∧H4=H3∧∃v,σ=[v,some (.int hg)]) ⟨rfl,rfl,none,rfl⟩ (fun i ys σ H4 _ ⟨_,e2,_⟩=>by rw[e2];exact ai.of je) ?_ ?_
     ·rintro i r ys σ H4 cb ⟨rfl,rfl,v,rfl⟩
      have mr:r∈xs:=(List.mem_filter.mp (List.mem_of_getElem? cb)).1
      refine⟨r,rfl,_,rfl,_,_,rfl,rfl,r,0,hg - 1,rfl,(s1.trans s2).ip (hy xs e r mr),?_,?_⟩
      ·rw[List.length_map,sizeLine_eq,List.length_take];omega
      ·refine⟨?_,rfl,_,rfl⟩
       rw[List.take_add_one,cb,List.map_append]
       rfl
     ·rintro ys σ H4 ⟨rfl,rfl,v,rfl⟩ p' xX
      rw[List.take_length]
      have s3:∀o,ae H4 (upd H4 p' o):=fun o b u hb=>by rw[Zg (Ze hb xX)];exact hb
      refine⟨p',(rowsOf xs).map (fun r=>aT r 0 (hg - 1)),rfl,?_,?_⟩
      ·rw[List.map_map];exact ai.of Zb
      ·have Ad:((rowsOf xs).map (fun r=>aT r 0 (hg - 1))).all id=(rowsOf xs).all fun r=>aT r 0 (hg - 1):=by rw[List.all_map];rfl
       rw[Ad]
       have Ac:bR wd hg (some xs)=(((rowsOf xs).all fun r=>aT r 0 (hg - 1))&&decide (rowsOf xs).Nodup):=by
        show(decide ((xs.length:Int)=wd)&&_&&_)=_
        rw[decide_eq_true hw,Bool.true_and]
       rw[Ac]at q
       refine⟨_,rfl,?_⟩
       cases jt:((rowsOf xs).all fun r=>aT r 0 (hg - 1)) with
       |false=>
        rw[jt]at q
        exact aR (q _ (s1.trans (s2.trans (s3 _))))
       |true=>
        rw[jt,Bool.true_and]at q
        obtain⟨ns,en⟩:=Wb jt
        have bH:(upd H4 p' (.lst (((rowsOf xs).map (fun r=>V.bl (aT r 0 (hg - 1))))))) p=some (.lst (rowsOf xs)):=s3 _ _ _ je
        refine av ?_
        have CD:ns.length=(rowsOf xs).length:=by rw[en,List.length_map]
        refine⟨_,rfl,p,ns,rfl,by rw[←en];exact ai.of bH,by omega,fun q2 S jd=> ⟨q2,S,il ns,rfl,Zb,_,rfl,p,rowsOf xs,rfl,.inl (ai.of ?_),rfl,?_⟩⟩
        ·rw[Zg (Ze bH jd)];exact bH
        ·have ed:decide (V.int (il ns:Int)=V.int ((rowsOf xs).length:Int))=decide (rowsOf xs).Nodup:=by
          rw[decide_eq_decide]
          rw[en,Ju,←Wq,List.length_map]
          constructor
          ·intro h;injection h with h;omega
          ·intro h;rw[h]
         rw[ed]
         exact q _ (s1.trans (s2.trans ((s3 _).trans fun b o hb=>by rw[Zg (Ze hb jd)];exact hb)))
   ·refine(show if (!decide ((xs.length:Int)=wd))=true then _ else _ from ?_)
    rw[decide_eq_false hw]
    have e3:bR wd hg (some xs)=false:=by
     show(decide ((xs.length:Int)=wd)&&_&&_)=false
     rw[decide_eq_false hw,Bool.false_and,Bool.false_and]
    rw[e3]at q
    exact av (q H1 s1)
abbrev mZ:Stmt:=top 27
def ml (K:PySem.W.Frag):Sp:=fun vs H Q _=> ∃(a:Addr) (ns:List Int) (k:Nat),vs=[.ref a,.int k]∧ai K H a (ns.map V.int)∧∀n:Int,Q (.int n) H
theorem vf:bC ["_law_script", "_law_k"] ["_law_script", "_law_k"] (aq mZ):=⟨rfl,rfl,rfl,by decide+kernel,rfl,by decide+kernel,by decide+kernel⟩
theorem Ba {f:Addr}{fd:FuncData}(F:ba K "_law_cell_at" "_law_cell_at" mZ f fd) (G:Gs mg):az P w K mg base aP 1 f fd ["_law_script", "_law_k"] (ml K):=by
 refine F.ok vf (fun vs H Q E h=> ?_) (fun aj A outer s H vs Q E hr h=> ?_)
 ·obtain⟨a,ns,k,rfl,_⟩:=h
  rfl
 ·obtain⟨a,ns,k,rfl,hs,q⟩:=h
  refine⟨_,Zh (ZU (ZM Bd (pv 1) (Zi Zr rfl G.len boot_len (Za (pv 0) Zc)) (bQ _)) (Zk (Zs (Zx ZG (pv 0) (pv 1) (fun _ _=>rfl)))) ZA) (Zk (Zs Zf)),?_⟩
  refine⟨_,rfl,_,rfl,a,ns.map V.int,rfl,.inl hs,_,_,rfl,rfl,_,rfl,?_⟩
  by_cases hk:k<ns.length
  ·rw[decide_eq_true (by rw[List.length_map];omega)]
   refine av ⟨_,rfl,_,rfl,a,ns.map V.int,k,V.int ns[k],rfl,rfl,hs,Z4 ?_,q _⟩
   rw[List.getElem?_map,List.getElem?_eq_getElem hk]
   rfl
  ·rw[decide_eq_false (by rw[List.length_map];omega)]
   exact aR (q 0)
def bK (H:Hp) (p:Addr):Prop:=∃u v:Int,H p=some (.lst [.int u,.int v])∧0≤u∧0≤v∧v<2147483647
abbrev mE:Stmt:=top 28
def l0 (K:PySem.W.Frag):Sp:=fun vs H Q _=> ∃(a:Addr) (ns:List Int) (k:Nat),vs=[.ref a,.int k]∧ai K H a (ns.map V.int)∧∀p H',H p=none→ae H H'→bK H' p→Q (.ref p) H'
theorem qf:bC ["_law_script", "_law_k", "_law_cell"] ["_law_script", "_law_k"] (aq mE):=⟨rfl,rfl,rfl,by decide+kernel,rfl,by decide+kernel,by decide+kernel⟩
theorem UD {f:Addr}{fd:FuncData}(F:ba K "_law_state" "_law_state" mE f fd) (G:Gs mg) (D1:Def P w K mg base 1 "_law_cell_at" ["_law_script", "_law_k"] (ml K)):az P w K mg base aP 2 f fd ["_law_script", "_law_k"] (l0 K):=by
 refine F.ok qf (fun vs H Q E h=> ?_) (fun aj A outer s H vs Q E hr h=> ?_)
 ·obtain⟨a,ns,k,rfl,_⟩:=h
  rfl
 ·obtain⟨a,ns,k,rfl,hs,q⟩:=h
  refine⟨_,Zh (Zt (i:=2) qf.nd rfl (Or.inl rfl) (Zj D1 hr (Za (pv 0) (Za (pv 1) Zc))))
   (Zk (Zs (Zu (Za (Zi (JB rfl) rfl G.max boot_max (Za Zf (Za (Zn JR (pv 2) (Zn Ux Zf Zf)) Zc))) (Za (Zn Ya (pv 2) Zf) Zc))))),?_⟩
  refine⟨_,rfl,_,rfl,a,ns,k,rfl,hs,fun n=> ?_⟩
  refine⟨_,rfl,_,_,rfl,rfl,⟨by decide,by decide,by decide⟩,_,_,rfl,rfl,_,_,rfl,?_⟩
  refine⟨_,rfl,_,_,rfl,rfl,(by show(0:Int)<2147483647;decide),(by show 2≤sizeLine;decide),fun p hp=>q p _ hp (fun b o hb=>by rw[Zg (Ze hb hp)];exact hb) ?_⟩
  refine⟨_,_,Zb,?_,Int.emod_nonneg _ (by decide),Int.emod_lt_of_pos _ (by decide)⟩
  split<;>omega
abbrev mD:Stmt:=top 29
def hZ:Sp:=fun vs H Q _=> ∃(p:Addr) (m:Int),vs=[.ref p,.int m]∧bK H p∧0<m∧m<1000∧∀r o,0≤r→r<m→bK (upd H p o) p→Q (.int r) (upd H p o)
theorem kj:bC ["_law_state_here", "_law_many", "_law_found", "_law_stirred"] ["_law_state_here", "_law_many"] (aq mD):=⟨rfl,rfl,rfl,by decide+kernel,rfl,by decide+kernel,by decide+kernel⟩
theorem dz {x y:V} :ej [x,y] 0=some x:=rfl
theorem bY {x y:V} :ej [x,y] 1=some y:=rfl
theorem U8 {f:Addr}{fd:FuncData}(F:ba K "_law_take" "_law_take" mD f fd):az P w K mg base aP 1 f fd ["_law_state_here", "_law_many"] hZ:=by
 refine F.ok kj (fun vs H Q E h=> ?_) (fun aj A outer s H vs Q E hr h=> ?_)
 ·obtain⟨p,m,rfl,_⟩:=h
  rfl
 ·obtain⟨p,m,rfl,⟨u,v,hp,hu,hv,xh⟩,hm,eU,q⟩:=h
  refine⟨_,Zh (ZU (ZM sM (Zx ZG (pv 0) Zf (fun _ _=>rfl)) Zf (bQ _))
    (Zh (Zt (i:=2) kj.nd rfl (Or.inl rfl) (Zn Ya (Zx ZG (pv 0) Zf (fun _ _=>rfl)) (pv 1)))
    (Zh (JO (Zn WP (Zx ZG (pv 0) Zf (fun _ _=>rfl)) (pv 1)) (Ut (pv 0) Zf JZ)) (Zk (Zs (pv 2))))) ZA)
   (Zh (JO (Zn Ya (Zn Yc (Zn Y6 (Zx ZG (pv 0) Zf (fun _ _=>rfl)) Zf) Zf) Zf) (Ut (pv 0) Zf JZ))
   (Zh (Zt (i:=3) kj.nd rfl (Or.inl rfl) (Zn Ya (Zn Yc (Zn Yc (Zn Y6 (Zx ZG (pv 0) Zf (fun _ _=>rfl)) (Zx ZG (pv 0) Zf (fun _ _=>rfl))) (Zn Y6 Zf (Zx ZG (pv 0) Zf (fun _ _=>rfl)))) Zf) Zf))
   (Zh (Zt (i:=3) kj.nd rfl (Or.inl rfl) (Zn Ya (Zn Yc (Zn Y6 (pv 3) (pv 3)) (Zn Y6 Zf (pv 3))) Zf))
   (Zk (Zs (Zn Ya (Zn WP (pv 3) Zf) (pv 1))))))),?_⟩
  have s0:=ai.of (K:=K) hp
  refine⟨_,rfl,p,_,_,_,rfl,rfl,s0,dz,_,_,rfl,rfl,_,rfl,?_⟩
  by_cases h0:0<u
  ·rw[decide_eq_true h0]
   refine av ?_
   refine⟨_,rfl,p,_,_,_,rfl,rfl,s0,dz,_,rfl,_,_,rfl,rfl,hm,?_⟩
   refine⟨_,rfl,p,_,_,_,rfl,rfl,s0,dz,_,rfl,_,_,rfl,rfl,⟨hm,by omega⟩,?_⟩
   refine⟨_,rfl,p,_,0,0,rfl,rfl,hp,rfl,?_⟩
   refine⟨_,rfl,q _ _ (Int.emod_nonneg _ (by omega)) (Int.emod_lt_of_pos _ hm) ?_⟩
   exact⟨u/m,v,Zb,Int.ediv_nonneg hu (by omega),hv,xh⟩
  ·rw[decide_eq_false h0]
   refine aR ?_
   refine⟨_,rfl,p,_,_,_,rfl,rfl,s0,bY,_,_,rfl,rfl,.inr ⟨by decide,by decide⟩,_,_,rfl,rfl,_,_,rfl,rfl,(by show(0:Int)<2147483647;decide),?_⟩
   refine⟨_,rfl,p,_,1,1,rfl,rfl,hp,rfl,?_⟩
   have b1:0≤((v*48271+29)%2147483647):=Int.emod_nonneg _ (by decide)
   have b2:((v*48271+29)%2147483647)<2147483647:=Int.emod_lt_of_pos _ (by decide)
   have s1:ai K (upd H p (.lst (([V.int u,V.int v]:List V).set 1 (V.int ((v*48271+29)%2147483647))))) p [.int u,.int ((v*48271+29)%2147483647)]:=ai.of Zb
   have lo:∀{t:Int},0≤t→ -(2^64)<t:=fun h=>Int.lt_of_lt_of_le (by decide) h
   have hi:∀{t:Int},t<2147483647→t<2^64:=fun h=>Int.lt_trans h (by decide)
   refine⟨_,rfl,p,_,_,_,rfl,rfl,s1,bY,_,rfl,p,_,_,_,rfl,rfl,s1,bY,_,_,rfl,rfl,.inl ⟨lo b1,hi b2⟩,?_⟩
   refine⟨_,rfl,p,_,_,_,rfl,rfl,s1,bY,_,_,rfl,rfl,.inl ⟨by decide,by decide⟩,_,_,rfl,rfl,_,_,rfl,rfl,_,_,rfl,rfl,(by show(0:Int)<2147483629;decide),?_⟩
   have c1:0≤((((v*48271+29)%2147483647)*((v*48271+29)%2147483647)+39373*((v*48271+29)%2147483647)+7)%2147483629):=Int.emod_nonneg _ (by decide)
   have c2:((((v*48271+29)%2147483647)*((v*48271+29)%2147483647)+39373*((v*48271+29)%2147483647)+7)%2147483629)<2147483647:=Int.lt_trans (Int.emod_lt_of_pos _ (by decide)) (by decide)
   refine⟨_,rfl,_,rfl,_,_,rfl,rfl,.inl ⟨lo c1,hi c2⟩,_,rfl,_,_,rfl,rfl,.inl ⟨by decide,by decide⟩,_,_,rfl,rfl,_,_,rfl,rfl,(by show(0:Int)<2147483587;decide),?_⟩
   refine⟨_,rfl,_,_,rfl,rfl,⟨by decide,by decide⟩,_,rfl,_,_,rfl,rfl,hm,?_⟩
   refine q _ _ (Int.emod_nonneg _ (by omega)) (Int.emod_lt_of_pos _ hm) ?_
   exact⟨u,_,Zb,hu,b1,b2⟩
abbrev mY:Stmt:=top 31
def mj:Sp:=fun vs H Q _=> ∃(p:Addr) (m:Int),vs=[.ref p,.int m]∧bK H p∧0<m∧m<1000∧
 ∀(b:Addr) (H':Hp) (wd hg:Int),1≤wd→wd≤m→1≤hg→hg≤m→ar p H H'→bK H' p→H' b=some (.tup [.int wd,.int hg])→b≠p→Q (.ref b) H'
theorem qj:bC ["_law_state_here", "_law_upto", "_law_way", "_law_wide", "_law_high"] ["_law_state_here", "_law_upto"] (aq mY):=⟨rfl,rfl,rfl,by decide+kernel,rfl,by decide+kernel,by decide+kernel⟩
theorem UG {f:Addr}{fd:FuncData}(F:ba K "_law_board" "_law_board" mY f fd) (D1:Def P w K mg base 1 "_law_take" ["_law_state_here", "_law_many"] hZ):az P w K mg base aP 2 f fd ["_law_state_here", "_law_upto"] mj:=by
 refine F.ok qj (fun vs H Q E h=> ?_) (fun aj A outer s H vs Q E hr h=> ?_)
 ·obtain⟨p,m,rfl,_⟩:=h
  rfl
 ·obtain⟨p,m,rfl,st,hm,eU,q⟩:=h
  refine⟨_,Zh (JN (i:=2) (j:=3) (k:=4) rfl qj.nd rfl rfl rfl rfl rfl rfl
    (Za (Zj D1 hr (Za (pv 0) (Za Zf Zc))) (Za (Zn Yc Zf (Zj D1 hr (Za (pv 0) (Za (pv 1) Zc)))) (Za (Zn Yc Zf (Zj D1 hr (Za (pv 0) (Za (pv 1) Zc)))) Zc))))
   (Zk (Zs (Uv (ZM YU (pv 2) Zf (bQ _)) (ZE (Za (pv 3) (Za (pv 3) Zc))) (ZE (Za (pv 3) (Za (pv 4) Zc)))))),?_⟩
  refine⟨_,rfl,p,3,rfl,st,by decide,by decide,fun r1 o1 h1 oI dP=> ?_⟩
  refine⟨_,rfl,_,rfl,p,m,rfl,dP,hm,eU,fun r2 o2 h2 lu cD=> ⟨_,_,rfl,rfl,?_⟩⟩
  refine⟨_,rfl,_,rfl,p,m,rfl,cD,hm,eU,fun r3 o3 h3 oH cI=> ⟨_,_,rfl,rfl,_,_,_,rfl,?_⟩⟩
  have sx:ar p H (upd (upd (upd H p o1) p o2) p o3):=(ar.upd.trans ar.upd).trans ar.upd
  have fin:∀wd hg:Int,1≤wd→wd≤m→1≤hg→hg≤m→∀b,upd (upd (upd H p o1) p o2) p o3 b=none→Q (.ref b) (upd (upd (upd (upd H p o1) p o2) p o3) b (.tup [.int wd,.int hg])):=fun wd hg a1 a2 a3 a4 b hb=>by
   obtain⟨u,v,e,x1,x2,x3⟩:=cI
   have qU:p≠b:=Ze e hb
   exact q b _ wd hg a1 a2 a3 a4 (fun c o hc hn=>by rw[Zg (Ze (sx c o hc hn) hb)];exact sx c o hc hn) ⟨u,v,by rw[Zg qU];exact e,x1,x2,x3⟩ Zb qU.symm
  refine⟨_,rfl,rfl,_,rfl,?_⟩
  refine nQ (fun _=> ?_) (fun _=> ?_)
  ·exact⟨_,rfl,_,rfl,(by show 2≤sizeLine;decide),fun b hb=>fin (1+r2) (1+r2) (by omega) (by omega) (by omega) (by omega) b hb⟩
  ·exact⟨_,rfl,_,rfl,(by show 2≤sizeLine;decide),fun b hb=>fin (1+r2) (1+r3) (by omega) (by omega) (by omega) (by omega) b hb⟩
structure lJ (wd hg:Int) (xs:List V):Prop where
 len:(xs.length:Int)=wd
 row:∀r∈rowsOf xs,aT r 0 (hg - 1)=true
 nd:(rowsOf xs).Nodup
abbrev mW:Stmt:=top 33
def mi (K:PySem.W.Frag):Sp:=fun vs H Q _=> ∃(p b:Addr) (wd hg:Int),vs=[.ref p,.ref b]∧bK H p∧cO H (.ref b) wd hg∧
 ∀(l:Addr) (H':Hp) (xs:List V),ar p H H'→bK H' p→H' l=some (.tup xs)→l≠p→lJ wd hg xs→Q (.ref l) H'
theorem km:bC ["_law_state_here", "_law_board_here", "_law_way", "_law_left", "_law_found", "_law_line", "_law_share", "_law_spot"] ["_law_state_here", "_law_board_here"] (aq mW):=⟨rfl,rfl,rfl,by decide+kernel,rfl,by decide+kernel,by decide+kernel⟩
theorem jC {v:Int}(h:0≤v) (h':v<5):∃c:Int,ej ([V.int 4,.int 4,.int 3,.int 1,.int 0]:List V) v=some (.int c):=by
 have:v=0∨v=1∨v=2∨v=3∨v=4:=by omega
 rcases this with rfl |rfl |rfl |rfl |rfl<;>exact⟨_,rfl⟩
theorem BE {n:Nat}{i:Int}(h:0≤i) (h':i<n):seqIndex? i n=some i.toNat:=by
 have e:fq n i=some i.toNat:=by unfold fq;rw[if_pos h,if_pos h']
 exact(JV e).1
theorem Z7 (xs:List V) (y:V):rowsOf (xs++[y])=rowsOf xs++(if (!decide (y=V.aa))=true then [y] else []):=by
 unfold rowsOf
 rw[List.filter_append]
 cases hh:(!decide (y=V.aa))<;>simp[hh]
theorem Y4:∀(l:List V) (k:Nat) (h:k<l.length),(l[k]::l.eraseIdx k).Perm l
 |x::l,0,_=> .refl _
 |x::l,k+1,h=>by
  have h':k<l.length:=by simpa using h
  show(l[k]::x::l.eraseIdx k).Perm (x::l)
  exact(List.Perm.swap x l[k] _).trans (List.Perm.cons x (Y4 l k h'))
theorem UF {f:Addr}{fd:FuncData}(F:ba K "_law_lay" "_law_lay" mW f fd) (G:Gs mg) (D1:Def P w K mg base 1 "_law_take" ["_law_state_here", "_law_many"] hZ):az P w K mg base aP 2 f fd ["_law_state_here", "_law_board_here"] (mi K):=by
 refine F.ok km (fun vs H Q E h=> ?_) (fun aj A outer s H vs Q E hr h=> ?_)
 ·obtain⟨p,b,wd,hg,rfl,_⟩:=h
  rfl
 ·obtain⟨p,b,wd,hg,rfl,st,bd,q⟩:=h
  refine⟨_,Zh (JN (i:=2) (j:=3) (k:=4) rfl km.nd rfl rfl rfl rfl rfl rfl
    (Za (Zj D1 hr (Za (pv 0) (Za Zf Zc))) (Za (ZS Jp rfl G.list boot_list (Za (ZS YV rfl G.range boot_range (Za (Zx ZI (pv 1) Zf (fun _ _=>rfl)) Zc)) Zc)) (Za (Zu Zc) Zc))))
   (Zh (Yt PassesOwn.never rfl (Yn rfl G.range (Za (Zx ZI (pv 1) Zf (fun _ _=>rfl)) Zc)) (ZN (i:=5) km.nd rfl (Or.inl rfl))
    (Zh (Up (i:=6) (j:=7) rfl km.nd rfl rfl (by decide) rfl rfl (Za (Zj D1 hr (Za (pv 0) (Za Zf Zc))) (Za (Zj D1 hr (Za (pv 0) (Za Zf Zc))) Zc)) rfl)
    (Zk (ZU (PW.pt (WI (ZM (Bu hr.pL) (pv 3) (Zu Zc) (bQ _)) (JK (ZM Bc (pv 6) (Zx ZG (Zu (Za Zf (Za Zf (Za Zf (Za Zf (Za Zf Zc)))))) (pv 2) (fun _ _=>rfl)) (bQ _)))))
     (Zk (Yx (J5 PySem.F.plainAttrs_list PySem.F.slot_list_append PySem.F.type_list_append YN (pv 4) (Za ZX Zc))))
     (Zk (Yx (J5 PySem.F.plainAttrs_list PySem.F.slot_list_append PySem.F.type_list_append YN (pv 4)
      (Za (J5 PySem.F.plainAttrs_list PySem.F.slot_list_pop PySem.F.type_list_pop UI (pv 3) (Za (Zn Ya (pv 7) (Zi Zr rfl G.len boot_len (Za (pv 3) Zc))) Zc)) Zc))))))))
   (Zk (Zs (ZS Jn rfl G.tuple boot_tuple (Za (pv 4) Zc))))),?_⟩
  obtain⟨a,e,hb⟩:=Zq bd.1
  cases e
  obtain⟨_,w1,w2,g1,g2⟩:=id bd
  obtain⟨u0,v0,e0,_⟩:=id st
  have jr:b≠p:=J6 hb e0 (by intro z;cases z)
  refine⟨_,rfl,p,5,rfl,st,by decide,by decide,fun way o1 h1 oI dP=> ?_⟩
  have x1:ar p H (upd H p o1):=ar.upd
  have rJ:=x1 _ _ hb jr
  refine⟨_,rfl,b,_,_,_,rfl,rfl,ah.of rJ,bY,hg,rfl,fun q1 nZ=> ⟨q1,hg,rfl,Zb,by omega,by omega,fun L hL=> ⟨Nat.zero_le _,fun M hM=> ⟨_,_,_,rfl,?_⟩⟩⟩⟩
  generalize rS:upd (upd (upd (upd H p o1) q1 (.bW 0 hg)) L (.lst (L2.upTo hg.toNat))) M (.lst [])=H0
  have sA:ae (upd H p o1) (upd (upd H p o1) q1 (.bW 0 hg)):=fun c o hc=>by rw[Zg (Ze hc nZ)];exact hc
  have sB:ae (upd (upd H p o1) q1 (.bW 0 hg)) (upd (upd (upd H p o1) q1 (.bW 0 hg)) L (.lst (L2.upTo hg.toNat))):=fun c o hc=>by rw[Zg (Ze hc hL)];exact hc
  have sC:ae (upd (upd (upd H p o1) q1 (.bW 0 hg)) L (.lst (L2.upTo hg.toNat))) H0:=fun c o hc=>by rw[←rS,Zg (Ze hc hM)];exact hc
  have s0:ae (upd H p o1) H0:=sA.trans (sB.trans sC)
  have zc:H0 M=some (.lst []):=by rw[←rS];exact Zb
  have zg:H0 L=some (.lst (L2.upTo hg.toNat)):=sC _ _ Zb
  obtain⟨u1,v1,e1,y1,y2,y3⟩:=id dP
  have uL:bK H0 p:=⟨u1,v1,s0 _ _ e1,y1,y2,y3⟩
  have oV:=s0 _ _ e1
  have oD:L≠M:=Ze (by exact Zb) hM
  have qV:p≠L:=Ze (sA _ _ e1) hL
  have n9:p≠M:=Ze (sB _ _ (sA _ _ e1)) hM
  have y0:H0 b=some (.tup [.int wd,.int hg]):=s0 _ _ rJ
  have xt:∀H2,(∀c o,H0 c=some o→c≠p→c≠L→c≠M→H2 c=some o)→ar p H H2:=fun H2 k c o hc hn=>by
   have c1:=x1 c o hc hn
   exact k c o (s0 _ _ c1) hn (Ze (sA _ _ c1) hL) (Ze (sB _ _ (sA _ _ c1)) hM)
  refine⟨_,rfl,b,_,_,_,rfl,rfl,ah.of y0,dz,wd,rfl,by omega,by omega,?_⟩
  refine Jz (n:=wd.toNat) (fun i σ H2=> ∃(ls fs:List V) (x5 x6 x7:Option V),σ=[some (.ref p),some (.ref b),some (.int way),some (.ref L),some (.ref M),x5,x6,x7]∧
    (∀c o,H0 c=some o→c≠p→c≠L→c≠M→H2 c=some o)∧bK H2 p∧H2 L=some (.lst ls)∧H2 M=some (.lst fs)∧fs.length=i∧(∀r∈rowsOf fs++ls,aT r 0 (hg - 1)=true)∧(rowsOf fs++ls).Nodup)
   ⟨L2.upTo hg.toNat,[],none,none,none,rfl,fun c o hc _ _ _=>hc,uL,zg,zc,rfl,?_,?_⟩ ?_ ?_
  ·intro r cb
   have kP:r∈L2.upTo hg.toNat:=cb
   unfold L2.upTo at kP
   obtain⟨j,hj,rfl⟩:=List.mem_map.mp kP
   have:=List.mem_range.mp hj
   show(decide ((0:Int)≤(j:Int))&&decide ((j:Int)≤hg - 1))=true
   rw[decide_eq_true (by omega),decide_eq_true (by omega)]
   rfl
  ·show(L2.upTo hg.toNat).Nodup
   unfold L2.upTo
   have e:((List.range hg.toNat).map fun(i:Nat)=>V.int (i:Int))=(((List.range hg.toNat).map fun(i:Nat)=> (i:Int))).map V.int:=by rw[List.map_map];rfl
   rw[e,Ju]
   exact List.Pairwise.map _ (fun x y h z=>h (by omega)) List.nodup_range
  ·rintro i σ H2 hi ⟨ls,fs,x5,x6,x7,rfl,k2,cD,ji,eU,ot,jc,dn⟩
   refine⟨_,rfl,p,4,rfl,cD,by decide,by decide,fun sh o3 _ _ cI=> ?_⟩
   refine⟨_,rfl,p,12,rfl,cI,by decide,by decide,fun sp o4 xP Cv iS=> ⟨_,_,rfl,?_⟩⟩
   generalize zj:upd (upd H2 p o3) p o4=H4 at iS
   have x4:ar p H2 H4:=by rw[←zj];exact ar.upd.trans ar.upd
   have kU:=x4 _ _ ji qV.symm
   have rb:=x4 _ _ eU n9.symm
   have k4:∀c o,H0 c=some o→c≠p→c≠L→c≠M→H4 c=some o:=fun c o hc a1 a2 a3=>x4 c o (k2 c o hc a1 a2 a3) a1
   have hlen:fs.length<sizeLine:=by rw[sizeLine_eq];omega
   refine⟨_,rfl,Nat.zero_le _,fun q2 jd=> ⟨L,q2,ls,rfl,rfl,?_,ai.of Zb,_,rfl,?_⟩⟩
   ·exact ai.of (by rw[Zg (Ze kU jd)];exact kU)
   have sD:ae H4 (upd H4 q2 (.lst [])):=fun c o hc=>by rw[Zg (Ze hc jd)];exact hc
   generalize CP:upd H4 q2 (HO.lst [])=H5 at sD
   obtain⟨u4,v4,e4,z1,z2,z3⟩:=id iS
   have keep:∀H6,ae H4 H6→(∀c o,H0 c=some o→c≠p→c≠L→c≠M→H6 c=some o)∧bK H6 p:=fun H6 s6=> ⟨fun c o hc a1 a2 a3=>s6 _ _ (k4 c o hc a1 a2 a3),u4,v4,s6 _ _ e4,z1,z2,z3⟩
   have sL:∀H6,ae H4 H6→pX K "list" qr (j4 4) (cC (tC .aa) dO) [some (.ref p),some (.ref b),some (.int way),some (.ref L),some (.ref M),some (.int (0+(i:Int))),some (.int sh),some (.int sp)] H6 (fun _ H7=> ∃(ls fs:List V) (x5 x6 x7:Option V),([some (.ref p),some (.ref b),some (.int way),some (.ref L),some (.ref M),some (.int (0+(i:Int))),some (.int sh),some (.int sp)]:L2.St)=[some (.ref p),some (.ref b),some (.int way),some (.ref L),some (.ref M),x5,x6,x7]∧
     (∀c o,H0 c=some o→c≠p→c≠L→c≠M→H7 c=some o)∧bK H7 p∧H7 L=some (.lst ls)∧H7 M=some (.lst fs)∧fs.length=i+1∧(∀r∈rowsOf fs++ls,aT r 0 (hg - 1)=true)∧(rowsOf fs++ls).Nodup):=fun H6 s6=>by
    obtain⟨k6,t6⟩:=keep H6 s6
    have jg:=s6 _ _ rb
    have cW:=s6 _ _ kU
    refine⟨_,rfl,.inl ⟨rfl,_,ai.of jg⟩,M,fs,.aa,rfl,rfl,jg,hlen,ls,fs++[.aa],_,_,_,rfl,fun c o hc a1 a2 a3=>by rw[Zg a3];exact k6 c o hc a1 a2 a3,?_,by rw[Zg oD];exact cW,Zb,by rw[List.length_append,ot];rfl,?_,?_⟩
    ·obtain⟨u,v,e,r⟩:=t6
     exact⟨u,v,by rw[Zg n9];exact e,r⟩
    ·rw[Z7];simpa using jc
    ·rw[Z7];simpa using dn
   cases rC:ls.isEmpty with
   |true=>exact av (av (sL H5 sD))
   |false=>
    refine aR ?_
    have cu:ls≠[]:=fun z=>by rw[z]at rC;cases rC
    have Cz:0<ls.length:=List.length_pos_iff.mpr cu
    refine⟨_,rfl,(by show 5≤sizeLine;decide),fun q3 xT=> ?_⟩
    obtain⟨c5,yS⟩:=jC h1 oI
    have sE:ae H5 (upd H5 q3 (.lst [.int 4,.int 4,.int 3,.int 1,.int 0])):=fun c o hc=>by rw[Zg (Ze hc xT)];exact hc
    refine⟨_,rfl,q3,_,_,_,rfl,rfl,ai.of Zb,yS,_,_,rfl,rfl,_,rfl,?_⟩
    generalize CO:upd H5 q3 (HO.lst [V.int 4,.int 4,.int 3,.int 1,.int 0])=H6 at sE
    have s6:=sD.trans sE
    refine nQ (fun _=>sL H6 s6) (fun _=> ?_)
    obtain⟨k6,t6⟩:=keep H6 s6
    have jg:=s6 _ _ rb
    have cW:=s6 _ _ kU
    have m1:0≤sp%(ls.length:Int):=Int.emod_nonneg _ (by omega)
    have m2:sp%(ls.length:Int)<ls.length:=Int.emod_lt_of_pos _ (by omega)
    have m3:(sp%(ls.length:Int)).toNat<ls.length:=by omega
    have m4:sp%(ls.length:Int)<2^63:=by
     by_cases hh:sp< (ls.length:Int)
     ·rw[Int.emod_eq_of_lt xP hh];omega
     ·omega
    refine⟨_,rfl,.inl ⟨rfl,_,ai.of jg⟩,_,rfl,.inl ⟨rfl,_,ai.of cW⟩,_,rfl,_,rfl,L,ls,rfl,.inl (ai.of cW),_,_,rfl,rfl,(by show(0:Int)< (ls.length:Int);omega),L,ls,_,_,_,rfl,rfl,cW,by omega,m4,BE m1 m2,List.getElem?_eq_getElem m3,?_⟩
    generalize hk:(sp%(ls.length:Int)).toNat=k at m3
    have yd:upd H6 L (.lst (ls.eraseIdx k)) M=some (.lst fs):=by rw[Zg oD.symm];exact jg
    have my:ls[k]∈ls:=List.getElem_mem m3
    have wy:aT ls[k] 0 (hg - 1)=true:=jc _ (List.mem_append_right _ my)
    have ny:(!decide (ls[k]=V.aa))=true:=by
     cases e:ls[k] with
     |aa=>rw[e]at wy;cases wy
     |_=>rfl
    have pm:(rowsOf fs++[ls[k]]++ls.eraseIdx k).Perm (rowsOf fs++ls):=by
     rw[List.append_assoc]
     exact List.Perm.append_left _ (Y4 ls k m3)
    refine⟨M,fs,_,rfl,rfl,yd,hlen,ls.eraseIdx k,fs++[ls[k]],_,_,_,rfl,fun c o hc a1 a2 a3=>by rw[Zg a3,Zg a2];exact k6 c o hc a1 a2 a3,?_,by rw[Zg oD,Zb],Zb,by rw[List.length_append,ot];rfl,?_,?_⟩
    ·obtain⟨u,v,e,r⟩:=t6
     exact⟨u,v,by rw[Zg n9,Zg qV];exact e,r⟩
    ·rw[Z7,if_pos ny]
     intro r cb
     exact jc r (pm.mem_iff.mp cb)
    ·rw[Z7,if_pos ny]
     exact pm.nodup_iff.mpr dn
  ·rintro σ H2 ⟨ls,fs,x5,x6,x7,rfl,k2,cD,ji,eU,ot,jc,dn⟩
   refine⟨_,rfl,M,fs,rfl,.inl ⟨ai.of eU,fun l hl=> ?_⟩⟩
   obtain⟨u,v,e,r⟩:=id cD
   have bH:p≠l:=Ze e hl
   refine q l _ fs (fun c o hc hn=> ?_) ⟨u,v,by rw[Zg bH];exact e,r⟩ Zb bH.symm ⟨by omega,fun r cb=>jc r (List.mem_append_left _ cb),(List.nodup_append.mp dn).1⟩
   have:=xt H2 k2 c o hc hn
   rw[Zg (Ze this hl)]
   exact this
theorem Paired.at {α β:Type}{F:α→β→Prop} :∀{fU:List α}{fT:List β}{i:Nat}{a:α},Paired F fU fT→fU[i]? =some a→∃b,fT[i]? =some b∧F a b
 |_,_,_,_,.nil,e=>by simp at e
 |_,_,0,_,.cons r _,e=>by simp at e;subst e;exact⟨_,rfl,r⟩
 |_,_,i+1,a,.cons _ t,e=>by
  obtain⟨u,h1,h2⟩:=Paired.at (i:=i) (a:=a) t (by simpa using e)
  exact⟨u,by simpa using h1,h2⟩
end
section
def vC (K:PySem.W.Frag):R2:=fun x y H Q=> ∃a b ys,x=.ref a∧y=.ref b∧ah K H a []∧ah K H b ys∧Q (.ref b) H
def i3 (K:PySem.W.Frag):R2:=fun x y H Q=>vC K x y H Q∨qq K x y H Q
theorem Z8 {X:Cx} :aW X (binaryOp .Add) (i3 X.K):=UA.or U7
abbrev iG:List Value:=[.type "ValueError",.type "Exception",.type "BaseException",.type "object"]
structure tj (K:PySem.W.Frag) (mg:Str→Option Value) (cB cL:Addr):Prop where
 mB:mg "NoBoard" =some (.ref cB)
 xB:PySem.W.excIn K cB iG "ValueError.__new__" =true
 mL:mg "NoLay" =some (.ref cL)
 xL:PySem.W.excIn K cL iG "ValueError.__new__" =true
def dB (K:PySem.W.Frag) (H:Hp) (x:V):Prop:=bz K H x∧fW (ao H x)=false
theorem YW {K:PySem.W.Frag}{H H1:Hp}{y:V}(ty:bV K H y) (s1:ae H H1) (e:ao H y=none):ao H1 y=none:=by
 obtain⟨T,t⟩:=ty
 cases t with
 |tup e2=>rw[Zo e2]at e;cases e
 |lst e2=>rw[Zm,s1 _ _ e2];rfl
 |bw e2=>rw[Zm,s1 _ _ e2];rfl
 |dK e2=>rw[Zm,s1 _ _ e2];rfl
 |dT e2=>rw[Zm,s1 _ _ e2];rfl
 |_=>rfl
theorem ZV {K:PySem.W.Frag}{H H1:Hp}{y:V}(ty:bV K H y) (s1:ae H H1):ao H1 y=ao H y:=by
 cases e:ao H y with
 |none=>exact YW ty s1 e
 |some xs=>exact s1.ao e
theorem bz.same {K:PySem.W.Frag}{H H1:Hp}{y:V}(p:bz K H y) (s1:ae H H1):bz K H1 y:=by
 refine⟨s1.ip p.1,fun xs e z hz=>s1.ip (p.2 xs ?_ z hz)⟩
 rw[←ZV p.1 s1];exact e
theorem dB.same {K:PySem.W.Frag}{H H1:Hp}{x:V}(b:dB K H x) (s1:ae H H1):dB K H1 x:=⟨b.1.same s1,by rw[ZV b.1.1 s1];exact b.2⟩
end
section
variable {P:Program}{w:World}{K:PySem.W.Frag}{mg:Str→Option Value}{base:Heap}{cB cL:Addr}
def ma (K:PySem.W.Frag) (cB:Addr):Sp:=fun vs H _ E=> ∃x,vs=[x]∧dB K H x∧∀e H',ae H H'→E (.ref e) (some cB) H'
theorem Jk {f:Addr}{fd:FuncData}(F:ba K "need_board" "need_board" kn f fd) (G:Gs mg) (X:tj K mg cB cL) (D1:Def P w K mg base 3 "is_board" ["thing"] (ig K)):az P w K mg base (bA P w) 4 f fd ["board"] (ma K cB):=by
 obtain⟨tk,hL⟩:=G.longest
 refine F.nA qh (fun vs H Q E h=> ?_) (fun aj A outer s H vs Q E hr h=> ?_)
 ·obtain⟨x,rfl,_⟩:=h
  rfl
 ·obtain⟨x,rfl,b,q⟩:=h
  refine⟨_,Zk (ZU (Z9 (Z1 (Zj D1 hr (Za (pv 0) Zc)))) (Zk (Uo PySem.F.excBase_ValueError X.mB X.xB rfl (Za (U5 ZH (Zw (v:=.int 12) rfl hL ⟨_,rfl⟩)) Zc))) ZA),?_⟩
  refine⟨x,rfl,x,rfl,b.1,fun H' sm=> ⟨_,rfl,?_⟩⟩
  rw[b.2]
  exact av ⟨_,rfl,by decide,12,rfl,by decide,by decide,fun z=> ⟨by show 1≤sizeLine;decide,fun e=>q e H' sm⟩⟩
def iT (K:PySem.W.Frag) (cB:Addr):Sp:=fun vs H _ E=> ∃x y,vs=[x,y]∧dB K H x∧∀e H',ae H H'→E (.ref e) (some cB) H'
theorem U9 {f:Addr}{fd:FuncData}(F:ba K "is_lay" "is_lay" ko f fd) (D1:dA P w K mg base 4 "need_board" ["board"] (ma K cB)):az P w K mg base (bA P w) 5 f fd ["board", "thing"] (iT K cB):=by
 refine F.nA iX (fun vs H Q E h=> ?_) (fun aj A outer s H vs Q E hr h=> ?_)
 ·obtain⟨x,y,rfl,_⟩:=h
  rfl
 ·obtain⟨x,y,rfl,b,q⟩:=h
  refine⟨_,Zh (Yx (J4 D1 hr (Za (pv 0) Zc))) ZR,?_⟩
  exact⟨x,rfl,x,rfl,b,q⟩
end
section
def nG:List Str:=["NoBoard", "NoLay", "NoNumber", "NoPoints", "NoPoint", "NoPaper", "NoUnlike", "NoPrime", "NoRoot", "NoTurn", "TooFew", "TooMany", "NoText", "NoLine", "NoDeed"]
structure jM (K:PySem.W.Frag) (mg:Str→Option Value) (cS C:Addr) (iC:Nat):Prop where
 z:fH K C
 ms:mg "StepError" =some (.ref cS)
 xs:PySem.W.exmOne K (.ref C) (.ref cS)=some true
 m:∀i,i<15→∃c,mg (nG.getD i "")=some (.ref c)∧PySem.W.kitOne K (.ref C) (.ref c)=some (decide (i=iC))
 mv:mg "ValueError" =none
 xv:PySem.W.kitOne K (.ref C) (.type "ValueError")=some true
end
section
variable {P:Program}{w:World}{K:PySem.W.Frag}{mg:Str→Option Value}{base:Heap}
abbrev mH:Stmt:=top 30
def kg (P:Program) (w:World) (K:PySem.W.Frag) (mg:Str→Option Value) (base:Heap) (cS:Addr) (k:Nat):Sp:=fun vs H Q _=> ∃f fd sp C iC,vs=[.ref f]∧(iC=0∨iC=1)∧jM K mg cS C iC∧(∀s,aZ P w H s→PySem.W.FnAt f s)∧az P w K mg base (bA P w) k f fd [] sp∧
 (∀s,BindsTo s fd ⟨[],[]⟩ [])∧(∀Q' E',(∀e H',ae H H'→E' (.ref e) (some C) H')→sp [] H Q' E')∧∀l H',ae H H'→H l=none→H' l=some (.lst [.int (iC:Int)])→Q (.ref l) H'
theorem fi:bC ["_law_call", "_law_error", "e", "_law_marks"] ["_law_call"] (aq mH):=⟨rfl,rfl,rfl,by decide+kernel,rfl,by decide+kernel,by decide+kernel⟩
def bg (iC n:Nat):List V:=(List.range n).map fun i=>V.bl (decide (i=iC))
theorem Zd {H:Hp}{p:Addr}{o:HO}(h:H p=none):ae H (upd H p o):=fun b u hb=>by rw[Zg (Ze hb h)];exact hb
theorem Bt {k:Nat}{f:Addr}{fd:FuncData}{cS:Addr}(F:ba K "_law_refused" "_law_refused" mH f fd) (G:Gs mg):az P w K mg base aP (k+1) f fd ["_law_call"] (kg P w K mg base cS k):=by
 refine F.ok fi (fun vs H Q E h=> ?_) (fun aj A outer s H vs Q E hr h=> ?_)
 ·obtain⟨f,fd,sp,C,iC,rfl,_⟩:=h
  rfl
 ·obtain⟨f,fd,sp,C,iC,rfl,hi,M,dX,Fl,oB,bX,q⟩:=h
  obtain⟨c0,m0,k0⟩:=M.m 0 (by decide)
  obtain⟨c1,m1,k1⟩:=M.m 1 (by decide)
  obtain⟨c2,m2,k2⟩:=M.m 2 (by decide)
  obtain⟨c3,m3,k3⟩:=M.m 3 (by decide)
  obtain⟨c4,m4,k4⟩:=M.m 4 (by decide)
  obtain⟨c5,m5,k5⟩:=M.m 5 (by decide)
  obtain⟨c6,m6,k6⟩:=M.m 6 (by decide)
  obtain⟨c7,m7,k7⟩:=M.m 7 (by decide)
  obtain⟨c8,m8,k8⟩:=M.m 8 (by decide)
  obtain⟨c9,m9,k9⟩:=M.m 9 (by decide)
  obtain⟨c10,wu,wQ⟩:=M.m 10 (by decide)
  obtain⟨c11,wt,wO⟩:=M.m 11 (by decide)
  obtain⟨c12,wq,wN⟩:=M.m 12 (by decide)
  obtain⟨c13,wo,wM⟩:=M.m 13 (by decide)
  obtain⟨c14,wm,wL⟩:=M.m 14 (by decide)
  refine⟨_,Zh (Zt (i:=1) fi.nd rfl (Or.inl rfl) ZX)
   (Zh (Wu (ic:=0) (ie:=2) rfl rfl rfl fi.nd rfl (Or.inl rfl) rfl rfl M.ms rfl hr (fun e=>Zk (Zt (i:=1) fi.nd rfl (Or.inl rfl) (pv 2))))
   (Zh (Zt (i:=3) fi.nd rfl (Or.inr rfl) (Zu (Za (Zi Zl rfl G.isinstance boot_isinstance (Za (pv 1) (Za (Zw (v:=.ref c0) rfl m0 rfl) Zc))) (Za (Zi Zl rfl G.isinstance boot_isinstance (Za (pv 1) (Za (Zw (v:=.ref c1) rfl m1 rfl) Zc))) (Za (Zi Zl rfl G.isinstance boot_isinstance (Za (pv 1) (Za (Zw (v:=.ref c2) rfl m2 rfl) Zc))) Zc)))))
   (Zh (Zt (i:=3) fi.nd rfl (Or.inr rfl) (Zn Yb (pv 3) (Zu (Za (Zi Zl rfl G.isinstance boot_isinstance (Za (pv 1) (Za (Zw (v:=.ref c3) rfl m3 rfl) Zc))) (Za (Zi Zl rfl G.isinstance boot_isinstance (Za (pv 1) (Za (Zw (v:=.ref c4) rfl m4 rfl) Zc))) (Za (Zi Zl rfl G.isinstance boot_isinstance (Za (pv 1) (Za (Zw (v:=.ref c5) rfl m5 rfl) Zc))) Zc))))))
   (Zh (Zt (i:=3) fi.nd rfl (Or.inr rfl) (Zn Yb (pv 3) (Zu (Za (Zi Zl rfl G.isinstance boot_isinstance (Za (pv 1) (Za (Zw (v:=.ref c6) rfl m6 rfl) Zc))) (Za (Zi Zl rfl G.isinstance boot_isinstance (Za (pv 1) (Za (Zw (v:=.ref c7) rfl m7 rfl) Zc))) (Za (Zi Zl rfl G.isinstance boot_isinstance (Za (pv 1) (Za (Zw (v:=.ref c8) rfl m8 rfl) Zc))) Zc))))))
   (Zh (Zt (i:=3) fi.nd rfl (Or.inr rfl) (Zn Yb (pv 3) (Zu (Za (Zi Zl rfl G.isinstance boot_isinstance (Za (pv 1) (Za (Zw (v:=.ref c9) rfl m9 rfl) Zc))) (Za (Zi Zl rfl G.isinstance boot_isinstance (Za (pv 1) (Za (Zw (v:=.ref c10) rfl wu rfl) Zc))) (Za (Zi Zl rfl G.isinstance boot_isinstance (Za (pv 1) (Za (Zw (v:=.ref c11) rfl wt rfl) Zc))) Zc))))))
   (Zh (Zt (i:=3) fi.nd rfl (Or.inr rfl) (Zn Yb (pv 3) (Zu (Za (Zi Zl rfl G.isinstance boot_isinstance (Za (pv 1) (Za (Zw (v:=.ref c12) rfl wq rfl) Zc))) (Za (Zi Zl rfl G.isinstance boot_isinstance (Za (pv 1) (Za (Zw (v:=.ref c13) rfl wo rfl) Zc))) (Za (Zi Zl rfl G.isinstance boot_isinstance (Za (pv 1) (Za (Zw (v:=.ref c14) rfl wm rfl) Zc))) Zc))))))
   (Zh (ZU (Z9 (Z1 (Zi Zl rfl G.isinstance boot_isinstance (Za (pv 1) (Za (ZP (v:=.ty "ValueError") rfl M.mv PyProof.Rows.Boot.«ValueError» rfl) Zc))))) (Zk (Zs ZX)) ZA)
   (Zk (Zs (Yz ["_law_k", "_law_marks"] 1 [3] (Yn rfl G.range (Za Zf Zc)) (fun C s H fp=>pb 0)
    (fun C s H fp=>JM (Z1 (Zx (show lI (bJ _ _ _ C s H fp) (qo K) from ZG) (pv 1) (pv 0) (fun _ _=>rfl)))) (fun C s H fp D=>Z6 rfl (pv 0)))))))))))),?_⟩
  refine⟨f,fd,sp,rfl,dX,Fl,oB,bX _ _ fun e H1 s1=> ⟨e,C,rfl,rfl,M.xs,fun iB=> ⟨_,rfl,?_⟩⟩⟩
  have s2:ae H1 (upd H1 e (aY e C)):=Zd iB
  have he:upd H1 e (aY e C) e=some (aY e C):=Zb
  generalize upd H1 e (aY e C)=H2 at s2 he
  refine⟨_,rfl,e,C,_,_,_,rfl,he,M.z,fun _ h=>h,k0,_,rfl,e,C,_,_,_,rfl,he,M.z,fun _ h=>h,k1,_,rfl,e,C,_,_,_,rfl,he,M.z,fun _ h=>h,k2,(by show 3≤sizeLine;decide),fun l1 om=> ?_⟩
  have sa:ae H2 (upd H2 l1 (.lst (bg iC 3))):=Zd om
  have ha:upd H2 l1 (.lst (bg iC 3)) l1=some (.lst (bg iC 3)):=Zb
  show _
  generalize zp:upd H2 l1 (HO.lst (bg iC 3))=Ha at sa ha
  rw[show upd H2 l1 (HO.lst [V.bl (decide (0=iC)),V.bl (decide (1=iC)),V.bl (decide (2=iC))])=Ha from zp]
  have kY:=sa _ _ he
  refine⟨_,rfl,_,rfl,e,C,_,_,_,rfl,kY,M.z,fun _ h=>h,k3,_,rfl,e,C,_,_,_,rfl,kY,M.z,fun _ h=>h,k4,_,rfl,e,C,_,_,_,rfl,kY,M.z,fun _ h=>h,k5,(by show 3≤sizeLine;decide),fun m0 rj=> ⟨l1,m0,bg iC 3,_,rfl,rfl,Zd rj _ _ ha,Zb,(by show 3+3≤sizeLine;decide),fun p0 qW=> ?_⟩⟩
  have mU:ae Ha (upd Ha m0 (.lst [V.bl (decide (3=iC)),V.bl (decide (4=iC)),V.bl (decide (5=iC))])):=Zd rj
  generalize upd Ha m0 (HO.lst [V.bl (decide (3=iC)),V.bl (decide (4=iC)),V.bl (decide (5=iC))])=jQ at mU qW
  have mP:ae jQ (upd jQ p0 (.lst (bg iC 6))):=Zd qW
  have rR:upd jQ p0 (.lst (bg iC 6)) p0=some (.lst (bg iC 6)):=Zb
  generalize zu:upd jQ p0 (HO.lst (bg iC 6))=lM at mP rR
  rw[show upd jQ p0 (HO.lst (bg iC 3++[V.bl (decide (3=iC)),V.bl (decide (4=iC)),V.bl (decide (5=iC))]))=lM from zu]
  have iB:=mP _ _ (mU _ _ kY)
  refine⟨_,rfl,_,rfl,e,C,_,_,_,rfl,iB,M.z,fun _ h=>h,k6,_,rfl,e,C,_,_,_,rfl,iB,M.z,fun _ h=>h,k7,_,rfl,e,C,_,_,_,rfl,iB,M.z,fun _ h=>h,k8,(by show 3≤sizeLine;decide),fun m1 rh=> ⟨p0,m1,bg iC 6,_,rfl,rfl,Zd rh _ _ rR,Zb,(by show 6+3≤sizeLine;decide),fun p1 kT=> ?_⟩⟩
  have mT:ae lM (upd lM m1 (.lst [V.bl (decide (6=iC)),V.bl (decide (7=iC)),V.bl (decide (8=iC))])):=Zd rh
  generalize upd lM m1 (HO.lst [V.bl (decide (6=iC)),V.bl (decide (7=iC)),V.bl (decide (8=iC))])=jP at mT kT
  have mO:ae jP (upd jP p1 (.lst (bg iC 9))):=Zd kT
  have rQ:upd jP p1 (.lst (bg iC 9)) p1=some (.lst (bg iC 9)):=Zb
  generalize zt:upd jP p1 (HO.lst (bg iC 9))=lL at mO rQ
  rw[show upd jP p1 (HO.lst (bg iC 6++[V.bl (decide (6=iC)),V.bl (decide (7=iC)),V.bl (decide (8=iC))]))=lL from zt]
  have kZ:=mO _ _ (mT _ _ iB)
  refine⟨_,rfl,_,rfl,e,C,_,_,_,rfl,kZ,M.z,fun _ h=>h,k9,_,rfl,e,C,_,_,_,rfl,kZ,M.z,fun _ h=>h,wQ,_,rfl,e,C,_,_,_,rfl,kZ,M.z,fun _ h=>h,wO,(by show 3≤sizeLine;decide),fun m2 eU=> ⟨p1,m2,bg iC 9,_,rfl,rfl,Zd eU _ _ rQ,Zb,(by show 9+3≤sizeLine;decide),fun p2 kS=> ?_⟩⟩
  have mS:ae lL (upd lL m2 (.lst [V.bl (decide (9=iC)),V.bl (decide (10=iC)),V.bl (decide (11=iC))])):=Zd eU
  generalize upd lL m2 (HO.lst [V.bl (decide (9=iC)),V.bl (decide (10=iC)),V.bl (decide (11=iC))])=jO at mS kS
  have mM:ae jO (upd jO p2 (.lst (bg iC 12))):=Zd kS
  have rP:upd jO p2 (.lst (bg iC 12)) p2=some (.lst (bg iC 12)):=Zb
  generalize zr:upd jO p2 (HO.lst (bg iC 12))=lK at mM rP
  rw[show upd jO p2 (HO.lst (bg iC 9++[V.bl (decide (9=iC)),V.bl (decide (10=iC)),V.bl (decide (11=iC))]))=lK from zr]
  have iA:=mM _ _ (mS _ _ kZ)
  refine⟨_,rfl,_,rfl,e,C,_,_,_,rfl,iA,M.z,fun _ h=>h,wN,_,rfl,e,C,_,_,_,rfl,iA,M.z,fun _ h=>h,wM,_,rfl,e,C,_,_,_,rfl,iA,M.z,fun _ h=>h,wL,(by show 3≤sizeLine;decide),fun m3 rg=> ⟨p2,m3,bg iC 12,_,rfl,rfl,Zd rg _ _ rP,Zb,(by show 12+3≤sizeLine;decide),fun p3 je=> ?_⟩⟩
  have mQ:ae lK (upd lK m3 (.lst [V.bl (decide (12=iC)),V.bl (decide (13=iC)),V.bl (decide (14=iC))])):=Zd rg
  generalize upd lK m3 (HO.lst [V.bl (decide (12=iC)),V.bl (decide (13=iC)),V.bl (decide (14=iC))])=jN at mQ je
  have mK:ae jN (upd jN p3 (.lst (bg iC 15))):=Zd je
  have rO:upd jN p3 (.lst (bg iC 15)) p3=some (.lst (bg iC 15)):=Zb
  generalize zq:upd jN p3 (HO.lst (bg iC 15))=sZ at mK rO
  rw[show upd jN p3 (HO.lst (bg iC 12++[V.bl (decide (12=iC)),V.bl (decide (13=iC)),V.bl (decide (14=iC))]))=sZ from zq]
  have yv:=mK _ _ (mQ _ _ iA)
  refine⟨_,rfl,e,C,_,_,_,rfl,yv,M.z,fun _ h=>h,M.xv,_,rfl,?_⟩
  refine aR ?_
  refine⟨15,rfl,by decide,by decide,?_⟩
  refine Y9 (n:=15) (fun i ys σ H4=>ys=((List.range i).filter fun k=>decide (k=iC)).map (fun k:Nat=>V.int (k:Int))∧H4=sZ∧∃v,σ=[v,some (.ref p3)]) ⟨rfl,rfl,none,rfl⟩ ?_ ?_
  ·rintro i ys σ H4 yo ⟨rfl,rfl,v,rfl⟩
   have hm:ej (bg iC 15) (0+(i:Int))=some (V.bl (decide (i=iC))):=by
    rw[Int.zero_add]
    refine Z4 ?_
    unfold bg
    rw[List.getElem?_map,List.getElem?_range yo]
    rfl
   refine⟨_,rfl,_,rfl,p3,_,_,_,rfl,rfl,ai.of rO,hm,_,rfl,?_⟩
   have er:((List.range (i+1)).filter fun k=>decide (k=iC))=((List.range i).filter fun k=>decide (k=iC))++(if decide (i=iC)=true then [i] else []):=by
    rw[List.range_succ,List.filter_append]
    cases hd:decide (i=iC)<;>simp_all
   cases hd:decide (i=iC) with
   |true=>
    rw[hd]at er
    refine av ⟨_,rfl,?_,?_,rfl,_,rfl⟩
    ·rw[List.length_map,sizeLine_eq]
     have:=List.length_filter_le (fun k=>decide (k=iC)) (List.range i)
     rw[List.length_range]at this
     omega
    ·rw[er,if_pos rfl,List.map_append,Int.zero_add]
     rfl
   |false=>
    rw[hd]at er
    exact aR ⟨by rw[er,if_neg Bool.false_ne_true,List.append_nil],rfl,_,rfl⟩
  ·rintro ys σ H4 ⟨rfl,rfl,v,rfl⟩ p hp
   have ef:((List.range 15).filter fun k=>decide (k=iC)).map (fun k:Nat=>V.int (k:Int))=[V.int (iC:Int)]:=by
    rcases hi with rfl |rfl<;>rfl
   rw[ef]
   have cQ:=s1.trans (s2.trans (sa.trans (mU.trans (mP.trans (mT.trans (mO.trans (mS.trans (mM.trans (mQ.trans mK)))))))))
   exact q p _ (cQ.trans (Zd hp)) (cQ.free hp) Zb
end
section
theorem bK.same {H H':Hp}{p:Addr}(h:bK H p) (s:ae H H'):bK H' p:=by
 obtain⟨u,v,e,r⟩:=h
 exact⟨u,v,s _ _ e,r⟩
def fJ:V→Bool
 | .int _=>true
 | .bl _=>true
 | .str _=>true
 | .aa=>true
 |_=>false
theorem WK {K:PySem.W.Frag}{H:Hp} :∀{v:V},fJ v=true→bV K H v
 | .int i,_=> ⟨_,.int i⟩
 | .bl b,_=> ⟨_,.bl b⟩
 | .str x,_=> ⟨_,.str x⟩
 | .aa,_=> ⟨_,.aa⟩
def gI:Lit→Bool
 | .sc v=>fJ v
 | .tup xs=>xs.all fJ
 |_=>true
def nN:Lit→Option (List V)
 | .tup xs=>some xs
 |_=>none
theorem YZ {H:Hp}{v:V} :∀{l:Lit},gI l=true→dg H v l→ao H v=nN l
 | .sc u,hp,h=>by
  have h':v=u:=h
  subst h'
  cases v with
  |ref a=>cases hp
  |_=>rfl
 | .tup xs,_,⟨a,e,h⟩=>by rw[e,Zo h];rfl
 | .lst xs,_,⟨a,e,h⟩=>by rw[e,Zm,h];rfl
 | .bU,_,⟨a,e,h⟩=>by rw[e,Zm,h];rfl
theorem Wz {K:PySem.W.Frag}{H:Hp}{v:V} :∀{l:Lit},gI l=true→dg H v l→bz K H v
 | .sc u,hp,h=>by
  have h':v=u:=h
  subst h'
  refine⟨WK hp,fun xs e y hy=> ?_⟩
  rw[YZ (l:=.sc v) hp rfl]at e
  cases e
 | .tup xs,hp,⟨a,e,h⟩=>by
  subst e
  refine⟨⟨_,.tup h⟩,fun ys e y hy=> ?_⟩
  rw[Zo h]at e
  cases e
  exact WK (List.all_eq_true.mp hp y hy)
 | .lst xs,hp,⟨a,e,h⟩=>by
  subst e
  refine⟨⟨_,.lst h⟩,fun ys e y hy=> ?_⟩
  rw[Zm,h]at e
  cases e
 | .bU,hp,⟨a,e,h⟩=>by
  subst e
  refine⟨⟨_,.dK h⟩,fun ys e y hy=> ?_⟩
  rw[Zm,h]at e
  cases e
theorem Paired.app {α β:Type}{F:α→β→Prop} :∀{a c:List α}{b d:List β},Paired F a b→Paired F c d→Paired F (a++c) (b++d)
 |_,_,_,_,.nil,h=>h
 |_,_,_,_,.cons r t,h=> .cons r (Paired.app t h)
end
section
variable {P:Program}{w:World}{K:PySem.W.Frag}{mg:Str→Option Value}{base:Heap}
abbrev gD:Stmt:=top 32
def kI:List Lit:=[.tup [.int 0,.int 1],.tup [.int 1,.int 13],.tup [.int 13,.int 1],.tup [.int 1,.int 0],.tup [.int (-1),.int 2],.tup [.bl true,.int 2],.tup [.int 2,.bl true],.tup [.bl false,.int 1],.tup [.int 2],.tup [.int 2,.int 2,.int 2]]
def kH:List Lit:=[.lst [.int 2,.int 2],.sc .aa,.sc (.int 4),.sc (.str "2x2"),.tup [.str "2",.int 2],.tup [.int 2,.aa],.tup [.int (10^(29:Int).toNat),.int 2],.bU]
def sv (l:Lit):Bool:=gI l&& !fW (nN l)
theorem A4:(kI++kH).all sv=true:=by decide+kernel
def fF (p:Addr) (H:Hp) (v:V):Prop:=v≠.ref p∧∀xs,ao H v=some xs→∀y∈xs,y≠.ref p
def l8 (K:PySem.W.Frag):Sp:=fun vs H Q _=> ∃p:Addr,vs=[.ref p]∧bK H p∧∀v H',ar p H H'→bK H' p→dB K H' v→fF p H' v→Q v H'
def nF:List Expr:=match bB gD with | .Assign _ (.List es _) _::_=>es |_=> []
def nE:List Expr:=match bB gD with |_:: .Return (some (.Subscript (.BinOp _ _ (.List es _) _) _ _)) _::_=>es |_=> []
def vZ (a b:List Expr):List Stmt:=match bB gD with
 | [.Assign x (.List _ p1) p2,.Return (some (.Subscript (.BinOp y o (.List _ p3) p4) z p5)) p6]=> [.Assign x (.List a p1) p2,.Return (some (.Subscript (.BinOp y o (.List b p3) p4) z p5)) p6]
 |_=> []
theorem A8:bB gD=vZ nF nE:=by kernel_rfl
theorem A5:litsOf nF=some kI:=by kernel_rfl
theorem A6:litsOf nE=some kH:=by kernel_rfl
theorem qg:bC ["_law_state_here", "_law_some"] ["_law_state_here"] (aq gD):=⟨rfl,rfl,rfl,by decide+kernel,rfl,by decide+kernel,by decide+kernel⟩
theorem Br {f:Addr}{fd:FuncData}(F:ba K "_law_no_board" "_law_no_board" gD f fd) (D1:Def P w K mg base 1 "_law_take" ["_law_state_here", "_law_many"] hZ):az P w K mg base aP 2 f fd ["_law_state_here"] (l8 K):=by
 refine F.ok qg (fun vs H Q E h=> ?_) (fun aj A outer s H vs Q E hr h=> ?_)
 ·obtain⟨p,rfl,_⟩:=h
  rfl
 ·obtain⟨p,rfl,st,q⟩:=h
  rw[A8]
  have i1:=A5
  have i2:=A6
  generalize nF=z8 at i1
  generalize nE=z7 at i2
  refine⟨_,Zh (Zt (i:=1) qg.nd rfl (Or.inl rfl) (Zu (YA (ls:=kI) i1))) (Zk (Zs (Zx ZG (Zn Yb (pv 1) (Zu (YA (ls:=kH) i2))) (Zj D1 hr (Za (pv 0) (Za Zf Zc))) (fun _ _=>rfl)))),?_⟩
  refine fun aV H1 s1 i6 n1=> ?_
  have l1:aV.length=10:=Paired.length i6
  refine⟨by rw[l1];decide,fun L1 zf=> ?_⟩
  have s2:ae H1 (upd H1 L1 (.lst aV)):=Zd zf
  have eL:upd H1 L1 (.lst aV) L1=some (.lst aV):=Zb
  generalize upd H1 L1 (HO.lst aV)=H2 at s2 eL
  refine⟨_,rfl,fun aU H3 s3 i5 n2=> ?_⟩
  have l2:aU.length=8:=Paired.length i5
  refine⟨by rw[l2];decide,fun L2 ze=> ?_⟩
  have s4:ae H3 (upd H3 L2 (.lst aU)):=Zd ze
  have eM:upd H3 L2 (.lst aU) L2=some (.lst aU):=Zb
  generalize upd H3 L2 (HO.lst aU)=H4 at s4 eM
  refine⟨L1,L2,_,_,rfl,rfl,s4 _ _ (s3 _ _ eL),eM,by rw[l1,l2];decide,fun L3 zd=> ?_⟩
  have s5:ae H4 (upd H4 L3 (.lst (aV++aU))):=Zd zd
  have eN:upd H4 L3 (.lst (aV++aU)) L3=some (.lst (aV++aU)):=Zb
  generalize upd H4 L3 (HO.lst (aV++aU))=H5 at s5 eN
  have cQ:ae H H5:=s1.trans (s2.trans (s3.trans (s4.trans s5)))
  have pr:Paired (dg H5) (aV++aU) (kI++kH):=Paired.app (Paired.fS i6 fun _ _ h=>h.same (s2.trans (s3.trans (s4.trans s5)))) (Paired.fS i5 fun _ _ h=>h.same (s4.trans s5))
  have dk:=st.same cQ
  refine⟨_,rfl,p,18,rfl,dk,by decide,by decide,fun r o h0 CS gA=> ?_⟩
  obtain⟨u0,v0,jD,_⟩:=id dk
  have nO:(aV++aU).length=18:=by rw[List.length_append,l1,l2]
  have nL:L3≠p:=fun z=>by
   rw[z,jD]at eN
   have y:[V.int u0,V.int v0]=aV++aU:=by injection eN with y;injection y
   rw[←y]at nO
   cases nO
  have aw:r.toNat< (aV++aU).length:=by rw[nO];omega
  have dW:=List.getElem?_eq_getElem aw
  have js:=Z4 dW
  rw[Int.toNat_of_nonneg h0]at js
  obtain⟨l,hl,dw⟩:=Paired.at pr dW
  have hb:=List.all_eq_true.mp A4 l (List.mem_of_getElem? hl)
  unfold sv at hb
  rw[Bool.and_eq_true]at hb
  refine⟨L3,_,_,_,rfl,rfl,ai.of (by rw[Zg nL];exact eN),js,?_⟩
  have keep:∀c u,H5 c=some u→c≠p→upd H5 p o c=some u:=fun c u hc hn=>by rw[Zg hn];exact hc
  have iH:dg (upd H5 p o) (aV++aU)[r.toNat] l:=by
   cases l with
   |sc v=>exact dw
   |tup xs=>
    obtain⟨a,e,h⟩:=dw
    exact⟨a,e,keep _ _ h fun z=>by rw[z,jD]at h;cases h⟩
   |lst xs=>
    obtain⟨a,e,h⟩:=dw
    refine⟨a,e,keep _ _ h fun z=> ?_⟩
    have hm:V.ref a∈aV++aU:=by rw[←e];exact List.getElem_mem aw
    obtain⟨_,_,y,_⟩:=id st
    rcases List.mem_append.mp hm with hm |hm
    ·have:=n1 a hm
     rw[z,y]at this
     cases this
    ·have:=n2 a hm
     rw[z,(s1.trans s2) _ _ y]at this
     cases this
   |bU=>
    obtain⟨a,e,h⟩:=dw
    exact⟨a,e,keep _ _ h fun z=>by rw[z,jD]at h;cases h⟩
  have nr:fF p (upd H5 p o) (aV++aU)[r.toNat]:=by
   have lC:upd H5 p o p=some o:=Zb
   cases l with
   |sc v=>
    have e:(aV++aU)[r.toNat]=v:=iH
    rw[e]
    have hs:fJ v=true:=hb.1
    refine⟨fun z=> (by rw[z]at hs;cases hs),fun xs h y hy=> ?_⟩
    rw[YZ (l:=.sc v) hs rfl]at h
    cases h
   |tup xs=>
    obtain⟨a,e,h⟩:=dw
    have cu:a≠p:=fun z=>by rw[z,jD]at h;cases h
    rw[e]
    refine⟨fun z=>cu (by cases z;rfl),fun ys h2 y hy z=> ?_⟩
    rw[Zo (keep _ _ h cu)]at h2
    cases h2
    have hs:=List.all_eq_true.mp (show xs.all fJ=true from hb.1) y hy
    rw[z]at hs
    cases hs
   |lst xs=>
    obtain⟨a,e,h⟩:=iH
    have hm:V.ref a∈aV++aU:=by rw[←e];exact List.getElem_mem aw
    obtain⟨_,_,y,_⟩:=id st
    have cu:a≠p:=fun z=>by
     rcases List.mem_append.mp hm with hm |hm
     ·have:=n1 a hm
      rw[z,y]at this
      cases this
     ·have:=n2 a hm
      rw[z,(s1.trans s2) _ _ y]at this
      cases this
    rw[e]
    refine⟨fun z=>cu (by cases z;rfl),fun ys h2 y hy=> ?_⟩
    rw[Zm,h]at h2
    cases h2
   |bU=>
    obtain⟨a,e,h⟩:=dw
    have cu:a≠p:=fun z=>by rw[z,jD]at h;cases h
    rw[e]
    refine⟨fun z=>cu (by cases z;rfl),fun ys h2 y hy=> ?_⟩
    rw[Zm,keep _ _ h cu]at h2
    cases h2
  refine q _ _ (fun c u hc hn=>keep c u (cQ _ _ hc) hn) gA ⟨Wz hb.1 iH,?_⟩ nr
  rw[YZ hb.1 iH]
  simpa using hb.2
end
section
theorem ZZ {wd hg:Int}{xs:List V}(h:(xs.length:Int)≠wd):bR wd hg (some xs)=false:=by
 show(decide ((xs.length:Int)=wd)&&_&&_)=false
 rw[decide_eq_false h,Bool.false_and,Bool.false_and]
theorem JU {wd hg:Int}{xs:List V}{y:V}{k:Nat}(hn:y≠.aa) (hw:aT y 0 (hg - 1)=false):bR wd hg (some (xs.take k++[y]++xs.drop (k+1)))=false:=by
 show(decide _&&((rowsOf (xs.take k++[y]++xs.drop (k+1))).all fun r=>aT r 0 (hg - 1))&&_)=false
 have hm:y∈rowsOf (xs.take k++[y]++xs.drop (k+1)):=by
  unfold rowsOf
  refine List.mem_filter.mpr ⟨by simp,by simp[hn]⟩
 have:((rowsOf (xs.take k++[y]++xs.drop (k+1))).all fun r=>aT r 0 (hg - 1))=false:=by
  rw[Bool.eq_false_iff]
  intro h
  have:=List.all_eq_true.mp h y hm
  rw[hw]at this
  cases this
 rw[this,Bool.and_false,Bool.false_and]
theorem J0 (a b:List V):rowsOf (a++b)=rowsOf a++rowsOf b:=by unfold rowsOf;rw[List.filter_append]
theorem AX {wd hg:Int}{xs:List V}{y:V}{j k:Nat}(hj:xs[j]? =some y) (CJ:j≠k) (hn:y≠.aa):bR wd hg (some (xs.take k++[y]++xs.drop (k+1)))=false:=by
 show(decide _&&_&&decide (rowsOf (xs.take k++[y]++xs.drop (k+1))).Nodup)=false
 have:¬(rowsOf (xs.take k++[y]++xs.drop (k+1))).Nodup:=by
  rw[J0,J0]
  have e1:rowsOf [y]=[y]:=by unfold rowsOf;simp[hn]
  rw[e1]
  intro nd
  have fw:∀l:List V,y∈l→y∈rowsOf l:=fun l hl=>List.mem_filter.mpr ⟨hl,by simp[hn]⟩
  obtain⟨n1,n2,n3⟩:=List.nodup_append.mp nd
  obtain⟨m1,m2,m3⟩:=List.nodup_append.mp n1
  by_cases aw:j<k
  ·have:y∈xs.take k:=List.mem_of_getElem? (i:=j) (by rw[List.getElem?_take,if_pos aw];exact hj)
   exact m3 y (fw _ this) y (by simp) rfl
  ·have:y∈xs.drop (k+1):=List.mem_of_getElem? (i:=j - (k+1)) (by rw[List.getElem?_drop,show k+1+(j - (k+1))=j by omega];exact hj)
   exact n3 y (by simp) y (fw _ this) rfl
 rw[decide_eq_false this,Bool.and_false]
def g8 (K:PySem.W.Frag) (wd hg:Int) (H:Hp) (v:V):Prop:=bz K H v∧bR wd hg (ao H v)=false
theorem g8.same {K:PySem.W.Frag}{wd hg:Int}{H H':Hp}{v:V}(b:g8 K wd hg H v) (s:ae H H'):g8 K wd hg H' v:=⟨b.1.same s,by rw[ZV b.1.1 s];exact b.2⟩
theorem UY {K:PySem.W.Frag}{wd hg:Int}{H:Hp}{a:Addr}{xs:List V}(h:H a=some (.tup xs)) (hp:∀y∈xs,bV K H y) (hb:bR wd hg (some xs)=false):g8 K wd hg H (.ref a):=by
 refine⟨⟨⟨_,.tup h⟩,fun ys e y hy=> ?_⟩,by rw[Zo h];exact hb⟩
 rw[Zo h]at e
 cases e
 exact hp y hy
theorem Wl {K:PySem.W.Frag}{wd hg:Int}{H:Hp}{v:V}{l:Lit}(hp:gI l=true) (hn:nN l=none) (h:dg H v l):g8 K wd hg H v:=⟨Wz hp h,by rw[YZ hp h,hn];rfl⟩
theorem UZ {K:PySem.W.Frag}{wd hg:Int}{H:Hp}{a:Addr}{xs:List V}(h:H a=some (.lst xs)):g8 K wd hg H (.ref a):=by
 have e0:ao H (.ref a)=none:=by rw[Zm,h];rfl
 exact⟨⟨⟨_,.lst h⟩,fun ys e=>by rw[e0]at e;cases e⟩,by rw[e0];rfl⟩
def ij:V→Bool
 | .int i=>decide (i.natAbs.log2<1920)
 | .bl _=>true
 | .aa=>true
 | .str x=>x== "0" ||x== "1x1: ."
 |_=>false
def dQ (H:Hp) (y:V):Prop:=ij y=true∨∃(b:Addr) (z:V),y=.ref b∧(H b=some (.tup [z])∨H b=some (.lst [z]))∧ij z=true
def fB (p:Addr) (H:Hp) (v:V):Prop:=ij v=true∨(∃(a:Addr) (xs:List V),v=.ref a∧xs.length≤1000∧(H a=some (.tup xs)∨(a≠p∧H a=some (.lst xs)))∧∀y∈xs,dQ H y)∨∃a:Addr,v=.ref a∧H a=some (.dK [])
theorem dQ.same {H H':Hp}{y:V}(h:dQ H y) (s:ae H H'):dQ H' y:=by
 rcases h with h |⟨b,z,e,h |h,hz⟩
 ·exact .inl h
 ·exact .inr ⟨b,z,e,.inl (s _ _ h),hz⟩
 ·exact .inr ⟨b,z,e,.inr (s _ _ h),hz⟩
theorem fB.same {p:Addr}{H H':Hp}{v:V}(h:fB p H v) (s:ae H H'):fB p H' v:=by
 rcases h with h |⟨a,xs,e,hl,h |⟨n,h⟩,hy⟩ |⟨a,e,h⟩
 ·exact .inl h
 ·exact .inr (.inl ⟨a,xs,e,hl,.inl (s _ _ h),fun y m=> (hy y m).same s⟩)
 ·exact .inr (.inl ⟨a,xs,e,hl,.inr ⟨n,s _ _ h⟩,fun y m=> (hy y m).same s⟩)
 ·exact .inr (.inr ⟨a,e,s _ _ h⟩)
def fc (K:PySem.W.Frag) (H:Hp) (y:V):Prop:=bV K H y∧dQ H y
theorem fc.same {K:PySem.W.Frag}{H H':Hp}{y:V}(h:fc K H y) (s:ae H H'):fc K H' y:=⟨s.ip h.1,h.2.same s⟩
def bf (K:PySem.W.Frag) (p:Addr) (wd hg:Int) (H:Hp) (v:V):Prop:=g8 K wd hg H v∧fB p H v
theorem bf.same {K:PySem.W.Frag}{p:Addr}{wd hg:Int}{H H':Hp}{v:V}(b:bf K p wd hg H v) (s:ae H H'):bf K p wd hg H' v:=⟨b.1.same s,b.2.same s⟩
theorem ZD {K:PySem.W.Frag}{p:Addr}{wd hg:Int}{H:Hp}{a:Addr}{xs:List V}(h:H a=some (.tup xs)) (hp:∀y∈xs,fc K H y) (hb:bR wd hg (some xs)=false) (hl:xs.length≤1000:=by(simp only[List.length_append,List.length_cons,List.length_nil,List.length_take,List.length_drop];omega)):bf K p wd hg H (.ref a):=⟨UY h (fun y hy=> (hp y hy).1) hb,.inr (.inl ⟨a,xs,rfl,hl,.inl h,fun y hy=> (hp y hy).2⟩)⟩
theorem Yq {K:PySem.W.Frag}{p:Addr}{wd hg:Int}{H:Hp}{v:V}(hp:gI (.sc v)=true) (hs:ij v=true):bf K p wd hg H v:=⟨Wl (l:=.sc v) hp rfl rfl,.inl hs⟩
theorem Jh {K:PySem.W.Frag}{p:Addr}{wd hg:Int}{H:Hp}{a:Addr}(h:H a=some (.dK [])):bf K p wd hg H (.ref a):=⟨Wl (l:=.bU) rfl rfl ⟨a,rfl,h⟩,.inr (.inr ⟨a,rfl,h⟩)⟩
theorem Jg {K:PySem.W.Frag}{p:Addr}{wd hg:Int}{H:Hp}{a:Addr}{xs:List V}(h:H a=some (.lst xs)) (np:a≠p) (hl:xs.length≤1000) (hp:∀y∈xs,dQ H y):bf K p wd hg H (.ref a):=⟨UZ h,.inr (.inl ⟨a,xs,rfl,hl,.inr ⟨np,h⟩,hp⟩)⟩
theorem Z0 {K:PySem.W.Frag}{a b:Addr}{xs ys:List V}{H:Hp}{Q:VK}(ha:H a=some (.tup xs)) (hb:H b=some (.tup ys)) (hl:xs.length+ys.length≤1000) (q:∀(c:Addr) (H':Hp),ae H H'→H' c=some (.tup (xs++ys))→Q (.ref c) H'):i3 K (.ref a) (.ref b) H Q:=by
 cases xs with
 |nil=>exact .inl ⟨a,b,ys,rfl,rfl,ah.of ha,ah.of hb,q b H (ae.refl H) hb⟩
 |cons x r=>
  refine .inr ⟨a,b,x::r,ys,rfl,rfl,ah.of ha,ah.of hb,(by simp),Nat.le_of_lt (mn hl),fun e=> ?_,fun e p hp=> ?_⟩
  ·subst e
   exact q a H (ae.refl H) (by rw[List.append_nil];exact ha)
  ·exact q p _ (Zd hp) Zb
theorem UU {K:PySem.W.Frag}{a:Addr}{xs:List V}{H:Hp}{Q:VK}{k:Nat}(ha:H a=some (.tup xs)) (hk:k<xs.length) (q:∀p:Addr,H p=none→Q (.ref p) (upd H p (.tup (xs.take k)))):fO K (.ref a) none (some (k:Int)) H Q:=by
 refine⟨a,xs,rfl,ah.of ha,fun h=> ?_,fun p hp=> ?_⟩
 ·rw[HT.kq]at h
  omega
 ·have e:gn xs none (some (k:Int))=xs.take k:=by
   unfold gn
   rw[HT.qk,HT.kq,List.drop_zero,Nat.sub_zero,Nat.min_eq_left (by omega)]
  rw[e]
  exact q p hp
theorem Wf {K:PySem.W.Frag}{a:Addr}{xs:List V}{H:Hp}{Q:VK}{k:Nat}(ha:H a=some (.tup xs)) (hk:0<k) (ix:k≤xs.length) (q:∀p:Addr,H p=none→Q (.ref p) (upd H p (.tup (xs.drop k)))):fO K (.ref a) (some (k:Int)) none H Q:=by
 refine⟨a,xs,rfl,ah.of ha,fun h=> ?_,fun p hp=> ?_⟩
 ·rw[HT.kq]at h
  omega
 ·have e:gn xs (some (k:Int)) none=xs.drop k:=by
   unfold gn
   rw[HT.qk,HT.kq,Nat.min_eq_left ix]
   exact List.take_of_length_le (by rw[List.length_drop];omega)
  rw[e]
  exact q p hp
theorem JL {K:PySem.W.Frag}{a:Addr}{xs:List V}{y:V}{H:Hp}{Q:VK}{k:Nat}{σ:L2.St}{te tl th pO:TE}(ha:H a=some (.tup xs)) (hk:k<xs.length) (hl:xs.length≤100)
  (e1:∀H Q,Q (.ref a) H→te σ H Q) (e2:∀H Q,Q (.int (k:Int)) H→tl σ H Q) (e3:∀H Q,Q y H→th σ H Q) (e4:∀H Q,Q (.int ((k+1:Nat):Int)) H→pO σ H Q)
  (q:∀(c:Addr) (H':Hp),ae H H'→H' c=some (.tup (xs.take k++[y]++xs.drop (k+1)))→Q (.ref c) H'):
  hG (i3 K) (hG (i3 K) (j6 (fO K) te j8 (j7 tl)) (pS (cC th dO))) (j6 (fO K) te (j7 pO) j8) σ H Q:=by
 refine e1 _ _ (e2 _ _ ⟨_,rfl,UU ha hk fun p1 kT=>e3 _ _ ⟨(by show 1≤sizeLine;decide),fun p2 kS=> ?_⟩⟩)
 have s1:ae H (upd H p1 (.tup (xs.take k))):=Zd kT
 have s2:=Zd (o:=.tup [y]) kS
 refine Z0 (s2 _ _ Zb) Zb (by rw[List.length_take];simp;omega) fun c H3 s3 hc=> ?_
 have sA:=s1.trans (s2.trans s3)
 refine e1 _ _ (e4 _ _ ⟨_,rfl,?_⟩)
 show fO K (.ref a) (some ((k+1:Nat):Int)) none H3 (fun y H2=>i3 K (.ref c) y H2 Q)
 refine Wf (k:=k+1) (sA _ _ ha) (by omega) (by omega) fun p4 xW=> ?_
 have s4:=Zd (o:=.tup (xs.drop (k+1))) xW
 refine Z0 (s4 _ _ hc) Zb (by rw[List.length_append,List.length_take,List.length_drop];simp;omega) fun c2 H5 s5 gT=> ?_
 exact q c2 H5 (sA.trans (s4.trans s5)) gT
end
section
variable {P:Program}{w:World}{K:PySem.W.Frag}{mg:Str→Option Value}{base:Heap}
abbrev gC:Stmt:=top 34
def gK:List Lit:=[.sc (.int (-1)),.sc (.bl true),.sc (.bl false),.sc (.str "0"),.tup [.int 0],.sc (.int (10^(29:Int).toNat)),.lst [.int 0]]
def kL:List Lit:=[.sc (.int 0),.sc (.int 0),.sc (.int 0),.sc (.int 1),.sc (.int 1),.sc (.int 2),.sc (.int 3),.sc (.int 4),.sc (.int 5),.sc (.int 6),.sc (.int 7),.sc (.int 8)]
theorem A9 {K:PySem.W.Frag}{H:Hp}{v:V}{l:Lit}{hg:Int}(h2:hg≤12) (hl:l∈gK) (h:dg H v l):v≠.aa∧aT v 0 (hg - 1)=false∧fc K H v:=by
 have hp:gI l=true:=List.all_eq_true.mp (show gK.all gI=true by decide+kernel) l hl
 refine⟨?_,?_,(Wz hp h).1,?_⟩
 ·simp only[gK,List.mem_cons,List.not_mem_nil,or_false]at hl
  rcases hl with rfl |rfl |rfl |rfl |rfl |rfl |rfl
  ·rw[show v=_ from h];simp
  ·rw[show v=_ from h];simp
  ·rw[show v=_ from h];simp
  ·rw[show v=_ from h];simp
  ·obtain⟨a,e,_⟩:=h;rw[e];simp
  ·rw[show v=_ from h];simp
  ·obtain⟨a,e,_⟩:=h;rw[e];simp
 ·simp only[gK,List.mem_cons,List.not_mem_nil,or_false]at hl
  rcases hl with rfl |rfl |rfl |rfl |rfl |rfl |rfl
  ·rw[show v=_ from h];rfl
  ·rw[show v=_ from h];rfl
  ·rw[show v=_ from h];rfl
  ·rw[show v=_ from h];rfl
  ·obtain⟨a,e,_⟩:=h;rw[e];rfl
  ·rw[show v=_ from h]
   show(decide ((0:Int)≤10^(29:Int).toNat)&&decide ((10:Int)^(29:Int).toNat≤hg - 1))=false
   have:¬(10:Int)^(29:Int).toNat≤hg - 1:=by
    have:(10:Int)^(29:Int).toNat=100000000000000000000000000000:=by decide
    omega
   rw[decide_eq_false this,Bool.and_false]
  ·obtain⟨a,e,_⟩:=h;rw[e];rfl
 ·simp only[gK,List.mem_cons,List.not_mem_nil,or_false]at hl
  rcases hl with rfl |rfl |rfl |rfl |rfl |rfl |rfl
  ·rw[show v=_ from h];exact .inl (by decide)
  ·rw[show v=_ from h];exact .inl (by decide)
  ·rw[show v=_ from h];exact .inl (by decide)
  ·rw[show v=_ from h];exact .inl (by decide)
  ·obtain⟨a,e,h1⟩:=h;exact .inr ⟨a,.int 0,e,.inl h1,by decide⟩
  ·rw[show v=_ from h];exact .inl (by decide)
  ·obtain⟨a,e,h1⟩:=h;exact .inr ⟨a,.int 0,e,.inr h1,by decide⟩
theorem WC {r:Int}{vs:List V}{H:Hp}(h0:0≤r) (h1:r<12) (pr:Paired (dg H) vs kL):∃c:Nat,c≤8∧ej vs r=some (.int (c:Int)):=by
 have key:∀(vs:List V) (ls:List Lit),Paired (dg H) vs ls→ls.all (fun l=>match l with | .sc (.int i)=>decide (0≤i∧i≤8) |_=>false)=true→∀i:Nat,i<ls.length→∃c:Nat,c≤8∧vs[i]? =some (.int (c:Int)):=by
  intro vs ls pr
  induction pr with
  |nil=>intro _ i hi;simp at hi
  |cons r t ih=>
   rename_i v l B8 Cn
   intro ha i hi
   rw[List.all_cons,Bool.and_eq_true]at ha
   cases i with
   |zero=>
    cases l with
    |sc u=>
     have e:v=u:=r
     subst e
     cases v with
     |int j=>
      have hj:=of_decide_eq_true ha.1
      exact⟨j.toNat,by omega,by simp;omega⟩
     |_=>cases ha.1
    |_=>cases ha.1
   |succ i=>
    obtain⟨c,h1,h2⟩:=ih ha.2 i (by simpa using hi)
    exact⟨c,h1,by simpa using h2⟩
 obtain⟨c,h2,h3⟩:=key vs kL pr (by decide+kernel) r.toNat (by show r.toNat<12;omega)
 have:=Z4 h3
 rw[Int.toNat_of_nonneg h0]at this
 exact⟨c,h2,this⟩
theorem YB {wd hg:Int}{xs:List V}(h:lJ wd hg xs):∀x∈xs,x=.aa∨∃i:Int,x=.int i:=fun x hx=>by
 by_cases e:x=.aa
 ·exact .inl e
 ·have m:x∈rowsOf xs:=List.mem_filter.mpr ⟨hx,by simp[e]⟩
  have q':=h.row x m
  cases x with
  |int i=>exact .inr ⟨i,rfl⟩
  |_=>cases q'
theorem Wp {i:Int}(h0:0≤i) (h1:i≤12):ij (.int i)=true:=by
 have c:i=0∨i=1∨i=2∨i=3∨i=4∨i=5∨i=6∨i=7∨i=8∨i=9∨i=10∨i=11∨i=12:=by omega
 rcases c with rfl |rfl |rfl |rfl |rfl |rfl |rfl |rfl |rfl |rfl |rfl |rfl |rfl<;>decide
theorem Zv {K:PySem.W.Frag}{H:Hp}{wd hg:Int}{xs:List V}(g2:hg≤12) (h:lJ wd hg xs):∀x∈xs,fc K H x:=fun x hx=>by
 rcases YB h x hx with rfl |⟨i,rfl⟩
 ·exact⟨⟨_,.aa⟩,.inl rfl⟩
 ·have hm:V.int i∈rowsOf xs:=List.mem_filter.mpr ⟨hx,by simp⟩
  have hw:(decide (0≤i)&&decide (i≤hg - 1))=true:=h.row _ hm
  rw[Bool.and_eq_true,decide_eq_true_eq,decide_eq_true_eq]at hw
  exact⟨⟨_,.int i⟩,.inl (Wp hw.1 (by omega))⟩
theorem We:∀(xs:List V) (i:Int),V.int i∈xs→(∀x∈xs,x=.aa∨∃j:Int,x=.int j)→∃j:Nat,xs[j]? =some (.int i)∧∀m y,m<j→xs[m]? =some y→bO y (.int i)=false
 | [],i,h,_=>by simp at h
 |x::r,i,h,hr=>by
  by_cases e:x=.int i
  ·exact⟨0,by rw[e];rfl,fun m y hm _=>absurd hm (Nat.not_lt_zero _)⟩
  ·have h':V.int i∈r:=by
    rcases List.mem_cons.mp h with z |z
    ·exact absurd z.symm e
    ·exact z
   obtain⟨j,hj,hn⟩:=We r i h' fun y hy=>hr y (List.mem_cons_of_mem _ hy)
   refine⟨j+1,by simpa using hj,fun m y hm hy=> ?_⟩
   cases m with
   |zero=>
    have:y=x:=by simpa using hy.symm
    subst this
    rcases hr y List.mem_cons_self with rfl |⟨k,rfl⟩
    ·rfl
    ·show(k==i)=false
     have:k≠i:=fun z=>e (by rw[z])
     simpa using this
   |succ m=>exact hn m y (by omega) (by simpa using hy)
def l7 (K:PySem.W.Frag):Sp:=fun vs H Q _=> ∃(p b l:Addr) (wd hg:Int) (xs:List V),vs=[.ref p,.ref b,.ref l]∧bK H p∧cO H (.ref b) wd hg∧H l=some (.tup xs)∧lJ wd hg xs∧∀v H',ar p H H'→bK H' p→bf K p wd hg H' v→Q v H'
def nI:List Expr:=match bB gC with |_:: .Assign _ (.Subscript (.List (_::es) _) _ _) _::_=>es |_=> []
def nH:List Expr:=match bB gC with | [_,_,_,_,_,_,_,.Return (some (.Subscript _ (.Subscript (.List es _) _ _) _)) _]=>es |_=> []
def wa (a b:List Expr):List Stmt:=match bB gC with
 | [s0,.Assign x (.Subscript (.List (y::_) p1) z p2) p3,s2,s3,s4,s5,s6,.Return (some (.Subscript u (.Subscript (.List _ q1) v q2) q3)) q4]=> [s0,.Assign x (.Subscript (.List (y::a) p1) z p2) p3,s2,s3,s4,s5,s6,.Return (some (.Subscript u (.Subscript (.List b q1) v q2) q3)) q4]
 |_=> []
theorem A3:bB gC=wa nI nH:=by kernel_rfl
theorem A0:litsOf nI=some gK:=by kernel_rfl
theorem A1:litsOf nH=some kL:=by kernel_rfl
theorem eQ:bC ["_law_state_here", "_law_board_here", "_law_lay_here", "_law_way", "_law_at", "_law_to", "_law_odd", "_law_rows", "_law_twice", "_law_row", "_law_spot", "_law_some"] ["_law_state_here", "_law_board_here", "_law_lay_here"] (aq gC):=⟨rfl,rfl,rfl,by decide+kernel,rfl,by decide+kernel,by decide+kernel⟩
theorem ZL {D:Ends}{σ:L2.St}{H:Hp}(h:D.nx σ H):pU D σ H:=h
theorem Zy {t u:TS}{D:Ends}{σ:L2.St}{H:Hp}(h:t {D with nx:=u D} σ H):pT t u D σ H:=h
theorem ZW {te:TE}{g:TG}{D:Ends}{σ:L2.St}{H:Hp}(h:te σ H fun v H1=>g v σ H1 D.nx):ka te g D σ H:=h
theorem Wo {t:TA}{σ:L2.St}{H:Hp}{Q:VK}(h:t σ H fun xs H1=>xs.length≤sizeLine∧∀p,H1 p=none→Q (.ref p) (upd H1 p (.lst xs))):lW t σ H Q:=h
theorem Yg {ta:TE}{tr:TA}{σ:L2.St}{H:Hp}{Q:List V→Hp→Prop}(h:ta σ H fun x H1=>tr σ H1 fun xs H2=>Q (x::xs) H2):cC ta tr σ H Q:=h
theorem Zz {i:Nat}{v:V}{σ:L2.St}{H:Hp}{Q:L2.St→Hp→Prop}(h:Q (σ.set i (some v)) H):jB i v σ H Q:=h
theorem Yv {K:PySem.W.Frag}{a:Addr}{xs:List V}{H:Hp}{Q:VK}{k:Nat}{σ:L2.St}{te tl:TE}(ha:H a=some (.tup xs)) (hk:0<k) (ix:k≤xs.length) (e1:∀H Q,Q (.ref a) H→te σ H Q) (e2:∀H Q,Q (.int (k:Int)) H→tl σ H Q)
  (q:∀p:Addr,H p=none→Q (.ref p) (upd H p (.tup (xs.drop k)))):j6 (fO K) te (j7 tl) j8 σ H Q:=e1 _ _ (e2 _ _ ⟨_,rfl,show fO K (.ref a) (some (k:Int)) none H Q from Wf ha hk ix q⟩)
theorem Bs {f:Addr}{fd:FuncData}(F:ba K "_law_no_lay" "_law_no_lay" gC f fd) (G:Gs mg) (D1:Def P w K mg base 1 "_law_take" ["_law_state_here", "_law_many"] hZ):az P w K mg base aP 2 f fd ["_law_state_here", "_law_board_here", "_law_lay_here"] (l7 K):=by
  refine F.ok eQ (fun vs H Q E h=> ?_) (fun aj A outer s H vs Q E hr h=> ?_)
  · obtain⟨p,b,l,wd,hg,xs,rfl,_⟩:=h
    rfl
  · obtain⟨p,b,l,wd,hg,xs,rfl,st,bd,hl,lay,q⟩:=h
    rw[A3]
    have i1:=A0
    have i2:=A1
    generalize nI=z8 at i1
    generalize nH=z7 at i2
    refine⟨_,Zh (JN (i:=3) (j:=4) (k:=5) rfl eQ.nd rfl rfl rfl rfl rfl rfl
        (Za (Zj D1 hr (Za (pv 0) (Za Zf Zc))) (Za (Zj D1 hr (Za (pv 0) (Za (Zx ZI (pv 1) Zf (fun _ _=>rfl)) Zc))) (Za (Zj D1 hr (Za (pv 0) (Za Zf Zc))) Zc))))
      (Zh (Zt (i:=6) eQ.nd rfl (Or.inl rfl) (Zx ZG (Zu (Za (Zx ZI (pv 1) Zf (fun _ _=>rfl)) (YA (ls:=gK) i1))) (Zj D1 hr (Za (pv 0) (Za Zf Zc))) (fun _ _=>rfl)))
      (Zh (WJ ["_law_row"] 1 [] (i:=7) eQ.nd rfl (Or.inl rfl) (JP (pv 2)) (fun C s H fp=>pb 0) (fun C s H fp=>JM (Wt (JQ (pv 0)))) (fun C s H fp D=>Z6 rfl (pv 0)))
      (Zh (Zt (i:=8) eQ.nd rfl (Or.inl rfl) (Zn Z8 (pv 2) (ZE (Za ZX Zc))))
      (Zh (ZU (PW.pt (Bz (ZM (Bv hr.pL) (pv 7) (Zu Zc) (bQ _)) (U2 (ZM sM (Zi Zr rfl G.len boot_len (Za (pv 2) Zc)) Zf (bQ _)))))
        (Zh (Zt (i:=9) eQ.nd rfl (Or.inl rfl) (Zx ZG (pv 7) (Zn Ya (pv 5) (Zi Zr rfl G.len boot_len (Za (pv 7) Zc))) (fun _ _=>rfl)))
        (Zh (Zt (i:=10) eQ.nd rfl (Or.inl rfl) (Zn Ya (Zn Yc (Zn Yc (J5 PySem.F.plainAttrs_tuple PySem.F.slot_tuple_index PySem.F.type_tuple_index Ua (pv 2) (Za (pv 9) Zc)) Zf) (Zn Ya (pv 4) (Zn JR (Zi Zr rfl G.len boot_len (Za (pv 2) Zc)) Zf))) (Zi Zr rfl G.len boot_len (Za (pv 2) Zc))))
        (Zk (Zt (i:=8) eQ.nd rfl (Or.inl rfl) (Zn Z8 (Zn Z8 (Ye YK (pv 2) Ym (Yl (pv 10))) (ZE (Za (pv 9) Zc))) (Ye YK (pv 2) (Yl (Zn Yc (pv 10) Zf)) Ym)))))) ZA)
      (Zh (Zt (i:=11) eQ.nd rfl (Or.inl rfl) (Zu (Za (Zn Z8 (Zn Z8 (Ye YK (pv 2) Ym (Yl (pv 4))) (ZE (Za (pv 6) Zc))) (Ye YK (pv 2) (Yl (Zn Yc (pv 4) Zf)) Ym))
        (Za (pv 8) (Za (Zn Z8 (pv 2) (ZE (Za ZX Zc))) (Za (Ye YK (pv 2) (Yl Zf) Ym) (Za (ZS YH rfl G.list boot_list (Za (pv 2) Zc)) Zc)))))))
      (Zh (Zt (i:=11) eQ.nd rfl (Or.inl rfl) (Zn Yb (pv 11) (Zu (Za ZX (Za ZH (Za J2 (Za (Zn Z8 (pv 2) (pv 2)) Zc)))))))
      (Zk (Zs (Zx ZG (pv 11) (Zx ZG (Zu (YA (ls:=kL) i2)) (pv 3) (fun _ _=>rfl)) (fun _ _=>rfl)))))))))),?_⟩
    obtain⟨yT,w1,w2,g1,g2⟩:=id bd
    have hb:H b=some (.tup [.int wd,.int hg]):=by
      obtain⟨a,e,h⟩:=Zq yT
      cases e
      exact h
    obtain⟨u0,v0,ep,_⟩:=id st
    have jr:b≠p:=J6 hb ep (by intro z;cases z)
    have rm:l≠p:=J6 hl ep (by intro z;cases z)
    have hlen:=lay.len
    refine⟨_,rfl,p,12,rfl,st,by decide,by decide,fun r1 o1 a1 a2 dP=> ?_⟩
    refine⟨_,rfl,_,rfl,b,_,_,_,rfl,rfl,ah.of (by rw[Zg jr];exact hb),dz,p,wd,rfl,dP,by omega,by omega,fun r2 o2 a3 a4 cD=> ?_⟩
    obtain⟨k2,rfl⟩:=Int.eq_ofNat_of_zero_le a3
    refine⟨_,rfl,p,12,rfl,cD,by decide,by decide,fun r3 o3 a5 a6 cI=> ⟨_,_,_,rfl,?_⟩⟩
    have x3:ar p H (upd (upd (upd H p o1) p o2) p o3):=(ar.upd.trans ar.upd).trans ar.upd
    generalize upd (upd (upd H p o1) p o2) p o3=H3 at cI x3
    have yZ:=x3 _ _ hb jr
    have CI:=x3 _ _ hl rm
    refine⟨_,rfl,b,_,_,_,rfl,rfl,ah.of yZ,bY,fun fk H4 s4 i4 n4=> ?_⟩
    have lo:fk.length=7:=Paired.length i4
    refine⟨by show fk.length+1≤sizeLine;rw[lo];decide,fun L4 lr=> ?_⟩
    have s5:ae H4 (upd H4 L4 (.lst (V.int hg::fk))):=Zd lr
    have e5:upd H4 L4 (.lst (V.int hg::fk)) L4=some (.lst (V.int hg::fk)):=Zb
    generalize upd H4 L4 (HO.lst (V.int hg::fk))=H5 at s5 e5
    have iY:ae H3 H5:=s4.trans s5
    refine⟨_,rfl,p,8,rfl,cI.same iY,by decide,by decide,fun r4 o4 a7 a8 gA=> ?_⟩
    obtain⟨u3,v3,r0,_⟩:=id cI
    have wj:L4≠p:=fun z=>by rw[z,s4 _ _ r0]at lr;cases lr
    have aw:r4.toNat< (V.int hg::fk).length:=by rw[List.length_cons,lo];omega
    have dW:=List.getElem?_eq_getElem aw
    have js:=Z4 dW
    rw[Int.toNat_of_nonneg a7]at js
    have pI:ar p H5 (upd H5 p o4):=ar.upd
    refine⟨L4,_,_,_,rfl,rfl,ai.of (by rw[Zg wj];exact e5),js,?_⟩
    generalize CA:(V.int hg::fk)[r4.toNat]=od at dW
    have odd:od≠.aa∧aT od 0 (hg - 1)=false∧fc K (upd H5 p o4) od:=by
      cases hr:r4.toNat with
      |zero=>
       rw[hr]at dW
       have e:V.int hg=od:=by simpa using dW
       rw[←e]
       refine⟨by simp,?_,⟨_,.int hg⟩,.inl (Wp (by omega) (by omega))⟩
       show(decide (0≤hg)&&decide (hg≤hg - 1))=false
       rw[decide_eq_false (show ¬hg≤hg - 1 by omega),Bool.and_false]
      |succ k=>
       rw[hr]at dW
       have hk:fk[k]? =some od:=by simpa using dW
       obtain⟨lt,ye,AE⟩:=Uq i4 hk
       have dw:=AE.same s5
       have iH:dg (upd H5 p o4) od lt:=by
         have nK:∀a,od=.ref a→a≠p:=fun a e z=>by
           have:=n4 a (by rw[←e];exact List.mem_of_getElem? hk)
           rw[z,r0]at this
           cases this
         cases lt with
         |sc v=>exact dw
         |tup ys=>
          obtain⟨a,e,h⟩:=dw
          exact⟨a,e,by rw[Zg (nK a e)];exact h⟩
         |lst ys=>
          obtain⟨a,e,h⟩:=dw
          exact⟨a,e,by rw[Zg (nK a e)];exact h⟩
         |bU=>
          obtain⟨a,e,h⟩:=dw
          exact⟨a,e,by rw[Zg (nK a e)];exact h⟩
       exact A9 g2 (List.mem_of_getElem? ye) iH
    have x6:ar p H (upd H5 p o4):=(x3.trans iY.x).trans pI
    generalize upd H5 p o4=H6 at gA odd x6
    clear pI e5 lr
    have cW:=x6 _ _ hl rm
    have CM:=x6 _ _ hb jr
    obtain⟨nD,nB,nC⟩:=odd
    obtain⟨u6,v6,lC,_⟩:=id gA
    refine⟨_,rfl,l,rfl,⟨xs,ah.of cW⟩,?_⟩
    refine Y8 (xs:=xs) (fun i ys σ H2=>ys=rowsOf (xs.take i)∧H2=H6∧∃v,σ=[v]) ⟨rfl,rfl,none,rfl⟩ (fun i ys σ H2 _ ⟨_,e2,_⟩=>by rw[e2];exact ah.of cW) ?_ ?_
    · rintro i r ys σ H2 cb ⟨rfl,rfl,v,rfl⟩
      have et:rowsOf (xs.take (i+1))=rowsOf (xs.take i)++(if (!decide (r=V.aa))=true then [r] else []):=by
        unfold rowsOf
        rw[List.take_add_one,cb,List.filter_append]
        cases hh:(!decide (r=V.aa)) with
        |true=>simp[hh]
        |false=>simp[hh]
      refine⟨r,rfl,_,rfl,?_⟩
      cases hh:(!decide (r=V.aa)) with
      |true=>
       rw[hh]at et
       refine av ?_
       refine⟨r,rfl,?_,?_⟩
       · have:=List.length_filter_le (fun x=> !decide (x=V.aa)) (xs.take i)
         unfold rowsOf
         rw[sizeLine_eq]
         rw[List.length_take]at this
         omega
       · exact⟨by rw[et,if_pos rfl],rfl,_,rfl⟩
      |false=>
       rw[hh]at et
       exact aR ⟨by rw[et,if_neg Bool.false_ne_true,List.append_nil],rfl,_,rfl⟩
    · rintro ys σ H2 ⟨rfl,rfl,v,rfl⟩ R7 y9
      rw[List.take_length]
      have s7:ae H2 (upd H2 R7 (.lst (rowsOf xs))):=Zd y9
      have e7:upd H2 R7 (.lst (rowsOf xs)) R7=some (.lst (rowsOf xs)):=Zb
      generalize upd H2 R7 (HO.lst (rowsOf xs))=H7 at s7 e7
      refine⟨_,rfl,(by show 1≤sizeLine;decide),fun t8 xq=> ?_⟩
      have s8:ae H7 (upd H7 t8 (.tup [.aa])):=Zd xq
      refine Z0 (s8 _ _ (s7 _ _ cW)) Zb (by simp;omega) fun c9 H9 s9 yR=> ?_
      have vm:ae H2 H9:=s7.trans (s8.trans s9)
      have vI:∀y∈xs++[V.aa],fc K H9 y:=fun y hy=>by
        rcases List.mem_append.mp hy with m |m
        · exact Zv g2 lay y m
        · rw[List.mem_singleton.mp m];exact⟨⟨_,.aa⟩,.inl rfl⟩
      have Av:bf K p wd hg H9 (.ref c9):=ZD yR vI (ZZ (by rw[List.length_append];simp;omega))
      have e9:=(s8.trans s9) _ _ e7
      refine⟨_,rfl,Nat.zero_le _,fun iO wW=> ?_⟩
      have sz:ae H9 (upd H9 iO (.lst [])):=Zd wW
      have ez:upd H9 iO (.lst []) iO=some (.lst []):=Zb
      generalize upd H9 iO (HO.lst [])=BR at sz ez
      have bF:ae H2 BR:=vm.trans sz
      refine⟨R7,iO,rowsOf xs,rfl,rfl,ai.of (sz _ _ e9),ai.of ez,_,rfl,?_⟩
      have dZ:=Av.same sz
      cases hE:(rowsOf xs).isEmpty with
      |true=>
       refine aR (aR (ZL ?_))
       dsimp only
       have cM:=bF _ _ cW
       refine Zy (ZW (Wo (Yg ?_)))
       refine JL (K:=K) (a:=l) (xs:=xs) (y:=od) (k:=k2) cM (by omega) (by omega) (fun H Q h=> ⟨_,rfl,h⟩) (fun H Q h=> ⟨_,rfl,h⟩) (fun H Q h=> ⟨_,rfl,h⟩)
         (fun H Q h=> ⟨_,rfl,_,_,rfl,rfl,(by have e:((k2+1:Nat):Int)=(k2:Int)+1:=by omega
                                             rw[e]at h;exact h)⟩) fun c11 jT bG jq=> ?_
       have b11:bf K p wd hg jT (.ref c11):=ZD jq (fun y hy=>by
         rcases List.mem_append.mp hy with m |m
         · rcases List.mem_append.mp m with m |m
           · exact Zv g2 lay y (List.mem_of_mem_take m)
           · rw[List.mem_singleton.mp m];exact nC.same (bF.trans bG)
         · exact Zv g2 lay y (List.mem_of_mem_drop m)) (JU nD nB)
       replace dZ:=dZ.same bG
       have gh:=bG _ _ cM
       refine⟨_,rfl,_,rfl,(by show 1≤sizeLine;decide),fun pZ jb=> ?_⟩
       have eR:=Zd (o:=.tup [V.aa]) jb
       refine Z0 (eR _ _ gh) Zb (by simp;omega) fun c13 eu gE jo=> ?_
       have sA:=eR.trans gE
       have b13:bf K p wd hg eu (.ref c13):=ZD jo (fun y hy=>by
         rcases List.mem_append.mp hy with m |m
         · exact Zv g2 lay y m
         · rw[List.mem_singleton.mp m];exact⟨⟨_,.aa⟩,.inl rfl⟩) (ZZ (by rw[List.length_append];simp;omega))
       have gg:=sA _ _ gh
       refine Yg (Yv (K:=K) (a:=l) (xs:=xs) (k:=1) gg (by omega) (by omega) (fun H Q h=> ⟨_,rfl,h⟩) (fun H Q h=>h) fun c14 jn=> ?_)
       have cq:=Zd (o:=.tup (xs.drop 1)) jn
       have b14:bf K p wd hg (upd eu c14 (.tup (xs.drop 1))) (.ref c14):=ZD Zb (fun y hy=>Zv g2 lay y (List.mem_of_mem_drop hy)) (ZZ (by rw[List.length_drop];omega))
       generalize upd eu c14 (HO.tup (xs.drop 1))=gz at cq b14
       have gb:=cq _ _ gg
       refine⟨_,rfl,l,xs,rfl,.inr (ah.of gb),fun c15 gk=> ?_⟩
       have cn:=Zd (o:=.lst xs) gk
       have i7:c15≠p:=fun z=>by
         have h:=cq _ _ (sA _ _ (bG _ _ (bF _ _ lC)))
         rw[←z,gk]at h
         cases h
       have b15:bf K p wd hg (upd gz c15 (.lst xs)) (.ref c15):=Jg Zb i7 (by omega) fun y hy=> (Zv (K:=K) g2 lay y hy).2
       generalize upd gz c15 (HO.lst xs)=gy at cn b15
       refine⟨(by show 5≤sizeLine;decide),fun di jA=> ?_⟩
       have cR:=Zd (o:=.lst [V.ref c11,V.ref c9,V.ref c13,V.ref c14,V.ref c15]) jA
       have e16:upd gy di (.lst [V.ref c11,V.ref c9,V.ref c13,V.ref c14,V.ref c15]) di=some (.lst [V.ref c11,V.ref c9,V.ref c13,V.ref c14,V.ref c15]):=Zb
       generalize upd gy di (HO.lst [V.ref c11,V.ref c9,V.ref c13,V.ref c14,V.ref c15])=gw at cR e16
       have jj:=cR _ _ (cn _ _ gb)
       refine⟨_,rfl,fun aS jl=> ?_⟩
       have cm:=Zd (o:=.dK []) jl
       have b17:bf K p wd hg (upd gw aS (.dK [])) (.ref aS):=Jh Zb
       generalize upd gw aS (HO.dK [])=tf at cm b17
       have f9:=cm _ _ jj
       refine⟨_,rfl,_,rfl,Z0 f9 f9 (by omega) fun c18 eo dR jm=> ?_⟩
       have b18:bf K p wd hg eo (.ref c18):=ZD jm (fun y hy=>by
         rcases List.mem_append.mp hy with m |m
         · exact Zv g2 lay y m
         · exact Zv g2 lay y m) (ZZ (by rw[List.length_append];omega))
       refine⟨(by show 4≤sizeLine;decide),fun ek jz=> ?_⟩
       have fN:=Zd (o:=.lst [V.aa,V.str "1x1: .",V.ref aS,V.ref c18]) jz
       refine⟨di,ek,_,_,rfl,rfl,fN _ _ (dR _ _ (cm _ _ e16)),Zb,(by show 5+4≤sizeLine;decide),fun dh jy=> ?_⟩
       have fM:=Zd (o:=.lst ([V.ref c11,V.ref c9,V.ref c13,V.ref c14,V.ref c15]++[V.aa,V.str "1x1: .",V.ref aS,V.ref c18])) jy
       have gm:upd (upd eo ek (.lst [V.aa,V.str "1x1: .",V.ref aS,V.ref c18])) dh (.lst ([V.ref c11,V.ref c9,V.ref c13,V.ref c14,V.ref c15]++[V.aa,V.str "1x1: .",V.ref aS,V.ref c18])) dh=some (.lst ([V.ref c11,V.ref c9,V.ref c13,V.ref c14,V.ref c15]++[V.aa,V.str "1x1: .",V.ref aS,V.ref c18])):=Zb
       generalize upd (upd eo ek (.lst [V.aa,V.str "1x1: .",V.ref aS,V.ref c18])) dh (HO.lst ([V.ref c11,V.ref c9,V.ref c13,V.ref c14,V.ref c15]++[V.aa,V.str "1x1: .",V.ref aS,V.ref c18]))=td at fM gm
       refine⟨_,rfl,fun dU jR fL fQ qJ=> ?_⟩
       have li:dU.length=12:=Paired.length fQ
       refine⟨by rw[li];decide,fun gv jx=> ?_⟩
       have fK:=Zd (o:=.lst dU) jx
       obtain⟨ci,rD,ju⟩:=WC a1 a2 fQ
       refine⟨_,rfl,gv,_,_,_,rfl,rfl,ai.of Zb,ju,?_⟩
       have sB:=fN.trans (fM.trans (fL.trans fK))
       have jJ:∀v∈[V.ref c11,V.ref c9,V.ref c13,V.ref c14,V.ref c15]++[V.aa,V.str "1x1: .",V.ref aS,V.ref c18],bf K p wd hg (upd jR gv (.lst dU)) v:=by
         intro v hv
         have sC:=dR.trans sB
         have sD:=cm.trans sC
         have sE:=cR.trans sD
         have sF:=cn.trans sE
         have sG:=cq.trans sF
         simp only[List.cons_append,List.nil_append,List.mem_cons,List.not_mem_nil,or_false]at hv
         rcases hv with rfl |rfl |rfl |rfl |rfl |rfl |rfl |rfl |rfl
         · exact b11.same (sA.trans sG)
         · exact dZ.same (sA.trans sG)
         · exact b13.same sG
         · exact b14.same sF
         · exact b15.same sE
         · exact Yq rfl rfl
         · exact Yq rfl (by decide)
         · exact b17.same sC
         · exact b18.same sB
       have fZ:ci< ([V.ref c11,V.ref c9,V.ref c13,V.ref c14,V.ref c15]++[V.aa,V.str "1x1: .",V.ref aS,V.ref c18]).length:=by show ci<9;omega
       refine⟨dh,_,_,_,rfl,rfl,ai.of ((fL.trans fK) _ _ gm),Z4 (List.getElem?_eq_getElem fZ),?_⟩
       have cQ:=bF.trans (bG.trans (sA.trans (cq.trans (cn.trans (cR.trans (cm.trans (dR.trans sB)))))))
       exact q _ _ (x6.trans cQ.x) (gA.same cQ) (jJ _ (List.getElem_mem fZ))
      |false=>
       refine av ?_
       refine⟨_,rfl,l,xs,rfl,.inr (ah.of (bF _ _ cW)),_,_,rfl,rfl,_,rfl,?_⟩
       refine nQ (fun h1=> ?_) (fun _=> ?_)
       · have oI:1<xs.length:=by
           have:=of_decide_eq_true h1
           omega
         have nr:0< (rowsOf xs).length:=by
           cases xS:rowsOf xs with
           |nil=>rw[xS]at hE;cases hE
           |cons a b=>simp
         have yb:0≤r3%((rowsOf xs).length:Int)∧r3%((rowsOf xs).length:Int)< ((rowsOf xs).length:Int):=⟨Int.emod_nonneg _ (by omega),Int.emod_lt_of_pos _ (by omega)⟩
         have rk:(r3%((rowsOf xs).length:Int)).toNat< (rowsOf xs).length:=by omega
         have oC:=Z4 (List.getElem?_eq_getElem rk)
         rw[Int.toNat_of_nonneg yb.1]at oC
         have oi:(rowsOf xs)[(r3%((rowsOf xs).length:Int)).toNat]∈rowsOf xs:=List.getElem_mem rk
         generalize (rowsOf xs)[(r3%((rowsOf xs).length:Int)).toNat]=row at oC oi
         have ra:row∈xs:=(List.mem_filter.mp oi).1
         have xQ:row≠.aa:=by simpa using (List.mem_filter.mp oi).2
         obtain⟨ri,rfl⟩:∃ri:Int,row=.int ri:=by
           rcases YB lay row ra with z |z
           · exact absurd z xQ
           · exact z
         obtain⟨j,hj,dF⟩:=We xs ri ra (YB lay)
         have oo:j<xs.length:=(List.getElem?_eq_some_iff.mp hj).1
         have flat:xs.all du=true:=List.all_eq_true.mpr fun x hx=>by
           rcases YB lay x hx with z |⟨i,z⟩<;>rw[z]<;>rfl
         have cM:=bF _ _ cW
         refine⟨_,rfl,_,rfl,_,rfl,R7,_,rfl,.inl (ai.of (sz _ _ e9)),_,_,rfl,rfl,by omega,R7,_,_,_,rfl,rfl,ai.of (sz _ _ e9),oC,?_⟩
         refine⟨_,rfl,.inr (.inl ⟨rfl,.inr ⟨_,cM⟩⟩),_,rfl,l,xs,.int ri,j,rfl,rfl,ah.of cM,rfl,flat,⟨_,hj,by show(ri==ri)=true;simp⟩,dF,?_⟩
         have qb:0≤((j:Int)+1+(k2:Int)%((xs.length:Int) - 1))%(xs.length:Int)∧((j:Int)+1+(k2:Int)%((xs.length:Int) - 1))%(xs.length:Int)< (xs.length:Int):=⟨Int.emod_nonneg _ (by omega),Int.emod_lt_of_pos _ (by omega)⟩
         have uN:((j:Int)+1+(k2:Int)%((xs.length:Int) - 1))%(xs.length:Int)≠(j:Int):=by
           have m1:0≤(k2:Int)%((xs.length:Int) - 1):=Int.emod_nonneg _ (by omega)
           have m2:(k2:Int)%((xs.length:Int) - 1)< (xs.length:Int) - 1:=Int.emod_lt_of_pos _ (by omega)
           generalize (k2:Int)%((xs.length:Int) - 1)=m at m1 m2
           intro hz
           by_cases aw:(j:Int)+1+m< (xs.length:Int)
           · rw[Int.emod_eq_of_lt (by omega) aw]at hz
             omega
           · have e:((j:Int)+1+m)%(xs.length:Int)=(j:Int)+1+m - (xs.length:Int):=by
               rw[←Int.sub_emod_right,Int.emod_eq_of_lt (by omega) (by omega)]
             rw[e]at hz
             omega
         refine⟨_,_,rfl,rfl,_,rfl,_,rfl,l,xs,rfl,.inr (ah.of cM),_,_,rfl,rfl,_,_,rfl,rfl,by omega,_,_,rfl,rfl,_,rfl,l,xs,rfl,.inr (ah.of cM),_,_,rfl,rfl,by omega,?_⟩
         refine Zz ?_
         dsimp only
         generalize ((j:Int)+1+(k2:Int)%((xs.length:Int) - 1))%(xs.length:Int)=Cb at qb uN ⊢
         obtain⟨sp,rfl⟩:=Int.eq_ofNat_of_zero_le qb.1
         have xu:sp<xs.length:=by omega
         have xw:j≠sp:=by omega
         refine ZW ?_
         refine JL (K:=K) (a:=l) (xs:=xs) (y:=.int ri) (k:=sp) cM xu (by omega) (fun H Q h=> ⟨_,rfl,h⟩) (fun H Q h=> ⟨_,rfl,h⟩) (fun H Q h=> ⟨_,rfl,h⟩)
           (fun H Q h=> ⟨_,rfl,_,_,rfl,rfl,(by have e:((sp+1:Nat):Int)=(sp:Int)+1:=by omega
                                               rw[e]at h;exact h)⟩) fun cz Hz uH yP=> ?_
         refine Zz ?_
         dsimp only
         have Au:bf K p wd hg Hz (.ref cz):=ZD yP (fun y hy=>by
           rcases List.mem_append.mp hy with m |m
           · rcases List.mem_append.mp m with m |m
             · exact Zv g2 lay y (List.mem_of_mem_take m)
             · rw[List.mem_singleton.mp m];exact Zv g2 lay _ (List.mem_of_getElem? hj)
           · exact Zv g2 lay y (List.mem_of_mem_drop m)) (AX hj xw (by simp))
         clear dZ
         have bF:=bF.trans uH
         have dZ:=Au
         clear cM
         have cM:=bF _ _ cW
         refine Zy (ZW (Wo (Yg ?_)))
         refine JL (K:=K) (a:=l) (xs:=xs) (y:=od) (k:=k2) cM (by omega) (by omega) (fun H Q h=> ⟨_,rfl,h⟩) (fun H Q h=> ⟨_,rfl,h⟩) (fun H Q h=> ⟨_,rfl,h⟩)
           (fun H Q h=> ⟨_,rfl,_,_,rfl,rfl,(by have e:((k2+1:Nat):Int)=(k2:Int)+1:=by omega
                                               rw[e]at h;exact h)⟩) fun c11 jT bG jq=> ?_
         have b11:bf K p wd hg jT (.ref c11):=ZD jq (fun y hy=>by
           rcases List.mem_append.mp hy with m |m
           · rcases List.mem_append.mp m with m |m
             · exact Zv g2 lay y (List.mem_of_mem_take m)
             · rw[List.mem_singleton.mp m];exact nC.same (bF.trans bG)
           · exact Zv g2 lay y (List.mem_of_mem_drop m)) (JU nD nB)
         replace dZ:=dZ.same bG
         have gh:=bG _ _ cM
         refine⟨_,rfl,_,rfl,(by show 1≤sizeLine;decide),fun pZ jb=> ?_⟩
         have eR:=Zd (o:=.tup [V.aa]) jb
         refine Z0 (eR _ _ gh) Zb (by simp;omega) fun c13 eu gE jo=> ?_
         have sA:=eR.trans gE
         have b13:bf K p wd hg eu (.ref c13):=ZD jo (fun y hy=>by
           rcases List.mem_append.mp hy with m |m
           · exact Zv g2 lay y m
           · rw[List.mem_singleton.mp m];exact⟨⟨_,.aa⟩,.inl rfl⟩) (ZZ (by rw[List.length_append];simp;omega))
         have gg:=sA _ _ gh
         refine Yg (Yv (K:=K) (a:=l) (xs:=xs) (k:=1) gg (by omega) (by omega) (fun H Q h=> ⟨_,rfl,h⟩) (fun H Q h=>h) fun c14 jn=> ?_)
         have cq:=Zd (o:=.tup (xs.drop 1)) jn
         have b14:bf K p wd hg (upd eu c14 (.tup (xs.drop 1))) (.ref c14):=ZD Zb (fun y hy=>Zv g2 lay y (List.mem_of_mem_drop hy)) (ZZ (by rw[List.length_drop];omega))
         generalize upd eu c14 (HO.tup (xs.drop 1))=gz at cq b14
         have gb:=cq _ _ gg
         refine⟨_,rfl,l,xs,rfl,.inr (ah.of gb),fun c15 gk=> ?_⟩
         have cn:=Zd (o:=.lst xs) gk
         have i7:c15≠p:=fun z=>by
           have h:=cq _ _ (sA _ _ (bG _ _ (bF _ _ lC)))
           rw[←z,gk]at h
           cases h
         have b15:bf K p wd hg (upd gz c15 (.lst xs)) (.ref c15):=Jg Zb i7 (by omega) fun y hy=> (Zv (K:=K) g2 lay y hy).2
         generalize upd gz c15 (HO.lst xs)=gy at cn b15
         refine⟨(by show 5≤sizeLine;decide),fun di jA=> ?_⟩
         have cR:=Zd (o:=.lst [V.ref c11,V.ref cz,V.ref c13,V.ref c14,V.ref c15]) jA
         have e16:upd gy di (.lst [V.ref c11,V.ref cz,V.ref c13,V.ref c14,V.ref c15]) di=some (.lst [V.ref c11,V.ref cz,V.ref c13,V.ref c14,V.ref c15]):=Zb
         generalize upd gy di (HO.lst [V.ref c11,V.ref cz,V.ref c13,V.ref c14,V.ref c15])=gw at cR e16
         have jj:=cR _ _ (cn _ _ gb)
         refine⟨_,rfl,fun aS jl=> ?_⟩
         have cm:=Zd (o:=.dK []) jl
         have b17:bf K p wd hg (upd gw aS (.dK [])) (.ref aS):=Jh Zb
         generalize upd gw aS (HO.dK [])=tf at cm b17
         have f9:=cm _ _ jj
         refine⟨_,rfl,_,rfl,Z0 f9 f9 (by omega) fun c18 eo dR jm=> ?_⟩
         have b18:bf K p wd hg eo (.ref c18):=ZD jm (fun y hy=>by
           rcases List.mem_append.mp hy with m |m
           · exact Zv g2 lay y m
           · exact Zv g2 lay y m) (ZZ (by rw[List.length_append];omega))
         refine⟨(by show 4≤sizeLine;decide),fun ek jz=> ?_⟩
         have fN:=Zd (o:=.lst [V.aa,V.str "1x1: .",V.ref aS,V.ref c18]) jz
         refine⟨di,ek,_,_,rfl,rfl,fN _ _ (dR _ _ (cm _ _ e16)),Zb,(by show 5+4≤sizeLine;decide),fun dh jy=> ?_⟩
         have fM:=Zd (o:=.lst ([V.ref c11,V.ref cz,V.ref c13,V.ref c14,V.ref c15]++[V.aa,V.str "1x1: .",V.ref aS,V.ref c18])) jy
         have gm:upd (upd eo ek (.lst [V.aa,V.str "1x1: .",V.ref aS,V.ref c18])) dh (.lst ([V.ref c11,V.ref cz,V.ref c13,V.ref c14,V.ref c15]++[V.aa,V.str "1x1: .",V.ref aS,V.ref c18])) dh=some (.lst ([V.ref c11,V.ref cz,V.ref c13,V.ref c14,V.ref c15]++[V.aa,V.str "1x1: .",V.ref aS,V.ref c18])):=Zb
         generalize upd (upd eo ek (.lst [V.aa,V.str "1x1: .",V.ref aS,V.ref c18])) dh (HO.lst ([V.ref c11,V.ref cz,V.ref c13,V.ref c14,V.ref c15]++[V.aa,V.str "1x1: .",V.ref aS,V.ref c18]))=td at fM gm
         refine⟨_,rfl,fun dU jR fL fQ qJ=> ?_⟩
         have li:dU.length=12:=Paired.length fQ
         refine⟨by rw[li];decide,fun gv jx=> ?_⟩
         have fK:=Zd (o:=.lst dU) jx
         obtain⟨ci,rD,ju⟩:=WC a1 a2 fQ
         refine⟨_,rfl,gv,_,_,_,rfl,rfl,ai.of Zb,ju,?_⟩
         have sB:=fN.trans (fM.trans (fL.trans fK))
         have jJ:∀v∈[V.ref c11,V.ref cz,V.ref c13,V.ref c14,V.ref c15]++[V.aa,V.str "1x1: .",V.ref aS,V.ref c18],bf K p wd hg (upd jR gv (.lst dU)) v:=by
           intro v hv
           have sC:=dR.trans sB
           have sD:=cm.trans sC
           have sE:=cR.trans sD
           have sF:=cn.trans sE
           have sG:=cq.trans sF
           simp only[List.cons_append,List.nil_append,List.mem_cons,List.not_mem_nil,or_false]at hv
           rcases hv with rfl |rfl |rfl |rfl |rfl |rfl |rfl |rfl |rfl
           · exact b11.same (sA.trans sG)
           · exact dZ.same (sA.trans sG)
           · exact b13.same sG
           · exact b14.same sF
           · exact b15.same sE
           · exact Yq rfl rfl
           · exact Yq rfl (by decide)
           · exact b17.same sC
           · exact b18.same sB
         have fZ:ci< ([V.ref c11,V.ref cz,V.ref c13,V.ref c14,V.ref c15]++[V.aa,V.str "1x1: .",V.ref aS,V.ref c18]).length:=by show ci<9;omega
         refine⟨dh,_,_,_,rfl,rfl,ai.of ((fL.trans fK) _ _ gm),Z4 (List.getElem?_eq_getElem fZ),?_⟩
         have cQ:=bF.trans (bG.trans (sA.trans (cq.trans (cn.trans (cR.trans (cm.trans (dR.trans sB)))))))
         exact q _ _ (x6.trans cQ.x) (gA.same cQ) (jJ _ (List.getElem_mem fZ))
       · refine ZL ?_
         dsimp only
         have cM:=bF _ _ cW
         refine Zy (ZW (Wo (Yg ?_)))
         refine JL (K:=K) (a:=l) (xs:=xs) (y:=od) (k:=k2) cM (by omega) (by omega) (fun H Q h=> ⟨_,rfl,h⟩) (fun H Q h=> ⟨_,rfl,h⟩) (fun H Q h=> ⟨_,rfl,h⟩)
           (fun H Q h=> ⟨_,rfl,_,_,rfl,rfl,(by have e:((k2+1:Nat):Int)=(k2:Int)+1:=by omega
                                               rw[e]at h;exact h)⟩) fun c11 jT bG jq=> ?_
         have b11:bf K p wd hg jT (.ref c11):=ZD jq (fun y hy=>by
           rcases List.mem_append.mp hy with m |m
           · rcases List.mem_append.mp m with m |m
             · exact Zv g2 lay y (List.mem_of_mem_take m)
             · rw[List.mem_singleton.mp m];exact nC.same (bF.trans bG)
           · exact Zv g2 lay y (List.mem_of_mem_drop m)) (JU nD nB)
         replace dZ:=dZ.same bG
         have gh:=bG _ _ cM
         refine⟨_,rfl,_,rfl,(by show 1≤sizeLine;decide),fun pZ jb=> ?_⟩
         have eR:=Zd (o:=.tup [V.aa]) jb
         refine Z0 (eR _ _ gh) Zb (by simp;omega) fun c13 eu gE jo=> ?_
         have sA:=eR.trans gE
         have b13:bf K p wd hg eu (.ref c13):=ZD jo (fun y hy=>by
           rcases List.mem_append.mp hy with m |m
           · exact Zv g2 lay y m
           · rw[List.mem_singleton.mp m];exact⟨⟨_,.aa⟩,.inl rfl⟩) (ZZ (by rw[List.length_append];simp;omega))
         have gg:=sA _ _ gh
         refine Yg (Yv (K:=K) (a:=l) (xs:=xs) (k:=1) gg (by omega) (by omega) (fun H Q h=> ⟨_,rfl,h⟩) (fun H Q h=>h) fun c14 jn=> ?_)
         have cq:=Zd (o:=.tup (xs.drop 1)) jn
         have b14:bf K p wd hg (upd eu c14 (.tup (xs.drop 1))) (.ref c14):=ZD Zb (fun y hy=>Zv g2 lay y (List.mem_of_mem_drop hy)) (ZZ (by rw[List.length_drop];omega))
         generalize upd eu c14 (HO.tup (xs.drop 1))=gz at cq b14
         have gb:=cq _ _ gg
         refine⟨_,rfl,l,xs,rfl,.inr (ah.of gb),fun c15 gk=> ?_⟩
         have cn:=Zd (o:=.lst xs) gk
         have i7:c15≠p:=fun z=>by
           have h:=cq _ _ (sA _ _ (bG _ _ (bF _ _ lC)))
           rw[←z,gk]at h
           cases h
         have b15:bf K p wd hg (upd gz c15 (.lst xs)) (.ref c15):=Jg Zb i7 (by omega) fun y hy=> (Zv (K:=K) g2 lay y hy).2
         generalize upd gz c15 (HO.lst xs)=gy at cn b15
         refine⟨(by show 5≤sizeLine;decide),fun di jA=> ?_⟩
         have cR:=Zd (o:=.lst [V.ref c11,V.ref c9,V.ref c13,V.ref c14,V.ref c15]) jA
         have e16:upd gy di (.lst [V.ref c11,V.ref c9,V.ref c13,V.ref c14,V.ref c15]) di=some (.lst [V.ref c11,V.ref c9,V.ref c13,V.ref c14,V.ref c15]):=Zb
         generalize upd gy di (HO.lst [V.ref c11,V.ref c9,V.ref c13,V.ref c14,V.ref c15])=gw at cR e16
         have jj:=cR _ _ (cn _ _ gb)
         refine⟨_,rfl,fun aS jl=> ?_⟩
         have cm:=Zd (o:=.dK []) jl
         have b17:bf K p wd hg (upd gw aS (.dK [])) (.ref aS):=Jh Zb
         generalize upd gw aS (HO.dK [])=tf at cm b17
         have f9:=cm _ _ jj
         refine⟨_,rfl,_,rfl,Z0 f9 f9 (by omega) fun c18 eo dR jm=> ?_⟩
         have b18:bf K p wd hg eo (.ref c18):=ZD jm (fun y hy=>by
           rcases List.mem_append.mp hy with m |m
           · exact Zv g2 lay y m
           · exact Zv g2 lay y m) (ZZ (by rw[List.length_append];omega))
         refine⟨(by show 4≤sizeLine;decide),fun ek jz=> ?_⟩
         have fN:=Zd (o:=.lst [V.aa,V.str "1x1: .",V.ref aS,V.ref c18]) jz
         refine⟨di,ek,_,_,rfl,rfl,fN _ _ (dR _ _ (cm _ _ e16)),Zb,(by show 5+4≤sizeLine;decide),fun dh jy=> ?_⟩
         have fM:=Zd (o:=.lst ([V.ref c11,V.ref c9,V.ref c13,V.ref c14,V.ref c15]++[V.aa,V.str "1x1: .",V.ref aS,V.ref c18])) jy
         have gm:upd (upd eo ek (.lst [V.aa,V.str "1x1: .",V.ref aS,V.ref c18])) dh (.lst ([V.ref c11,V.ref c9,V.ref c13,V.ref c14,V.ref c15]++[V.aa,V.str "1x1: .",V.ref aS,V.ref c18])) dh=some (.lst ([V.ref c11,V.ref c9,V.ref c13,V.ref c14,V.ref c15]++[V.aa,V.str "1x1: .",V.ref aS,V.ref c18])):=Zb
         generalize upd (upd eo ek (.lst [V.aa,V.str "1x1: .",V.ref aS,V.ref c18])) dh (HO.lst ([V.ref c11,V.ref c9,V.ref c13,V.ref c14,V.ref c15]++[V.aa,V.str "1x1: .",V.ref aS,V.ref c18]))=td at fM gm
         refine⟨_,rfl,fun dU jR fL fQ qJ=> ?_⟩
         have li:dU.length=12:=Paired.length fQ
         refine⟨by rw[li];decide,fun gv jx=> ?_⟩
         have fK:=Zd (o:=.lst dU) jx
         obtain⟨ci,rD,ju⟩:=WC a1 a2 fQ
         refine⟨_,rfl,gv,_,_,_,rfl,rfl,ai.of Zb,ju,?_⟩
         have sB:=fN.trans (fM.trans (fL.trans fK))
         have jJ:∀v∈[V.ref c11,V.ref c9,V.ref c13,V.ref c14,V.ref c15]++[V.aa,V.str "1x1: .",V.ref aS,V.ref c18],bf K p wd hg (upd jR gv (.lst dU)) v:=by
           intro v hv
           have sC:=dR.trans sB
           have sD:=cm.trans sC
           have sE:=cR.trans sD
           have sF:=cn.trans sE
           have sG:=cq.trans sF
           simp only[List.cons_append,List.nil_append,List.mem_cons,List.not_mem_nil,or_false]at hv
           rcases hv with rfl |rfl |rfl |rfl |rfl |rfl |rfl |rfl |rfl
           · exact b11.same (sA.trans sG)
           · exact dZ.same (sA.trans sG)
           · exact b13.same sG
           · exact b14.same sF
           · exact b15.same sE
           · exact Yq rfl rfl
           · exact Yq rfl (by decide)
           · exact b17.same sC
           · exact b18.same sB
         have fZ:ci< ([V.ref c11,V.ref c9,V.ref c13,V.ref c14,V.ref c15]++[V.aa,V.str "1x1: .",V.ref aS,V.ref c18]).length:=by show ci<9;omega
         refine⟨dh,_,_,_,rfl,rfl,ai.of ((fL.trans fK) _ _ gm),Z4 (List.getElem?_eq_getElem fZ),?_⟩
         have cQ:=bF.trans (bG.trans (sA.trans (cq.trans (cn.trans (cR.trans (cm.trans (dR.trans sB)))))))
         exact q _ _ (x6.trans cQ.x) (gA.same cQ) (jJ _ (List.getElem_mem fZ))
abbrev mG:Stmt:=top 37
def l6 (R:Hp→V→V→Prop):Sp:=fun vs H Q _=> ∃x y,vs=[x,y]∧R H x y∧∀H',ae H H'→Q (.bl true) H'
theorem uZ:bC ["_law_found", "_law_due"] ["_law_found", "_law_due"] (aq mG):=⟨rfl,rfl,rfl,by decide+kernel,rfl,by decide+kernel,by decide+kernel⟩
end
end U
namespace U
open PySem L2 PyProof.Rows PyProof.Rows.gu
section
variable {P:Program}{w:World}{K:PySem.W.Frag}{mg:Str→Option Value}{base:Heap}
def Rl (_:Hp) (x y:V):Prop:=(∃i:Int,x=.int i∧y=.int i)∨(∃k:Bool,x=.bl k∧y=.bl k)∨(x=.aa∧y=.aa)
theorem UE {f:Addr}{fd:FuncData}(F:ba K "_law_same" "_law_same" mG f fd) (G:Gs mg) {k:Nat} :az P w K mg base aP (k+1) f fd ["_law_found", "_law_due"] (l6 Rl):=by
 refine F.ok uZ (fun vs H Q E h=> ?_) (fun aj A outer s H vs Q E hr h=> ?_)
 ·obtain⟨x,y,rfl,_⟩:=h
  rfl
 ·obtain⟨x,y,rfl,r,q⟩:=h
  refine⟨_,Zh (ZU (Z1 (Zi (Jr (a:= "tuple") (b:= "list")) rfl G.isinstance boot_isinstance (Za (pv 1) (Za (ZE (Za (ZP (v:=.ty "tuple") rfl G.tuple boot_tuple rfl) (Za (ZP (v:=.ty "list") rfl G.list boot_list rfl) Zc))) Zc)))) ZR ZA)
   (Zk (Zs (ZJ (ZO YU (Zi (ZC (c:= "bool")) rfl G.isinstance boot_isinstance (Za (pv 0) (Za (ZP (v:=.ty "bool") rfl G.bool boot_bool rfl) Zc)))
     (Zi (ZC (c:= "bool")) rfl G.isinstance boot_isinstance (Za (pv 1) (Za (ZP (v:=.ty "bool") rfl G.bool boot_bool rfl) Zc))) (bQ _))
    (Z2 (ZO YU (pv 0) (pv 1) (bQ _)))))),?_⟩
  refine⟨_,rfl,(by show 2≤sizeLine;decide),fun t ht=> ?_⟩
  have s1:=Zd (o:=.tup [V.ty "tuple",V.ty "list"]) ht
  rcases r with ⟨i,rfl,rfl⟩ |⟨k,rfl,rfl⟩ |⟨rfl,rfl⟩
  ·refine⟨_,t,_,_,rfl,ah.of Zb,.inl ⟨i,rfl,rfl⟩,(show _=some false from rfl),_,rfl,aR ?_⟩
   refine⟨_,rfl,_,_,_,rfl,.int i,(show _=some false from rfl),_,rfl,_,_,_,rfl,.int i,(show _=some false from rfl),rfl,_,rfl,?_⟩
   refine av ⟨_,rfl,_,rfl,rfl,?_⟩
   have e:decide (V.int i=V.int i)=true:=decide_eq_true rfl
   rw[e]
   exact q _ s1
  ·refine⟨_,t,_,_,rfl,ah.of Zb,.inr (.inl ⟨k,rfl,rfl⟩),(show _=some false from rfl),_,rfl,aR ?_⟩
   refine⟨_,rfl,_,_,_,rfl,.bl k,(show _=some true from rfl),_,rfl,_,_,_,rfl,.bl k,(show _=some true from rfl),rfl,_,rfl,?_⟩
   refine av ⟨_,rfl,_,rfl,(by cases k<;>rfl),?_⟩
   have e:decide (V.bl k=V.bl k)=true:=decide_eq_true rfl
   rw[e]
   exact q _ s1
  ·refine⟨_,t,_,_,rfl,ah.of Zb,.inr (.inr (.inl ⟨rfl,rfl⟩)),(show _=some false from rfl),_,rfl,aR ?_⟩
   refine⟨_,rfl,_,_,_,rfl,.aa,(show _=some false from rfl),_,rfl,_,_,_,rfl,.aa,(show _=some false from rfl),rfl,_,rfl,?_⟩
   refine av ⟨_,rfl,_,rfl,rfl,?_⟩
   have e:decide (V.aa=V.aa)=true:=decide_eq_true rfl
   rw[e]
   exact q _ s1
end
section
def tw (Y:Cx) (cl:List (Str×Addr)) (x:Str) (v:V) (H:Hp) (s:Shared):Prop:=∃c u,cl.lookup x=some c∧s.heap.IsCell c (some u)∧RelV v u∧H c=none∧c∉ay Y.stack
def wG (so si:Scope):Bool:=si.names.all fun z=>z.2 !=.free||so.names.lookup z.1==some .cell||so.names.lookup z.1==some .free
theorem BF {X:Cx}{scope:Scope}(h:wG X.env.scope scope=true):∀z∈scope.names,z.2=.free→X.env.kindOf z.1=some .cell∨X.env.kindOf z.1=some .free:=fun z hz e=>by
 have:=List.all_eq_true.mp h z hz
 simp only[Bool.or_eq_true,bne_iff_ne,ne_eq,beq_iff_eq]at this
 rcases this with (h |h) |h
 ·exact absurd e h
 ·exact .inl h
 ·exact .inr h
end
section
variable {Y:Cx}{pins:List (Addr×Obj)}{σ:L2.St}{H:Hp}{s:Shared}
theorem UW {i:Nat}{x:Str}{v:V}{scope:Scope}(I:Inv Y pins σ H s) (hi:Y.N[i]? =some x) (gO:σ[i]? =some (some v)) (hk:Y.env.scope.names.lookup x=some .cell) (dX:Y.fn x=true) (dq:(x,NameKind.free)∈scope.names):tw Y (cg scope Y.env) x v H s:=by
 obtain⟨m,hn,hl⟩:=I.loc
 obtain⟨u,r,l⟩:=hl i x v hi gO (.inr (.inl hk))
 obtain⟨c,hc⟩:=Jc (env:=Y.env) dq
 have e1:=(Yf hc).1
 rcases l with ⟨eV,_⟩ |⟨_,c',bN,gj⟩
 ·have:Y.env.scope.names.lookup x=some .local:=eV
  rw[hk]at this
  cases this
 ·rw[bN]at e1
  have e2:c=c':=e1
  subst e2
  refine⟨c,u,hc,gj,r,I.cZ x c bN,fun hm=> ?_⟩
  rcases List.mem_cons.mp (I.kd c hm) with z |z
  ·exact I.dJ x c bN z
  ·obtain⟨_,o,ho,_⟩:=I.ok.cf.mem z
   exact absurd (Nat.lt_of_lt_of_le (Heap.lt_size ho) (I.ok.gq x c dX bN)) (Nat.lt_irrefl _)
theorem Bh {scope:Scope}{env:Env}{z:Str}{c:Addr}(h:(cg scope env).lookup z=some c):(z,NameKind.free)∈scope.names:=(Yf h).2
end
section
variable {X:Cx}{cS c P fR:Addr}{kf:Nat}
abbrev lq (X:Cx):Str:=X.env.qual++ "<lambda>"
theorem Z5 {H H':Hp}{P:Addr}{q:Str}(h:TabAt H P q) (s:ae H H'):TabAt H' P q:=by
 obtain⟨ps,h1,h2,h3⟩:=h
 exact⟨ps,s _ _ h1,h2,fun pos cv z=>by obtain⟨d,e,g⟩:=h3 pos cv z;exact⟨d,e,s _ _ g⟩⟩
structure LCtx (X:Cx) (cS c P fR:Addr) (kf:Nat):Prop where
 lam:sX X c P
 hR:∀b',Def X.prog X.w X.K X.mg b' (kf+2) "_law_refused" ["_law_call"] (kg X.prog X.w X.K X.mg b' cS (kf+1))
 room:bj (kf+2) X.A
 mR:X.mg "_law_refused" =some (.ref fR)
 kR:PySem.W.keepIn X.K (.ref fR)=true
structure LN (X:Cx) (x:Str) (i:Nat):Prop where
 nx:X.N[i]? =some x
 kx:X.env.scope.names.lookup x=some .cell
 fx:X.fn x=true
def pe (sp:Sp) (vs:List V) (C:Addr) (H:Hp):Prop:=∀Q' E',(∀e H',ae H H'→E' (.ref e) (some C) H')→sp vs H Q' E'
structure pk (params:Arguments) (body:Expr) (scope:Scope) (N:List Str):Prop where
 kind:scope.kind=.function
 co:scope.isCoroutine=false
 gen:scope.isGenerator=false
 fm:∀z∈scope.names,z.2≠.cell
 only:∀z∈scope.names,z.2=.free→z.1∈N
 free:∀x∈N,scope.names.lookup x=some .free
 bind:∀(q:Str) (cl:List (Str×Addr)) (pm:Value) (c:Addr) (ct:Value),bindArgs (PySem.W.kla_fn "<lambda>" q params body scope cl pm (.ref c) ct) ⟨[],[]⟩=pure []
def pG (X:Cx) (kf:Nat) (C:Addr) (f:Addr) (q:Str) (bd:Expr) (scope:Scope) (cl:List (Str×Addr)) (N:List Str) (ws:List V) (Pre:Hp→Prop):Prop:=
 ∀(df:Heap) (cc:Addr) (A:Around) (outer:List Env) (s2:Shared) (H2:Hp) (Q2:VK) (E2:XK),bj kf (A.deeper (PySem.W.envX q scope s2.heap.objs.size f (.ref cc) cl))→Pre H2→(∀e H',ae H2 H'→E2 (.ref e) (some C) H')→
  ∃t,PE (jF X.prog X.w X.K X.mg df N q scope f (.ref cc) cl A outer s2 H2 E2) bd t∧t (ws.map some) H2 Q2
theorem Uj {pins:List (Addr×Obj)}{σ:L2.St}{H:Hp}{s:Shared}{f C:Addr}{iC:Nat}{q:Str}{params:Arguments}{bd:Expr}{scope:Scope}{cl:List (Str×Addr)}{Q:VK}{N:List Str}{ws:List V}{Pre:Hp→Prop}(L:LCtx X cS c P fR kf)
  (LS:pk params bd scope N) (I:Inv X pins σ H s) (hl:pj H f q params bd scope cl) (hlen:ws.length=N.length) (eW:∀(i:Nat) x v,N[i]? =some x→ws[i]? =some v→tw X cl x v H s) (gS:∀z c,cl.lookup z=some c→(z,NameKind.free)∈scope.names)
  (yl:∀a b c,cl.lookup a=some c→cl.lookup b=some c→a=b) (hi:iC=0∨iC=1) (M:jM X.K X.mg cS C iC) (bad:pG X kf C f q bd scope cl N ws Pre) (pre:Pre H) (hq:∀l H',ae H H'→H l=none→H' l=some (.lst [.int (iC:Int)])→Q (.ref l) H'):
  wpAny (model X.prog X.w) X.A (call (.ref fR) [.ref f]) (EP X pins σ Q) X.xe s:=by
 obtain⟨df,st,e0,br⟩:=I.rebase
 obtain⟨pm,cc,ct,hf,hc⟩:=hl
 have T:Cells df scope cl N ws:=⟨hlen,fun u hu=>by
   rcases hu with hu |hu
   ·exact absurd rfl (LS.fm _ (PySem.mem_of_lookup hu))
   ·exact LS.only _ (PySem.mem_of_lookup hu) rfl,fun i a v h1 h2=>by
   obtain⟨ax,ux,lx,⟨ox,gx,dx⟩,rx,nx,fx⟩:=eW i a v h1 h2
   exact⟨LS.free a (List.mem_of_getElem? h1),ax,ux,lx,⟨ox,br _ _ gx nx fx,dx⟩,rx⟩,fun u c h=>LS.only _ (gS u c h) rfl,yl⟩
 have FL:az X.prog X.w X.K X.mg df (bA X.prog X.w) (kf+1) f (PySem.W.kla_fn "<lambda>" q params bd scope cl pm (.ref cc) ct) []
   (fun vs H2 Q2 E2=> (vs=[]∧H2 f=some (ir f q params bd scope cl pm cc ct)∧H2 cc=some (dI cc q))∧Pre H2∧∀e H',ae H2 H'→E2 (.ref e) (some C) H'):=by
  refine AW (k:=kf) T LS.kind LS.co LS.gen LS.fm (fun vs H2 Q2 E2 h=>h.1) fun A outer s2 H2 Q2 E2 kP h=> ?_
  exact bad df cc A outer s2 H2 Q2 E2 kP h.2.1 h.2.2
 obtain⟨CT,zL,FR,cU,hk,hb⟩:=L.hR df
 rw[L.mR]at cU
 cases cU
 refine wpAny_call (codeAny_mono (FR.run X.A X.stack s H ⟨[.ref f],[]⟩ [.ref f] [.ref f] Q E0 L.room e0 (hb s [.ref f] I.bp rfl) (.cons rfl .nil)
  ⟨f,_,_,C,iC,rfl,hi,M,fun h af=> ?_,FL,fun s2=> .of_eq (LS.bind q cl pm cc ct),fun Q' E' hE=> ⟨⟨rfl,hf,hc⟩,pre,hE⟩,hq⟩) fun r s' h=> ?_)
 ·have z:h.get? f=some _:=(af f _ hf).1
  exact⟨_,_,_,_,z⟩
 ·cases r with
  |error e=>exact h.elim
  |ok fl=>
   cases fl with
   |ret u=>exact I.after h
   |next=>exact False.elim h
   |brk=>exact False.elim h
   |cont=>exact False.elim h
def ud (X:Cx) (cS P:Addr) (kf:Nat) (bd:Expr) (scope:Scope) (N:List Str) (idx:List Nat):TE:=fun σ H Q=> ∃(ws:List V) (C:Addr) (iC:Nat) (Pre:Hp→Prop),ws.length=idx.length∧(∀(k i:Nat) v,idx[k]? =some i→ws[k]? =some v→σ[i]? =some (some v))∧TabAt H P (lq X)∧(iC=0∨iC=1)∧jM X.K X.mg cS C iC∧
 (∀f,pG X kf C f (lq X) bd scope (cg scope X.env) N ws Pre)∧(∀H',ar P H H'→Pre H')∧∀l H',ar P H H'→TabAt H' P (lq X)→H l=none→H' l=some (.lst [.int (iC:Int)])→Q (.ref l) H'
theorem U4 {params:Arguments}{scope:Scope}{bd:Expr}{p lp pos:Pos}{N:List Str}{idx:List Nat}(L:LCtx X cS c P fR kf) (LS:pk params bd scope N) (hN:idx.length=N.length) (BN:∀(k:Nat) x i,N[k]? =some x→idx[k]? =some i→LN X x i) (hg:Gl X "_law_refused") (ow:defaultsOf params X.env=([],[]))
  (dq:∀z∈scope.names,z.2=.free→X.env.kindOf z.1=some .cell∨X.env.kindOf z.1=some .free):
  PE X (.Call (.Name "_law_refused" p) [.Lambda params bd scope lp] [] pos) (ud X cS P kf bd scope N idx):=by
 intro pins s σ H Q I h
 obtain⟨ws,C,iC,Pre,w9,gO,tab,hi,M,bad,pre,q⟩:=h
 refine wpAny_Call_Name_kw (Yi I hg L.mR ?_ (by decide))
 have ha:PA X [.Lambda params bd scope lp] _:=Za (Bx L.lam ow dq) Zc
 refine PySem.W.callWith_K (h₀:=X.base) I.ok.mod.fV L.kR (ak (ha pos pins s σ H (fun vs H1=> ∃f,vs=[.ref f]∧ar P H H1∧TabAt H1 P (lq X)∧pj H1 f (lq X) params bd scope (cg scope X.env)) I ⟨tab,fun f H1 sx nf t1 l1=> ⟨f,rfl,sx,t1,l1⟩⟩) fun us s1 ⟨vs,H1,I1,r,f,ev,sx,t1,l1⟩=> ⟨I1.bp,?_⟩) rfl rfl
 subst ev
 obtain⟨u,rfl,ru⟩:=vals1 r
 cases ru
 refine Uj L LS I1 l1 (by rw[w9,hN]) (fun i x v h1 h2=> ?_) (fun z c h=>Bh h) (fun a b c h1 h2=> ?_) hi M (bad f) (pre H1 sx) fun l H2 s2 nl hl=>q l H2 (sx.trans s2.x) (Z5 t1 s2) ?_ hl
 ·have hi:i<idx.length:=by
   have:=(List.getElem?_eq_some_iff.mp h1).1
   omega
  have ei:=List.getElem?_eq_getElem hi
  have n:=BN i x _ h1 ei
  exact UW I1 n.nx (gO i _ v ei h2) n.kx n.fx (PySem.mem_of_lookup (LS.free x (List.mem_of_getElem? h1)))
 obtain⟨e1,m1⟩:=Yf h1
 obtain⟨e2,m2⟩:=Yf h2
 obtain⟨c1,g1⟩:=I1.ok.has a (dq _ m1 rfl)
 obtain⟨c2,g2⟩:=I1.ok.has b (dq _ m2 rfl)
 rw[g1]at e1
 rw[g2]at e2
 have z1:c1=c2:=by
  have y1:_=c1:=e1
  have y2:_=c2:=e2
  rw[←y1,←y2]
 subst z1
 exact I1.ok.inj _ _ _ g1 g2
 cases hh:H l with
 |none=>rfl
 |some u=>
  by_cases z:l=P
  ·obtain⟨ps,e,_⟩:=t1
   rw[z,e]at nl;cases nl
  ·rw[sx _ _ hh z]at nl;cases nl
end
section
theorem Bf {H H':Hp}{P p:Addr}{q:Str}{o:HO}(h:TabAt H P q) (s:ar p H H') (hp:H p=some o) (h1:∀ps,o≠.bE ps) (h2:∀c,o≠dI c q):TabAt H' P q:=by
 obtain⟨ps,e,t,f⟩:=h
 refine⟨ps,s _ _ e fun z=>by rw[z,hp]at e;cases e;exact h1 _ rfl,t,fun pos cv z=> ?_⟩
 obtain⟨d,e1,e2⟩:=f pos cv z
 exact⟨d,e1,s _ _ e2 fun z=>by rw[z,hp]at e2;cases e2;exact h2 _ rfl⟩
end
section
variable {X:Cx}{kf:Nat}
def cV (x y:Str) (p1 p2 p3 p4:Pos):Expr:=.Call (.Name "_law_call" p1) [.Name x p2,.Name y p3] [] p4
theorem Aw {k':Nat}{fn x y:Str}{ps:List Str}{sp:Sp}{scope:Scope}{C f g:Addr}{q:Str}{cl:List (Str×Addr)}{vx vy:V}{p1 p2 p3 p4:Pos}(eV:k'≤kf) (hU:∀b',dA X.prog X.w X.K X.mg b' k' fn ps sp) (mg:X.mg fn=some (.ref g))
  (kc:scope.names.lookup ("_law_call" :Str)=some .free) (kx:scope.names.lookup x=some .free) (ky:scope.names.lookup y=some .free) (dx:(x==("__debug__" :Str))=false) (dy:(y==("__debug__" :Str))=false)
  (ex:(x==("__classdict__" :Str))=false) (ey:(y==("__classdict__" :Str))=false):
  pG X kf C f q (cV x y p1 p2 p3 p4) scope cl ["_law_call",x,y] [.ref g,vx,vy] (pe sp [vx,vy] C):=by
 intro df cc A outer s2 H2 Q2 E2 hr pre hE
 obtain⟨g',fd,F,hg,hk,hb⟩:=hU df
 rw[mg]at hg
 cases hg
 refine⟨_,Ww (X:=jF X.prog X.w X.K X.mg df ["_law_call",x,y] q scope f (.ref cc) cl A outer s2 H2 E2) (i:=0) F (hr.mono eV) (Y5 (i:=0) rfl (.inr (.inr kc)) (by decide) (by decide)) hk hb .nil (E:=E2) (vJ (X:=jF X.prog X.w X.K X.mg df ["_law_call",x,y] q scope f (.ref cc) cl A outer s2 H2 E2) (fun e s' z=>z) rfl rfl rfl)
  (Za (Y5 (i:=1) rfl (.inr (.inr kx)) dx ex) (Za (Y5 (i:=2) rfl (.inr (.inr ky)) dy ey) Zc)),?_⟩
 exact⟨rfl,vx,rfl,vy,rfl,pre Q2 E2 hE⟩
end
section
theorem JG {K:PySem.W.Frag}{H H':Hp}{p:Addr}{v:V}(t:bV K H v) (s:ar p H H') (hn:v≠.ref p):ao H' v=ao H v:=by
 obtain⟨T,t⟩:=t
 cases t with
 |tup e=>rw[Zo e,Zo (s _ _ e fun z=>hn (by rw[z]))]
 |lst e=>rw[Zm,Zm,e,s _ _ e fun z=>hn (by rw[z])]
 |bw e=>rw[Zm,Zm,e,s _ _ e fun z=>hn (by rw[z])]
 |dK e=>rw[Zm,Zm,e,s _ _ e fun z=>hn (by rw[z])]
 |dT e=>rw[Zm,Zm,e,s _ _ e fun z=>hn (by rw[z])]
 |_=>rfl
theorem sQ {K:PySem.W.Frag}{H H':Hp}{p:Addr}{v:V}(t:bV K H v) (s:ar p H H') (hn:v≠.ref p):bV K H' v:=by
 obtain⟨T,t⟩:=t
 cases t with
 |tup e=>exact⟨_,.tup (s _ _ e fun z=>hn (by rw[z]))⟩
 |lst e=>exact⟨_,.lst (s _ _ e fun z=>hn (by rw[z]))⟩
 |bw e=>exact⟨_,.bw (s _ _ e fun z=>hn (by rw[z]))⟩
 |dK e=>exact⟨_,.dK (s _ _ e fun z=>hn (by rw[z]))⟩
 |dT e=>exact⟨_,.dT (s _ _ e fun z=>hn (by rw[z]))⟩
 |aa=>exact⟨_,.aa⟩
 |bl b=>exact⟨_,.bl b⟩
 |int i=>exact⟨_,.int i⟩
 |str x=>exact⟨_,.str x⟩
 |dY x=>exact⟨_,.dY x⟩
theorem sP {K:PySem.W.Frag}{H H':Hp}{p:Addr}{v:V}(t:bz K H v) (s:ar p H H') (n:fF p H v):bz K H' v:=by
 refine⟨sQ t.1 s n.1,fun xs e y hy=> ?_⟩
 rw[JG t.1 s n.1]at e
 exact sQ (t.2 xs e y hy) s (n.2 xs e y hy)
theorem A7 {K:PySem.W.Frag}{H H':Hp}{p q:Addr}{v:V}(t:bV K H v) (s:ar q H H') (hq:v≠.ref q) (n:fF p H v):fF p H' v:=⟨n.1,fun xs e=>n.2 xs (by rw[←JG t s hq];exact e)⟩
theorem WF {K:PySem.W.Frag}{H H':Hp}{p:Addr}{v:V}(b:dB K H v) (s:ar p H H') (n:fF p H v):dB K H' v:=⟨sP b.1 s n,by rw[JG b.1.1 s n.1];exact b.2⟩
theorem Jv {K:PySem.W.Frag}{H:Hp}{P:Addr}{ps:Array Value}{v:V}(t:bz K H v) (h:H P=some (.bE ps)):fF P H v:=by
 have key:∀y,bV K H y→y≠.ref P:=fun y ⟨T,ty⟩ z=>by
  subst z
  cases ty with
  |lst e=>rw[h]at e;cases e
  |bw e=>rw[h]at e;cases e
  |tup e=>rw[h]at e;cases e
  |dK e=>rw[h]at e;cases e
  |dT e=>rw[h]at e;cases e
 exact⟨key v t.1,fun xs e y hy=>key y (t.2 xs e y hy)⟩
abbrev fo:Arguments:= {posonlyargs:=[],args:=[],vararg:=none,kwonlyargs:=[],kw_defaults:=[],kwarg:=none,defaults:=[]}
end
end U
namespace U.T
open PySem L2 PyProof.Rows
section
variable {P:Program}{w:World}{K:PySem.W.Frag}{mg:Str→Option Value}{base:Heap}{cB cL:Addr}
def kM (wd hg:Int) (o:Option (List V)):Bool:=bR wd hg o&&(decide (wd=hg)&& !fX .aa (o.getD []))
theorem qM {wd hg:Int}{xs:List V}(h:bR wd hg (some xs)=true):xs.all du=true:=by
 unfold bR at h
 rw[Bool.and_eq_true,Bool.and_eq_true]at h
 have h2:=List.all_eq_true.mp h.1.2
 rw[List.all_eq_true]
 intro x hx
 by_cases hn:x=.aa
 ·rw[hn];rfl
 ·have:=h2 x (List.mem_filter.mpr ⟨hx,by simpa using hn⟩)
  cases x with
  |int i=>rfl
  |aa=>rfl
  |_=>cases this
abbrev kr:Stmt:=top 25
def ki (K:PySem.W.Frag):Sp:=fun vs H Q _=> ∃x y wd hg,vs=[x,y]∧cO H x wd hg∧bz K H y∧∀H',ae H H'→Q (.bl (kM wd hg (ao H y))) H'
theorem qi:bC ["board", "thing"] ["board", "thing"] (aq kr):=⟨rfl,rfl,rfl,by decide+kernel,rfl,by decide+kernel,by decide+kernel⟩
theorem vP {f:Addr}{fd:FuncData}(F:ba K "is_full" "is_full" kr f fd) (D1:Def P w K mg base 5 "is_lay" ["board", "thing"] (iU K)):az P w K mg base aP 6 f fd ["board", "thing"] (ki K):=by
 refine F.ok qi (fun vs H Q E h=> ?_) (fun aj A outer s H vs Q E hr h=> ?_)
 ·obtain⟨x,y,wd,hg,rfl,_⟩:=h
  rfl
 ·obtain⟨x,y,wd,hg,rfl,b,p,q⟩:=h
  refine⟨_,Zk (Zs (ZJ (Zj D1 hr (Za (pv 0) (Za (pv 1) Zc))) (ZJ (ZO YU (Zx ZI (pv 0) Zf (fun _ _=>rfl)) (Zx ZI (pv 0) Zf (fun _ _=>rfl)) (bQ _)) (Z2 (ZO Yh ZX (pv 1) rfl))))),?_⟩
  refine⟨_,rfl,_,rfl,x,y,wd,hg,rfl,b,p,fun H1 s1=> ⟨_,rfl,?_⟩⟩
  unfold kM at q
  cases hl:bR wd hg (ao H y) with
  |false=>rw[hl]at q;exact aR (q H1 s1)
  |true=>
   rw[hl,Bool.true_and]at q
   obtain⟨a,rfl,ha⟩:=Zq (b.same s1).1
   have t1:=ah.of (K:=K) ha
   refine av ⟨_,rfl,a,_,_,_,rfl,rfl,t1,dz,_,rfl,a,_,_,_,rfl,rfl,t1,bY,rfl,_,rfl,?_⟩
   have z:decide (V.int wd=V.int hg)=decide (wd=hg):=by simp
   rw[z]
   cases he:decide (wd=hg) with
   |false=>rw[he]at q;exact aR (q H1 s1)
   |true=>
    rw[he,Bool.true_and]at q
    cases ht:ao H y with
    |none=>rw[ht]at hl;cases hl
    |some xs=>
     rw[ht]at q hl
     obtain⟨c,rfl,hc⟩:=Zq ht
     exact av ⟨_,rfl,c,xs,rfl,.inr (ah.of (s1 _ _ hc)),rfl,qM hl,q H1 s1⟩
def kh (K:PySem.W.Frag) (cB:Addr):Sp:=fun vs H _ E=> ∃x y,vs=[x,y]∧dB K H x∧∀e H',ae H H'→E (.ref e) (some cB) H'
theorem vO {f:Addr}{fd:FuncData}(F:ba K "is_full" "is_full" kr f fd) (D1:dA P w K mg base 5 "is_lay" ["board", "thing"] (iT K cB)):az P w K mg base (bA P w) 6 f fd ["board", "thing"] (kh K cB):=by
 refine F.nA qi (fun vs H Q E h=> ?_) (fun aj A outer s H vs Q E hr h=> ?_)
 ·obtain⟨x,y,rfl,_⟩:=h
  rfl
 ·obtain⟨x,y,rfl,b,q⟩:=h
  refine⟨_,Zk (Zs (ZJ (J4 D1 hr (Za (pv 0) (Za (pv 1) Zc))) (ZJ (ZO YU (Zx ZI (pv 0) Zf (fun _ _=>rfl)) (Zx ZI (pv 0) Zf (fun _ _=>rfl)) (bQ _)) (Z2 (ZO Yh ZX (pv 1) rfl))))),?_⟩
  exact⟨x,rfl,y,rfl,x,y,rfl,b,q⟩
end
section
variable {P:Program}{w:World}{K:PySem.W.Frag}{mg:Str→Option Value}{base:Heap}
theorem tS {t:TE}{σ:L2.St}{H:Hp}{Q:VK}(R:V→Hp→Prop) (h2:∀v H',R v H'→Q v H') (h1:∀Q':VK,(∀v H',R v H'→Q' v H')→t σ H Q'):t σ H Q:=h1 Q h2
end
end U.T
namespace U
open PySem L2 PyProof.Rows
mutual
theorem WH {H H':Hp}(s:ae H H'):∀{v:V}{d:PyData},Sh H v d→Sh H' v d
 |_,_,.aa=> .aa
 |_,_,.bl b=> .bl b
 |_,_,.int i=> .int i
 |_,_,.str x=> .str x
 |_,_,.tup h r=> .tup (s _ _ h) (mq s r)
 |_,_,.lst h r=> .lst (s _ _ h) (mq s r)
 |_,_,.bU h=> .bU (s _ _ h)
theorem mq {H H':Hp}(s:ae H H'):∀{vs:List V}{ds:List PyData},fE H vs ds→fE H' vs ds
 |_,_,.nil=> .nil
 |_,_,.cons h r=> .cons (WH s h) (mq s r)
end
theorem Ui {H:Hp}{v:V}(h:ij v=true):∃d:PyData,Sh H v d∧d.showable=true∧d.shown.length≤1921∧d.depth=0∧d.hasDict=false:=by
 cases v with
 |int i=>exact⟨.int i,.int i,h,int_text_len_1921 (of_decide_eq_true h),rfl,rfl⟩
 |bl b=>exact⟨.bool b,.bl b,rfl,by cases b<;>decide,rfl,rfl⟩
 |aa=>exact⟨.none,.aa,rfl,by decide,rfl,rfl⟩
 |str x=>
  have h':(x== "0" ||x== "1x1: .")=true:=h
  rw[Bool.or_eq_true,beq_iff_eq,beq_iff_eq]at h'
  refine⟨.str x,.str x,rfl,?_,rfl,rfl⟩
  rcases h' with rfl |rfl<;>decide+kernel
 |_=>cases h
theorem YS:∀(ts:List Str) (k:Nat) (acc:Str),(textFrom k acc ts).length≤acc.length+piled ts
 | [],k,acc=>by show acc.length≤acc.length+0;omega
 |t::r,k,acc=>by
  have ih:=YS r (k+1) (acc++(if k>0 then ", " else "" :String)++t)
  have e:(acc++(if k>0 then ", " else "" :String)++t).length=acc.length+(if k>0 then 2 else 0)+t.length:=by
   rw[strLen_append,strLen_append]
   split<;>rfl
  rw[e]at ih
  show(textFrom (k+1) _ r).length≤_
  rw[piled_cons]
  have:(if k>0 then 2 else 0:Nat)≤2:=by split<;>omega
  omega
theorem WR (ts:List Str):(listText ts).length≤piled ts+2:=by
 unfold listText
 rw[strLen_append]
 have h1:=YS ts 0 "["
 have e1:((("[" :String):Str)).length=1:=rfl
 have e2:((("]" :String):Str)).length=1:=rfl
 rw[e1]at h1
 rw[e2]
 omega
theorem JY (ts:List Str):(tupleText ts).length≤piled ts+3:=by
 unfold tupleText
 rw[strLen_append,strLen_append]
 have e1:((("(" :String):Str)).length=1:=rfl
 have e3:(((if ts.length==1 then ",)" else ")" :String):Str)).length≤2:=by split<;>decide
 rw[e1]
 cases ts with
 |nil=>
  have:(Str.join ", " ([]:List Str)).length=0:=rfl
  omega
 |cons t r=>
  have:=join_length_add (t::r) (by simp)
  omega
theorem AO {H:Hp}{y:V}(h:dQ H y):∃d:PyData,Sh H y d∧d.showable=true∧d.shown.length≤1930∧d.depth≤1∧d.hasDict=false:=by
 rcases h with h |⟨b,z,rfl,hb,hz⟩
 ·obtain⟨d,h1,h2,h3,h4,h5⟩:=Ui (H:=H) h
  exact⟨d,h1,h2,by omega,by omega,h5⟩
 ·obtain⟨d,h1,h2,h3,h4,h5⟩:=Ui (H:=H) hz
  have ep:piled [d.shown]=d.shown.length+2:=by simp[piled]
  rcases hb with hb |hb
  ·refine⟨.tuple [d],.tup hb (.cons h1 .nil),?_,?_,?_,?_⟩
   ·show(d.showable&&true)=true
    rw[h2];rfl
   ·have:=JY [d.shown]
    show(tupleText [d.shown]).length≤1930
    omega
   ·show max d.depth 0+1≤1
    rw[h4];decide
   ·show(d.hasDict||false)=false
    rw[h5];rfl
  ·refine⟨.list [d],.lst hb (.cons h1 .nil),?_,?_,?_,?_⟩
   ·show(d.showable&&true)=true
    rw[h2];rfl
   ·have:=WR [d.shown]
    show(listText [d.shown]).length≤1930
    omega
   ·show max d.depth 0+1≤1
    rw[h4];decide
   ·show(d.hasDict||false)=false
    rw[h5];rfl
theorem U0 {H:Hp} :∀{xs:List V},(∀y∈xs,dQ H y)→∃ds:List PyData,fE H xs ds∧PyData.showableAll ds=true∧piled (PyData.shownAll ds)≤1932*xs.length∧PyData.depthAll ds≤1∧PyData.hasDictAll ds=false
 | [],_=> ⟨[],.nil,rfl,Nat.zero_le _,Nat.zero_le _,rfl⟩
 |x::xs,h=>by
  obtain⟨d,a1,a2,a3,a4,a5⟩:=AO (h x List.mem_cons_self)
  obtain⟨ds,b1,b2,b3,b4,b5⟩:=U0 (xs:=xs) fun y hy=>h y (List.mem_cons_of_mem _ hy)
  refine⟨d::ds,.cons a1 b1,?_,?_,?_,?_⟩
  ·show(d.showable&&PyData.showableAll ds)=true
   rw[a2,b2];rfl
  ·show piled (d.shown::PyData.shownAll ds)≤_
   rw[piled_cons,List.length_cons]
   omega
  ·show max d.depth (PyData.depthAll ds)≤1
   exact Nat.max_le.mpr ⟨a4,b4⟩
  ·show(d.hasDict||PyData.hasDictAll ds)=false
   rw[a5,b5];rfl
structure Rd (H:Hp) (v:V) (d:PyData):Prop where
 sh:Sh H v d
 ok:d.showable=true
 len:d.shown.length≤sizeLine
 dp:d.depth≤60
 bU:d.hasDict=true→∃a,v=.ref a∧H a=some (.dK [])
theorem Rd.same {H H':Hp}{v:V}{d:PyData}(r:Rd H v d) (s:ae H H'):Rd H' v d:=⟨WH s r.sh,r.ok,r.len,r.dp,fun h=>let ⟨a,e,h1⟩:=r.bU h;⟨a,e,s _ _ h1⟩⟩
theorem Be {p:Addr}{H:Hp}{v:V}(h:fB p H v):∃d,Rd H v d:=by
 rcases h with h |⟨a,xs,rfl,hl,ha,hy⟩ |⟨a,rfl,ha⟩
 ·obtain⟨d,h1,h2,h3,h4,h5⟩:=Ui (H:=H) h
  exact⟨d,h1,h2,by rw[sizeLine_eq];omega,by omega,fun z=>by rw[h5]at z;cases z⟩
 ·obtain⟨ds,b1,b2,b3,b4,b5⟩:=U0 hy
  rcases ha with ha |⟨_,ha⟩
  ·refine⟨.tuple ds,.tup ha b1,b2,?_,?_,fun z=> ?_⟩
   ·have:=JY (PyData.shownAll ds)
    show(tupleText (PyData.shownAll ds)).length≤sizeLine
    rw[sizeLine_eq]
    omega
   ·show PyData.depthAll ds+1≤60
    omega
   ·have z':PyData.hasDictAll ds=true:=z
    rw[b5]at z';cases z'
  ·refine⟨.list ds,.lst ha b1,b2,?_,?_,fun z=> ?_⟩
   ·have:=WR (PyData.shownAll ds)
    show(listText (PyData.shownAll ds)).length≤sizeLine
    rw[sizeLine_eq]
    omega
   ·show PyData.depthAll ds+1≤60
    omega
   ·have z':PyData.hasDictAll ds=true:=z
    rw[b5]at z';cases z'
 ·exact⟨.dict [],.bU ha,rfl,by decide+kernel,by decide,fun _=> ⟨a,rfl,ha⟩⟩
theorem dQ.x {p:Addr}{H H':Hp}{y:V}(h:dQ H y) (s:ar p H H') (st:bK H p):dQ H' y:=by
 obtain⟨u,v,e,_⟩:=st
 rcases h with h |⟨b,z,rfl,h |h,hz⟩
 ·exact .inl h
 ·exact .inr ⟨b,z,rfl,.inl (s _ _ h fun q=>by rw[q,e]at h;cases h),hz⟩
 ·exact .inr ⟨b,z,rfl,.inr (s _ _ h fun q=>by rw[q,e]at h;cases h),hz⟩
theorem fB.x {p:Addr}{H H':Hp}{v:V}(h:fB p H v) (s:ar p H H') (st:bK H p):fB p H' v:=by
 have bP:=id st
 obtain⟨u,w,e,_⟩:=st
 rcases h with h |⟨a,xs,rfl,hl,h |⟨n,h⟩,hy⟩ |⟨a,rfl,h⟩
 ·exact .inl h
 ·exact .inr (.inl ⟨a,xs,rfl,hl,.inl (s _ _ h fun q=>by rw[q,e]at h;cases h),fun y m=> (hy y m).x s bP⟩)
 ·exact .inr (.inl ⟨a,xs,rfl,hl,.inr ⟨n,s _ _ h n⟩,fun y m=> (hy y m).x s bP⟩)
 ·exact .inr (.inr ⟨a,rfl,s _ _ h fun q=>by rw[q,e]at h;cases h⟩)
section
variable {P:Program}{w:World}{K:PySem.W.Frag}{mg:Str→Option Value}{base:Heap}
abbrev mI:Stmt:=top 35
theorem ve:bC ["_law_thing", "_law_least", "_law_upto"] ["_law_thing", "_law_least", "_law_upto"] (aq mI):=⟨rfl,rfl,rfl,by decide+kernel,rfl,by decide+kernel,by decide+kernel⟩
theorem Bb {f:Addr}{fd:FuncData}(F:ba K "_law_whole" "_law_whole" mI f fd) (G:Gs mg):az P w K mg base aP 1 f fd ["_law_thing", "_law_least", "_law_upto"] (fI K):=by
 refine F.ok ve (fun vs H Q E h=> ?_) (fun aj A outer s H vs Q E hr h=> ?_)
 ·obtain⟨x,a,b,rfl,_⟩:=h
  rfl
 ·obtain⟨x,a,b,rfl,⟨T,t⟩,q⟩:=h
  refine⟨_,Zk (Zs (ZJ (Zi (ZC (c:= "int")) rfl G.isinstance boot_isinstance (Za (pv 0) (Za (ZP (v:=.ty "int") rfl G.int boot_int rfl) Zc)))
   (ZJ (Uu (Zi (ZC (c:= "bool")) rfl G.isinstance boot_isinstance (Za (pv 0) (Za (ZP (v:=.ty "bool") rfl G.bool boot_bool rfl) Zc))))
   (Z2 (J3 WO WO (pv 1) (pv 0) (pv 2)))))),?_⟩
  refine⟨x,rfl,x,_,_,rfl,t,WU t,_,rfl,?_⟩
  have kb:=J9 t
  cases x with
  |int i=>
   refine av ⟨_,rfl,_,_,_,rfl,t,kb,_,rfl,_,rfl,av ⟨_,rfl,_,rfl,_,_,rfl,rfl,_,rfl,?_⟩⟩
   have e:aT (.int i) a b=(decide (a≤i)&&decide (i≤b)):=rfl
   rw[e]at q
   cases e1:decide (a≤i) with
   |false=>rw[e1]at q;exact aR q
   |true=>rw[e1]at q;exact av ⟨_,rfl,_,_,rfl,rfl,q⟩
  |bl c=>exact av ⟨_,rfl,_,_,_,rfl,t,kb,_,rfl,_,rfl,aR q⟩
  |_=>exact aR q
end
end U
namespace U
open PySem L2 PyProof.Rows
section
variable {P:Program}{w:World}{K:PySem.W.Frag}{mg:Str→Option Value}{base:Heap}
abbrev nh:Stmt:=top 38
def mm (K:PySem.W.Frag):Sp:=fun vs H Q _=> ∃x,vs=[x]∧bz K H x∧Q (.bl (fW (ao H x))) H
theorem vi:bC ["_law_thing"] ["_law_thing"] (aq nh):=⟨rfl,rfl,rfl,by decide+kernel,rfl,by decide+kernel,by decide+kernel⟩
theorem BG {f:Addr}{fd:FuncData}(F:ba K "_law_board_good" "_law_board_good" nh f fd) (G:Gs mg) (D1:Def P w K mg base 1 "_law_whole" ["_law_thing", "_law_least", "_law_upto"] (fI K)):az P w K mg base aP 2 f fd ["_law_thing"] (mm K):=by
 refine F.ok vi (fun vs H Q E h=> ?_) (fun aj A outer s H vs Q E hr h=> ?_)
 ·obtain⟨x,rfl,_⟩:=h
  rfl
 ·obtain⟨x,rfl,⟨⟨T,t⟩,pl⟩,q⟩:=h
  refine⟨_,Zh (ZU (PW.pt (WI (Z9 (Z1 (Zi (ZC (c:= "tuple")) rfl G.isinstance boot_isinstance (Za (pv 0) (Za (ZP (v:=.ty "tuple") rfl G.tuple boot_tuple rfl) Zc)))))
    (JK (ZM Uy (Zi Zr rfl G.len boot_len (Za (pv 0) Zc)) Zf (bQ _))))) (Zk (Zs YT)) ZA)
   (Zk (Zs (ZJ (Zj D1 hr (Za (Zx ZI (pv 0) Zf (fun _ _=>rfl)) (Za Zf (Za Zf Zc)))) (Z2 (Zj D1 hr (Za (Zx ZI (pv 0) Zf (fun _ _=>rfl)) (Za Zf (Za Zf Zc)))))))),?_⟩
  refine Zy ⟨x,rfl,x,_,_,rfl,t,YO t,_,rfl,?_⟩
  cases e:ao H x with
  |none=>
   rw[e]at q
   exact av (av q)
  |some xs=>
   rw[e]at q
   obtain⟨a,rfl,ha⟩:=Zq e
   refine aR ⟨_,rfl,a,xs,rfl,.inr (ah.of ha),rfl,_,rfl,?_⟩
   have z:decide (V.int (xs.length:Int)=V.int 2)=decide (xs.length=2):=by
    by_cases h:xs.length=2
    ·rw[decide_eq_true h,decide_eq_true (by rw[h];rfl)]
    ·rw[decide_eq_false h,decide_eq_false (fun z=>h (by have:=V.int.inj z;omega))]
   rw[z]
   have kC:=pl xs e
   match xs,kC,ha,q with
   | [u,v],kC,ha,q=>
    refine aR (ZL ?_)
    dsimp only
    refine⟨_,rfl,a,_,0,u,rfl,rfl,ah.of ha,rfl,u,1,12,rfl,kC u (by simp),_,rfl,?_⟩
    have q':Q (.bl (aT u 1 12&&aT v 1 12)) H:=q
    cases hu:aT u 1 12 with
    |false=>rw[hu]at q';exact aR q'
    |true=>rw[hu]at q';exact av ⟨_,rfl,a,_,1,v,rfl,rfl,ah.of ha,rfl,v,1,12,rfl,kC v (by simp),q'⟩
   | [],_,_,q=>exact av q
   | [_],_,_,q=>exact av q
   |x1::x2::x3::r,_,_,q=>
    have:decide ((x1::x2::x3::r:List V).length=2)=false:=decide_eq_false (by simp)
    rw[this]
    exact av q
theorem Wr {H H1:Hp}{L:Addr}{o:HO}(s:ae H H1) (n:H L=none):ae H (upd H1 L o):=fun b u h=>by
 rw[Zg (fun z=>by rw[z,n]at h;cases h)]
 exact s _ _ h
theorem W4 {xs:List V}{i:Nat}{v:V}(h:xs[i]? =some v):rowsOf (xs.take (i+1))=rowsOf (xs.take i)++(if v=.aa then [] else [v]):=by
 unfold rowsOf
 rw[List.take_add_one,h,List.filter_append]
 congr 1
 by_cases e:v=.aa
 ·rw[if_pos e,e];rfl
 ·rw[if_neg e]
  simp[e]
theorem Bk {r:Int}{zs:List V}(h:∀z∈zs,∃i:Int,z=.int i):fX (.int r) zs=decide (V.int r∈zs):=by
 induction zs with
 |nil=>rfl
 |cons z zs ih=>
  obtain⟨i,rfl⟩:=h z List.mem_cons_self
  have qQ:=ih fun y hy=>h y (List.mem_cons_of_mem _ hy)
  unfold fX at qQ ⊢
  rw[List.any_cons,qQ]
  by_cases e:i=r
  ·subst e
   simp[bO]
  ·have:bO (.int i) (.int r)=false:=by simp[bO,e]
   rw[this,Bool.false_or]
   have:(V.int r∈V.int i::zs)↔V.int r∈zs:=by
    rw[List.mem_cons]
    exact⟨fun h=>h.resolve_left fun z=>e (by cases z;rfl),.inr⟩
   exact(decide_eq_decide.mpr this).symm
abbrev mJ:Stmt:=top 36
def me (K:PySem.W.Frag):Sp:=fun vs H Q _=> ∃(b:Addr) (y:V) (wd hg:Int),vs=[.ref b,y]∧cO H (.ref b) wd hg∧bz K H y∧(∀xs,ao H y=some xs→xs.length≤1000)∧∀H',ae H H'→Q (.bl (bR wd hg (ao H y))) H'
abbrev wg:List Str:=["_law_board_here", "_law_thing", "_law_met", "_law_row"]
theorem mw:bC wg ["_law_board_here", "_law_thing"] (aq mJ):=⟨rfl,rfl,rfl,by decide+kernel,rfl,by decide+kernel,by decide+kernel⟩
theorem AY {wd hg:Int}{xs:List V}{v:V}(hv:v∈xs) (hn:v≠.aa) (h:aT v 0 (hg - 1)=false):bR wd hg (some xs)=false:=by
 show(decide ((xs.length:Int)=wd)&&((rowsOf xs).all fun r=>aT r 0 (hg - 1))&&decide (rowsOf xs).Nodup)=false
 have:((rowsOf xs).all fun r=>aT r 0 (hg - 1))=false:=by
  rw[List.all_eq_false]
  exact⟨v,List.mem_filter.mpr ⟨hv,by simp[hn]⟩,by rw[h];simp⟩
 rw[this,Bool.and_false,Bool.false_and]
theorem AZ {wd hg:Int}{xs:List V}(h:¬(rowsOf xs).Nodup):bR wd hg (some xs)=false:=by
 show(decide ((xs.length:Int)=wd)&&((rowsOf xs).all fun r=>aT r 0 (hg - 1))&&decide (rowsOf xs).Nodup)=false
 rw[decide_eq_false h,Bool.and_false]
theorem BI {f:Addr}{fd:FuncData}(F:ba K "_law_lay_good" "_law_lay_good" mJ f fd) (G:Gs mg) (D1:Def P w K mg base 1 "_law_whole" ["_law_thing", "_law_least", "_law_upto"] (fI K)):az P w K mg base aP 2 f fd ["_law_board_here", "_law_thing"] (me K):=by
 refine F.ok mw (fun vs H Q E h=> ?_) (fun aj A outer s H vs Q E hr h=> ?_)
 ·obtain⟨b,y,wd,hg,rfl,_⟩:=h
  rfl
 ·obtain⟨b,y,wd,hg,rfl,bd,⟨⟨T,t⟩,pl⟩,ln,q⟩:=h
  refine⟨_,Zh (ZU (PW.pt (WI (Z9 (Z1 (Zi (ZC (c:= "tuple")) rfl G.isinstance boot_isinstance (Za (pv 1) (Za (ZP (v:=.ty "tuple") rfl G.tuple boot_tuple rfl) Zc)))))
    (JK (ZM Uy (Zi Zr rfl G.len boot_len (Za (pv 1) Zc)) (Zx ZI (pv 0) Zf (fun _ _=>rfl)) (bQ _))))) (Zk (Zs YT)) ZA)
   (Zh (Zt (i:=2) mw.nd rfl (Or.inl rfl) (Zu Zc))
   (Zh (Yt PassesOwn.never rfl (JP (pv 1)) (ZN (i:=3) mw.nd rfl (Or.inl rfl))
    (Zk (ZU (Wt (JQ (pv 3)))
     (Zh (ZU (PW.pt (WI (Z9 (Z1 (Zj D1 hr (Za (pv 3) (Za Zf (Za (Zn JR (Zx ZI (pv 0) Zf (fun _ _=>rfl)) Zf) Zc)))))) (JK (ZM W7 (pv 3) (pv 2) rfl)))) (Zk (Zs YT)) ZA)
     (Zk (Yx (J5 PySem.F.plainAttrs_list PySem.F.slot_list_append PySem.F.type_list_append YN (pv 2) (Za (pv 3) Zc))))) ZA)))
   (Zk (Zs YT)))),?_⟩
  obtain⟨b',eb,hb⟩:=Zq bd.1
  cases eb
  obtain⟨_,w1,w2,g1,g2⟩:=id bd
  refine Zy ⟨y,rfl,y,_,_,rfl,t,YO t,_,rfl,?_⟩
  cases e:ao H y with
  |none=>
   rw[e]at q
   exact av (av (q H (ae.refl H)))
  |some xs=>
   rw[e]at q
   have Ck:=ln xs e
   have nu:=pl xs e
   obtain⟨a,rfl,ha⟩:=Zq e
   refine aR ⟨_,rfl,a,xs,rfl,.inr (ah.of ha),_,rfl,b,_,_,_,rfl,rfl,ah.of hb,dz,rfl,_,rfl,?_⟩
   by_cases hlen:(xs.length:Int)=wd
   ·have z:decide (V.int (xs.length:Int)=V.int wd)=true:=decide_eq_true (by rw[hlen])
    rw[z]
    refine aR (ZL ?_)
    dsimp only
    refine Zy (ZW ⟨Nat.zero_le _,fun m hm=>Zz ?_⟩)
    dsimp only[List.set]
    have s1:=Zd (o:=.lst []) hm
    have e1:upd H m (.lst []) m=some (.lst []):=Zb
    generalize upd H m (HO.lst [])=H1 at s1 e1
    refine Zy ⟨_,rfl,a,rfl,⟨xs,ah.of (s1 _ _ ha)⟩,?_⟩
    refine AR (xs:=xs) (fun i σ H'=> ∃v3,σ=[some (.ref b),some (.ref a),some (.ref m),v3]∧ae H H'∧H' m=some (.lst (rowsOf (xs.take i)))∧(∀r∈rowsOf (xs.take i),aT r 0 (hg - 1)=true)∧(rowsOf (xs.take i)).Nodup) ⟨_,rfl,s1,e1,(fun r h=>by cases h),List.nodup_nil⟩ (fun i σ H' _ ⟨_,_,s',_⟩=>ah.of (s' _ _ ha)) ?_ ?_
    ·rintro i v σ H2 hv ⟨v3,rfl,s2,e2,iq,i8⟩
     have hi:=(List.getElem?_eq_some_iff.mp hv).1
     have er:=W4 hv
     refine Zz ?_
     dsimp only[List.set]
     refine⟨_,rfl,_,rfl,?_⟩
     by_cases hn:v=.aa
     ·subst hn
      rw[if_pos rfl,List.append_nil]at er
      refine aR (ZL ⟨_,rfl,s2,?_,?_,?_⟩)<;>rw[er]
      ·exact e2
      ·exact iq
      ·exact i8
     ·rw[if_neg hn]at er
      have gS:v∈xs:=List.mem_of_getElem? hv
      have qP:∀r∈rowsOf (xs.take i),∃k:Int,r=.int k:=fun r cb=>by
       have:=iq r cb
       cases r with
       |int k=>exact⟨k,rfl⟩
       |_=>cases this
      have rH:=s2 _ _ hb
      have qu:bV K H2 v:=s2.ip (nu v gS)
      have qF:aT v 0 (hg - 1)=false→Q (.bl false) H2:=fun hw=>by
       have h:=q H2 s2
       rw[AY gS hn hw]at h
       exact h
      cases v with
      |aa=>exact absurd rfl hn
      |int k=>
       refine av (Zy ⟨_,rfl,_,rfl,b,_,_,_,rfl,rfl,ah.of rH,bY,_,_,rfl,rfl,_,0,hg - 1,rfl,qu,_,rfl,?_⟩)
       cases hw:aT (.int k) 0 (hg - 1) with
       |false=>exact av (av (qF hw))
       |true=>
        have flat:(rowsOf (xs.take i)).all du=true:=List.all_eq_true.mpr fun r cb=>by
         obtain⟨z,rfl⟩:=qP r cb
         rfl
        refine aR ⟨_,rfl,_,rfl,m,_,rfl,.inl (ai.of e2),rfl,flat,_,rfl,?_⟩
        refine(show if (if false=true then !fX (.int k) (rowsOf (xs.take i)) else fX (.int k) (rowsOf (xs.take i)))=true then _ else _ from ?_)
        rw[if_neg Bool.false_ne_true,Bk qP]
        by_cases fw:V.int k∈rowsOf (xs.take i)
        ·rw[decide_eq_true fw]
         have nn:¬(rowsOf xs).Nodup:=fun nd=>by
          have sub:(rowsOf (xs.take (i+1))).Sublist (rowsOf xs):=List.Sublist.filter _ (List.take_sublist _ _)
          have:=nd.sublist sub
          rw[er]at this
          exact(List.nodup_append.mp this).2.2 _ fw _ (by simp) rfl
         have h:=q H2 s2
         rw[AZ nn]at h
         exact av h
        ·rw[decide_eq_false fw]
         refine aR (ZL ?_)
         dsimp only
         have nm:H m=none:=hm
         refine⟨_,rfl,.inl ⟨rfl,_,ai.of e2⟩,_,rfl,m,_,_,rfl,rfl,e2,?_,ZL ⟨_,rfl,Wr s2 nm,?_,?_,?_⟩⟩
         ·have h1:(rowsOf (xs.take i)).length≤(xs.take i).length:=List.length_filter_le _ _
          rw[List.length_take]at h1
          rw[sizeLine_eq]
          omega
         ·rw[Zb,er]
         ·rw[er]
          intro r cb
          rcases List.mem_append.mp cb with h |h
          ·exact iq r h
          ·rw[List.mem_singleton.mp h];exact hw
         ·rw[er]
          exact List.nodup_append.mpr ⟨i8,by simp,fun x hx y hy e=>fw (by rw[List.mem_singleton.mp hy]at e;rw[←e];exact hx)⟩
      |_=>exact av (Zy ⟨_,rfl,_,rfl,b,_,_,_,rfl,rfl,ah.of rH,bY,_,_,rfl,rfl,_,0,hg - 1,rfl,qu,_,rfl,av (av (qF rfl))⟩)
    ·rintro σ H2 ⟨v3,rfl,s2,e2,iq,i8⟩
     rw[List.take_length]at iq i8
     have:bR wd hg (some xs)=true:=by
      show(decide ((xs.length:Int)=wd)&&((rowsOf xs).all fun r=>aT r 0 (hg - 1))&&decide (rowsOf xs).Nodup)=true
      rw[decide_eq_true hlen,List.all_eq_true.mpr iq,decide_eq_true i8]
      rfl
     rw[this]at q
     exact q H2 s2
   ·have z:decide (V.int (xs.length:Int)=V.int wd)=false:=decide_eq_false (fun z=>hlen (by cases z;rfl))
    rw[z]
    have:bR wd hg (some xs)=false:=by
     show(decide ((xs.length:Int)=wd)&&((rowsOf xs).all fun r=>aT r 0 (hg - 1))&&decide (rowsOf xs).Nodup)=false
     rw[decide_eq_false hlen,Bool.false_and,Bool.false_and]
    rw[this]at q
    exact av (q H (ae.refl H))
structure tu (K:PySem.W.Frag) (mg:Str→Option Value) (cS:Addr) (cs:Nat→Addr):Prop where
 s:mg "StepError" =some (.ref cS)
 m:∀i,i<15→mg (nG.getD i "")=some (.ref (cs i))
 x:∀i,i<15→PySem.W.excIn K (cs i) iG "ValueError.__new__" =true
 z:∀i,i<15→fH K (cs i)
 k:∀i,i<15→PySem.W.kitOne K (.ref (cs i)) (.ref cS)=some true
def iL (cs:Nat→Addr) (H:Hp) (v:V) (i:Nat):Prop:=∃e:Addr,v=.ref e∧H e=some (aY e (cs i))
theorem iL.same {cs:Nat→Addr}{H H':Hp}{v:V}{i:Nat}(h:iL cs H v i) (s:ae H H'):iL cs H' v i:=let ⟨e,e1,h1⟩:=h;⟨e,e1,s _ _ h1⟩
abbrev mV:Stmt:=top 39
def mh:Sp:=fun vs H Q _=>vs=[]∧∀H',ae H H'→Q (.bl true) H'
theorem kl:bC ["_law_made"] [] (aq mV):=⟨rfl,rfl,rfl,by decide+kernel,rfl,by decide+kernel,by decide+kernel⟩
theorem BH {f cS:Addr}{cs:Nat→Addr}{fd:FuncData}(F:ba K "_law_errors_right" "_law_errors_right" mV f fd) (G:Gs mg) (X:tu K mg cS cs):az P w K mg base aP 1 f fd [] mh:=by
 refine F.ok kl (fun vs H Q E h=> ?_) (fun aj A outer s H vs Q E hr h=> ?_)
 ·obtain⟨rfl,_⟩:=h
  rfl
 ·obtain⟨rfl,q⟩:=h
  refine⟨_,Zh (Zt (i:=0) kl.nd rfl (Or.inl rfl) (Zu (Za (ZQ PySem.F.excBase_ValueError (X.m 0 (by decide)) (X.x 0 (by decide)) rfl (Za ZH Zc)) (Za (ZQ PySem.F.excBase_ValueError (X.m 1 (by decide)) (X.x 1 (by decide)) rfl (Za ZH Zc)) (Za (ZQ PySem.F.excBase_ValueError (X.m 2 (by decide)) (X.x 2 (by decide)) rfl (Za ZH Zc)) (Za (ZQ PySem.F.excBase_ValueError (X.m 3 (by decide)) (X.x 3 (by decide)) rfl (Za ZH Zc)) (Za (ZQ PySem.F.excBase_ValueError (X.m 4 (by decide)) (X.x 4 (by decide)) rfl (Za ZH Zc)) Zc)))))))
   (Zh (Zt (i:=0) kl.nd rfl (Or.inl rfl) (Zn Yb (pv 0) (Zu (Za (ZQ PySem.F.excBase_ValueError (X.m 5 (by decide)) (X.x 5 (by decide)) rfl (Za ZH Zc)) (Za (ZQ PySem.F.excBase_ValueError (X.m 6 (by decide)) (X.x 6 (by decide)) rfl (Za ZH Zc)) (Za (ZQ PySem.F.excBase_ValueError (X.m 7 (by decide)) (X.x 7 (by decide)) rfl (Za ZH Zc)) (Za (ZQ PySem.F.excBase_ValueError (X.m 8 (by decide)) (X.x 8 (by decide)) rfl (Za ZH Zc)) (Za (ZQ PySem.F.excBase_ValueError (X.m 9 (by decide)) (X.x 9 (by decide)) rfl (Za ZH Zc)) Zc))))))))
   (Zh (Zt (i:=0) kl.nd rfl (Or.inl rfl) (Zn Yb (pv 0) (Zu (Za (ZQ PySem.F.excBase_ValueError (X.m 10 (by decide)) (X.x 10 (by decide)) rfl (Za ZH Zc)) (Za (ZQ PySem.F.excBase_ValueError (X.m 11 (by decide)) (X.x 11 (by decide)) rfl (Za ZH Zc)) (Za (ZQ PySem.F.excBase_ValueError (X.m 12 (by decide)) (X.x 12 (by decide)) rfl (Za ZH Zc)) (Za (ZQ PySem.F.excBase_ValueError (X.m 13 (by decide)) (X.x 13 (by decide)) rfl (Za ZH Zc)) (Za (ZQ PySem.F.excBase_ValueError (X.m 14 (by decide)) (X.x 14 (by decide)) rfl (Za ZH Zc)) Zc))))))))
   (Zk (Zs (Zi Jf rfl G.all boot_all (Za (Yz ["_law_error"] 1 [] (Yo (pv 0)) (fun C s H fp=>pb 0) (fun C s H fp=>YY)
    (fun C s H fp D=>Z6 rfl (Zi (show cj (bJ _ _ _ C s H fp) (.builtin "isinstance") (fun xs H Q=> ∃e C y c b,xs=[.ref e,y]∧H e=some (aY e C)∧fH K C∧(∀u,RelV y u→u=c)∧PySem.W.kitOne K (.ref C) c=some b∧Q (.bl b) H) from Zl) rfl G.isinstance boot_isinstance (Za (pv 0) (Za (Zw (v:=.ref cS) rfl X.s rfl) Zc))))) Zc)))))),?_⟩
  have jC:∀(k:Nat) (H0:Hp) (pH:L2.St) (Q':VK),(∀(L:Addr) (vs:List V) (H':Hp),ae H0 H'→H0 L=none→H' L=some (.lst vs)→Paired (iL cs H') vs [k,k+1,k+2,k+3,k+4]→Q' (.ref L) H')→
    lW (cC (hV (cs k) (cC (tC (.str "a text")) dO)) (cC (hV (cs (k+1)) (cC (tC (.str "a text")) dO)) (cC (hV (cs (k+2)) (cC (tC (.str "a text")) dO)) (cC (hV (cs (k+3)) (cC (tC (.str "a text")) dO)) (cC (hV (cs (k+4)) (cC (tC (.str "a text")) dO)) dO))))) pH H0 Q':=by
   intro k H0 pH Q' q'
   refine⟨(by show 1≤sizeLine;decide),fun e0 h0=> ?_⟩
   have s0:=Zd (o:=aY e0 (cs k)) h0
   have a0:upd H0 e0 (aY e0 (cs k)) e0=some (aY e0 (cs k)):=Zb
   generalize upd H0 e0 (aY e0 (cs k))=H1 at s0 a0
   refine⟨(by show 1≤sizeLine;decide),fun e1 h1=> ?_⟩
   have s1:=Zd (o:=aY e1 (cs (k+1))) h1
   have a1:upd H1 e1 (aY e1 (cs (k+1))) e1=some (aY e1 (cs (k+1))):=Zb
   generalize upd H1 e1 (aY e1 (cs (k+1)))=H2 at s1 a1
   refine⟨(by show 1≤sizeLine;decide),fun e2 h2=> ?_⟩
   have s2:=Zd (o:=aY e2 (cs (k+2))) h2
   have a2:upd H2 e2 (aY e2 (cs (k+2))) e2=some (aY e2 (cs (k+2))):=Zb
   generalize upd H2 e2 (aY e2 (cs (k+2)))=H3 at s2 a2
   refine⟨(by show 1≤sizeLine;decide),fun e3 h3=> ?_⟩
   have s3:=Zd (o:=aY e3 (cs (k+3))) h3
   have a3:upd H3 e3 (aY e3 (cs (k+3))) e3=some (aY e3 (cs (k+3))):=Zb
   generalize upd H3 e3 (aY e3 (cs (k+3)))=H4 at s3 a3
   refine⟨(by show 1≤sizeLine;decide),fun e4 h4=> ?_⟩
   have s4:=Zd (o:=aY e4 (cs (k+4))) h4
   have a4:upd H4 e4 (aY e4 (cs (k+4))) e4=some (aY e4 (cs (k+4))):=Zb
   generalize upd H4 e4 (aY e4 (cs (k+4)))=H5 at s4 a4
   refine⟨(by show 5≤sizeLine;decide),fun L hL=> ?_⟩
   have s5:=Zd (o:=.lst [V.ref e0,.ref e1,.ref e2,.ref e3,.ref e4]) hL
   have iY:=s4.trans s5
   have qm:=s3.trans iY
   have cn:=s2.trans qm
   have kA:=s1.trans cn
   have n5:=(s0.trans (s1.trans (s2.trans (s3.trans s4)))).free hL
   exact q' L _ _ (s0.trans kA) n5 Zb (.cons ⟨e0,rfl,kA _ _ a0⟩ (.cons ⟨e1,rfl,cn _ _ a1⟩ (.cons ⟨e2,rfl,qm _ _ a2⟩ (.cons ⟨e3,rfl,iY _ _ a3⟩ (.cons ⟨e4,rfl,s5 _ _ a4⟩ .nil)))))
  refine Zy (ZW (jC 0 H _ _ fun L1 aV H1 s1 n1 e1 i6=>Zz ?_))
  dsimp only[List.set]
  have l1:aV.length=5:=Paired.length i6
  refine Zy (ZW ⟨_,rfl,jC 5 H1 _ _ fun L2 aU H2 s2 n2 e2 i5=> ?_⟩)
  have l2:aU.length=5:=Paired.length i5
  refine⟨L1,L2,aV,aU,rfl,rfl,s2 _ _ e1,e2,by rw[l1,l2,sizeLine_eq];decide,fun L3 h3=>Zz ?_⟩
  dsimp only[List.set]
  have s3:=Zd (o:=.lst (aV++aU)) h3
  have e3:upd H2 L3 (.lst (aV++aU)) L3=some (.lst (aV++aU)):=Zb
  have qv:Paired (iL cs (upd H2 L3 (.lst (aV++aU)))) (aV++aU) ([0,0+1,0+2,0+3,0+4]++[5,5+1,5+2,5+3,5+4]):=Paired.app (Paired.fS i6 fun v i h=>h.same (s2.trans s3)) (Paired.fS i5 fun v i h=>h.same s3)
  generalize upd H2 L3 (HO.lst (aV++aU))=H3 at s3 e3 qv
  refine Zy (ZW ⟨_,rfl,jC 10 H3 _ _ fun L4 ff H4 s4 n4 e4 i4=> ?_⟩)
  have l4:ff.length=5:=Paired.length i4
  refine⟨L3,L4,aV++aU,ff,rfl,rfl,s4 _ _ e3,e4,by rw[List.length_append,l1,l2,l4,sizeLine_eq];decide,fun L5 h5=>Zz ?_⟩
  dsimp only[List.set]
  have s5:=Zd (o:=.lst (aV++aU++ff)) h5
  have e5:upd H4 L5 (.lst (aV++aU++ff)) L5=some (.lst (aV++aU++ff)):=Zb
  have nt:Paired (iL cs (upd H4 L5 (.lst (aV++aU++ff)))) (aV++aU++ff) ([0,0+1,0+2,0+3,0+4]++[5,5+1,5+2,5+3,5+4]++[10,10+1,10+2,10+3,10+4]):=Paired.app (Paired.fS qv fun v i h=>h.same (s4.trans s5)) (Paired.fS i4 fun v i h=>h.same s5)
  have l5:(aV++aU++ff).length=15:=by rw[List.length_append,List.length_append,l1,l2,l4]
  generalize aV++aU++ff=vs at e5 nt l5 s5 ⊢
  generalize upd H4 L5 (HO.lst vs)=H5 at s5 e5 nt
  have small:∀i∈([0,0+1,0+2,0+3,0+4]++[5,5+1,5+2,5+3,5+4]++[10,10+1,10+2,10+3,10+4]:List Nat),i<15:=by decide
  have kA:=s1.trans (s2.trans (s3.trans (s4.trans s5)))
  refine⟨_,rfl,L5,rfl,⟨vs,ai.of e5⟩,?_⟩
  refine Jw (xs:=vs) (fun i zs σ H6=> ∃v0,σ=[v0]∧H6=H5∧zs=List.replicate i (V.bl true)) ⟨_,rfl,rfl,rfl⟩ (fun i zs σ H6 _ ⟨_,_,e,_⟩=>by rw[e];exact ai.of e5) ?_ ?_
  ·rintro i v zs σ H6 hv ⟨v0,rfl,rfl,rfl⟩
   obtain⟨k,hk,e,rfl,he⟩:=Paired.at nt hv
   have hi:i<vs.length:=(List.getElem?_eq_some_iff.mp hv).1
   have rn:=small k (List.mem_of_getElem? hk)
   refine Zz ?_
   dsimp only[List.set]
   try unfold lV
   refine av ?_
   refine⟨_,rfl,e,cs k,.ref cS,.ref cS,true,rfl,he,X.z k rn,fun u hu=>hu,X.k k rn,by rw[List.length_replicate,sizeLine_eq];omega,_,rfl,rfl,?_⟩
   rw[List.replicate_succ']
  ·rintro zs σ H6 ⟨v0,rfl,rfl,rfl⟩ p hp
   refine⟨p,List.replicate vs.length true,rfl,?_,?_⟩
   ·rw[List.map_replicate]
    exact ai.of Zb
   ·have e:(List.replicate vs.length true).all id=true:=by simp
    rw[e]
    exact q _ (kA.trans (Zd hp))
end
theorem W6 {X:Cx}{k:Nat}{x:Str}{sp:Sp}{p pos:Pos}(d:Def X.prog X.w X.K X.mg X.base k x [] sp) (hr:bj k X.A) (hg:Gl X x:=by rfl) (dr:(x==("__debug__" :Str))=false:=by decide):PE X (.Call (.Name x p) [] [] pos) (hW sp [] E0 dO):=by
 obtain⟨f,fd,F,hm,hk,hb⟩:=d
 exact Uw F hr hg hm hk hb .nil qC dr
theorem lsN {bd:Expr}{N:List Str}{scope:Scope}(h:(decide (scope.kind=.function)&& !scope.isCoroutine&& !scope.isGenerator&&scope.names.all (fun z=>z.2 !=.cell)&&scope.names.all (fun u=>u.2 !=.free||N.contains u.1)&&N.all (fun x=>scope.names.lookup x==some .free))=true):pk fo bd scope N:=by
 simp only[Bool.and_eq_true,Bool.not_eq_true',decide_eq_true_eq,beq_iff_eq,List.all_eq_true,bne_iff_ne,ne_eq,Bool.or_eq_true,List.contains_iff_mem]at h
 obtain⟨⟨⟨⟨⟨h1,h2⟩,h3⟩,h4⟩,h5⟩,h6⟩:=h
 exact⟨h1,h2,h3,h4,fun u hu e=> (h5 u hu).resolve_left fun z=>z e,h6,fun _ _ _ _ _=>rfl⟩
theorem vH {σ:L2.St}{i j l:Nat}{a b c:V}(h1:σ[i]? =some (some a)) (h2:σ[j]? =some (some b)) (h3:σ[l]? =some (some c)):∀(k i':Nat) v,[i,j,l][k]? =some i'→[a,b,c][k]? =some v→σ[i']? =some (some v):=fun k i' v e1 e2=>by
 match k,e1,e2 with
 |0,e1,e2=>cases e1;cases e2;exact h1
 |1,e1,e2=>cases e1;cases e2;exact h2
 |2,e1,e2=>cases e1;cases e2;exact h3
 |k+3,e1,e2=>simp at e1
theorem wB {X:Cx}{x y z:Str}{i j l:Nat}(h1:LN X x i) (h2:LN X y j) (h3:LN X z l):∀(k:Nat) u m,[x,y,z][k]? =some u→[i,j,l][k]? =some m→LN X u m:=fun k u m e1 e2=>by
 match k,e1,e2 with
 |0,e1,e2=>cases e1;cases e2;exact h1
 |1,e1,e2=>cases e1;cases e2;exact h2
 |2,e1,e2=>cases e1;cases e2;exact h3
 |k+3,e1,e2=>simp at e1
section
variable {K:PySem.W.Frag}
theorem ZY {H:Hp}{a:Addr}{xs:List V}(h:H a=some (.tup xs)) (hp:∀y∈xs,bV K H y):bz K H (.ref a):=⟨⟨_,.tup h⟩,fun ys e y hy=>by
 rw[Zo h]at e
 cases e
 exact hp y hy⟩
theorem U3 {H:Hp}{a:Addr}{xs:List V}(h:H a=some (.lst xs)):bz K H (.ref a):=⟨⟨_,.lst h⟩,fun ys e=>by
 have e0:ao H (.ref a)=none:=by rw[Zm,h];rfl
 rw[e0]at e;cases e⟩
def Th (K:PySem.W.Frag) (p:Addr) (H:Hp) (v:V):Prop:=bz K H v∧fB p H v
theorem Th.same {p:Addr}{H H':Hp}{v:V}(t:Th K p H v) (s:ae H H'):Th K p H' v:=⟨t.1.same s,t.2.same s⟩
theorem Th.x {p:Addr}{H H':Hp}{v:V}(t:Th K p H v) (s:ar p H H') (st:bK H p):Th K p H' v:=by
 have h2:=t.2.x s st
 obtain⟨u,w,e,_⟩:=id st
 refine⟨sP t.1 s ⟨fun z=> ?_,fun xs ex y hy z=> ?_⟩,h2⟩
 ·subst z
  rcases t.2 with h |⟨a,xs,z,_,h |⟨n,_⟩,_⟩ |⟨a,z,h⟩
  ·cases h
  ·cases z;rw[e]at h;cases h
  ·cases z;exact n rfl
  ·cases z;rw[e]at h;cases h
 ·subst z
  rcases t.2 with h |⟨a,ys,rfl,_,h,wX⟩ |⟨a,rfl,h⟩
  ·cases v with
   |ref a=>cases h
   |_=>cases ex
  ·rcases h with h |⟨_,h⟩
   ·rw[Zo h]at ex
    cases ex
    rcases wX _ hy with h' |⟨b,z,hz,h' |h',_⟩
    ·cases h'
    ·cases hz;rw[e]at h';cases h'
    ·cases hz;rw[e]at h';cases h'
   ·have e0:ao H (.ref a)=none:=by rw[Zm,h];rfl
    rw[e0]at ex;cases ex
  ·have e0:ao H (.ref a)=none:=by rw[Zm,h];rfl
   rw[e0]at ex;cases ex
theorem Th.len {p:Addr}{H:Hp}{v:V}(t:Th K p H v):∀xs,ao H v=some xs→xs.length≤1000:=fun xs ex=>by
 rcases t.2 with h |⟨a,ys,rfl,hl,h,_⟩ |⟨a,rfl,h⟩
 ·cases v with
  |ref a=>cases h
  |_=>cases ex
 ·rcases h with h |⟨_,h⟩
  ·rw[Zo h]at ex
   cases ex
   exact hl
  ·have e0:ao H (.ref a)=none:=by rw[Zm,h];rfl
   rw[e0]at ex;cases ex
 ·have e0:ao H (.ref a)=none:=by rw[Zm,h];rfl
  rw[e0]at ex;cases ex
theorem Y1 {p:Addr}{H:Hp}{a:Addr}{xs:List V}(h:H a=some (.tup xs)) (hl:xs.length≤1000) (hp:∀y∈xs,fc K H y):Th K p H (.ref a):=⟨ZY h fun y hy=> (hp y hy).1,.inr (.inl ⟨a,xs,rfl,hl,.inl h,fun y hy=> (hp y hy).2⟩)⟩
theorem UX {p:Addr}{H H':Hp}{v:V}(b:dB K H v∧fF p H v) (s:ar p H H'):dB K H' v∧fF p H' v:=⟨WF b.1 s b.2,A7 b.1.1.1 s b.2.1 b.2⟩
theorem Z3 {H:Hp}{ns:List Int} :∀y∈ns.map V.int,bV K H y:=fun y hy=>by
 obtain⟨i,_,rfl⟩:=List.mem_map.mp hy
 exact⟨_,.int i⟩
end
section
variable {P:Program}{w:World}{K:PySem.W.Frag}{mg:Str→Option Value}{base:Heap}
abbrev bu:Stmt:=top 40
def md (K:PySem.W.Frag) (Pt:Addr):Sp:=fun vs H Q _=> ∃(a:Addr) (ns:List Int),vs=[.ref a]∧cG K H a ns∧ns.length≤63∧H Pt=some (.bE #[])∧∀H',Q (.bl true) H'
abbrev cK:List Str:=["_law_script", "_law_k", "_law_state_here", "_law_none", "_law_board_here", "_law_lay_here", "_law_near", "_law_thing", "_law_things", "_law_due", "_law_kept", "_law_call"]
theorem dm:bC cK ["_law_script"] (aq bu):=⟨rfl,rfl,rfl,by decide+kernel,rfl,by decide+kernel,by decide+kernel⟩
theorem Bp {f c Pt fR cS cB gL gF:Addr}{oc:Value}{od an:Option Addr}{kV doc pm ct:Value}{cJ:Array (Option Value)}
  (lk:K.lookup f=some ⟨oc,od,.func (PySem.W.fnOf "law" "law" (dc bu) (bB bu) (aq bu) .none kV doc pm an (.ref c) ct),cJ⟩) (bI:PySem.W.codeIn K (.ref c) "law" =true) (G:Gs mg)
  (BV:Def P w K mg base 2 "_law_state" ["_law_script", "_law_k"] (l0 K)) (BX:Def P w K mg base 2 "_law_no_board" ["_law_state_here"] (l8 K)) (B3:Def P w K mg base 2 "_law_board" ["_law_state_here", "_law_upto"] mj)
  (Dl:Def P w K mg base 2 "_law_lay" ["_law_state_here", "_law_board_here"] (mi K)) (BW:Def P w K mg base 2 "_law_no_lay" ["_law_state_here", "_law_board_here", "_law_lay_here"] (l7 K))
  (B0:Def P w K mg base 3 "is_board" ["thing"] (ig K)) (B2:Def P w K mg base 2 "_law_board_good" ["_law_thing"] (mm K)) (BY:Def P w K mg base 2 "_law_lay_good" ["_law_board_here", "_law_thing"] (me K))
  (BZ:Def P w K mg base 5 "is_lay" ["board", "thing"] (iU K)) (pC:Def P w K mg base 6 "is_full" ["board", "thing"] (T.ki K)) (pB:Def P w K mg base 1 "_law_same" ["_law_found", "_law_due"] (l6 Rl)) (B1:Def P w K mg base 1 "_law_errors_right" [] mh)
  (hR:∀b',Def P w K mg b' 8 "_law_refused" ["_law_call"] (kg P w K mg b' cS 7)) (hL:∀b',dA P w K mg b' 5 "is_lay" ["board", "thing"] (iT K cB)) (hF:∀b',dA P w K mg b' 6 "is_full" ["board", "thing"] (T.kh K cB))
  (mL:mg "is_lay" =some (.ref gL)) (mF:mg "is_full" =some (.ref gF)) (mR:mg "_law_refused" =some (.ref fR)) (kR:PySem.W.keepIn K (.ref fR)=true)
  (M0:jM K mg cS cB 0) (hC:PySem.W.CodeHd base c Pt)
  (oA:∃bm ob,mg "__builtins__" =some (.ref bm)∧bm≠builtinsNs∧base.get? bm=some ob∧ob.cls=.type "module" ∧ob.dict=some builtinsNs∧ob.data=.plain):
  az P w K mg base aP 9 f (PySem.W.fnOf "law" "law" (dc bu) (bB bu) (aq bu) .none kV doc pm an (.ref c) ct) ["_law_script"] (md K Pt):=by
 refine UL lk bI dm (fun vs H Q E h=> ?_) (fun A outer s H vs Q E hr h=> ?_)
 ·obtain⟨a,ns,rfl,_⟩:=h
  rfl
 ·obtain⟨a,ns,rfl,qe,jf,xp,q⟩:=h
  have C:LCtx (bc aP P w K mg base cK "law" (aq bu) f (.ref c) A outer s H E).bZ cS c Pt fR 6:=⟨⟨rfl,hC,oA⟩,hR,hr,mR,kR⟩
  have NC:LN (bc aP P w K mg base cK "law" (aq bu) f (.ref c) A outer s H E).bZ "_law_call" 11:=⟨rfl,rfl,rfl⟩
  have NN:LN (bc aP P w K mg base cK "law" (aq bu) f (.ref c) A outer s H E).bZ "_law_none" 3:=⟨rfl,rfl,rfl⟩
  have NT:LN (bc aP P w K mg base cK "law" (aq bu) f (.ref c) A outer s H E).bZ "_law_thing" 7:=⟨rfl,rfl,rfl⟩
  have hu:=hr.units
  have rq:(bc aP P w K mg base cK "law" (aq bu) f (.ref c) A outer s H E).bZ.A.guards=some []:=hr.gd
  have main:∃t,cH (bc aP P w K mg base cK "law" (aq bu) f (.ref c) A outer s H E).bZ (bB bu) t∧t {nx:=fun _ H'=>Q .aa H',rt:=Q} (start cK [.ref a]) H:=by
   refine⟨_,(Zh (Yt PassesOwn.never rfl (Yn rfl G.range (Za (Zi (JB rfl) rfl G.max boot_max (Za Zf (Za (Zi (Ug rfl) rfl G.min boot_min (Za (Zi Zr rfl G.len boot_len (Za (pv 0) Zc)) (Za Zf Zc))) Zc))) Zc)) (ZN (i:=1) dm.nd rfl (Or.inl rfl)) (Zh (Zt (i:=2) dm.nd rfl (Or.inr rfl) (Zj BV (hr.mono (by decide)) (Za (pv 0) (Za (pv 1) Zc)))) (Zh (JO (ZE (Za (Zj BX (hr.mono (by decide)) (Za (pv 2) Zc)) (Za (Zj B3 (hr.mono (by decide)) (Za (pv 2) (Za Zf Zc))) Zc))) (Us rfl (Yy (ZN (i:=3) dm.nd rfl (Or.inr rfl)) (Yy (ZN (i:=4) dm.nd rfl (Or.inr rfl)) WL)))) (Zh (Zt (i:=5) dm.nd rfl (Or.inr rfl) (Zj Dl (hr.mono (by decide)) (Za (pv 2) (Za (pv 4) Zc)))) (Zh (Zt (i:=6) dm.nd rfl (Or.inl rfl) (Zu (Za (WM (pv 4)) (Za (Zn Z8 (pv 4) (ZE (Za Zf Zc))) (Za (Ye YK (pv 4) Ym (Yl Zf)) (Za (ZS YH rfl G.list boot_list (Za (pv 4) Zc)) (Za (ZE (Za (Zx ZI (pv 4) Zf (fun _ _=>rfl)) (Za Zf Zc))) (Za (ZE (Za Zf (Za (Zx ZI (pv 4) Zf (fun _ _=>rfl)) Zc))) (Za (ZE Zc) Zc))))))))) (Zh (Yt PassesOwn.never rfl (Yo (Zn Yb (Zu (Za (pv 4) (Za (pv 3) Zc))) (pv 6))) (ZN (i:=7) dm.nd rfl (Or.inr rfl)) (Zk (ZU (Z9 (Z1 (Zj pB (hr.mono (by decide)) (Za (Zj B0 (hr.mono (by decide)) (Za (pv 7) Zc)) (Za (Zj B2 (hr.mono (by decide)) (Za (pv 7) Zc)) Zc))))) ZR ZA))) (Zh (Zt (i:=8) dm.nd rfl (Or.inl rfl) (Zu (Za (pv 5) (Za (WM (pv 5)) (Za (Zn U6 (ZE (Za ZX Zc)) (Zx ZI (pv 4) Zf (fun _ _=>rfl))) (Za (ZS Jd rfl G.tuple boot_tuple (Za (ZS YV rfl G.range boot_range (Za (Zx ZI (pv 4) Zf (fun _ _=>rfl)) Zc)) Zc)) (Za (ZE Zc) (Za ZX Zc)))))))) (Zh (Yt PassesOwn.never rfl (Yo (Zn Yb (pv 8) (Yz ["_law_turn", "_law_state_here", "_law_board_here", "_law_lay_here"] 1 [2,4,5] (Yn rfl G.range (Za Zf Zc)) (fun C s H fp=>pb 0) (fun C s H fp=>YY) (fun C s H fp D=>Z6 rfl (Zj BW (hr.mono (by decide)) (Za (pv 1) (Za (pv 2) (Za (pv 3) Zc)))))))) (ZN (i:=7) dm.nd rfl (Or.inr rfl)) (Zh (Up (i:=9) (j:=10) rfl dm.nd rfl rfl (by decide) rfl rfl (Za (Zj BY (hr.mono (by decide)) (Za (pv 4) (Za (pv 7) Zc))) (Za (Zi (Je hu rq) rfl G.repr PyProof.Rows.Boot.«repr» (Za (pv 7) Zc)) Zc)) rfl) (Zh (ZU (Z9 (Z1 (Zj pB (hr.mono (by decide)) (Za (Zj BZ (hr.mono (by decide)) (Za (pv 4) (Za (pv 7) Zc))) (Za (pv 9) Zc))))) ZR ZA) (Zh (ZU (Z9 (Z1 (Zj pB (hr.mono (by decide)) (Za (Zj pC (hr.mono (by decide)) (Za (pv 4) (Za (pv 7) Zc))) (Za (ZJ (pv 9) (ZJ (ZO YU (Zx ZI (pv 4) Zf (fun _ _=>rfl)) (Zx ZI (pv 4) Zf (fun _ _=>rfl)) (bQ _)) (Z2 (ZO Yh ZX (pv 7) rfl)))) Zc))))) ZR ZA) (Zk (ZU (ZM Uy (Zi (Je hu rq) rfl G.repr PyProof.Rows.Boot.«repr» (Za (pv 7) Zc)) (pv 10) (bQ _)) ZR ZA)))))) (Zk (Yt PassesOwn.never rfl (Yo (Zu (Za (Zw (v:=.ref gL) rfl mL rfl) (Za (Zw (v:=.ref gF) rfl mF rfl) Zc)))) (ZN (i:=11) dm.nd rfl (Or.inr rfl)) (Zk (Yt PassesOwn.never rfl (Yo (Zu (Za (pv 5) (Za ZX Zc)))) (ZN (i:=7) dm.nd rfl (Or.inr rfl)) (Zk (ZU (ZM (Bw (BD hr)) (U4 (params:=fo) (bd:=cV "_law_none" "_law_thing" _ _ _ _) (idx:=[11,3,7]) C (lsN (by kernel_rfl)) rfl (wB NC NN NT) rfl rfl (BF (by kernel_rfl))) (Zu (Za Zf Zc)) (bQ _)) ZR ZA)))))))))))))) (Zk (Zs (ZJ (W6 B1 (hr.mono (by decide))) (ZJ (ZO Uz (Zj pC (hr.mono (by decide)) (Za (ZE (Za Zf (Za Zf Zc))) (Za (ZE (Za Zf (Za Zf Zc))) Zc))) YT (bQ _)) (Z2 (ZO Uz (Zj pC (hr.mono (by decide)) (Za (ZE (Za Zf (Za Zf Zc))) (Za (ZE (Za Zf (Za Zf Zc))) Zc))) YT (bQ _)))))))),?_⟩
   have tZ:TabAt H Pt (lq (bc aP P w K mg base cK "law" (aq bu) f (.ref c) A outer s H E).bZ):=⟨#[],xp,trivial,fun pos cv z=>by cases z⟩
   refine Zy ?_
   refine⟨_,rfl,a,_,rfl,.inl qe.sq,_,_,rfl,_,_,rfl,_,rfl,(by rw[List.length_map];split<;>split<;>omega),(by rw[List.length_map];split<;>split<;>omega),?_⟩
   refine Jz (fun i σ H'=> ∃s1 s2 s3 s4 s5 s6 s7 s8 s9 bF bG,σ=[some (.ref a),s1,s2,s3,s4,s5,s6,s7,s8,s9,bF,bG]∧cG K H' a ns∧TabAt H' Pt (lq (bc aP P w K mg base cK "law" (aq bu) f (.ref c) A outer s H E).bZ)) ⟨_,_,_,_,_,_,_,_,_,_,_,rfl,qe,tZ⟩ ?_ ?_
   ·rintro i σ H0 hi ⟨q1,q2,q3,q4,q5,q6,q7,q8,q9,vE,qt,rfl,qd,tY⟩
    rw[Int.zero_add]
    refine Zz ?_
    dsimp only[List.set]
    refine Zy (ZW ⟨_,rfl,_,rfl,a,ns,i,rfl,qd.sq,fun p H1 np k1 dP=>Zz ?_⟩)
    dsimp only[List.set]
    have uV:=qd.same k1
    have tX:=Z5 tY k1
    have step:∀{Ha Hb:Hp},ar p Ha Hb→bK Ha p→cG K Ha a ns→TabAt Ha Pt (lq (bc aP P w K mg base cK "law" (aq bu) f (.ref c) A outer s H E).bZ)→cG K Hb a ns∧TabAt Hb Pt (lq (bc aP P w K mg base cK "law" (aq bu) f (.ref c) A outer s H E).bZ):=fun x st sc tb=>by
     obtain⟨u,v,e,_⟩:=st
     exact⟨sc.x x e (fun _ _ z=>by cases z),Bf tb x e (fun _ z=>by cases z) (fun _ z=>by cases z)⟩
    refine Zy (ZW ⟨_,rfl,p,rfl,dP,fun vn H2 x2 cD bn nn=> ⟨_,rfl,p,12,rfl,cD,by decide,by decide,fun b H3 wd hg w1 w2 g1 g2 x3 cI hb nb=> ⟨(by show 2≤sizeLine;decide),fun tq xo=> ?_⟩⟩⟩)
    obtain⟨uU,tW⟩:=step x2 dP uV tX
    obtain⟨uT,tV⟩:=step x3 cD uU tW
    have AA:=UX ⟨bn,nn⟩ x3
    have s4:=Zd (o:=.tup [vn,.ref b]) xo
    have e4:upd H3 tq (.tup [vn,.ref b]) tq=some (.tup [vn,.ref b]):=Zb
    generalize upd H3 tq (HO.tup [vn,V.ref b])=H4 at s4 e4
    refine⟨tq,_,rfl,ah.of e4,rfl,_,_,rfl,_,_,rfl,rfl,?_⟩
    dsimp only[List.set]
    have rG:=s4 _ _ hb
    have jG:∀{H':Hp},H' b=some (.tup [V.int wd,V.int hg])→cO H' (.ref b) wd hg:=fun h=> ⟨Zo h,w1,w2,g1,g2⟩
    have iS:=cI.same s4
    have Az:=UX AA s4.x
    refine Zy (ZW ⟨_,rfl,_,rfl,p,b,wd,hg,rfl,iS,jG rG,fun l H5 xs x5 dk el nl ly=>Zz ?_⟩)
    dsimp only[List.set]
    obtain⟨uS,tT⟩:=step x5 iS (uT.same s4) (Z5 tV s4)
    have sr:=UX Az x5
    have fA:=x5 _ _ rG nb
    have lx:=ly.len
    have qx:∀{H':Hp},∀y∈xs,fc K H' y:=fun y hy=>Zv g2 ly y hy
    refine Zy (ZW ⟨_,rfl,b,_,rfl,ah.of fA,fun r1 h1=> ?_⟩)
    have u1:=Zd (o:=.tup [V.int hg,V.int wd]) h1
    have p1:bz K (upd H5 r1 (.tup [V.int hg,V.int wd])) (.ref r1):=ZY Zb (Z3 (ns:=[hg,wd]))
    change cC _ _ _ (upd H5 r1 (.tup [V.int hg,V.int wd])) _
    generalize upd H5 r1 (HO.tup [V.int hg,V.int wd])=G1 at u1 p1
    refine⟨_,rfl,(by show 1≤sizeLine;decide),fun t2 kN=> ?_⟩
    have pM:=Zd (o:=.tup [V.int 1]) kN
    refine Z0 ((u1.trans pM) _ _ fA) Zb (by show 2+1≤1000;decide) fun r2 G2 lQ e2=> ?_
    have u2:=pM.trans lQ
    have p2:bz K G2 (.ref r2):=ZY e2 (Z3 (ns:=[wd,hg,1]))
    have v2:=u1.trans u2
    refine⟨_,rfl,((1:Nat):Int),rfl,UU (K:=K) (k:=1) (v2 _ _ fA) (by show 1<2;decide) fun r3 h3=> ?_⟩
    have u3:=Zd (o:=.tup [V.int wd]) h3
    have p3:bz K (upd G2 r3 (.tup [V.int wd])) (.ref r3):=ZY Zb (Z3 (ns:=[wd]))
    change cC _ _ _ (upd G2 r3 (.tup [V.int wd])) _
    generalize upd G2 r3 (HO.tup [V.int wd])=G3 at u3 p3
    have v3:=v2.trans u3
    refine⟨_,rfl,b,_,rfl,.inr (ah.of (v3 _ _ fA)),fun r4 h4=> ?_⟩
    have u4:=Zd (o:=.lst [V.int wd,V.int hg]) h4
    have p4:bz K (upd G3 r4 (.lst [V.int wd,V.int hg])) (.ref r4):=U3 Zb
    generalize upd G3 r4 (HO.lst [V.int wd,V.int hg])=G4 at u4 p4
    have v4:=v3.trans u4
    refine⟨_,rfl,b,_,_,_,rfl,rfl,ah.of (v4 _ _ fA),dz,(by show 2≤sizeLine;decide),fun r5 h5=> ?_⟩
    have u5:=Zd (o:=.tup [V.int wd,V.int 12]) h5
    have p5:bz K (upd G4 r5 (.tup [V.int wd,V.int 12])) (.ref r5):=ZY Zb (Z3 (ns:=[wd,12]))
    generalize upd G4 r5 (HO.tup [V.int wd,V.int 12])=G5 at u5 p5
    have v5:=v4.trans u5
    refine⟨_,rfl,b,_,_,_,rfl,rfl,ah.of (v5 _ _ fA),bY,(by show 2≤sizeLine;decide),fun r6 h6=> ?_⟩
    have u6:=Zd (o:=.tup [V.int 1,V.int hg]) h6
    have p6:bz K (upd G5 r6 (.tup [V.int 1,V.int hg])) (.ref r6):=ZY Zb (Z3 (ns:=[1,hg]))
    generalize upd G5 r6 (HO.tup [V.int 1,V.int hg])=G6 at u6 p6
    have v6:=v5.trans u6
    refine⟨Nat.zero_le _,fun r7 h7=> ?_⟩
    have u7:=Zd (o:=.tup []) h7
    have p7:bz K (upd G6 r7 (.tup [])) (.ref r7):=ZY Zb (Z3 (ns:=[]))
    generalize upd G6 r7 (HO.tup [])=G7 at u7 p7
    have v7:=v6.trans u7
    refine⟨(by show 7≤sizeLine;decide),fun N hN=>Zz ?_⟩
    dsimp only[List.set]
    have u8:=Zd (o:=.lst [V.ref r1,.ref r2,.ref r3,.ref r4,.ref r5,.ref r6,.ref r7]) hN
    have e8:upd G7 N (.lst [V.ref r1,.ref r2,.ref r3,.ref r4,.ref r5,.ref r6,.ref r7]) N=some (.lst [V.ref r1,.ref r2,.ref r3,.ref r4,.ref r5,.ref r6,.ref r7]):=Zb
    generalize upd G7 N (HO.lst [V.ref r1,.ref r2,.ref r3,.ref r4,.ref r5,.ref r6,.ref r7])=G8 at u8 e8
    have v8:=v7.trans u8
    have sJ:∀v∈[V.ref r1,.ref r2,.ref r3,.ref r4,.ref r5,.ref r6,.ref r7],bz K G8 v:=fun v hv=>by
     simp only[List.mem_cons,List.not_mem_nil,or_false]at hv
     have w7:=u7.trans u8
     have w6:=u6.trans w7
     have w5:=u5.trans w6
     have w4:=u4.trans w5
     have w3:=u3.trans w4
     have w2:=u2.trans w3
     rcases hv with rfl |rfl |rfl |rfl |rfl |rfl |rfl
     ·exact p1.same w2
     ·exact p2.same w3
     ·exact p3.same w4
     ·exact p4.same w5
     ·exact p5.same w6
     ·exact p6.same w7
     ·exact p7.same u8
    refine Zy ⟨_,rfl,_,rfl,(by show 2≤sizeLine;decide),fun M1 zb=> ⟨_,rfl,?_⟩⟩
    have u9:=Zd (o:=.lst [V.ref b,vn]) zb
    have e9:upd G8 M1 (.lst [V.ref b,vn]) M1=some (.lst [V.ref b,vn]):=Zb
    generalize upd G8 M1 (HO.lst [V.ref b,vn])=G9 at u9 e9
    refine⟨M1,N,_,_,rfl,rfl,e9,u9 _ _ e8,(by show 2+7≤sizeLine;decide),fun M2 ll=> ⟨M2,rfl,⟨_,ai.of Zb⟩,?_⟩⟩
    generalize CC:[V.ref r1,V.ref r2,V.ref r3,V.ref r4,V.ref r5,V.ref r6,V.ref r7]=nv at e8 sJ ll ⊢
    have lR:=Zd (o:=.lst ([V.ref b,vn]++nv)) ll
    have e10:upd G9 M2 (.lst ([V.ref b,vn]++nv)) M2=some (.lst ([V.ref b,vn]++nv)):=Zb
    generalize upd G9 M2 (HO.lst ([V.ref b,vn]++nv))=Ha at lR e10
    have va:=v8.trans (u9.trans lR)
    have AH:∀v∈[V.ref b,vn]++nv,bz K Ha v:=fun v hv=>by
     rcases List.mem_append.mp hv with hv |hv
     ·simp only[List.mem_cons,List.not_mem_nil,or_false]at hv
      rcases hv with rfl |rfl
      ·exact ZY (va _ _ fA) (Z3 (ns:=[wd,hg]))
      ·exact sr.1.1.same va
     ·exact(sJ v hv).same (u9.trans lR)
    refine YF (xs:=[V.ref b,vn]++nv) (fun j σ H'=> ∃v7,σ=[some (.ref a),some (.int (i:Int)),some (.ref p),some vn,some (.ref b),some (.ref l),some (.ref N),v7,q8,q9,vE,qt]∧ae Ha H') ⟨_,rfl,ae.refl _⟩ (fun j σ H' _ ⟨_,_,s⟩=>ai.of (s _ _ e10)) ?_ ?_
    ·rintro j v σ H' hv ⟨v7,rfl,s9⟩
     have pv:=(AH v (List.mem_of_getElem? hv)).same s9
     refine Zz ?_
     dsimp only[List.set]
     refine⟨_,rfl,v,rfl,pv,fun fe bF=> ⟨_,rfl,v,rfl,pv.same bF,_,_,rfl,.inr (.inl ⟨_,rfl,?_⟩),fun jS bG=> ⟨true,rfl,aR (ZL ⟨_,rfl,s9.trans (bF.trans bG)⟩)⟩⟩⟩
     rw[ZV pv.1 bF]
    rintro σ Hb ⟨v7,rfl,sb⟩
    dsimp only
    have vb:=va.trans sb
    have lh:=vb _ _ fA
    have Ab:=vb _ _ el
    refine Zy (ZW ⟨_,rfl,_,rfl,l,_,rfl,ah.of Ab,fun r1 h1=> ?_⟩)
    have u1:=Zd (o:=.tup xs.reverse) h1
    have t1:Th K p (upd Hb r1 (.tup xs.reverse)) (.ref r1):=Y1 Zb (by rw[List.length_reverse];omega) fun y hy=>qx y (List.mem_reverse.mp hy)
    generalize upd Hb r1 (HO.tup xs.reverse)=G1 at u1 t1
    refine⟨(by show 1≤sizeLine;decide),fun t2 kN=> ⟨_,rfl,b,_,_,_,rfl,rfl,ah.of ((u1.trans (Zd kN)) _ _ lh),dz,t2,wd,[.aa],rfl,rfl,Zb,by simp,by omega,by omega,by simp;omega,fun r2 G2 lQ e2=> ?_⟩⟩
    have u2:=(Zd (o:=.tup [V.aa]) kN).trans lQ
    have er:(List.replicate wd.toNat [V.aa]).flatten=List.replicate wd.toNat V.aa:=by
     generalize wd.toNat=n
     induction n with
     |zero=>rfl
     |succ n ih=>rw[List.replicate_succ,List.flatten_cons,ih,List.replicate_succ];rfl
    rw[er]at e2
    have uE:Th K p G2 (.ref r2):=Y1 e2 (by rw[List.length_replicate];omega) fun y hy=>by
     rw[List.eq_of_mem_replicate hy]
     exact⟨⟨_,.aa⟩,.inl rfl⟩
    have v2:=u1.trans u2
    refine⟨_,rfl,b,_,_,_,rfl,rfl,ah.of (v2 _ _ lh),dz,wd,rfl,fun nq nZ=> ⟨nq,wd,rfl,Zb,by omega,by omega,fun r3 h3=> ?_⟩⟩
    have tO:=Zd (o:=.bW 0 wd) nZ
    have tN:=Zd (o:=.tup (L2.upTo wd.toNat)) h3
    have u3:=tO.trans tN
    have t3:Th K p (upd (upd G2 nq (.bW 0 wd)) r3 (.tup (L2.upTo wd.toNat))) (.ref r3):=Y1 Zb (by unfold L2.upTo;rw[List.length_map,List.length_range];omega) fun y hy=>by
     unfold L2.upTo at hy
     obtain⟨k,hk,rfl⟩:=List.mem_map.mp hy
     rw[List.mem_range]at hk
     exact⟨⟨_,.int _⟩,.inl (Wp (by omega) (by omega))⟩
    generalize upd (upd G2 nq (.bW 0 wd)) r3 (HO.tup (L2.upTo wd.toNat))=G3 at u3 t3
    refine⟨Nat.zero_le _,fun r4 h4=> ?_⟩
    have u4:=Zd (o:=.tup []) h4
    have t4:Th K p (upd G3 r4 (.tup [])) (.ref r4):=Y1 Zb (Nat.zero_le _) fun y hy=>by cases hy
    generalize upd G3 r4 (HO.tup [])=G4 at u4 t4
    refine⟨(by show 6≤sizeLine;decide),fun TS rL=>Zz ?_⟩
    dsimp only[List.set]
    have u5:=Zd (o:=.lst [V.ref l,.ref r1,.ref r2,.ref r3,.ref r4,.aa]) rL
    have e5:upd G4 TS (.lst [V.ref l,.ref r1,.ref r2,.ref r3,.ref r4,.aa]) TS=some (.lst [V.ref l,.ref r1,.ref r2,.ref r3,.ref r4,.aa]):=Zb
    have we:TS≠p:=fun z=>by
     obtain⟨u,v,e,_⟩:=id dk
     have h:=(vb.trans (v2.trans (u3.trans u4))) _ _ e
     rw[←z,rL]at h;cases h
    generalize upd G4 TS (HO.lst [V.ref l,.ref r1,.ref r2,.ref r3,.ref r4,.aa])=Hc at u5 e5
    have vc:=vb.trans (v2.trans (u3.trans (u4.trans u5)))
    have sI:∀v∈[V.ref l,V.ref r1,.ref r2,.ref r3,.ref r4,.aa],Th K p Hc v:=fun v hv=>by
     simp only[List.mem_cons,List.not_mem_nil,or_false]at hv
     have w4:=u4.trans u5
     have w3:=u3.trans w4
     have w2:=u2.trans w3
     rcases hv with rfl |rfl |rfl |rfl |rfl |rfl
     ·exact Y1 (vc _ _ el) (by omega) qx
     ·exact t1.same w2
     ·exact uE.same w3
     ·exact t3.same w4
     ·exact t4.same u5
     ·exact⟨⟨⟨_,.aa⟩,fun xs e=>by cases e⟩,.inl rfl⟩
    have lY:=dk.same vc
    have rE:=vc _ _ fA
    have r9:=vc _ _ el
    have Ay:=UX sr vc.x
    generalize xm:[V.ref l,V.ref r1,V.ref r2,V.ref r3,V.ref r4,V.aa]=tv at e5 sI ⊢
    have wx:tv.length=6:=by rw[←xm];rfl
    refine Zy ⟨_,rfl,6,rfl,by decide,by decide,?_⟩
    refine Y9 (n:=6) (fun j ys ag H'=> ∃v0,ag=[v0,some (.ref p),some (.ref b),some (.ref l)]∧ar p Hc H'∧bK H' p∧(∀y∈ys,Th K p H' y)∧ys.length=j) ⟨_,rfl,ar.refl _ _,lY,(fun y hy=>by cases hy),rfl⟩ ?_ ?_
    ·rintro j ys ag H' hj ⟨v0,rfl,x',bP,vQ,Co⟩
     refine Zz ?_
     dsimp only[List.set]
     try unfold lV
     refine av ?_
     refine⟨_,rfl,_,rfl,_,rfl,p,b,l,wd,hg,xs,rfl,bP,jG (x' _ _ rE nb),x' _ _ r9 nl,ly,fun v jS iQ uK bq=> ⟨by rw[sizeLine_eq];omega,_,rfl,x'.trans iQ,uK,fun y hy=> ?_,by rw[List.length_append];simp;omega⟩⟩
     rcases List.mem_append.mp hy with hy |hy
     ·exact(vQ y hy).x iQ bP
     ·rw[List.mem_singleton.mp hy]
      exact⟨bq.1.1,bq.2⟩
    rintro ys ag Hd ⟨v0,rfl,xd,uJ,vN,wD⟩ L5 h5
    have s6:=Zd (o:=.lst ys) h5
    have e6:upd Hd L5 (.lst ys) L5=some (.lst ys):=Zb
    generalize upd Hd L5 (HO.lst ys)=He at s6 e6
    have Af:=s6 _ _ (xd _ _ e5 we)
    refine⟨TS,L5,_,_,rfl,rfl,Af,e6,by rw[wx,wD,sizeLine_eq];decide,fun L6 h6=> ⟨L6,rfl,⟨_,ai.of Zb⟩,?_⟩⟩
    have s7:=Zd (o:=.lst (tv++ys)) h6
    have e7:upd He L6 (.lst (tv++ys)) L6=some (.lst (tv++ys)):=Zb
    generalize upd He L6 (HO.lst (tv++ys))=Hf at s7 e7
    have kz:=s6.trans s7
    have AG:∀v∈tv++ys,Th K p Hf v:=fun v hv=>by
     rcases List.mem_append.mp hv with hv |hv
     ·exact((sI v hv).x xd lY).same kz
     ·exact(vN v hv).same kz
    have xf:ar p Hc Hf:=xd.trans kz.x
    have yW:=xf _ _ rE nb
    have CW:=xf _ _ r9 nl
    have Ax:=UX Ay xf
    have Ca:=uJ.same kz
    have qc:cG K Hf a ns∧TabAt Hf Pt (lq (bc aP P w K mg base cK "law" (aq bu) f (.ref c) A outer s H E).bZ):=step xf lY (uS.same vc) (Z5 tT vc)
    refine YF (xs:=tv++ys) (fun j σ H'=> ∃v7 v9 v10,σ=[some (.ref a),some (.int (i:Int)),some (.ref p),some vn,some (.ref b),some (.ref l),some (.ref N),v7,some (.ref TS),v9,v10,qt]∧ae Hf H') ⟨_,_,_,rfl,ae.refl _⟩ (fun j σ H' _ ⟨_,_,_,_,s⟩=>ai.of (s _ _ e7)) ?_ ?_
    ·rintro j v σ fe hv ⟨v7,v9,v10,rfl,s8⟩
     have th:=(AG v (List.mem_of_getElem? hv)).same s8
     obtain⟨d,rd⟩:=Be th.2
     have lj:=s8 _ _ yW
     refine Zz ?_
     dsimp only[List.set]
     refine Zy ⟨_,rfl,_,rfl,b,v,wd,hg,rfl,jG lj,th.1,th.len,fun jS s9=> ?_⟩
     have i0:=rd.same s9
     refine⟨_,rfl,v,d,rfl,i0.sh,i0.ok,i0.len,i0.dp,i0.bU,_,_,rfl,?_⟩
     dsimp only[List.set]
     have tR:=th.same s9
     refine Zy ⟨_,rfl,_,rfl,.ref b,v,wd,hg,rfl,jG (s9 _ _ lj),tR.1,fun pw bF=> ⟨_,rfl,_,_,rfl,.inr (.inl ⟨_,rfl,?_⟩),fun lN bG=> ⟨true,rfl,aR (ZL ?_)⟩⟩⟩
     ·rw[ZV th.1.1 s9]
     dsimp only
     have ku:=s9.trans (bF.trans bG)
     have tQ:=th.same ku
     refine Zy ⟨_,rfl,_,rfl,.ref b,v,wd,hg,rfl,jG (ku _ _ lj),tQ.1,fun BQ eR=> ?_⟩
     have ni:=ku.trans eR
     have rF:=ni _ _ lj
     have e4:ao lN v=ao fe v:=ZV th.1.1 ku
     have eF:T.kM wd hg (ao lN v)=(bR wd hg (ao fe v)&&(decide (wd=hg)&& !fX .aa ((ao fe v).getD []))):=by rw[e4];rfl
     refine Yg (T.tS (t:=pY _ _) (fun v' H'=>v'=.bl (T.kM wd hg (ao lN v))∧H'=BQ) ?_ ?_)
     case refine_2=>
      intro Q' hq
      refine⟨_,rfl,_,rfl,?_⟩
      cases hl:bR wd hg (ao fe v) with
      |false=>exact aR (hq _ _ ⟨by rw[eF,hl];rfl,rfl⟩)
      |true=>
       refine av ⟨_,rfl,b,_,_,_,rfl,rfl,ah.of rF,dz,_,rfl,b,_,_,_,rfl,rfl,ah.of rF,bY,rfl,_,rfl,?_⟩
       have ed:decide (V.int wd=V.int hg)=decide (wd=hg):=by
        by_cases h:wd=hg
        ·rw[decide_eq_true h,decide_eq_true (by rw[h])]
        ·rw[decide_eq_false h,decide_eq_false (fun z=>h (by cases z;rfl))]
       rw[ed]
       cases hd:decide (wd=hg) with
       |false=>exact aR (hq _ _ ⟨by rw[eF,hl,hd];rfl,rfl⟩)
       |true=>
        cases ht:ao fe v with
        |none=>rw[ht]at hl;cases hl
        |some zs=>
         rw[ht]at hl
         obtain⟨tJ,rfl,xg⟩:=Zq ht
         refine av ⟨_,rfl,tJ,zs,rfl,.inr (ah.of (ni _ _ xg)),rfl,T.qM hl,hq _ _ ⟨?_,rfl⟩⟩
         rw[eF,ht,hl,hd]
         rfl
     rintro v' H6 ⟨rfl,rfl⟩
     refine⟨_,_,rfl,.inr (.inl ⟨_,rfl,rfl⟩),fun C7 gE=> ⟨true,rfl,aR (ZL ?_)⟩⟩
     dsimp only
     have ql:=ni.trans gE
     have iZ:=rd.same ql
     refine⟨_,rfl,v,d,rfl,iZ.sh,iZ.ok,iZ.len,iZ.dp,iZ.bU,_,rfl,rfl,_,rfl,?_⟩
     have z:decide (V.str d.shown=V.str d.shown)=true:=decide_eq_true rfl
     rw[z]
     exact aR (ZL ⟨_,_,_,rfl,s8.trans ql⟩)
    rintro σ Hg ⟨B9,v9,v10,rfl,sg⟩
    dsimp only
    refine⟨(by show 2≤sizeLine;decide),fun M hM=> ⟨M,rfl,⟨_,ai.of Zb⟩,?_⟩⟩
    have um:=Zd (o:=.lst [V.ref gL,.ref gF]) hM
    have eM:upd Hg M (.lst [V.ref gL,.ref gF]) M=some (.lst [V.ref gL,.ref gF]):=Zb
    generalize upd Hg M (HO.lst [V.ref gL,.ref gF])=Hh at um eM
    have vh:=sg.trans um
    have pQ:=Z5 qc.2 vh
    have uR:=qc.1.same vh
    have sk:=Ax.1.same vh
    obtain⟨ph,oS,_⟩:=id pQ
    have z5:∀v∈[V.ref gL,V.ref gF],∃(gf:Addr) (fn:Str) (k':Nat) (sp:Sp),v=.ref gf∧k'≤6∧mg fn=some (.ref gf)∧(∀b',dA P w K mg b' k' fn ["board", "thing"] sp)∧∀(H':Hp) (y:V),dB K H' vn→pe sp [vn,y] cB H':=fun v hv=>by
     simp only[List.mem_cons,List.not_mem_nil,or_false]at hv
     rcases hv with rfl |rfl
     ·exact⟨gL, "is_lay",5,_,rfl,by decide,mL,hL,fun H' y b1 Q' E' hE=> ⟨vn,y,rfl,b1,hE⟩⟩
     ·exact⟨gF, "is_full",6,_,rfl,by decide,mF,hF,fun H' y b1 Q' E' hE=> ⟨vn,y,rfl,b1,hE⟩⟩
    refine YF (xs:=[V.ref gL,.ref gF]) (fun j σ H'=> ∃w7 lO,σ=[some (.ref a),some (.int (i:Int)),some (.ref p),some vn,some (.ref b),some (.ref l),some (.ref N),w7,some (.ref TS),v9,v10,lO]∧ar Pt Hh H'∧TabAt H' Pt (lq (bc aP P w K mg base cK "law" (aq bu) f (.ref c) A outer s H E).bZ)) ⟨_,_,rfl,ar.refl _ _,pQ⟩ (fun j σ H' _ ⟨_,_,_,x',_⟩=>ai.of (x' _ _ eM (J6 eM oS (by intro z;cases z)))) ?_ ?_
    ·rintro j v σ fe hv ⟨w7,lO,rfl,x1,lU⟩
     obtain⟨gf,fn,k',sp,rfl,eV,mf,hf,rf⟩:=z5 v (List.mem_of_getElem? hv)
     refine Zz ?_
     dsimp only[List.set]
     refine⟨_,rfl,(by show 2≤sizeLine;decide),fun M2 ll=> ⟨M2,rfl,⟨_,ai.of Zb⟩,?_⟩⟩
     have u2:=Zd (o:=.lst [V.ref l,.aa]) ll
     have oU:upd fe M2 (.lst [V.ref l,.aa]) M2=some (.lst [V.ref l,.aa]):=Zb
     generalize upd fe M2 (HO.lst [V.ref l,.aa])=jS at u2 oU
     have pR:=Z5 lU u2
     obtain⟨Cf,Aa,_⟩:=id pR
     have iQ:ar Pt Hh jS:=x1.trans u2.x
     refine YF (xs:=[V.ref l,.aa]) (fun j σ H'=> ∃w7,σ=[some (.ref a),some (.int (i:Int)),some (.ref p),some vn,some (.ref b),some (.ref l),some (.ref N),w7,some (.ref TS),v9,v10,some (.ref gf)]∧ar Pt jS H'∧TabAt H' Pt (lq (bc aP P w K mg base cK "law" (aq bu) f (.ref c) A outer s H E).bZ)) ⟨_,rfl,ar.refl _ _,pR⟩ (fun j σ H' _ ⟨_,_,x',_⟩=>ai.of (x' _ _ oU (J6 oU Aa (by intro z;cases z)))) ?_ ?_
     ·rintro j' y σ pw hy ⟨tH,rfl,jX,jZ⟩
      have su:dB K pw vn:=WF sk (iQ.trans jX) (Jv sk.1 oS)
      obtain⟨Ce,z9,_⟩:=id jZ
      refine Zz ?_
      dsimp only[List.set]
      refine⟨[.ref gf,vn,y],cB,0,pe sp [vn,y] cB,rfl,vH rfl rfl rfl,jZ,.inl rfl,M0,fun f'=>Aw eV hf mf rfl rfl rfl rfl rfl rfl rfl,fun H' x=>rf H' y (WF su x (Jv su.1 z9)),fun l1 lN tF tU Ci om=> ⟨(by show 1≤sizeLine;decide),fun N0 za=> ?_⟩⟩
      have lP:=Zd (o:=.lst [V.int 0]) za
      refine⟨l1,N0,[V.int 0],[V.int 0],rfl,rfl,ai.of (lP _ _ om),ai.of Zb,.cons (.inl ⟨0,rfl,rfl⟩) .nil,false,rfl,aR (ZL ⟨_,rfl,jX.trans (tF.trans lP.x),Z5 tU lP⟩)⟩
     ·rintro σ pw ⟨tH,rfl,jX,jZ⟩
      exact⟨_,_,rfl,iQ.trans jX,jZ⟩
    ·rintro σ fe ⟨w7,lO,rfl,x1,lU⟩
     exact⟨_,_,_,_,_,_,_,_,_,_,_,rfl,uR.x x1 oS (fun _ _ z=>by cases z),lU⟩
   ·rintro σ H1 _
    refine⟨rfl,fun H2 s2=> ⟨true,rfl,av ?_⟩⟩
    have C0:∀{H0 H':Hp}{t:Addr}{x y:Int},1≤x→x≤12→1≤y→y≤12→H' t=some (.tup [V.int x,V.int y])→cO H' (.ref t) x y:=fun a1 a2 a3 a4 h=> ⟨Zo h,a1,a2,a3,a4⟩
    refine⟨(by show 2≤sizeLine;decide),fun t1 h1=> ⟨(by show 2≤sizeLine;decide),fun t2 h2=> ⟨.ref t1,.ref t2,2,2,rfl,⟨Zo (Zd h2 _ _ Zb),by decide,by decide,by decide,by decide⟩,ZY Zb (Z3 (ns:=[1,0])),fun H3 s3=> ⟨_,true,rfl,rfl,_,rfl,?_⟩⟩⟩⟩
    rw[Zo Zb]
    refine av ⟨(by show 2≤sizeLine;decide),fun t3 h3=> ⟨(by show 2≤sizeLine;decide),fun t4 h4=> ⟨.ref t3,.ref t4,2,3,rfl,⟨Zo (Zd h4 _ _ Zb),by decide,by decide,by decide,by decide⟩,ZY Zb (Z3 (ns:=[1,0])),fun H4 s4=> ⟨_,false,rfl,rfl,?_⟩⟩⟩⟩
    rw[Zo Zb]
    exact q _
  obtain⟨t,ht,hq⟩:=main
  exact⟨t,ht.bZ,hq⟩
end
end U
namespace U
open PySem L2 PyProof.Rows PySem.Spec
abbrev oJ:List Str:=["isinstance", "int", "bool", "tuple", "list", "len", "all", "set", "range", "max", "min", "enumerate", "zip", "repr", "ValueError"]
section
variable {P:Program}{w:World}{K:PySem.W.Frag}{mg:Str→Option Value}{base:Heap}
theorem BC {h:Heap}{t0:Tok}(KX:K.In h) (G:h.Ns mainGlobals mg) (e:oJ.all (kG K)=true) (lo0:PySem.W.nsIn K mainGlobals "LONGEST_SIDE" =some (some (.int 12 t0))):Gs mg∧mg "ValueError" =none:=by
 have k:∀x∈oJ,mg x=none:=fun x hx=>W9 KX G (List.all_eq_true.mp e x hx)
 exact⟨⟨k _ (by simp),k _ (by simp),k _ (by simp),k _ (by simp),k _ (by simp),k _ (by simp),k _ (by simp),k _ (by simp),k _ (by simp),k _ (by simp),k _ (by simp),k _ (by simp),k _ (by simp),k _ (by simp),⟨t0,PySem.W.mg_of KX G lo0⟩⟩,k _ (by simp)⟩
def ja (K:PySem.W.Frag) (C c:Value) (b:Bool):Bool:=match PySem.W.kitOne K C c with |some d=>d==b |none=>false
theorem WB {C c:Value}{b:Bool}(h:ja K C c b=true):PySem.W.kitOne K C c=some b:=by
 unfold ja at h
 split at h
 ·rename_i d q
  rw[q,beq_iff_eq.mp h]
 ·cases h
def wk (K:PySem.W.Frag) (C:Addr) (iC:Nat):Bool:=(List.range 15).all fun i=>match PySem.W.nsIn K mainGlobals (nG.getD i "") with |some (some (.ref c))=>ja K (.ref C) (.ref c) (decide (i=iC)) |_=>false
def mroOk (K:PySem.W.Frag) (C:Addr) (b:Value):Bool:=match PySem.W.mroIn K C b with |some d=>d |none=>false
theorem J7 {C:Addr}{b:Value}(h:mroOk K C b=true):PySem.W.mroIn K C b=some true:=by
 unfold mroOk at h
 split at h
 ·rename_i d q
  rw[q,h]
 ·cases h
def oQ (K:PySem.W.Frag) (C c:Value):Bool:=match PySem.W.exmOne K C c with |some d=>d |none=>false
theorem UM {C c:Value}(h:oQ K C c=true):PySem.W.exmOne K C c=some true:=by
 unfold oQ at h
 split at h
 ·rename_i d q
  rw[q,h]
 ·cases h
def cw (K:PySem.W.Frag) (cS C:Addr) (iC:Nat):Bool:=mroOk K C (.type "object")&&mroOk K C (.type "BaseException")&&(PySem.W.clsIn K C).isSome&&oQ K (.ref C) (.ref cS)&&wk K C iC&&ja K (.ref C) (.type "ValueError") true&&PySem.W.excIn K C iG "ValueError.__new__"
theorem ZF {h:Heap}{cS C:Addr}{iC:Nat}(KX:K.In h) (G:h.Ns mainGlobals mg) (mv:mg "ValueError" =none) (ms:mg "StepError" =some (.ref cS)) (e:cw K cS C iC=true)
  (ga:PySem.W.findIn K (.ref C) "__getattribute__" =some (some (.builtin "BaseException.__getattribute__"))) (hook:PySem.W.findIn K (.ref C) "__getattr__" =some none) (cl:PySem.W.findIn K (.ref C) "__class__" =some (some (.builtin "object.__class__"))):jM K mg cS C iC∧PySem.W.excIn K C iG "ValueError.__new__" =true:=by
 unfold cw at e
 simp only[Bool.and_eq_true]at e
 obtain⟨⟨⟨⟨⟨⟨e1,e2⟩,e3⟩,e4⟩,e5⟩,e6⟩,e7⟩:=e
 refine⟨⟨⟨ga,hook,cl,J7 e1,J7 e2,e3⟩,ms,UM e4,fun i hi=> ?_,mv,WB e6⟩,e7⟩
 have:=List.all_eq_true.mp e5 i (List.mem_range.mpr hi)
 split at this
 ·rename_i c q
  exact⟨c,PySem.W.mg_of KX G q,WB this⟩
 ·cases this
structure Exc (K:PySem.W.Frag) (mg:Str→Option Value) (nm:Str) (C:Addr):Prop where
 m:mg nm=some (.ref C)
 x:PySem.W.excIn K C iG "ValueError.__new__" =true
set_option maxHeartbeats 4000000 in
theorem wI {h:Heap}{fa c Pt f cS aA aB aC aD aE aF aG aH aI aJ aK aL aM aN aO:Addr}{oc:Value}{od an:Option Addr}{kV doc pm ct:Value}{cJ:Array (Option Value)}{t0:Tok}(KX:K.In h) (G:h.Ns mainGlobals mg) (hmg:mg "law" =some (.ref fa))
  (d0:bD K "is_whole" mz) (d1:bD K "is_whole_within" mx) (d2:bD K "is_tuple_of" mC) (d3:bD K "is_board" ng) (d4:bD K "need_board" kn) (d5:bD K "is_lay" ko) (d6:bD K "is_full" T.kr) (d7:bD K "_law_cell_at" mZ) (d8:bD K "_law_state" mE) (d9:bD K "_law_take" mD) (sd:bD K "_law_refused" mH) (Ao:bD K "_law_board" mY) (An:bD K "_law_no_board" gD) (Am:bD K "_law_lay" mW) (Al:bD K "_law_no_lay" gC) (Ak:bD K "_law_whole" mI) (Aj:bD K "_law_lay_good" mJ) (aS:bD K "_law_same" mG) (Ai:bD K "_law_board_good" nh) (Ah:bD K "_law_errors_right" mV)
  (l1:PySem.W.nsIn K mainGlobals "law" =some (some (.ref f))) (l2:K.lookup f=some ⟨oc,od,.func (PySem.W.fnOf "law" "law" (dc bu) (bB bu) (aq bu) .none kV doc pm an (.ref c) ct),cJ⟩) (l3:PySem.W.codeIn K (.ref c) "law" =true) (l4:PySem.W.codeHdIn K c Pt=true)
  (g1:oJ.all (kG K)=true) (lo0:PySem.W.nsIn K mainGlobals "LONGEST_SIDE" =some (some (.int 12 t0)))
  (eA:PySem.W.nsIn K mainGlobals "NoBoard" =some (some (.ref aA))) (eB:PySem.W.nsIn K mainGlobals "NoLay" =some (some (.ref aB))) (eC:PySem.W.nsIn K mainGlobals "NoNumber" =some (some (.ref aC))) (eD:PySem.W.nsIn K mainGlobals "NoPoints" =some (some (.ref aD))) (eE:PySem.W.nsIn K mainGlobals "NoPoint" =some (some (.ref aE))) (eF:PySem.W.nsIn K mainGlobals "NoPaper" =some (some (.ref aF))) (eG:PySem.W.nsIn K mainGlobals "NoUnlike" =some (some (.ref aG))) (eH:PySem.W.nsIn K mainGlobals "NoPrime" =some (some (.ref aH))) (eI:PySem.W.nsIn K mainGlobals "NoRoot" =some (some (.ref aI))) (eJ:PySem.W.nsIn K mainGlobals "NoTurn" =some (some (.ref aJ))) (eK:PySem.W.nsIn K mainGlobals "TooFew" =some (some (.ref aK))) (eL:PySem.W.nsIn K mainGlobals "TooMany" =some (some (.ref aL))) (eM:PySem.W.nsIn K mainGlobals "NoText" =some (some (.ref aM))) (eN:PySem.W.nsIn K mainGlobals "NoLine" =some (some (.ref aN))) (eO:PySem.W.nsIn K mainGlobals "NoDeed" =some (some (.ref aO))) (eS:PySem.W.nsIn K mainGlobals "StepError" =some (some (.ref cS)))
  (xA:cw K cS aA 0=true) (xB:cw K cS aB 1=true) (xC:cw K cS aC 2=true) (xD:cw K cS aD 3=true) (xE:cw K cS aE 4=true) (xF:cw K cS aF 5=true) (xG:cw K cS aG 6=true) (xH:cw K cS aH 7=true) (xI:cw K cS aI 8=true) (xJ:cw K cS aJ 9=true) (xK:cw K cS aK 10=true) (xL:cw K cS aL 11=true) (xM:cw K cS aM 12=true) (xN:cw K cS aN 13=true) (xO:cw K cS aO 14=true) (kst:([aA,aB,aC,aD,aE,aF,aG,aH,aI,aJ,aK,aL,aM,aN,aO]).all (fun a=>ja K (.ref a) (.ref cS) true)=true)
  (gaA:PySem.W.findIn K (.ref aA) "__getattribute__" =some (some (.builtin "BaseException.__getattribute__"))) (hoA:PySem.W.findIn K (.ref aA) "__getattr__" =some none) (clA:PySem.W.findIn K (.ref aA) "__class__" =some (some (.builtin "object.__class__")))
  (gaB:PySem.W.findIn K (.ref aB) "__getattribute__" =some (some (.builtin "BaseException.__getattribute__"))) (hoB:PySem.W.findIn K (.ref aB) "__getattr__" =some none) (clB:PySem.W.findIn K (.ref aB) "__class__" =some (some (.builtin "object.__class__")))
  (gaC:PySem.W.findIn K (.ref aC) "__getattribute__" =some (some (.builtin "BaseException.__getattribute__"))) (hoC:PySem.W.findIn K (.ref aC) "__getattr__" =some none) (clC:PySem.W.findIn K (.ref aC) "__class__" =some (some (.builtin "object.__class__")))
  (gaD:PySem.W.findIn K (.ref aD) "__getattribute__" =some (some (.builtin "BaseException.__getattribute__"))) (hoD:PySem.W.findIn K (.ref aD) "__getattr__" =some none) (clD:PySem.W.findIn K (.ref aD) "__class__" =some (some (.builtin "object.__class__")))
  (gaE:PySem.W.findIn K (.ref aE) "__getattribute__" =some (some (.builtin "BaseException.__getattribute__"))) (hoE:PySem.W.findIn K (.ref aE) "__getattr__" =some none) (clE:PySem.W.findIn K (.ref aE) "__class__" =some (some (.builtin "object.__class__")))
  (gaF:PySem.W.findIn K (.ref aF) "__getattribute__" =some (some (.builtin "BaseException.__getattribute__"))) (hoF:PySem.W.findIn K (.ref aF) "__getattr__" =some none) (clF:PySem.W.findIn K (.ref aF) "__class__" =some (some (.builtin "object.__class__")))
  (gaG:PySem.W.findIn K (.ref aG) "__getattribute__" =some (some (.builtin "BaseException.__getattribute__"))) (hoG:PySem.W.findIn K (.ref aG) "__getattr__" =some none) (clG:PySem.W.findIn K (.ref aG) "__class__" =some (some (.builtin "object.__class__")))
  (gaH:PySem.W.findIn K (.ref aH) "__getattribute__" =some (some (.builtin "BaseException.__getattribute__"))) (hoH:PySem.W.findIn K (.ref aH) "__getattr__" =some none) (clH:PySem.W.findIn K (.ref aH) "__class__" =some (some (.builtin "object.__class__")))
  (gaI:PySem.W.findIn K (.ref aI) "__getattribute__" =some (some (.builtin "BaseException.__getattribute__"))) (hoI:PySem.W.findIn K (.ref aI) "__getattr__" =some none) (clI:PySem.W.findIn K (.ref aI) "__class__" =some (some (.builtin "object.__class__")))
  (gaJ:PySem.W.findIn K (.ref aJ) "__getattribute__" =some (some (.builtin "BaseException.__getattribute__"))) (hoJ:PySem.W.findIn K (.ref aJ) "__getattr__" =some none) (clJ:PySem.W.findIn K (.ref aJ) "__class__" =some (some (.builtin "object.__class__")))
  (gaK:PySem.W.findIn K (.ref aK) "__getattribute__" =some (some (.builtin "BaseException.__getattribute__"))) (hoK:PySem.W.findIn K (.ref aK) "__getattr__" =some none) (clK:PySem.W.findIn K (.ref aK) "__class__" =some (some (.builtin "object.__class__")))
  (gaL:PySem.W.findIn K (.ref aL) "__getattribute__" =some (some (.builtin "BaseException.__getattribute__"))) (hoL:PySem.W.findIn K (.ref aL) "__getattr__" =some none) (clL:PySem.W.findIn K (.ref aL) "__class__" =some (some (.builtin "object.__class__")))
  (gaM:PySem.W.findIn K (.ref aM) "__getattribute__" =some (some (.builtin "BaseException.__getattribute__"))) (hoM:PySem.W.findIn K (.ref aM) "__getattr__" =some none) (clM:PySem.W.findIn K (.ref aM) "__class__" =some (some (.builtin "object.__class__")))
  (gaN:PySem.W.findIn K (.ref aN) "__getattribute__" =some (some (.builtin "BaseException.__getattribute__"))) (hoN:PySem.W.findIn K (.ref aN) "__getattr__" =some none) (clN:PySem.W.findIn K (.ref aN) "__class__" =some (some (.builtin "object.__class__")))
  (gaO:PySem.W.findIn K (.ref aO) "__getattribute__" =some (some (.builtin "BaseException.__getattribute__"))) (hoO:PySem.W.findIn K (.ref aO) "__getattr__" =some none) (clO:PySem.W.findIn K (.ref aO) "__class__" =some (some (.builtin "object.__class__"))):
  ∃fd:FuncData,(∀(s:Shared) (u:Value),BindsTo s fd ⟨[u],[]⟩ [("_law_script",u)])∧∀base:Heap,K.In base→base.Ns mainGlobals mg→jV mg base→az P w K mg base aP 9 fa fd ["_law_script"] (md K Pt):=by
 have e0:=hmg.symm.trans (PySem.W.mg_of KX G l1)
 cases e0
 obtain⟨gs,mv⟩:=BC KX G g1 lo0
 have ms:=PySem.W.mg_of KX G eS
 obtain⟨MA,yA⟩:=ZF KX G mv ms xA gaA hoA clA
 have z4:Exc K mg "NoBoard" aA:=⟨PySem.W.mg_of KX G eA,yA⟩
 obtain⟨MB,yB⟩:=ZF KX G mv ms xB gaB hoB clB
 have z0:Exc K mg "NoLay" aB:=⟨PySem.W.mg_of KX G eB,yB⟩
 obtain⟨MC,yC⟩:=ZF KX G mv ms xC gaC hoC clC
 have zZ:Exc K mg "NoNumber" aC:=⟨PySem.W.mg_of KX G eC,yC⟩
 obtain⟨MD,yD⟩:=ZF KX G mv ms xD gaD hoD clD
 have zY:Exc K mg "NoPoints" aD:=⟨PySem.W.mg_of KX G eD,yD⟩
 obtain⟨ME,yE⟩:=ZF KX G mv ms xE gaE hoE clE
 have zX:Exc K mg "NoPoint" aE:=⟨PySem.W.mg_of KX G eE,yE⟩
 obtain⟨MF,yF⟩:=ZF KX G mv ms xF gaF hoF clF
 have zW:Exc K mg "NoPaper" aF:=⟨PySem.W.mg_of KX G eF,yF⟩
 obtain⟨MG,yG⟩:=ZF KX G mv ms xG gaG hoG clG
 have zV:Exc K mg "NoUnlike" aG:=⟨PySem.W.mg_of KX G eG,yG⟩
 obtain⟨MH,yH⟩:=ZF KX G mv ms xH gaH hoH clH
 have zU:Exc K mg "NoPrime" aH:=⟨PySem.W.mg_of KX G eH,yH⟩
 obtain⟨MI,yI⟩:=ZF KX G mv ms xI gaI hoI clI
 have zT:Exc K mg "NoRoot" aI:=⟨PySem.W.mg_of KX G eI,yI⟩
 obtain⟨MJ,yJ⟩:=ZF KX G mv ms xJ gaJ hoJ clJ
 have zS:Exc K mg "NoTurn" aJ:=⟨PySem.W.mg_of KX G eJ,yJ⟩
 obtain⟨MK,yK⟩:=ZF KX G mv ms xK gaK hoK clK
 have zR:Exc K mg "TooFew" aK:=⟨PySem.W.mg_of KX G eK,yK⟩
 obtain⟨ML,yL⟩:=ZF KX G mv ms xL gaL hoL clL
 have zQ:Exc K mg "TooMany" aL:=⟨PySem.W.mg_of KX G eL,yL⟩
 obtain⟨MM,yM⟩:=ZF KX G mv ms xM gaM hoM clM
 have zP:Exc K mg "NoText" aM:=⟨PySem.W.mg_of KX G eM,yM⟩
 obtain⟨MN,yN⟩:=ZF KX G mv ms xN gaN hoN clN
 have zO:Exc K mg "NoLine" aN:=⟨PySem.W.mg_of KX G eN,yN⟩
 obtain⟨MO,yO⟩:=ZF KX G mv ms xO gaO hoO clO
 have zN:Exc K mg "NoDeed" aO:=⟨PySem.W.mg_of KX G eO,yO⟩
 have zM:tj K mg aA aB:=⟨PySem.W.mg_of KX G eA,yA,PySem.W.mg_of KX G eB,yB⟩
 let cs:Nat→Addr:=fun i=> [aA,aB,aC,aD,aE,aF,aG,aH,aI,aJ,aK,aL,aM,aN,aO].getD i aA
 have ks:=List.all_eq_true.mp kst
 have cls:tu K mg cS cs:=by
  refine⟨ms,fun i hi=> ?_,fun i hi=> ?_,fun i hi=> ?_,fun i hi=> ?_⟩<;>
   (have c15:i=0∨i=1∨i=2∨i=3∨i=4∨i=5∨i=6∨i=7∨i=8∨i=9∨i=10∨i=11∨i=12∨i=13∨i=14:=by omega)
  ·rcases c15 with rfl |rfl |rfl |rfl |rfl |rfl |rfl |rfl |rfl |rfl |rfl |rfl |rfl |rfl |rfl
   ·exact z4.m
   ·exact z0.m
   ·exact zZ.m
   ·exact zY.m
   ·exact zX.m
   ·exact zW.m
   ·exact zV.m
   ·exact zU.m
   ·exact zT.m
   ·exact zS.m
   ·exact zR.m
   ·exact zQ.m
   ·exact zP.m
   ·exact zO.m
   ·exact zN.m
  ·rcases c15 with rfl |rfl |rfl |rfl |rfl |rfl |rfl |rfl |rfl |rfl |rfl |rfl |rfl |rfl |rfl
   ·exact yA
   ·exact yB
   ·exact yC
   ·exact yD
   ·exact yE
   ·exact yF
   ·exact yG
   ·exact yH
   ·exact yI
   ·exact yJ
   ·exact yK
   ·exact yL
   ·exact yM
   ·exact yN
   ·exact yO
  ·rcases c15 with rfl |rfl |rfl |rfl |rfl |rfl |rfl |rfl |rfl |rfl |rfl |rfl |rfl |rfl |rfl
   ·exact MA.z
   ·exact MB.z
   ·exact MC.z
   ·exact MD.z
   ·exact ME.z
   ·exact MF.z
   ·exact MG.z
   ·exact MH.z
   ·exact MI.z
   ·exact MJ.z
   ·exact MK.z
   ·exact ML.z
   ·exact MM.z
   ·exact MN.z
   ·exact MO.z
  ·refine WB (ks (cs i) ?_)
   rcases c15 with rfl |rfl |rfl |rfl |rfl |rfl |rfl |rfl |rfl |rfl |rfl |rfl |rfl |rfl |rfl<;>simp[cs]
 refine⟨PySem.W.fnOf "law" "law" (dc bu) (bB bu) (aq bu) .none kV doc pm an (.ref c) ct,fun s u=> .of_eq rfl,fun base kb nb bm=> ?_⟩
 have b0:∀{x:Str}{st:Stmt},(∀(kV doc pm:Value) (an:Option Addr) (aj ct:Value),bindArgs (PySem.W.fnOf x x (dc st) (bB st) (aq st) .none kV doc pm an aj ct) ⟨[],[]⟩=pure [])→iM x st []:=fun h kV doc pm an aj ct us hl=>match us,hl with | [],_=>h kV doc pm an aj ct
 have b1:∀{x a:Str}{st:Stmt},(∀(kV doc pm:Value) (an:Option Addr) (aj ct u:Value),bindArgs (PySem.W.fnOf x x (dc st) (bB st) (aq st) .none kV doc pm an aj ct) ⟨[u],[]⟩=pure [(a,u)])→iM x st [a]:=fun h kV doc pm an aj ct us hl=>match us,hl with | [u],_=>h kV doc pm an aj ct u
 have b2:∀{x a b:Str}{st:Stmt},(∀(kV doc pm:Value) (an:Option Addr) (aj ct u v:Value),bindArgs (PySem.W.fnOf x x (dc st) (bB st) (aq st) .none kV doc pm an aj ct) ⟨[u,v],[]⟩=pure [(a,u),(b,v)])→iM x st [a,b]:=fun h kV doc pm an aj ct us hl=>match us,hl with | [u,v],_=>h kV doc pm an aj ct u v
 have b3:∀{x a b c:Str}{st:Stmt},(∀(kV doc pm:Value) (an:Option Addr) (aj ct u v w:Value),bindArgs (PySem.W.fnOf x x (dc st) (bB st) (aq st) .none kV doc pm an aj ct) ⟨[u,v,w],[]⟩=pure [(a,u),(b,v),(c,w)])→iM x st [a,b,c]:=fun h kV doc pm an aj ct us hl=>match us,hl with | [u,v,w],_=>h kV doc pm an aj ct u v w
 have good:∀b':Heap,(Def P w K mg b' 5 "is_lay" ["board", "thing"] (iU K)∧dA P w K mg b' 5 "is_lay" ["board", "thing"] (iT K aA))∧(Def P w K mg b' 6 "is_full" ["board", "thing"] (T.ki K)∧dA P w K mg b' 6 "is_full" ["board", "thing"] (T.kh K aA))∧Def P w K mg b' 3 "is_board" ["thing"] (ig K):=fun b'=>by
  have D0:Def P w K mg b' 1 "is_whole" ["thing"] (lZ K):=d0.to KX G (b1 fun _ _ _ _ _ _ _=>rfl) fun f fd F=>UB F gs
  have D1:Def P w K mg b' 2 "is_whole_within" ["thing", "least", "most"] (fI K):=d1.to KX G (b3 fun _ _ _ _ _ _ _ _ _=>rfl) fun f fd F=>W8 F D0
  have D3:Def P w K mg b' 1 "is_tuple_of" ["thing", "many"] (ke K):=d2.to KX G (b2 fun _ _ _ _ _ _ _ _=>rfl) fun f fd F=>UC F gs
  have D4:Def P w K mg b' 3 "is_board" ["thing"] (ig K):=d3.to KX G (b1 fun _ _ _ _ _ _ _=>rfl) fun f fd F=>UH F gs D3 D1
  have D5:Def P w K mg b' 4 "need_board" ["board"] (l9 K):=d4.to KX G (b1 fun _ _ _ _ _ _ _=>rfl) fun f fd F=>JS F D4
  have D6:Def P w K mg b' 5 "is_lay" ["board", "thing"] (iU K):=d5.to KX G (b2 fun _ _ _ _ _ _ _ _=>rfl) fun f fd F=>Bq F gs D5 D3 D1
  have D7:Def P w K mg b' 6 "is_full" ["board", "thing"] (T.ki K):=d6.to KX G (b2 fun _ _ _ _ _ _ _ _=>rfl) fun f fd F=>T.vP F D6
  have R5:dA P w K mg b' 4 "need_board" ["board"] (ma K aA):=d4.lT KX G (b1 fun _ _ _ _ _ _ _=>rfl) fun f fd F=>Jk F gs zM D4
  have R6:dA P w K mg b' 5 "is_lay" ["board", "thing"] (iT K aA):=d5.lT KX G (b2 fun _ _ _ _ _ _ _ _=>rfl) fun f fd F=>U9 F R5
  have R7:dA P w K mg b' 6 "is_full" ["board", "thing"] (T.kh K aA):=d6.lT KX G (b2 fun _ _ _ _ _ _ _ _=>rfl) fun f fd F=>T.vO F R6
  exact⟨⟨D6,R6⟩,⟨D7,R7⟩,D4⟩
 have hR:∀b':Heap,Def P w K mg b' 8 "_law_refused" ["_law_call"] (kg P w K mg b' cS 7):=fun b'=>sd.to KX G (b1 fun _ _ _ _ _ _ _=>rfl) fun f fd F=>Bt F gs
 have E1:Def P w K mg base 1 "_law_cell_at" ["_law_script", "_law_k"] (ml K):=d7.to KX G (b2 fun _ _ _ _ _ _ _ _=>rfl) fun f fd F=>Ba F gs
 have E2:Def P w K mg base 2 "_law_state" ["_law_script", "_law_k"] (l0 K):=d8.to KX G (b2 fun _ _ _ _ _ _ _ _=>rfl) fun f fd F=>UD F gs E1
 have E3:Def P w K mg base 1 "_law_take" ["_law_state_here", "_law_many"] hZ:=d9.to KX G (b2 fun _ _ _ _ _ _ _ _=>rfl) fun f fd F=>U8 F
 have E4:Def P w K mg base 2 "_law_no_board" ["_law_state_here"] (l8 K):=An.to KX G (b1 fun _ _ _ _ _ _ _=>rfl) fun f fd F=>Br F E3
 have E5:Def P w K mg base 2 "_law_board" ["_law_state_here", "_law_upto"] mj:=Ao.to KX G (b2 fun _ _ _ _ _ _ _ _=>rfl) fun f fd F=>UG F E3
 have E6:Def P w K mg base 2 "_law_lay" ["_law_state_here", "_law_board_here"] (mi K):=Am.to KX G (b2 fun _ _ _ _ _ _ _ _=>rfl) fun f fd F=>UF F gs E3
 have E7:Def P w K mg base 2 "_law_no_lay" ["_law_state_here", "_law_board_here", "_law_lay_here"] (l7 K):=Al.to KX G (b3 fun _ _ _ _ _ _ _ _ _=>rfl) fun f fd F=>Bs F gs E3
 have E8:Def P w K mg base 1 "_law_whole" ["_law_thing", "_law_least", "_law_upto"] (fI K):=Ak.to KX G (b3 fun _ _ _ _ _ _ _ _ _=>rfl) fun f fd F=>Bb F gs
 have E9:Def P w K mg base 2 "_law_lay_good" ["_law_board_here", "_law_thing"] (me K):=Aj.to KX G (b2 fun _ _ _ _ _ _ _ _=>rfl) fun f fd F=>BI F gs E8
 have BU:Def P w K mg base 2 "_law_board_good" ["_law_thing"] (mm K):=Ai.to KX G (b1 fun _ _ _ _ _ _ _=>rfl) fun f fd F=>BG F gs E8
 have S1:Def P w K mg base 1 "_law_same" ["_law_found", "_law_due"] (l6 Rl):=aS.to KX G (b2 fun _ _ _ _ _ _ _ _=>rfl) fun f fd F=>UE F gs
 have BS:Def P w K mg base 1 "_law_errors_right" [] mh:=Ah.to KX G (b0 fun _ _ _ _ _ _=>rfl) fun f fd F=>BH F gs cls
 obtain⟨fR,zL,Ae,FR⟩:=id sd
 obtain⟨gL,_,mL,_⟩:=id d5
 obtain⟨gF,_,mF,_⟩:=id d6
 exact Bp l2 l3 gs E2 E4 E5 E6 E7 (good base).2.2 BU E9 (good base).1.1 (good base).2.1.1 S1 BS hR (fun b'=> (good b').1.2) (fun b'=> (good b').2.1.2) (PySem.W.mg_of KX G mL) (PySem.W.mg_of KX G mF) (PySem.W.mg_of KX G Ae) FR.kp MA (PySem.W.codeHd_of_K kb l4) bm
end
end U
theorem PySem.W.Fast.tw15269919692343737760:True:=⟨⟩
theorem PySem.W.Fast.tw10831268728833474048:True:=⟨⟩
theorem PySem.W.Fast.tw14953876879184571136:True:=⟨⟩
theorem PySem.W.Fast.tw14332775202257965824:True:=⟨⟩
theorem PySem.W.Fast.tw5106386358773885792:True:=⟨⟩
theorem PySem.W.Fast.tw8381349592777956224:True:=⟨⟩
theorem PySem.W.Fast.tw17049993851488114721:True:=⟨⟩
theorem PySem.W.Fast.tw7126902897267290177:True:=⟨⟩
theorem PySem.W.Fast.tw2994150384624235681:True:=⟨⟩
theorem PySem.W.Fast.tw16718037030636324129:True:=⟨⟩
theorem PySem.W.Fast.tw10444130649444834721:True:=⟨⟩
theorem PySem.W.Fast.tw1619506130602035617:True:=⟨⟩
theorem PySem.W.Fast.tw14492656728532018689:True:=⟨⟩
theorem PySem.W.Fast.tw17507170599194625921:True:=⟨⟩
theorem PySem.W.Fast.tw11649828243548612481:True:=⟨⟩
theorem PySem.W.Fast.tw2020384276880540609:True:=⟨⟩
theorem PySem.W.Fast.tw7560333868705583073:True:=⟨⟩
theorem PySem.W.Fast.tw13799724864194224162:True:=⟨⟩
theorem PySem.W.Fast.tw10388791961188792418:True:=⟨⟩
theorem PySem.W.Fast.tw9943801779337396578:True:=⟨⟩
theorem PySem.W.Fast.tw12120750708069168514:True:=⟨⟩
theorem PySem.W.Fast.tw6302729156984544738:True:=⟨⟩
theorem PySem.W.Fast.tw13675796243221198402:True:=⟨⟩
theorem PySem.W.Fast.tw1156674442364914402:True:=⟨⟩
theorem PySem.W.Fast.tw16911133942393404451:True:=⟨⟩
theorem PySem.W.Fast.tw6451430902468188259:True:=⟨⟩
theorem PySem.W.Fast.tw5660215574270401699:True:=⟨⟩
theorem PySem.W.Fast.tw13608881497201277155:True:=⟨⟩
theorem PySem.W.Fast.tw5180354286691160451:True:=⟨⟩
theorem PySem.W.Fast.tw5544379873367787939:True:=⟨⟩
theorem PySem.W.Fast.tw13610392045778041475:True:=⟨⟩
theorem PySem.W.Fast.tw15091092946428652259:True:=⟨⟩
theorem PySem.W.Fast.tw16210892400884750115:True:=⟨⟩
theorem PySem.W.Fast.tw5177274672983967683:True:=⟨⟩
theorem PySem.W.Fast.tw12498705037633729604:True:=⟨⟩
theorem PySem.W.Fast.tw14503530062700663940:True:=⟨⟩
theorem PySem.W.Fast.tw75130734218350884:True:=⟨⟩
theorem PySem.W.Fast.tw5650873625984852292:True:=⟨⟩
theorem PySem.W.Fast.tw18135664579578757444:True:=⟨⟩
theorem PySem.W.Fast.tw5372846331657308548:True:=⟨⟩
theorem PySem.W.Fast.tw10852862060315733412:True:=⟨⟩
theorem PySem.W.Fast.tw1104256762706463172:True:=⟨⟩
theorem PySem.W.Fast.tw16125069650366786180:True:=⟨⟩
theorem PySem.W.Fast.tw9100176022514582148:True:=⟨⟩
theorem PySem.W.Fast.tw9428556209142410884:True:=⟨⟩
theorem PySem.W.Fast.tw8786791517550856868:True:=⟨⟩
theorem PySem.W.Fast.tw4583954132034508452:True:=⟨⟩
theorem PySem.W.Fast.tw7893408595214061252:True:=⟨⟩
theorem PySem.W.Fast.tw899983233703030500:True:=⟨⟩
theorem PySem.W.Fast.tw1443269773020545796:True:=⟨⟩
theorem PySem.W.Fast.tw16364674175590341412:True:=⟨⟩
theorem PySem.W.Fast.tw5785176267612751652:True:=⟨⟩
theorem PySem.W.Fast.tw764129645820740452:True:=⟨⟩
theorem PySem.W.Fast.tw6598635872750669668:True:=⟨⟩
theorem PySem.W.Fast.tw16252825745090132900:True:=⟨⟩
theorem PySem.W.Fast.tw1743144845464013764:True:=⟨⟩
theorem PySem.W.Fast.tw531097049753431109:True:=⟨⟩
theorem PySem.W.Fast.tw16332163578576533701:True:=⟨⟩
theorem PySem.W.Fast.tw5425511157926497541:True:=⟨⟩
theorem PySem.W.Fast.tw14642262924521809221:True:=⟨⟩
theorem PySem.W.Fast.tw573552180769436101:True:=⟨⟩
theorem PySem.W.Fast.tw16111357936621432293:True:=⟨⟩
theorem PySem.W.Fast.tw415071194901204485:True:=⟨⟩
theorem PySem.W.Fast.tw16147194876899371589:True:=⟨⟩
theorem PySem.W.Fast.tw15308494179847465573:True:=⟨⟩
theorem PySem.W.Fast.tw17744215564475364965:True:=⟨⟩
theorem PySem.W.Fast.tw16992734602677434117:True:=⟨⟩
theorem PySem.W.Fast.tw17015915590757110597:True:=⟨⟩
theorem PySem.W.Fast.tw10964628087761515365:True:=⟨⟩
theorem PySem.W.Fast.tw7666247626083739589:True:=⟨⟩
theorem PySem.W.Fast.tw22483124597279717:True:=⟨⟩
theorem PySem.W.Fast.tw17080520075791225894:True:=⟨⟩
theorem PySem.W.Fast.tw11694955729127310406:True:=⟨⟩
theorem PySem.W.Fast.tw9611687392674252870:True:=⟨⟩
theorem PySem.W.Fast.tw9270311937269935238:True:=⟨⟩
theorem PySem.W.Fast.tw18047673454892803334:True:=⟨⟩
theorem PySem.W.Fast.tw15061339085900915302:True:=⟨⟩
theorem PySem.W.Fast.tw651893085144710886:True:=⟨⟩
theorem PySem.W.Fast.tw116863754996482822:True:=⟨⟩
theorem PySem.W.Fast.tw2941355521567321958:True:=⟨⟩
theorem PySem.W.Fast.tw6601855236728487782:True:=⟨⟩
theorem PySem.W.Fast.tw17923717986284221350:True:=⟨⟩
theorem PySem.W.Fast.tw17612005316253768678:True:=⟨⟩
theorem PySem.W.Fast.tw15729016688281236487:True:=⟨⟩
theorem PySem.W.Fast.tw7309277913795950759:True:=⟨⟩
theorem PySem.W.Fast.tw14979007648993630663:True:=⟨⟩
theorem PySem.W.Fast.tw7702965066203022951:True:=⟨⟩
theorem PySem.W.Fast.tw7823618391382049447:True:=⟨⟩
theorem PySem.W.Fast.tw15078711167189657415:True:=⟨⟩
theorem PySem.W.Fast.tw16784657661201959911:True:=⟨⟩
theorem PySem.W.Fast.tw13297968221514471464:True:=⟨⟩
theorem PySem.W.Fast.tw8394655508445824360:True:=⟨⟩
theorem PySem.W.Fast.tw7502209083330403752:True:=⟨⟩
theorem PySem.W.Fast.tw14901211519187185064:True:=⟨⟩
theorem PySem.W.Fast.tw11370608951365401032:True:=⟨⟩
theorem PySem.W.Fast.tw4603827539580021352:True:=⟨⟩
theorem PySem.W.Fast.tw13280994696043459528:True:=⟨⟩
theorem PySem.W.Fast.tw2063068651680697320:True:=⟨⟩
theorem PySem.W.Fast.tw9849698139334304777:True:=⟨⟩
theorem PySem.W.Fast.tw14108832115638747177:True:=⟨⟩
theorem PySem.W.Fast.tw13354932400813197737:True:=⟨⟩
theorem PySem.W.Fast.tw15756644736969900521:True:=⟨⟩
theorem PySem.W.Fast.tw7443467325828171273:True:=⟨⟩
theorem PySem.W.Fast.tw11912466705995052553:True:=⟨⟩
theorem PySem.W.Fast.tw14076530870758653513:True:=⟨⟩
theorem PySem.W.Fast.tw8014744945227114057:True:=⟨⟩
theorem PySem.W.Fast.tw8866808599833017961:True:=⟨⟩
theorem PySem.W.Fast.tw1593443014836109961:True:=⟨⟩
theorem PySem.W.Fast.tw14900182987400044489:True:=⟨⟩
theorem PySem.W.Fast.tw2170372383728315498:True:=⟨⟩
theorem PySem.W.Fast.tw1004399230820573322:True:=⟨⟩
theorem PySem.W.Fast.tw10399247726527933610:True:=⟨⟩
theorem PySem.W.Fast.tw14012510575329112298:True:=⟨⟩
theorem PySem.W.Fast.tw14277348645368891658:True:=⟨⟩
theorem PySem.W.Fast.tw1823529785927401738:True:=⟨⟩
theorem PySem.W.Fast.tw15956701446161055018:True:=⟨⟩
theorem PySem.W.Fast.tw14951578610564444490:True:=⟨⟩
theorem PySem.W.Fast.tw1733633303943752042:True:=⟨⟩
theorem PySem.W.Fast.tw15509721596549695914:True:=⟨⟩
theorem PySem.W.Fast.tw16260372541324904970:True:=⟨⟩
theorem PySem.W.Fast.tw17864198627171772074:True:=⟨⟩
theorem PySem.W.Fast.tw2936501930622716650:True:=⟨⟩
theorem PySem.W.Fast.tw6944554275925729066:True:=⟨⟩
theorem PySem.W.Fast.tw15984464001170809642:True:=⟨⟩
theorem PySem.W.Fast.tw16633733057462837098:True:=⟨⟩
theorem PySem.W.Fast.tw2886072170806103914:True:=⟨⟩
theorem PySem.W.Fast.tw629468358560389002:True:=⟨⟩
theorem PySem.W.Fast.tw14800982557025543082:True:=⟨⟩
theorem PySem.W.Fast.tw11579993038313550762:True:=⟨⟩
theorem PySem.W.Fast.tw3410663664033430506:True:=⟨⟩
theorem PySem.W.Fast.tw796988911680515147:True:=⟨⟩
theorem PySem.W.Fast.tw8060679562349573323:True:=⟨⟩
theorem PySem.W.Fast.tw13601145334786606315:True:=⟨⟩
theorem PySem.W.Fast.tw2710397921861032235:True:=⟨⟩
theorem PySem.W.Fast.tw336126343588980203:True:=⟨⟩
theorem PySem.W.Fast.tw17758195594015335915:True:=⟨⟩
theorem PySem.W.Fast.tw17591638515482256971:True:=⟨⟩
theorem PySem.W.Fast.tw15244327399350108011:True:=⟨⟩
theorem PySem.W.Fast.tw18178999626411979755:True:=⟨⟩
theorem PySem.W.Fast.tw8254535951601329196:True:=⟨⟩
theorem PySem.W.Fast.tw75848209325002796:True:=⟨⟩
theorem PySem.W.Fast.tw7432798171781940300:True:=⟨⟩
theorem PySem.W.Fast.tw14338835959937566892:True:=⟨⟩
theorem PySem.W.Fast.tw6479230863253563564:True:=⟨⟩
theorem PySem.W.Fast.tw17815275758739768620:True:=⟨⟩
theorem PySem.W.Fast.tw7480711060873604492:True:=⟨⟩
theorem PySem.W.Fast.tw7287556320828043788:True:=⟨⟩
theorem PySem.W.Fast.tw16130420944196747788:True:=⟨⟩
theorem PySem.W.Fast.tw4395960724069008076:True:=⟨⟩
theorem PySem.W.Fast.tw4130233767182874316:True:=⟨⟩
theorem PySem.W.Fast.tw10531369555141757676:True:=⟨⟩
theorem PySem.W.Fast.tw9918159655330874252:True:=⟨⟩
theorem PySem.W.Fast.tw2859731085892939756:True:=⟨⟩
theorem PySem.W.Fast.tw4366579913130838029:True:=⟨⟩
theorem PySem.W.Fast.tw4089757020575840333:True:=⟨⟩
theorem PySem.W.Fast.tw13487708966975713485:True:=⟨⟩
theorem PySem.W.Fast.tw8647538652670229773:True:=⟨⟩
theorem PySem.W.Fast.tw7723101747788729645:True:=⟨⟩
theorem PySem.W.Fast.tw10326779848830912909:True:=⟨⟩
theorem PySem.W.Fast.tw12609004044422877613:True:=⟨⟩
theorem PySem.W.Fast.tw11198538253287149037:True:=⟨⟩
theorem PySem.W.Fast.tw11072784257748129357:True:=⟨⟩
theorem PySem.W.Fast.tw9202587879960730253:True:=⟨⟩
theorem PySem.W.Fast.tw8011090692600446637:True:=⟨⟩
theorem PySem.W.Fast.tw16560852556290578157:True:=⟨⟩
theorem PySem.W.Fast.tw9161314400247218190:True:=⟨⟩
theorem PySem.W.Fast.tw12599112420054317326:True:=⟨⟩
theorem PySem.W.Fast.tw15065667815040206158:True:=⟨⟩
theorem PySem.W.Fast.tw17667652163535356462:True:=⟨⟩
theorem PySem.W.Fast.tw9843464120953964206:True:=⟨⟩
theorem PySem.W.Fast.tw13630760423014234798:True:=⟨⟩
theorem PySem.W.Fast.tw14414572272077735822:True:=⟨⟩
theorem PySem.W.Fast.tw8685452139003727822:True:=⟨⟩
theorem PySem.W.Fast.tw14228484695631301711:True:=⟨⟩
theorem PySem.W.Fast.tw12868857225243734127:True:=⟨⟩
theorem PySem.W.Fast.tw17363309630226243791:True:=⟨⟩
theorem PySem.W.Fast.tw9538980350517795023:True:=⟨⟩
theorem PySem.W.Fast.tw16667121114661877999:True:=⟨⟩
theorem PySem.W.Fast.tw10165386055181480175:True:=⟨⟩
theorem PySem.W.Fast.tw13323014045237445007:True:=⟨⟩
theorem PySem.W.Fast.tw450687505259019759:True:=⟨⟩
theorem PySem.W.Fast.tw9246658168102730287:True:=⟨⟩
theorem PySem.W.Fast.tw7184331142920860271:True:=⟨⟩
theorem PySem.W.Fast.tw14614070727037661871:True:=⟨⟩
theorem PySem.W.Fast.tw9397122398630453967:True:=⟨⟩
theorem PySem.W.Fast.tw1702303674739584783:True:=⟨⟩
theorem PySem.W.Fast.tw5551344629610611503:True:=⟨⟩
theorem PySem.W.Fast.tw13619278316626013167:True:=⟨⟩
theorem PySem.W.Fast.tw2987562370936799376:True:=⟨⟩
theorem PySem.W.Fast.tw9158013984472505488:True:=⟨⟩
theorem PySem.W.Fast.tw4897254662370620560:True:=⟨⟩
theorem PySem.W.Fast.tw415677361211786576:True:=⟨⟩
theorem PySem.W.Fast.tw14385106084566990160:True:=⟨⟩
theorem PySem.W.Fast.tw8491511031521614224:True:=⟨⟩
theorem PySem.W.Fast.tw2075808882061007280:True:=⟨⟩
theorem PySem.W.Fast.tw1150096667045859824:True:=⟨⟩
theorem PySem.W.Fast.tw9884872058946188784:True:=⟨⟩
theorem PySem.W.Fast.tw4013059231414229552:True:=⟨⟩
theorem PySem.W.Fast.tw10521851789812711056:True:=⟨⟩
theorem PySem.W.Fast.tw5600466033285435056:True:=⟨⟩
theorem PySem.W.Fast.tw3008072693550066384:True:=⟨⟩
theorem PySem.W.Fast.tw4966806564417642256:True:=⟨⟩
theorem PySem.W.Fast.tw4700495846659236624:True:=⟨⟩
theorem PySem.W.Fast.tw707938529314517776:True:=⟨⟩
theorem PySem.W.Fast.tw9190749862305620880:True:=⟨⟩
theorem PySem.W.Fast.tw14695038304687458288:True:=⟨⟩
theorem PySem.W.Fast.tw13645491795828046865:True:=⟨⟩
theorem PySem.W.Fast.tw14482060996671040593:True:=⟨⟩
theorem PySem.W.Fast.tw12547834578246981809:True:=⟨⟩
theorem PySem.W.Fast.tw16202751743578713297:True:=⟨⟩
theorem PySem.W.Fast.tw2267601341033140657:True:=⟨⟩
theorem PySem.W.Fast.tw8960788104631141905:True:=⟨⟩
theorem PySem.W.Fast.tw17506747582811683409:True:=⟨⟩
theorem PySem.W.Fast.tw4800714634379798289:True:=⟨⟩
theorem PySem.W.Fast.tw3551954327625196562:True:=⟨⟩
theorem PySem.W.Fast.tw7102760306765406418:True:=⟨⟩
theorem PySem.W.Fast.tw3116217032713416914:True:=⟨⟩
theorem PySem.W.Fast.tw572489436250828018:True:=⟨⟩
theorem PySem.W.Fast.tw15262838208050422098:True:=⟨⟩
theorem PySem.W.Fast.tw7620860757132542482:True:=⟨⟩
theorem PySem.W.Fast.tw4230837975415840274:True:=⟨⟩
theorem PySem.W.Fast.tw2634445758730257010:True:=⟨⟩
theorem PySem.W.Fast.tw10992821025968362162:True:=⟨⟩
theorem PySem.W.Fast.tw18263871569965825746:True:=⟨⟩
theorem PySem.W.Fast.tw7299922307766550354:True:=⟨⟩
theorem PySem.W.Fast.tw6062399454078068722:True:=⟨⟩
theorem PySem.W.Fast.tw13934829963358082067:True:=⟨⟩
theorem PySem.W.Fast.tw2990939543530462355:True:=⟨⟩
theorem PySem.W.Fast.tw11963409359425220787:True:=⟨⟩
theorem PySem.W.Fast.tw17909151376265122067:True:=⟨⟩
theorem PySem.W.Fast.tw1137442558070720883:True:=⟨⟩
theorem PySem.W.Fast.tw12796734463121589715:True:=⟨⟩
theorem PySem.W.Fast.tw15408382270579783187:True:=⟨⟩
theorem PySem.W.Fast.tw10583267655922163251:True:=⟨⟩
theorem PySem.W.Fast.tw14887642647470389875:True:=⟨⟩
theorem PySem.W.Fast.tw5508870189591847539:True:=⟨⟩
theorem PySem.W.Fast.tw18419730715286186835:True:=⟨⟩
theorem PySem.W.Fast.tw13176669856052544596:True:=⟨⟩
theorem PySem.W.Fast.tw4836489357597181108:True:=⟨⟩
theorem PySem.W.Fast.tw14050292785715557620:True:=⟨⟩
theorem PySem.W.Fast.tw3297113576913614100:True:=⟨⟩
theorem PySem.W.Fast.tw18294165612208375220:True:=⟨⟩
theorem PySem.W.Fast.tw6084378476703520212:True:=⟨⟩
theorem PySem.W.Fast.tw7620861322510575348:True:=⟨⟩
theorem PySem.W.Fast.tw17083514573303710452:True:=⟨⟩
theorem PySem.W.Fast.tw4086117147702279956:True:=⟨⟩
theorem PySem.W.Fast.tw16079052907982412628:True:=⟨⟩
theorem PySem.W.Fast.tw6635971872294671348:True:=⟨⟩
theorem PySem.W.Fast.tw1593934924258666517:True:=⟨⟩
theorem PySem.W.Fast.tw12511393677153154485:True:=⟨⟩
theorem PySem.W.Fast.tw16654780979639080469:True:=⟨⟩
theorem PySem.W.Fast.tw751947535269680725:True:=⟨⟩
theorem PySem.W.Fast.tw4870022320812627573:True:=⟨⟩
theorem PySem.W.Fast.tw17386951086319053525:True:=⟨⟩
theorem PySem.W.Fast.tw7799920140601434869:True:=⟨⟩
theorem PySem.W.Fast.tw4164368730536383253:True:=⟨⟩
theorem PySem.W.Fast.tw8653613658523059989:True:=⟨⟩
theorem PySem.W.Fast.tw17138690771690338101:True:=⟨⟩
theorem PySem.W.Fast.tw8617815367169181557:True:=⟨⟩
theorem PySem.W.Fast.tw1791215888813901717:True:=⟨⟩
theorem PySem.W.Fast.tw15174982659809538005:True:=⟨⟩
theorem PySem.W.Fast.tw12162406273442437142:True:=⟨⟩
theorem PySem.W.Fast.tw762103189769903222:True:=⟨⟩
theorem PySem.W.Fast.tw5361909926790091990:True:=⟨⟩
theorem PySem.W.Fast.tw7361419933236668630:True:=⟨⟩
theorem PySem.W.Fast.tw9631811277839596022:True:=⟨⟩
theorem PySem.W.Fast.tw2921283492451107350:True:=⟨⟩
theorem PySem.W.Fast.tw16613901005654653782:True:=⟨⟩
theorem PySem.W.Fast.tw16379668714873304950:True:=⟨⟩
theorem PySem.W.Fast.tw2423048071986994038:True:=⟨⟩
theorem PySem.W.Fast.tw1994311033464351606:True:=⟨⟩
theorem PySem.W.Fast.tw18438308001346259095:True:=⟨⟩
theorem PySem.W.Fast.tw15556334505864276151:True:=⟨⟩
theorem PySem.W.Fast.tw17104600729748853975:True:=⟨⟩
theorem PySem.W.Fast.tw5016864291839171863:True:=⟨⟩
theorem PySem.W.Fast.tw6608221113451028023:True:=⟨⟩
theorem PySem.W.Fast.tw15078789577628659383:True:=⟨⟩
theorem PySem.W.Fast.tw6921821335383510871:True:=⟨⟩
theorem PySem.W.Fast.tw2792616562707419127:True:=⟨⟩
theorem PySem.W.Fast.tw4248664100528562360:True:=⟨⟩
theorem PySem.W.Fast.tw17351336147285987704:True:=⟨⟩
theorem PySem.W.Fast.tw3128974059416415736:True:=⟨⟩
theorem PySem.W.Fast.tw16413958245847723544:True:=⟨⟩
theorem PySem.W.Fast.tw14137824091398191096:True:=⟨⟩
theorem PySem.W.Fast.tw1980796991709787193:True:=⟨⟩
theorem PySem.W.Fast.tw4016780799129423993:True:=⟨⟩
theorem PySem.W.Fast.tw6080610944853195929:True:=⟨⟩
theorem PySem.W.Fast.tw10602884531866635449:True:=⟨⟩
theorem PySem.W.Fast.tw9478107591881172185:True:=⟨⟩
theorem PySem.W.Fast.tw8524463287157755129:True:=⟨⟩
theorem PySem.W.Fast.tw6295759805509463417:True:=⟨⟩
theorem PySem.W.Fast.tw11541057877391711705:True:=⟨⟩
theorem PySem.W.Fast.tw17948284166318906873:True:=⟨⟩
theorem PySem.W.Fast.tw9418513519519009305:True:=⟨⟩
theorem PySem.W.Fast.tw8384511142731902489:True:=⟨⟩
theorem PySem.W.Fast.tw15853894880830172729:True:=⟨⟩
theorem PySem.W.Fast.tw3936573561380197049:True:=⟨⟩
theorem PySem.W.Fast.tw4769865619842413401:True:=⟨⟩
theorem PySem.W.Fast.tw5756149400309665657:True:=⟨⟩
theorem PySem.W.Fast.tw10646073154093025209:True:=⟨⟩
theorem PySem.W.Fast.tw12494698232717620346:True:=⟨⟩
theorem PySem.W.Fast.tw4617112122696341754:True:=⟨⟩
theorem PySem.W.Fast.tw8416613954537894170:True:=⟨⟩
theorem PySem.W.Fast.tw7943145605397067034:True:=⟨⟩
theorem PySem.W.Fast.tw5256756198308738426:True:=⟨⟩
theorem PySem.W.Fast.tw4261165313672252858:True:=⟨⟩
theorem PySem.W.Fast.tw13317686672581597722:True:=⟨⟩
theorem PySem.W.Fast.tw17368056340794264154:True:=⟨⟩
theorem PySem.W.Fast.tw16932561343308118682:True:=⟨⟩
theorem PySem.W.Fast.tw13201872644826445658:True:=⟨⟩
theorem PySem.W.Fast.tw6955726351140863930:True:=⟨⟩
theorem PySem.W.Fast.tw9007246571929827322:True:=⟨⟩
theorem PySem.W.Fast.tw18343200094751821915:True:=⟨⟩
theorem PySem.W.Fast.tw11028520031215686747:True:=⟨⟩
theorem PySem.W.Fast.tw1037310947634534619:True:=⟨⟩
theorem PySem.W.Fast.tw14991839911217212699:True:=⟨⟩
theorem PySem.W.Fast.tw9132229264120588891:True:=⟨⟩
theorem PySem.W.Fast.tw9771561426501140187:True:=⟨⟩
theorem PySem.W.Fast.tw4544649626705293083:True:=⟨⟩
theorem PySem.W.Fast.tw10062500984411221883:True:=⟨⟩
theorem PySem.W.Fast.tw4389627282525018107:True:=⟨⟩
theorem PySem.W.Fast.tw7030155494744201372:True:=⟨⟩
theorem PySem.W.Fast.tw18387679898533572828:True:=⟨⟩
theorem PySem.W.Fast.tw2601210046655248636:True:=⟨⟩
theorem PySem.W.Fast.tw5149299041756082428:True:=⟨⟩
theorem PySem.W.Fast.tw17679584393436333372:True:=⟨⟩
theorem PySem.W.Fast.tw777350079592419676:True:=⟨⟩
theorem PySem.W.Fast.tw7652340635569459548:True:=⟨⟩
theorem PySem.W.Fast.tw7822983774461121052:True:=⟨⟩
theorem PySem.W.Fast.tw12787226305915835004:True:=⟨⟩
theorem PySem.W.Fast.tw10345068809702634140:True:=⟨⟩
theorem PySem.W.Fast.tw16778880468880360156:True:=⟨⟩
theorem PySem.W.Fast.tw4790601994274163452:True:=⟨⟩
theorem PySem.W.Fast.tw6665380016300807996:True:=⟨⟩
theorem PySem.W.Fast.tw9228418406265625436:True:=⟨⟩
theorem PySem.W.Fast.tw8635184982562455484:True:=⟨⟩
theorem PySem.W.Fast.tw16076176953904735228:True:=⟨⟩
theorem PySem.W.Fast.tw396502779379826781:True:=⟨⟩
theorem PySem.W.Fast.tw6738601686173880509:True:=⟨⟩
theorem PySem.W.Fast.tw14656796426926245085:True:=⟨⟩
theorem PySem.W.Fast.tw7474761272090789181:True:=⟨⟩
theorem PySem.W.Fast.tw7797908611254109533:True:=⟨⟩
theorem PySem.W.Fast.tw1568397945927973213:True:=⟨⟩
theorem PySem.W.Fast.tw13127749199907739133:True:=⟨⟩
theorem PySem.W.Fast.tw9795562492038664797:True:=⟨⟩
theorem PySem.W.Fast.tw972466173800553053:True:=⟨⟩
theorem PySem.W.Fast.tw10386323348617898653:True:=⟨⟩
theorem PySem.W.Fast.tw9912946475613984477:True:=⟨⟩
theorem PySem.W.Fast.tw1823247450743554973:True:=⟨⟩
theorem PySem.W.Fast.tw7119798869309965245:True:=⟨⟩
theorem PySem.W.Fast.tw7255548116572203230:True:=⟨⟩
theorem PySem.W.Fast.tw3593614147291092286:True:=⟨⟩
theorem PySem.W.Fast.tw10260965965629064510:True:=⟨⟩
theorem PySem.W.Fast.tw8738537345980175838:True:=⟨⟩
theorem PySem.W.Fast.tw1861968580442698334:True:=⟨⟩
theorem PySem.W.Fast.tw10150086306468808350:True:=⟨⟩
theorem PySem.W.Fast.tw3882215356796801822:True:=⟨⟩
theorem PySem.W.Fast.tw3111048962742008638:True:=⟨⟩
theorem PySem.W.Fast.tw13373919508350097278:True:=⟨⟩
theorem PySem.W.Fast.tw9297344262816940958:True:=⟨⟩
theorem PySem.W.Fast.tw13074794372462724223:True:=⟨⟩
theorem PySem.W.Fast.tw10610029504407873823:True:=⟨⟩
theorem PySem.W.Fast.tw507967662255595839:True:=⟨⟩
theorem PySem.W.Fast.tw11328076247696735775:True:=⟨⟩
theorem PySem.W.Fast.tw17825874442737528447:True:=⟨⟩
theorem PySem.W.Fast.tw13792178677326594719:True:=⟨⟩
theorem PySem.W.Fast.tw7921914341942092799:True:=⟨⟩
theorem PySem.W.Fast.tw6341317104877733181:True:=⟨⟩
set_option maxRecDepth 100000 in
set_option maxHeartbeats 0 in
theorem PySem.Challenge.cw_unlikesteps_k01_boards_and_lays_looked_a_holds : PySem.Challenge.rw_unlikesteps_k01_boards_and_lays_looked_a.Holds := by
 w_on; o_law; k_head; (case hw => w_witness2)
 k_fill
 refine U.tG (l := PySem.Challenge.rw_unlikesteps_k01_boards_and_lays_looked_a) (n := 63) (k := 9) (x := "_law_script") (Pts := [337]) (sp := fun K => U.md K 337) rfl (by decide) rfl ⟨rfl, by decide, by decide, rfl⟩ (fun w h Y => PySem.W.km_in_of Y) ?hT9 ?hC9 ?hN9 ?F ?S
 case hT9 =>
  intro w h Y P hP
  simp only [List.mem_cons, List.not_mem_nil, or_false] at hP
  rcases hP with rfl
  ·exact PySem.W.km_tabs_of Y 337 (by simp)
 case hC9 =>
  intro w h X P hP
  simp only [List.mem_cons, List.not_mem_nil, or_false] at hP
  rcases hP with rfl
  ·exact ⟨339, PySem.W.codeHd_of_K X (by kernel_rfl)⟩
 case hN9 =>
  intro w P hP
  simp only [List.mem_cons, List.not_mem_nil, or_false] at hP
  rcases hP with rfl
  ·kernel_rfl
 case S => exact fun K H a ns hl hs hp => ⟨a, ns, rfl, hs, hl, hp _ (by simp), fun _ => rfl⟩
 case F =>
  intro w mg fa h KX G hmg
  refine' U.wI (c := 339) (Pt := 337) KX G hmg (U.bT ?a0 ?b0 ?c0 ?e0) (U.bT ?a1 ?b1 ?c1 ?e1) (U.bT ?a2 ?b2 ?c2 ?e2) (U.bT ?a3 ?b3 ?c3 ?e3) (U.bT ?a4 ?b4 ?c4 ?e4) (U.bT ?a5 ?b5 ?c5 ?e5) (U.bT ?a6 ?b6 ?c6 ?e6) (U.bT ?a7 ?b7 ?c7 ?e7) (U.bT ?a8 ?b8 ?c8 ?e8) (U.bT ?a9 ?b9 ?c9 ?e9) (U.bT ?a10 ?b10 ?c10 ?e10) (U.bT ?a11 ?b11 ?c11 ?e11) (U.bT ?a12 ?b12 ?c12 ?e12) (U.bT ?a13 ?b13 ?c13 ?e13) (U.bT ?a14 ?b14 ?c14 ?e14) (U.bT ?a15 ?b15 ?c15 ?e15) (U.bT ?a16 ?b16 ?c16 ?e16) (U.bT ?a17 ?b17 ?c17 ?e17) (U.bT ?a18 ?b18 ?c18 ?e18) (U.bT ?a19 ?b19 ?c19 ?e19) ?l1 ?l2 ?l3 ?l4 ?g1 ?lo0 ?eA ?eB ?eC ?eD ?eE ?eF ?eG ?eH ?eI ?eJ ?eK ?eL ?eM ?eN ?eO ?eS ?xA ?xB ?xC ?xD ?xE ?xF ?xG ?xH ?xI ?xJ ?xK ?xL ?xM ?xN ?xO ?kst ?gaA ?hoA ?clA ?gaB ?hoB ?clB ?gaC ?hoC ?clC ?gaD ?hoD ?clD ?gaE ?hoE ?clE ?gaF ?hoF ?clF ?gaG ?hoG ?clG ?gaH ?hoH ?clH ?gaI ?hoI ?clI ?gaJ ?hoJ ?clJ ?gaK ?hoK ?clK ?gaL ?hoL ?clL ?gaM ?hoM ?clM ?gaN ?hoN ?clN ?gaO ?hoO ?clO
  (case a0 => k_is); (case b0 => k_is); (case c0 => k_is); (case e0 => k_is)
  (case a1 => k_is); (case b1 => k_is); (case c1 => k_is); (case e1 => k_is)
  (case a2 => k_is); (case b2 => k_is); (case c2 => k_is); (case e2 => k_is)
  (case a3 => k_is); (case b3 => k_is); (case c3 => k_is); (case e3 => k_is)
  (case a4 => k_is); (case b4 => k_is); (case c4 => k_is); (case e4 => k_is)
  (case a5 => k_is); (case b5 => k_is); (case c5 => k_is); (case e5 => k_is)
  (case a6 => k_is); (case b6 => k_is); (case c6 => k_is); (case e6 => k_is)
  (case a7 => k_is); (case b7 => k_is); (case c7 => k_is); (case e7 => k_is)
  (case a8 => k_is); (case b8 => k_is); (case c8 => k_is); (case e8 => k_is)
  (case a9 => k_is); (case b9 => k_is); (case c9 => k_is); (case e9 => k_is)
  (case a10 => k_is); (case b10 => k_is); (case c10 => k_is); (case e10 => k_is)
  (case a11 => k_is); (case b11 => k_is); (case c11 => k_is); (case e11 => k_is)
  (case a12 => k_is); (case b12 => k_is); (case c12 => k_is); (case e12 => k_is)
  (case a13 => k_is); (case b13 => k_is); (case c13 => k_is); (case e13 => k_is)
  (case a14 => k_is); (case b14 => k_is); (case c14 => k_is); (case e14 => k_is)
  (case a15 => k_is); (case b15 => k_is); (case c15 => k_is); (case e15 => k_is)
  (case a16 => k_is); (case b16 => k_is); (case c16 => k_is); (case e16 => k_is)
  (case a17 => k_is); (case b17 => k_is); (case c17 => k_is); (case e17 => k_is)
  (case a18 => k_is); (case b18 => k_is); (case c18 => k_is); (case e18 => k_is)
  (case a19 => k_is); (case b19 => k_is); (case c19 => k_is); (case e19 => k_is)
  (case l1 => k_is)
  (case l2 => k_is)
  (case l3 => k_is)
  (case l4 => kernel_rfl)
  (case g1 => kernel_rfl)
  (case lo0 => k_is)
  (case eA => k_is)
  (case eB => k_is)
  (case eC => k_is)
  (case eD => k_is)
  (case eE => k_is)
  (case eF => k_is)
  (case eG => k_is)
  (case eH => k_is)
  (case eI => k_is)
  (case eJ => k_is)
  (case eK => k_is)
  (case eL => k_is)
  (case eM => k_is)
  (case eN => k_is)
  (case eO => k_is)
  (case eS => k_is)
  (case xA => kernel_rfl)
  (case xB => kernel_rfl)
  (case xC => kernel_rfl)
  (case xD => kernel_rfl)
  (case xE => kernel_rfl)
  (case xF => kernel_rfl)
  (case xG => kernel_rfl)
  (case xH => kernel_rfl)
  (case xI => kernel_rfl)
  (case xJ => kernel_rfl)
  (case xK => kernel_rfl)
  (case xL => kernel_rfl)
  (case xM => kernel_rfl)
  (case xN => kernel_rfl)
  (case xO => kernel_rfl)
  (case kst => kernel_rfl)
  (case gaA => k_is)
  (case hoA => k_is)
  (case clA => k_is)
  (case gaB => k_is)
  (case hoB => k_is)
  (case clB => k_is)
  (case gaC => k_is)
  (case hoC => k_is)
  (case clC => k_is)
  (case gaD => k_is)
  (case hoD => k_is)
  (case clD => k_is)
  (case gaE => k_is)
  (case hoE => k_is)
  (case clE => k_is)
  (case gaF => k_is)
  (case hoF => k_is)
  (case clF => k_is)
  (case gaG => k_is)
  (case hoG => k_is)
  (case clG => k_is)
  (case gaH => k_is)
  (case hoH => k_is)
  (case clH => k_is)
  (case gaI => k_is)
  (case hoI => k_is)
  (case clI => k_is)
  (case gaJ => k_is)
  (case hoJ => k_is)
  (case clJ => k_is)
  (case gaK => k_is)
  (case hoK => k_is)
  (case clK => k_is)
  (case gaL => k_is)
  (case hoL => k_is)
  (case clL => k_is)
  (case gaM => k_is)
  (case hoM => k_is)
  (case clM => k_is)
  (case gaN => k_is)
  (case hoN => k_is)
  (case clN => k_is)
  (case gaO => k_is)
  (case hoO => k_is)
  (case clO => k_is)
