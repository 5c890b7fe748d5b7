import PyProof.Rows.All
import Wide.All
import OpenK.AllK
import Wide.FinOn
import Lean
import PyProof.EqAt
import PyProof.EqKinds
import PyProof.TupleCall
import PyProof.NeKinds
import PyProof.Rows.SortWalk
import PyProof.Rows.SortRuns
import KE.KMinKey
import PyProof.IsRules
import PySem.SetOps
import PyProof.SetScanFacts
import PyProof.TupleKey
import PyProof.SetKind
import PyProof.Rows.SetFrom
import KE.KRevSl
import PyProof.Rows.SumAny
import PyProof.EnumMake
import PyProof.SeqI3
import PyProof.TupleOfGen
import PyProof.ListRange
import PyProof.CollectIter
import PyProof.DictItems
import KE.KDictList
import PySem.Challenge.RW_unlikesteps_k13_whole_hits
set_option Elab.async false
set_option linter.all false
set_option maxRecDepth 100000
set_option maxHeartbeats 0
namespace L2
open PySem PySem.Spec PyProof.Rows
abbrev Key:=Sum Int Str
def jH:Key→Value→Bool
 | .inl k,v=>Value.isInt k v
 | .inr x,v=>Value.isStrOf x v
def y9 (w:World):Key→Int
 | .inl k=>hashInt k
 | .inr x=>hashStr w x
theorem ZB:∀{k:Key}{v:Value},jH k v=true→(∃i t,k=Sum.inl i∧v=Value.int i t)∨(∃x t,k=Sum.inr x∧v=Value.str x t)
 | .inl i,v,h=>by
  obtain⟨t,e⟩:=Value.isInt_shape (k:=i) (v:=v) h
  exact .inl ⟨i,t,rfl,e⟩
 | .inr x,v,h=>by
  obtain⟨t,e⟩:=Value.isStrOf_shape (x:=x) (v:=v) h
  exact .inr ⟨x,t,rfl,e⟩
theorem Eg (i:Int) (t:Tok):jH (.inl i) (.int i t)=true:=by simp[jH,Value.isInt]
theorem Eh (x:Str) (t:Tok):jH (.inr x) (.str x t)=true:=by simp[jH,Value.isStrOf]
theorem Cm (a b:Int):decide ((Sum.inl a:Key)=Sum.inl b)=(a==b):=by
 by_cases e:a=b
 ·subst e;simp
 ·have h:¬(Sum.inl a:Key)=Sum.inl b:=fun q=>e (Sum.inl.inj q)
  rw[decide_eq_false h]
  exact(beq_eq_false_iff_ne.mpr e).symm
theorem Cp (a b:Str):decide ((Sum.inr a:Key)=Sum.inr b)=decide (a=b):=by
 by_cases e:a=b
 ·subst e;simp
 ·have h:¬(Sum.inr a:Key)=Sum.inr b:=fun q=>e (Sum.inr.inj q)
  rw[decide_eq_false h,decide_eq_false e]
theorem Cn (a:Int) (b:Str):decide ((Sum.inl a:Key)=Sum.inr b)=false:=decide_eq_false (fun q=>nomatch q)
theorem Co (a:Str) (b:Int):decide ((Sum.inr a:Key)=Sum.inl b)=false:=decide_eq_false (fun q=>nomatch q)
def cU (prog:Program) (w:World):PySem.KeyKind prog w Key where
 is:=jH
 hash:=y9 w
 inj:=fun v a b ha hb=>by
  rcases ZB ha with ⟨i,t,rfl,rfl⟩ |⟨x,t,rfl,rfl⟩
  ·rcases ZB hb with ⟨j,u,rfl,e⟩ |⟨y,u,rfl,e⟩
   ·injection e with e1 _;rw[e1]
   ·exact nomatch e
  ·rcases ZB hb with ⟨j,u,rfl,e⟩ |⟨y,u,rfl,e⟩
   ·exact nomatch e
   ·injection e with e1 _;rw[e1]
 byValue:=fun k v h=>by
  rcases ZB h with ⟨i,t,rfl,rfl⟩ |⟨x,t,rfl,rfl⟩<;>rfl
 pyHash:=fun hv h=>by
  rcases ZB hv with ⟨i,t,rfl,rfl⟩ |⟨x,t,rfl,rfl⟩
  ·exact wpAny_pyHash_int h
  ·exact wpAny_pyHash_str h
 eqBool:=fun hu hv h=>by
  rcases ZB hu with ⟨i,t,rfl,rfl⟩ |⟨x,t,rfl,rfl⟩
  ·rcases ZB hv with ⟨j,u,rfl,rfl⟩ |⟨y,u,rfl,rfl⟩
   ·rw[Cm]at h;exact wpAny_eqBool_int h
   ·rw[Cn]at h;exact SeqAt.EqAt.int_str i t y u _ _ _ _ h
  ·rcases ZB hv with ⟨j,u,rfl,rfl⟩ |⟨y,u,rfl,rfl⟩
   ·rw[Co]at h;exact SeqAt.EqAt.str_int x t j u _ _ _ _ h
   ·rw[Cp]at h;exact wpAny_eqBool_str h
 «strs» :=fun k x t v h=>by
  rcases ZB h with ⟨i,u,rfl,e⟩ |⟨y,u,rfl,e⟩
  ·exact nomatch e
  ·injection e with e1 _
   subst e1
   cases v<;>rfl
theorem W5 (prog:Program) (w:World) (i:Int) (t:Tok):(cU prog w).is (.inl i) (.int i t)=true:=Eg i t
theorem W4 (prog:Program) (w:World) (x:Str) (t:Tok):(cU prog w).is (.inr x) (.str x t)=true:=Eh x t
inductive V where
 |ai |bl (b:Bool) |int (i:Int) |str (x:Str) |eP (b:Array UInt8) |gR (b:UInt64) |ref (a:Addr) |ty (n:String)
 deriving DecidableEq
def RelV:V→Value→Prop
 | .ai,u=>u=Value.none
 | .bl b,u=>u=Value.bool b
 | .int i,u=> ∃t,u=Value.int i t
 | .str x,u=> ∃t,u=Value.str x t
 | .eP b,u=> ∃t,u=Value.bytes b t
 | .gR b,u=> ∃t,u=Value.float b t
 | .ref a,u=>u=Value.ref a
 | .ty n,u=>u=Value.type n
abbrev Vals:List V→List Value→Prop:=Paired RelV
theorem Vals.length {xs:List V}{us:List Value}(r:Vals xs us):xs.length=us.length:=Paired.length r
theorem Vals.get:∀{xs:List V}{us:List Value}{i:Nat}{x:V},Vals xs us→xs[i]? =some x→∃u,us[i]? =some u∧RelV x u
 |_,_,_,_,.nil,e=>by simp at e
 |_,_,0,_,.cons r _,e=>by simp at e;subst e;exact⟨_,rfl,r⟩
 |_,_,i+1,x,.cons _ t,e=>by
  obtain⟨u,h1,h2⟩:=Vals.get (i:=i) (x:=x) t (by simpa using e)
  exact⟨u,by simpa using h1,h2⟩
theorem Vals.set {x:V}{u:Value}(r:RelV x u):∀{xs:List V}{us:List Value}(i:Nat),Vals xs us→Vals (xs.set i x) (us.set i u)
 |_,_,_,.nil=> .nil
 |_,_,0,.cons _ t=> .cons r t
 |_,_,i+1,.cons q t=> .cons q (Vals.set r i t)
theorem Vals.append:∀{xs ys:List V}{us ws:List Value},Vals xs us→Vals ys ws→Vals (xs++ys) (us++ws)
 |_,_,_,_,.nil,s=>s
 |_,_,_,_,.cons r t,s=> .cons r (Vals.append t s)
theorem Vals.take:∀{xs:List V}{us:List Value}(n:Nat),Vals xs us→Vals (xs.take n) (us.take n)
 |_,_,0,_=> .nil
 |_,_,_+1,.nil=> .nil
 |_,_,n+1,.cons r t=> .cons r (Vals.take n t)
theorem Vals.drop:∀{xs:List V}{us:List Value}(n:Nat),Vals xs us→Vals (xs.drop n) (us.drop n)
 |_,_,0,r=>r
 |_,_,_+1,.nil=> .nil
 |_,_,n+1,.cons _ t=>Vals.drop n t
def g8:Option V→Option Value→Prop
 |some v,some u=>RelV v u
 |none,none=>True
 |_,_=>False
def KV {κ:Type} :List (κ×V)→List (κ×Value)→Prop:=Paired fun(p:κ×V) (q:κ×Value)=>p.1=q.1∧RelV p.2 q.2
def kV:Key→V
 | .inl i=> .int i
 | .inr x=> .str x
inductive HO where
  |lst (xs:List V)
  |tup (xs:List V)
  |par (xs:List V)
  |dK (kvs:List (Key×V)) |dT (kvs:List (List Key×V))
  |set (S:Int→Bool) (n:Nat)
  |ins (C dx:Addr) (fs:List (Str×V))
  |own (x:Addr)
  |xd (fs:List (Str×V))
  |met (f x:Addr)
  |eh (lo hi:Int)
  |aZ (o:Obj) (u:HO)
  |dZ (ps:Array Value)
  |ext (φ:Heap→Prop)
abbrev Hp:=Addr→Option HO
def upd (H:Hp) (a:Addr) (o:HO):Hp:=fun b=>if b=a then some o else H b
theorem Ze {H:Hp}{a:Addr}{o:HO} :upd H a o a=some o:=by unfold upd;rw[if_pos rfl]
theorem Zf {H:Hp}{a b:Addr}{o:HO}(h:b≠a):upd H a o b=H b:=by unfold upd;rw[if_neg h]
theorem Yc {H:Hp}{a b:Addr}{o u:HO}(h:H a=some o) (h':H b=some u) (d:o≠u):a≠b:=by
 intro e;subst e;rw[h]at h';exact d (Option.some.inj h')
theorem Zb {H:Hp}{a b:Addr}{o:HO}(h:H a=some o) (h':H b=none):a≠b:=by
 intro e;subst e;rw[h]at h';cases h'
section
variable (P:Program) (w:World)
def aI (H:Hp) (h:Heap) (a:Addr):HO→Prop
 | .lst xs=>xs.length≤sizeLine∧∃(its:List Value) (n:Nat),Vals xs its∧h.get? a=some {cls:=.type "list",data:=.seq its.toArray n}
 | .tup xs=>xs.length≤sizeLine∧∃its:List Value,Vals xs its∧IsTup h a its.toArray∧∃o,h.get? a=some o∧o.dict=none
 | .par xs=>xs.length≤sizeLine∧∃its:List Value,Vals xs its∧IsTup h a its.toArray
 | .dK kvs=>kvs.length≤sizeLine∧(a==sysModules)=false∧∃vs,KV kvs vs∧h.DictOf (cU P w) a vs
 | .dT kvs=>kvs.length≤sizeLine∧(a==sysModules)=false∧∃xs:List (List Key×Addr×Value),
   Paired (fun(p:List Key×V) (q:List Key×Addr×Value)=>p.1=q.1∧H q.2.1=some (.tup (p.1.map kV))∧RelV p.2 q.2.2) kvs xs∧
   ∃o es ep,h.get? a=some o∧o.ExactDict∧o.data=.dict es ep∧es.toList=xs.map (entryOfKey (tupleKind (cU P w)))∧(xs.map (·.1)).Nodup
 | .set S n=>h.SetOf (intKind P w) a S n
 | .ins C dx fs=>H dx=some (.own a)∧fs.length≤1000∧dx≠a∧h.get? a=some (PySem.W.instObj C dx)∧
   ∃mA,h.Ns1 dx mA∧(∀f,g8 (fs.lookup f) (mA f))∧PySem.Within mA (fs.map (·.1))
 | .own _=> ∃o,h.get? a=some o
 | .xd fs=> ∃mA,h.Ns1 a mA∧∀f,g8 (fs.lookup f) (mA f)
 | .eh lo hi=> ∃t u v,h.get? a=some {cls:=.type "range",data:=.fields #[.int lo t,.int hi u,.int 1 v]}
 | .aZ o u=>h.get? a=some o∧aI H h a u
 | .dZ ps=>h.get? a=some {cls:=.none,data:=.fields ps}
 | .met f x=>h.get? a=some (PySem.W.methodObj (.ref f) (.ref x))
 | .ext φ=>φ h∧(∃o,h.get? a=some o)∧∀h1 h2:Heap,φ h1→(∀o,h1.get? a=some o→h2.get? a=some o)→φ h2
def bh (H:Hp) (h:Heap):Prop:=∀a o,H a=some o→aI P w H h a o
end
section
variable {P:Program}{w:World}{H H':Hp}{h h':Heap}{a:Addr}{o:HO}
theorem aI.lt (x:aI P w H h a o):a<h.objs.size:=by
 cases o with
 |lst xs=>obtain⟨_,_,_,_,e⟩:=x;exact Heap.lt_size e
 |tup xs=>obtain⟨_,_,_,p,_⟩:=x;exact p.lt
 |par xs=>obtain⟨_,_,_,p⟩:=x;exact p.lt
 |dK kvs=>obtain⟨_,_,_,_,o,_,_,e,_⟩:=x;exact Heap.lt_size e
 |dT kvs=>obtain⟨_,_,_,_,o,_,_,e,_⟩:=x;exact Heap.lt_size e
 |set S n=>obtain⟨o,_,_,_,e,_⟩:=x;exact Heap.lt_size e
 |ins C dx fs=>obtain⟨_,_,_,e,_⟩:=x;exact Heap.lt_size e
 |own y=>obtain⟨_,e⟩:=x;exact Heap.lt_size e
 |xd fs=>obtain⟨_,⟨_,_,_,e,_⟩,_⟩:=x;exact Heap.lt_size e
 |eh lo hi=>obtain⟨_,_,_,e⟩:=x;exact Heap.lt_size e
 |aZ ob u=>obtain⟨e,_⟩:=x;exact Heap.lt_size e
 |dZ ps=>exact Heap.lt_size (show h.get? a=some _ from x)
 |met f y=>exact Heap.lt_size (show h.get? a=some _ from x)
 |ext φ=>obtain⟨_,⟨_,e⟩,_⟩:=x;exact Heap.lt_size e
theorem Paired.bO {α β:Type}{F G:α→β→Prop} :∀{ig:List α}{ie:List β},Paired F ig ie→(∀a b,F a b→G a b)→Paired G ig ie
 |_,_,.nil,_=> .nil
 |_,_,.cons r t,f=> .cons (f _ _ r) (Paired.bO t f)
theorem aI.dA (x:aI P w H h a o) (k:∀b u,(b=a∨H b=some (.own a))→h.get? b=some u→h'.get? b=some u)
  (ho:∀b,H b=some (.own a)→H' b=some (.own a)) (ht:∀b xs,H b=some (.tup xs)→H' b=some (.tup xs)):aI P w H' h' a o:=by
 induction o with
 |lst xs=>obtain⟨z,its,n,r,e⟩:=x;exact⟨z,its,n,r,k _ _ (.inl rfl) e⟩
 |tup xs=>obtain⟨z,its,r,⟨ob,e,c⟩,o2,e2,c2⟩:=x;exact⟨z,its,r,⟨ob,k _ _ (.inl rfl) e,c⟩,o2,k _ _ (.inl rfl) e2,c2⟩
 |par xs=>obtain⟨z,its,r,ob,e,c⟩:=x;exact⟨z,its,r,ob,k _ _ (.inl rfl) e,c⟩
 |dK kvs=>obtain⟨z,y,vs,r,ob,es,ep,e,c⟩:=x;exact⟨z,y,vs,r,ob,es,ep,k _ _ (.inl rfl) e,c⟩
 |dT kvs=>
  obtain⟨z,y,xs,r,ob,es,ep,e,c⟩:=x
  exact⟨z,y,xs,Paired.bO r fun p q z=> ⟨z.1,ht _ _ z.2.1,z.2.2⟩,ob,es,ep,k _ _ (.inl rfl) e,c⟩
 |set S n=>obtain⟨ob,es,ep,t,e,c⟩:=x;exact⟨ob,es,ep,t,k _ _ (.inl rfl) e,c⟩
 |ins C dx fs=>
  obtain⟨d,z,ne,e,mA,⟨od,es,ep,e2,c⟩,r⟩:=x
  exact⟨ho _ d,z,ne,k _ _ (.inl rfl) e,mA,⟨od,es,ep,k _ _ (.inr d) e2,c⟩,r⟩
 |own y=>obtain⟨ob,e⟩:=x;exact⟨ob,k _ _ (.inl rfl) e⟩
 |xd fs=>obtain⟨mA,⟨od,es,ep,e,c⟩,r⟩:=x;exact⟨mA,⟨od,es,ep,k _ _ (.inl rfl) e,c⟩,r⟩
 |eh lo hi=>obtain⟨t,u,v,e⟩:=x;exact⟨t,u,v,k _ _ (.inl rfl) e⟩
 |aZ ob u ih=>obtain⟨e,q⟩:=x;exact⟨k _ _ (.inl rfl) e,ih q⟩
 |dZ ps=>
  have e:h.get? a=some {cls:=.none,data:=.fields ps} :=x
  show h'.get? a=some {cls:=.none,data:=.fields ps}
  exact k a _ (.inl rfl) e
 |met f y=>
  have e:h.get? a=some (PySem.W.methodObj (.ref f) (.ref y)):=x
  show h'.get? a=some (PySem.W.methodObj (.ref f) (.ref y))
  exact k a _ (.inl rfl) e
 |ext φ=>obtain⟨p,⟨o,e⟩,st⟩:=x;exact⟨st _ _ p fun o q=>k _ _ (.inl rfl) q,⟨o,k _ _ (.inl rfl) e⟩,st⟩
theorem bh.lt (x:bh P w H h) (e:H a=some o):a<h.objs.size:=(x a o e).lt
theorem bh.fresh (x:bh P w H h) (e:h.objs.size≤a):H a=none:=by
 cases q:H a with
 |none=>rfl
 |some u=>exact absurd (Nat.lt_of_lt_of_le (x.lt q) e) (Nat.lt_irrefl _)
theorem bh.kept (x:bh P w H h) (k:∀b u,h.get? b=some u→h'.get? b=some u):bh P w H h':=fun a o e=>
 (x a o e).dA (fun b u _ q=>k b u q) (fun _ q=>q) fun _ _ q=>q
theorem bh.laid (x:bh P w H h) (k:∀b u,h.get? b=some u→h'.get? b=some u) (hp:h.objs.size≤a) (new:aI P w (upd H a o) h' a o):bh P w (upd H a o) h':=fun b u e=>by
 have hn:=x.fresh hp
 by_cases hb:b=a
 ·subst hb;rw[Ze]at e;cases e;exact new
 ·rw[Zf hb]at e
  exact(x b u e).dA (fun c v _ q=>k c v q) (fun c q=>by rw[Zf (Zb q hn)];exact q) fun c xs q=>by rw[Zf (Zb q hn)];exact q
end
def Rd (H:Hp) (a:Addr) (u:HO):Prop:=H a=some u∨∃o,H a=some (.aZ o u)
theorem Rd.ok {P:Program}{w:World}{H:Hp}{h:Heap}{a:Addr}{u:HO}(r:Rd H a u) (x:bh P w H h):aI P w H h a u:=by
 rcases r with r |⟨o,r⟩
 ·exact x a u r
 ·obtain⟨_,q⟩:=x a _ r
  exact q
def lj:Option HO→Prop
 |some (.lst _)=>True
 |some (.dK _)=>True
 |some (.dT _)=>True
 |some (.set _ _)=>True
 |some (.ins _ _ _)=>True
 |some (.ext _)=>True
 |_=>False
section
variable {P:Program}{w:World}{H:Hp}{h h':Heap}{x e:Addr}{o':HO}
theorem bh.write (ok:bh P w H h) (mu:lj (H x)) (he:e=x∨H e=some (.own x)) (k:∀b u,b≠e→h.get? b=some u→h'.get? b=some u) (jP:∃u,h'.get? e=some u)
  (new:aI P w (upd H x o') h' x o'):bh P w (upd H x o') h':=fun b u q=>by
 have sy:∀c y,H c=some (.own y)→c≠x:=fun c y r z=>by subst z;rw[r]at mu;exact mu
 have yI:∀c xs,H c=some (.tup xs)→c≠x:=fun c xs r z=>by subst z;rw[r]at mu;exact mu
 by_cases hb:b=x
 ·subst hb;rw[Ze]at q;cases q;exact new
 ·rw[Zf hb]at q
  by_cases i8:b=e
  ·have q':H b=some (.own x):=by
    rcases he with z |z
    ·exact absurd (i8.trans z) hb
    ·rw[i8];exact z
   rw[q]at q';cases q'
   obtain⟨v,hv⟩:=jP
   exact⟨v,by rw[i8];exact hv⟩
  ·refine(ok b u q).dA (fun c v hc r=>k c v ?_ r) (fun c r=>by rw[Zf (sy c b r)];exact r) fun c xs r=>by rw[Zf (yI c xs r)];exact r
   rcases hc with rfl |hc
   ·exact i8
   ·rintro rfl
    rcases he with z |z
    ·exact sy c b hc z
    ·rw[hc]at z;cases z;exact hb rfl
end
structure Un (fs ex:List Addr) (H H':Hp) (h h':Heap):Prop where
 keep:∀b o,h.get? b=some o→H b=none→b∉fs→b∉ex→h'.get? b=some o
 slot:∀b o,h.get? b=some o→H b=none→b∈fs→b∉ex→∃sl,h'.get? b=some {o with slots:=sl}
 free:∀b o,h.get? b=some o→H b=none→b∉ex→H' b=none
 there:∀b o,h.get? b=some o→b∉ex→∃o',h'.get? b=some o'
 gq:∀b xs,H b=some (.tup xs)→H' b=some (.tup xs)
 gk:∀b o u,H b=some (.aZ o u)→H' b=some (.aZ o u)
 fP:∀b ps,H b=some (.dZ ps)→∃more,H' b=some (.dZ (ps++more))
section
variable {fs A1 ex FZ:List Addr}{H H1 H2:Hp}{h h1 h2 h':Heap}{a x e:Addr}{o:HO}
theorem Un.any (u:Un fs ex H H1 h h1) {b:Addr}{ob:Obj}(q:h.get? b=some ob) (n:H b=none) (hx:b∉ex):∃sl,h1.get? b=some {ob with slots:=sl} :=by
 by_cases hb:b∈fs
 ·exact u.slot b ob q n hb hx
 ·exact⟨ob.slots,u.keep b ob q n hb hx⟩
theorem Un.kept (k:∀b u,h.get? b=some u→h'.get? b=some u):Un fs ex H H h h':=
 ⟨fun b ob q _ _ _=>k b ob q,fun b ob q _ _ _=> ⟨ob.slots,k b ob q⟩,fun _ _ _ n _=>n,fun b ob q _=> ⟨ob,k b ob q⟩,fun _ _ q=>q,fun _ _ _ q=>q,fun _ ps q=> ⟨#[],by rw[q];simp⟩⟩
theorem Un.refl:Un fs ex H H h h:=Un.kept fun _ _ q=>q
theorem Un.laid (k:∀b u,h.get? b=some u→h'.get? b=some u) (hp:h.objs.size≤a) (hn:H a=none):Un fs ex H (upd H a o) h h' where
 keep:=fun b u q _ _ _=>k b u q
 slot:=fun b u q _ _ _=> ⟨u.slots,k b u q⟩
 free:=fun b u q n _=>by rw[Zf (Nat.ne_of_lt (Nat.lt_of_lt_of_le (Heap.lt_size q) hp))];exact n
 there:=fun b u q _=> ⟨u,k b u q⟩
 gq:=fun b xs q=>by rw[Zf (Zb q hn)];exact q
 gk:=fun b u xs q=>by rw[Zf (Zb q hn)];exact q
 fP:=fun b ps q=> ⟨#[],by rw[Zf (Zb q hn),q];simp⟩
theorem Un.write (mu:lj (H x)) (he:e=x∨H e=some (.own x)) (k:∀b u,b≠e→h.get? b=some u→h'.get? b=some u) (jP:∃u,h'.get? e=some u):Un fs ex H (upd H x o) h h':=by
 have hx:∀b,H b=none→b≠x:=fun b n z=>by subst z;rw[n]at mu;exact mu
 have hb:∀b,H b=none→b≠e:=fun b n z=>by
  subst z
  rcases he with r |r
  ·exact hx b n r
  ·rw[n]at r;cases r
 have hm:∀b u,H b=some u→¬lj (some u)→b≠x:=fun b u q nm z=>by subst z;rw[q]at mu;exact nm mu
 refine⟨fun b u q n _ _=>k b u (hb b n) q,fun b u q n _ _=> ⟨u.slots,k b u (hb b n) q⟩,fun b u q n _=>by rw[Zf (hx b n)];exact n,fun b u q _=> ?_,
  fun b xs q=>by rw[Zf (hm b _ q fun z=>z)];exact q,fun b u xs q=>by rw[Zf (hm b _ q fun z=>z)];exact q,fun b ps q=> ⟨#[],by rw[Zf (hm b _ q fun z=>z),q];simp⟩⟩
 by_cases i8:b=e
 ·subst i8;exact jP
 ·exact⟨u,k b u i8 q⟩
end
def bW (h:Heap) (H:Hp):List Addr:=(List.range h.objs.size).filter fun a=> (H a).isSome
def gb (h:Heap) (H:Hp):Heap:=PySem.W.hideAll h (bW h H)
theorem Ec (h:Heap) (H:Hp):(gb h H).objs.size=h.objs.size:=PySem.W.hideAll_size _ _
theorem Dp {h:Heap}{H:Hp}{b:Addr}{o:Obj}(e:h.get? b=some o) (n:H b=none):(gb h H).get? b=some o:=
 PySem.W.hideAll_get _ e fun hm=>by
  have q:(H b).isSome=true:=(List.mem_filter.mp hm).2
  rw[n]at q;simp at q
theorem BW {h:Heap}{H:Hp}{b:Addr}{o:Obj}(e:(gb h H).get? b=some o):h.get? b=some o∧H b=none:=by
 have e':h.get? b=some o:=PySem.W.of_hideAll (bW h H) e
 refine⟨e',?_⟩
 cases q:H b with
 |none=>rfl
 |some x=>
  have hm:b∈bW h H:=List.mem_filter.mpr ⟨List.mem_range.mpr (Heap.lt_size e'),by simp[q]⟩
  have z:(gb h H).get? b=none:=PySem.W.hideAll_none (bW h H) hm
  rw[z]at e;cases e
def BB (g h:Heap) (L:Addr):List (Addr×Obj):=(List.range h.objs.size).filterMap fun a=>if a=L∨(g.get? a).isSome=true then none else (h.get? a).map fun o=> (a,o)
def rest (g h:Heap) (L d:Addr):List (Addr×Obj):=(BB g h L).filter fun p=>decide (p.1≠d)
structure Mod (K:PySem.W.Frag) (mg:Str→Option Value) (base:Heap):Prop where
 pC:K.In base
 glob:base.Ns mainGlobals mg
 blt:∃mb,base.Ns builtinsNs mb∧∀x:Str,x≠ "__name__" →mb x=bootBuiltins x
 nolimit:base.NoLimit
structure Cx where
 prog:Program
 w:World
 K:PySem.W.Frag
 mg:Str→Option Value
 base:Heap
 A:Around
 N:List Str
 bR:Shared
 ll:Hp
 env:Env
 outer:List Env
 stack:List Env
 ex:List Addr
 fn:Str→Bool
 calm:Bool
 pn:List (Addr×Obj)
 xe:Value→Shared→Prop
def dJ (l:List Env):List Addr:=l.filterMap (·.frame)
abbrev Cx.fs (X:Cx):List Addr:=dJ X.outer
def mU (sc:Scope) (x:Str):Prop:=sc.names.lookup x=some .local∨sc.names.lookup x=some .cell∨sc.names.lookup x=some .free
def Loc (sc:Scope) (x:Str):Prop:=sc.names.lookup x=some .local∨sc.names.lookup x=some .cell
def Look (env:Env) (h:Heap) (m:Str→Option Value) (x:Str) (u:Value):Prop:=
 (env.kindOf x=some .local∧m x=some u)∨((env.kindOf x=some .cell∨env.kindOf x=some .free)∧∃c,env.cells.lookup x=some c∧h.IsCell c (some u))
structure Cx.Ok (X:Cx):Prop where
 mod:Mod X.K X.mg X.base
 kind:X.env.scope.kind=.function
 glob:X.env.globals=mainGlobals
 blt:X.env.builtins=builtinsNs
 above:X.bR.heap.objs.size≤X.env.locals
 inj:∀x y c,X.env.cells.lookup x=some c→X.env.cells.lookup y=some c→x=y
 has:∀x,(X.env.kindOf x=some .cell∨X.env.kindOf x=some .free)→∃c,X.env.cells.lookup x=some c
 lg:∀x c,X.fn x=true→X.env.cells.lookup x=some c→X.bR.heap.objs.size≤c
 hd:X.calm=true→X.A.handled=none
 frames:X.A.frames=some X.stack
 lz:X.stack=X.outer∨(X.stack=X.env::X.outer∧X.env.frame=some X.env.locals)
 mK:∀b∈X.ex,b≠X.env.locals∧∀x c,X.env.cells.lookup x=some c→c≠b
 bs:∀b o,X.base.get? b=some o→X.bR.heap.get? b=some o∧X.ll b=none
 je:X.base.objs.size≤X.bR.heap.objs.size
 ko:∀b o,X.base.get? b=some o→b∉X.ex
 k8:∀b∈X.ex,b∉X.fs
 fJ:X.bR.heap.FunFrames X.base X.outer
 jS:∀b∈X.fs,X.ll b=none
structure Inv (X:Cx) (pins:List (Addr×Obj)) (σ:List (Option V)) (H:Hp) (s:Shared):Prop where
 ok:X.Ok
 os:s.os=X.bR.os
 bare:AllBare s.gens
 base:Un X.fs X.ex X.ll H X.bR.heap s.heap
 loc:∃m,s.heap.Ns X.env.locals m∧∀(i:Nat) (x:Str) (v:V),X.N[i]? =some x→σ[i]? =some (some v)→mU X.env.scope x→∃u,RelV v u∧Look X.env s.heap m x u
 cell:∀x c,X.env.cells.lookup x=some c→∃v,s.heap.IsCell c v
 free:H X.env.locals=none
 gm:∀x c,X.env.cells.lookup x=some c→H c=none
 pin:∀p∈X.pn++pins,s.heap.get? p.1=some p.2∧H p.1=none∧p.1≠X.env.locals∧p.1∉X.fs∧∀v,p.2.data≠.cell v
 af:bh X.prog X.w H s.heap
 len:σ.length=X.N.length
section
variable {X:Cx}{pins:List (Addr×Obj)}{σ:List (Option V)}{H H':Hp}{s:Shared}{h':Heap}
theorem Cx.Ok.yL (ok:X.Ok) {b:Addr}{o:Obj}(e:X.base.get? b=some o):b∉X.fs:=fun hb=>by
 have:=(ok.fJ.mem hb).1
 rw[e]at this;cases this
theorem Inv.bs (I:Inv X pins σ H s):∀b o,X.base.get? b=some o→s.heap.get? b=some o∧H b=none:=fun b o e=>
 ⟨I.base.keep b o (I.ok.bs b o e).1 (I.ok.bs b o e).2 (I.ok.yL e) (I.ok.ko b o e),I.base.free b o (I.ok.bs b o e).1 (I.ok.bs b o e).2 (I.ok.ko b o e)⟩
theorem Inv.bk (I:Inv X pins σ H s):∀b o,X.base.get? b=some o→s.heap.get? b=some o:=fun b o e=> (I.bs b o e).1
theorem Inv.mod (I:Inv X pins σ H s):Mod X.K X.mg X.base:=I.ok.mod
theorem Inv.cV (I:Inv X pins σ H s):X.K.In s.heap:=I.ok.mod.pC.keeps I.bk
theorem Inv.lt (I:Inv X pins σ H s):X.env.locals<s.heap.objs.size:=let ⟨_,hn,_⟩:=I.loc;hn.lt
theorem Inv.sz (I:Inv X pins σ H s):X.bR.heap.objs.size≤s.heap.objs.size:=Nat.le_trans I.ok.above (Nat.le_of_lt I.lt)
theorem Inv.yJ (I:Inv X pins σ H s) {a:Addr}(h:s.heap.objs.size≤a):a∉X.fs:=fun hb=>by
 obtain⟨_,o,ho,_⟩:=I.ok.fJ.mem hb
 exact absurd (Nat.lt_of_lt_of_le (Heap.lt_size ho) (Nat.le_trans I.sz h)) (Nat.lt_irrefl _)
theorem Inv.jd (I:Inv X pins σ H s):∀x c,X.env.cells.lookup x=some c→c≠X.env.locals:=fun x c e z=>by
 obtain⟨v,o,ho,hd⟩:=I.cell x c e
 obtain⟨m,⟨o',es,ep,eE,Ao,_⟩,_⟩:=I.loc
 rw[z,eE]at ho;cases ho;rw[Ao]at hd;cases hd
theorem Inv.fJ (I:Inv X pins σ H s):s.heap.FunFrames X.base X.outer:=by
 have all:∀(l:List Env),(∀b∈dJ l,b∈X.fs)→X.bR.heap.FunFrames X.base l→s.heap.FunFrames X.base l:=by
  intro l
  induction l with
  |nil=>intro _ _;trivial
  |cons env r ih=>
   intro hs hl
   obtain⟨hk,⟨L,o,hf,hn,ho,hd⟩,hr⟩:=hl
   have hL:L∈X.fs:=hs L (by unfold dJ;rw[List.filterMap_cons,hf];exact List.mem_cons_self)
   obtain⟨sl,e⟩:=I.base.slot L o ho (I.ok.jS L hL) hL fun z=>I.ok.k8 L z hL
   exact⟨hk,⟨L,_,hf,hn,e,hd⟩,ih (fun b hb=>hs b (by unfold dJ;rw[List.filterMap_cons,hf];exact List.mem_cons_of_mem _ hb)) hr⟩
 exact all X.outer (fun _ hb=>hb) I.ok.fJ
theorem Inv.stack (I:Inv X pins σ H s):s.heap.FunFrames X.base X.stack:=by
 rcases I.ok.lz with e |⟨e,hf⟩
 ·rw[e];exact I.fJ
 ·rw[e]
  obtain⟨m,hn,_⟩:=I.loc
  refine .cons (by rw[I.ok.kind];decide) hf hn ?_ I.fJ
  exact Heap.get?_none_of_le (Nat.le_trans I.ok.je I.ok.above)
theorem Inv.nC (I:Inv X pins σ H s):∀b∈dJ X.stack,b∈X.env.locals::X.fs:=fun b hb=>by
 rcases I.ok.lz with e |⟨e,hf⟩
 ·rw[e]at hb;exact List.mem_cons_of_mem _ hb
 ·rw[e]at hb
  unfold dJ at hb
  rw[List.filterMap_cons,hf]at hb
  exact hb
theorem Inv.rp (I:Inv X pins σ H s):∀b∈dJ X.stack,H b=none:=fun b hb=>by
 rcases List.mem_cons.mp (I.nC b hb) with e |hb
 ·rw[e];exact I.free
 ·obtain⟨_,o,ho,_⟩:=I.ok.fJ.mem hb
  exact I.base.free b o ho (I.ok.jS b hb) fun z=>I.ok.k8 b z hb
theorem Inv.step {g':Array GenState}{t':Nat}{d':Drawn}{ch:List Addr}(I:Inv X pins σ H s)
  (gf:∀b∈ch,(b∈X.ex∨X.bR.heap.objs.size≤b)∧b≠X.env.locals∧(∀x c,X.env.cells.lookup x=some c→c≠b)∧∀p∈X.pn++pins,p.1≠b)
  (keep:∀b o,b≠X.env.locals→b∉X.fs→b∉ch→s.heap.get? b=some o→H b=none→h'.get? b=some o)
  (slot:∀b o,b≠X.env.locals→b∈X.fs→b∉ch→s.heap.get? b=some o→H b=none→∃sl,h'.get? b=some {o with slots:=sl}) (free:∀b o,b∉ch→s.heap.get? b=some o→H b=none→H' b=none)
  (there:∀b o,b∉ch→s.heap.get? b=some o→∃o',h'.get? b=some o')
  (gq:∀b xs,H b=some (.tup xs)→H' b=some (.tup xs)) (gk:∀b o u,H b=some (.aZ o u)→H' b=some (.aZ o u)) (fP:∀b ps,H b=some (.dZ ps)→∃more,H' b=some (.dZ (ps++more)))
  (ns:∀m,s.heap.Ns X.env.locals m→h'.Ns X.env.locals m) (af:bh X.prog X.w H' h') (hg:AllBare g'):
  Inv X pins σ H' {s with heap:=h',gens:=g',drawn:=d',toks:=t'} :=by
 have sN:∀b o,X.bR.heap.get? b=some o→b≠X.env.locals:=fun b o e=>Nat.ne_of_lt (Nat.lt_of_lt_of_le (Heap.lt_size e) I.ok.above)
 have eC:∀b o,X.bR.heap.get? b=some o→b∉X.ex→b∉ch:=fun b o e hx hb=>by
  rcases (gf b hb).1 with z |z
  ·exact hx z
  ·exact absurd (Nat.lt_of_lt_of_le (Heap.lt_size e) z) (Nat.lt_irrefl _)
 have cellK:∀x c,X.env.cells.lookup x=some c→∀v,s.heap.IsCell c v→h'.IsCell c v:=fun x c e v ⟨o,ho,hd⟩=>by
  have kr:c∉ch:=fun z=> (gf c z).2.2.1 x c e rfl
  by_cases hc:c∈X.fs
  ·obtain⟨sl,q⟩:=slot c o (I.jd x c e) hc kr ho (I.gm x c e)
   exact⟨_,q,hd⟩
  ·exact⟨o,keep c o (I.jd x c e) hc kr ho (I.gm x c e),hd⟩
 refine⟨I.ok,I.os,hg,⟨fun b o e n hb hx=> ?_,fun b o e n hb hx=> ?_,fun b o e n hx=> ?_,fun b o e hx=> ?_,fun b xs e=>gq b xs (I.base.gq b xs e),fun b o xs e=>gk b o xs (I.base.gk b o xs e),fun b ps e=> ?_⟩,?_,fun x c e=> ?_,?_,fun x c e=> ?_,fun p hp=> ?_,af,I.len⟩
 ·exact keep b o (sN b o e) hb (eC b o e hx) (I.base.keep b o e n hb hx) (I.base.free b o e n hx)
 ·obtain⟨sl,e1⟩:=I.base.slot b o e n hb hx
  obtain⟨xw,e2⟩:=slot b _ (sN b o e) hb (eC b o e hx) e1 (I.base.free b o e n hx)
  exact⟨xw,e2⟩
 ·obtain⟨o',e1⟩:=I.base.there b o e hx
  exact free b o' (eC b o e hx) e1 (I.base.free b o e n hx)
 ·obtain⟨o',e1⟩:=I.base.there b o e hx
  exact there b o' (eC b o e hx) e1
 ·obtain⟨m1,e1⟩:=I.base.fP b ps e
  obtain⟨m2,e2⟩:=fP b _ e1
  exact⟨m1++m2,by rw[e2,Array.append_assoc]⟩
 ·obtain⟨m,hn,hl⟩:=I.loc
  refine⟨m,ns m hn,fun i x v e1 e2 e3=> ?_⟩
  obtain⟨u,r,l⟩:=hl i x v e1 e2 e3
  refine⟨u,r,?_⟩
  rcases l with l |⟨k,c,e,z⟩
  ·exact .inl l
  ·exact .inr ⟨k,c,e,cellK x c e _ z⟩
 ·obtain⟨v,z⟩:=I.cell x c e
  exact⟨v,cellK x c e v z⟩
 ·obtain⟨m,⟨o,_,_,ho,_⟩,_⟩:=I.loc
  exact free _ o (fun z=> (gf _ z).2.1 rfl) ho I.free
 ·obtain⟨v,o,ho,hd⟩:=I.cell x c e
  exact free c o (fun z=> (gf c z).2.2.1 x c e rfl) ho (I.gm x c e)
 ·obtain⟨e,n,ne,nf,d⟩:=I.pin p hp
  have kr:p.1∉ch:=fun z=> (gf p.1 z).2.2.2 p hp rfl
  exact⟨keep p.1 p.2 ne nf kr e n,free p.1 p.2 kr e n,ne,nf,d⟩
theorem Inv.un {t':Nat}(I:Inv X pins σ H s) (u:Un X.fs [] H H' s.heap h') (af:bh X.prog X.w H' h'):Inv X pins σ H' {s with heap:=h',toks:=t'} :=by
 obtain⟨m,⟨o,es,ep,ho,r⟩,_⟩:=id I.loc
 obtain⟨sl,hL⟩:=u.any ho I.free (by simp)
 exact I.step (g':=s.gens) (d':=s.drawn) (ch:=[]) (fun _ z=>nomatch z) (fun b o _ hb _ e n=>u.keep b o e n hb (by simp)) (fun b o _ hb _ e n=>u.slot b o e n hb (by simp)) (fun b o _ e n=>u.free b o e n (by simp)) (fun b o _ e=>u.there b o e (by simp)) u.gq u.gk u.fP (fun m' hm=>by
  obtain⟨o',mL,mM,eE,r'⟩:=hm
  rw[ho]at eE;cases eE
  exact⟨_,mL,mM,hL,r'⟩) af I.bare
theorem Inv.call {g':Array GenState}{t':Nat}{d':Drawn}{ch:List Addr}(I:Inv X pins σ H s) (u:Un (dJ X.stack) ch H H' s.heap h') (af:bh X.prog X.w H' h') (hg:AllBare g')
  (gf:∀b∈ch,(b∈X.ex∨X.bR.heap.objs.size≤b)∧b≠X.env.locals∧(∀x c,X.env.cells.lookup x=some c→c≠b)∧∀p∈X.pn++pins,p.1≠b):
  Inv X pins σ H' {s with heap:=h',gens:=g',drawn:=d',toks:=t'} :=by
 obtain⟨m,⟨o,es,ep,ho,r⟩,_⟩:=id I.loc
 obtain⟨sl,hL⟩:=u.any ho I.free fun z=> (gf _ z).2.1 rfl
 exact I.step (ch:=ch) gf (fun b o hL hb hc e n=>u.keep b o e n (fun z=> (List.mem_cons.mp (I.nC b z)).elim hL hb) hc) (fun b o _ _ hc e n=>u.any e n hc) (fun b o hc e n=>u.free b o e n hc) (fun b o hc e=>u.there b o e hc) u.gq u.gk u.fP (fun m' hm=>by
  obtain⟨o',mL,mM,eE,r'⟩:=hm
  rw[ho]at eE;cases eE
  exact⟨_,mL,mM,hL,r'⟩) af hg
theorem Inv.turned {t':Nat}{it:Addr}(I:Inv X pins σ H s) (k:∀b o,b≠it→s.heap.get? b=some o→h'.get? b=some o) (hn:H it=none) (hL:it≠X.env.locals)
  (h1:it∈X.ex∨X.bR.heap.objs.size≤it) (h2:∀x c,X.env.cells.lookup x=some c→c≠it) (h3:∀p∈X.pn++pins,p.1≠it):Inv X pins σ H {s with heap:=h',toks:=t'} :=by
 have sJ:∀b u,H b=some u→b≠it:=fun b u e z=>by rw[z,hn]at e;cases e
 refine I.step (g':=s.gens) (d':=s.drawn) (ch:=[it]) (fun b hb=> ?_) (fun b o _ _ hc e _=>k b o (fun z=>hc (by simp[z])) e) (fun b o _ _ hc e _=> ⟨o.slots,k b o (fun z=>hc (by simp[z])) e⟩) (fun _ _ _ _ n=>n)
  (fun b o hc e=> ⟨o,k b o (fun z=>hc (by simp[z])) e⟩) (fun _ _ e=>e) (fun _ _ _ e=>e) (fun b ps e=> ⟨#[],by rw[e];simp⟩) (fun m hm=> ?_) (fun b u e=> ?_) I.bare
 ·have e:b=it:=by simpa using hb
  subst e
  exact⟨h1,hL,h2,h3⟩
 ·obtain⟨o,es,ep,ho,r⟩:=hm
  exact⟨o,es,ep,k _ o (Ne.symm hL) ho,r⟩
 ·refine(I.af b u e).dA (fun c v hc q=>k c v ?_ q) (fun _ q=>q) fun _ _ q=>q
  rcases hc with z |z
  ·rw[z];exact sJ b u e
  ·exact sJ c _ z
theorem Inv.tok (I:Inv X pins σ H s) (t:Nat):Inv X pins σ H {s with toks:=t} :=I.un (h':=s.heap) (t':=t) Un.refl I.af
theorem Inv.kept {t':Nat}(I:Inv X pins σ H s) (k:∀b u,s.heap.get? b=some u→h'.get? b=some u):Inv X pins σ H {s with heap:=h',toks:=t'} :=I.un (Un.kept k) (I.af.kept k)
theorem Inv.laid {a:Addr}{o:HO}{t':Nat}(I:Inv X pins σ H s) (k:∀b u,s.heap.get? b=some u→h'.get? b=some u) (hp:s.heap.objs.size≤a) (new:aI X.prog X.w (upd H a o) h' a o):
  Inv X pins σ (upd H a o) {s with heap:=h',toks:=t'} :=I.un (Un.laid k hp (I.af.fresh hp)) (I.af.laid k hp new)
theorem Inv.write {x e:Addr}{o:HO}{t':Nat}(I:Inv X pins σ H s) (mu:lj (H x)) (he:e=x∨H e=some (.own x)) (k:∀b u,b≠e→s.heap.get? b=some u→h'.get? b=some u) (jP:∃u,h'.get? e=some u)
  (new:aI X.prog X.w (upd H x o) h' x o):Inv X pins σ (upd H x o) {s with heap:=h',toks:=t'} :=I.un (Un.write mu he k jP) (I.af.write mu he k jP new)
theorem Inv.sf {sj:List (Addr×Obj)}(I:Inv X pins σ H s) (h:∀p∈sj,s.heap.get? p.1=some p.2∧H p.1=none∧p.1≠X.env.locals∧p.1∉X.fs∧∀v,p.2.data≠.cell v):Inv X sj σ H s:=
 ⟨I.ok,I.os,I.bare,I.base,I.loc,I.cell,I.free,I.gm,fun p hp=> (List.mem_append.mp hp).elim (fun z=>I.pin p (List.mem_append_left _ z)) (h p),I.af,I.len⟩
theorem W2 {N:List Str}(hN:N.Nodup) {i j:Nat}{x:Str}(a:N[i]? =some x) (b:N[j]? =some x):i=j:=by
 obtain⟨h1,e1⟩:=List.getElem?_eq_some_iff.mp a
 obtain⟨h2,e2⟩:=List.getElem?_eq_some_iff.mp b
 exact(List.getElem_inj hN).mp (e1.trans e2.symm)
theorem Wa {M:Model}{A:Around}{E:Value→Shared→Prop}{i:Nat}{x:Str}{v:V}{u:Value}{Q:Unit→Shared→Prop}(I:Inv X pins σ H s) (hN:X.N.Nodup) (hi:X.N[i]? =some x) (hx:Loc X.env.scope x) (r:RelV v u)
  (h:∀s',Inv X pins (σ.set i (some v)) H s'→(∃a,Heap.SameBut a s.heap s'.heap∧(a=X.env.locals∨X.env.cells.lookup x=some a))→Q () s') (hf:X.fn x=true∨X.env.scope.names.lookup x=some .local:=by first |exact .inl rfl |exact .inr rfl |assumption):wpAny M A (storeName X.env x u) Q E s:=by
 obtain⟨m,hn,hl⟩:=id I.loc
 have Ar:(X.env.scope.kind==.class||(X.env.scope.kind==.module&&X.env.locals !=X.env.globals))=false:=by rw[I.ok.kind];rfl
 have ui:i<σ.length:=by rw[I.len];exact(List.getElem?_eq_some_iff.mp hi).1
 have jd:=I.jd
 have tracked:∀{a:Addr}{h':Heap},(∃o,s.heap.get? a=some o∧H a=none)→Heap.SameBut a s.heap h'→bh X.prog X.w H h':=fun {a h'} ha hs b ob e=>by
  obtain⟨_,_,uk⟩:=ha
  refine(I.af b ob e).dA (fun c w' hc q=> (hs.2 c ?_).trans q) (fun _ q=>q) fun _ _ q=>q
  rintro rfl
  rcases hc with rfl |hc
  ·rw[uk]at e;cases e
  ·rw[uk]at hc;cases hc
 rcases hx with hk |hk
 ·refine wpAny_storeName_local hk hn (fun h' eG hs=> ?_) Ar
  obtain⟨oL,_,_,mj,_⟩:=id hn
  refine h _ ⟨I.ok,I.os,I.bare,⟨fun b o e n hb hx=> ?_,fun b o e n hb hx=> ?_,I.base.free,fun b o e hx=> ?_,I.base.gq,I.base.gk,I.base.fP⟩,⟨_,eG,fun j y v' e1 e2 e3=> ?_⟩,fun y c e=> ?_,I.free,I.gm,fun p hp=> ?_,tracked ⟨oL,mj,I.free⟩ hs,by simpa using I.len⟩ ⟨_,hs,.inl rfl⟩
  ·exact(hs.2 b (Nat.ne_of_lt (Nat.lt_of_lt_of_le (Heap.lt_size e) I.ok.above))).trans (I.base.keep b o e n hb hx)
  ·obtain⟨sl,e1⟩:=I.base.slot b o e n hb hx
   exact⟨sl,(hs.2 b (Nat.ne_of_lt (Nat.lt_of_lt_of_le (Heap.lt_size e) I.ok.above))).trans e1⟩
  ·obtain⟨o',e1⟩:=I.base.there b o e hx
   exact⟨o',(hs.2 b (Nat.ne_of_lt (Nat.lt_of_lt_of_le (Heap.lt_size e) I.ok.above))).trans e1⟩
  ·by_cases hj:j=i
   ·subst hj
    rw[hi]at e1;cases e1
    rw[List.getElem?_set_self ui]at e2
    cases e2
    exact⟨u,r,.inl ⟨hk,by simp⟩⟩
   ·rw[List.getElem?_set_ne (Ne.symm hj)]at e2
    obtain⟨u',r',q⟩:=hl j y v' e1 e2 e3
    refine⟨u',r',?_⟩
    rcases q with ⟨k,e⟩ |⟨k,c,e,z⟩
    ·refine .inl ⟨k,?_⟩
     have:y≠x:=fun e=>hj (W2 hN e1 (e▸hi))
     simp[this,e]
    ·exact .inr ⟨k,c,e,z.sameBut hs (jd y c e)⟩
  ·obtain⟨w',z⟩:=I.cell y c e
   exact⟨w',z.sameBut hs (jd y c e)⟩
  ·obtain⟨e,n,ne,nf,d⟩:=I.pin p hp
   exact⟨(hs.2 p.1 ne).trans e,n,ne,nf,d⟩
 ·have fE:X.fn x=true:=by
   rcases hf with z |z
   ·exact z
   ·rw[z]at hk;cases hk
  obtain⟨c,hc⟩:=I.ok.has x (.inl hk)
  obtain⟨w',z⟩:=I.cell x c hc
  refine wpAny_storeName_cell I.ok.kind hk hc z (fun h' bG hs=> ?_)
  obtain⟨oc,t9,zO⟩:=id z
  refine h {s with heap:=h'} ⟨I.ok,I.os,I.bare,⟨fun b o e n hb hx=> ?_,fun b o e n hb hx=> ?_,I.base.free,fun b o e hx=> ?_,I.base.gq,I.base.gk,I.base.fP⟩,⟨m,hn.sameBut hs (Ne.symm (jd x c hc)),fun j y v' e1 e2 e3=> ?_⟩,fun y c' e=> ?_,I.free,I.gm,fun p hp=> ?_,tracked ⟨oc,t9,I.gm x c hc⟩ hs,by simpa using I.len⟩ ⟨c,hs,.inr hc⟩
  ·exact(hs.2 b (Nat.ne_of_lt (Nat.lt_of_lt_of_le (Heap.lt_size e) (I.ok.lg x c fE hc)))).trans (I.base.keep b o e n hb hx)
  ·obtain⟨sl,e1⟩:=I.base.slot b o e n hb hx
   exact⟨sl,(hs.2 b (Nat.ne_of_lt (Nat.lt_of_lt_of_le (Heap.lt_size e) (I.ok.lg x c fE hc)))).trans e1⟩
  ·obtain⟨o',e1⟩:=I.base.there b o e hx
   exact⟨o',(hs.2 b (Nat.ne_of_lt (Nat.lt_of_lt_of_le (Heap.lt_size e) (I.ok.lg x c fE hc)))).trans e1⟩
  ·by_cases hj:j=i
   ·subst hj
    rw[hi]at e1;cases e1
    rw[List.getElem?_set_self ui]at e2
    cases e2
    exact⟨u,r,.inr ⟨.inl hk,c,hc,bG⟩⟩
   ·rw[List.getElem?_set_ne (Ne.symm hj)]at e2
    obtain⟨u',r',q⟩:=hl j y v' e1 e2 e3
    refine⟨u',r',?_⟩
    rcases q with q |⟨k,c',e,z'⟩
    ·exact .inl q
    ·refine .inr ⟨k,c',e,z'.sameBut hs ?_⟩
     rintro rfl
     exact hj (W2 hN e1 (I.ok.inj _ _ _ e hc▸hi))
  ·by_cases mD:c'=c
   ·subst mD;exact⟨_,bG⟩
   ·obtain⟨w2,z2⟩:=I.cell y c' e
    exact⟨w2,z2.sameBut hs mD⟩
  ·obtain⟨e,n,ne,nf,d⟩:=I.pin p hp
   refine⟨(hs.2 p.1 ?_).trans e,n,ne,nf,d⟩
   intro q
   rw[q,t9]at e
   have q':oc=p.2:=Option.some.inj e
   exact d w' (by rw[←q'];exact zO)
theorem Ya {M:Model}{A:Around}{E:Value→Shared→Prop}{i:Nat}{x:Str}{v:V}{u:Value}{Q:Unit→Shared→Prop}(I:Inv X pins σ H s) (hN:X.N.Nodup) (hi:X.N[i]? =some x) (hx:Loc X.env.scope x) (r:RelV v u)
  (h:∀s',Inv X pins (σ.set i (some v)) H s'→Q () s') (hf:X.fn x=true∨X.env.scope.names.lookup x=some .local:=by first |exact .inl rfl |exact .inr rfl |assumption):wpAny M A (storeName X.env x u) Q E s:=
 Wa I hN hi hx r (fun s' I' _=>h s' I') hf
theorem Inv.By {s':Shared}{ch:List Addr}(I:Inv X pins σ H s) (ho:s'.os=s.os) (u:Un (dJ X.stack) ch H H' s.heap s'.heap) (af:bh X.prog X.w H' s'.heap) (hg:AllBare s'.gens)
  (gf:∀b∈ch,(b∈X.ex∨X.bR.heap.objs.size≤b)∧b≠X.env.locals∧(∀x c,X.env.cells.lookup x=some c→c≠b)∧∀p∈X.pn++pins,p.1≠b):Inv X pins σ H' s':=by
 obtain⟨h',g',d',t',o'⟩:=s'
 have e:o'=s.os:=ho
 subst e
 exact I.call (g':=g') (t':=t') (d':=d') u af hg gf
end
abbrev XK:=Value→Option Addr→Hp→Prop
abbrev St:=List (Option V)
abbrev VK:=V→Hp→Prop
abbrev TE:=St→Hp→VK→Prop
abbrev TT:=St→Hp→(Bool→Hp→Prop)→Prop
abbrev TA:=St→Hp→(List V→Hp→Prop)→Prop
structure Ends where
 nx:St→Hp→Prop
 rt:VK
 bk:St→Hp→Prop:=fun _ _=>False
 ct:St→Hp→Prop:=fun _ _=>False
abbrev TS:=Ends→St→Hp→Prop
def EP (X:Cx) (pins:List (Addr×Obj)) (σ:St) (Q:VK) (u:Value) (s':Shared):Prop:=∃v H',Inv X pins σ H' s'∧RelV v u∧Q v H'
def TP (X:Cx) (pins:List (Addr×Obj)) (σ:St) (Q:Bool→Hp→Prop) (b:Bool) (s':Shared):Prop:=∃H',Inv X pins σ H' s'∧Q b H'
def AP (X:Cx) (pins:List (Addr×Obj)) (σ:St) (Q:List V→Hp→Prop) (us:List Value) (s':Shared):Prop:=∃vs H',Inv X pins σ H' s'∧Vals vs us∧Q vs H'
def SP (X:Cx) (pins:List (Addr×Obj)) (D:Ends) (f:Flow) (s':Shared):Prop:=
 match f with
 | .next=> ∃ah H',Inv X pins ah H' s'∧D.nx ah H'
 | .brk=> ∃ah H',Inv X pins ah H' s'∧D.bk ah H'
 | .cont=> ∃ah H',Inv X pins ah H' s'∧D.ct ah H'
 | .ret u=> ∃v ah H',Inv X pins ah H' s'∧RelV v u∧D.rt v H'
def PE (X:Cx) (e:Expr) (t:TE):Prop:=
 ∀(pins:List (Addr×Obj)) (s:Shared) (σ:St) (H:Hp) (Q:VK),Inv X pins σ H s→t σ H Q→wpAny (model X.prog X.w) X.A (eval e X.env) (EP X pins σ Q) X.xe s
def PT (X:Cx) (e:Expr) (t:TT):Prop:=
 ∀(pins:List (Addr×Obj)) (s:Shared) (σ:St) (H:Hp) (Q:Bool→Hp→Prop),Inv X pins σ H s→t σ H Q→wpAny (model X.prog X.w) X.A (isTrue e X.env (eval e X.env)) (TP X pins σ Q) X.xe s
def PW (X:Cx) (e:Expr) (t:TT):Prop:=
 ∀(whole:Sem Value) (pins:List (Addr×Obj)) (s:Shared) (σ:St) (H:Hp) (Q:Bool→Hp→Prop),Inv X pins σ H s→t σ H Q→wpAny (model X.prog X.w) X.A (isTrue e X.env whole) (TP X pins σ Q) X.xe s
theorem PW.pt {X:Cx}{e:Expr}{t:TT}(h:PW X e t):PT X e t:=h _
def PA (X:Cx) (es:List Expr) (t:TA):Prop:=
 ∀(pos:Pos) (pins:List (Addr×Obj)) (s:Shared) (σ:St) (H:Hp) (Q:List V→Hp→Prop),Inv X pins σ H s→t σ H Q→wpAny (model X.prog X.w) X.A (spliced (backTo pos (starEach es X.env))) (AP X pins σ Q) X.xe s
def PS (X:Cx) (st:Stmt) (t:TS):Prop:=
 ∀(pins:List (Addr×Obj)) (s:Shared) (σ:St) (H:Hp) (D:Ends),Inv X pins σ H s→t D σ H→wpAny (model X.prog X.w) X.A (exec st X.env) (SP X pins D) X.xe s
def dY (X:Cx) (st:List Stmt) (t:TS):Prop:=
 ∀(pins:List (Addr×Obj)) (s:Shared) (σ:St) (H:Hp) (D:Ends),Inv X pins σ H s→t D σ H→wpAny (model X.prog X.w) X.A (execs st X.env) (SP X pins D) X.xe s
theorem ao {α:Type}{t:Sem α}{Q Q':α→Shared→Prop}{M:Model}{A:Around}{E:Value→Shared→Prop}{s:Shared}(h:wpAny M A t Q E s) (hQ:∀a s,Q a s→Q' a s):wpAny M A t Q' E s:=wpAny_mono h hQ fun _ _ x=>x
section
variable {X:Cx}
def hW (i:Nat):TE:=fun σ H Q=> ∃v,σ[i]? =some (some v)∧Q v H
def tC (v:V):TE:=fun _ H Q=>Q v H
theorem CC {i:Nat}{x:Str}{pos:Pos}(hN:X.N[i]? =some x) (hv:mU X.env.scope x) (hd:(x==("__debug__" :Str))=false:=by decide) (eK:(x==("__classdict__" :Str))=false:=by decide):PE X (.Name x pos) (hW i):=by
 intro pins s σ H Q I h
 obtain⟨v,e,h⟩:=h
 obtain⟨m,hn,hl⟩:=I.loc
 obtain⟨u,r,l⟩:=hl i x v hN e hv
 have fin:EP X pins σ Q u s:=⟨v,H,I,r,h⟩
 rcases l with ⟨hk,hm⟩ |⟨hk,c,hc,mC⟩
 ·exact wpAny_Name (wpAny_loadName_local I.ok.kind hk hn hm fin) hd
 ·rcases hk with hk |hk
  ·exact wpAny_Name (wpAny_loadName_cell I.ok.kind hk hc mC fin) hd
  ·exact wpAny_Name (wpAny_loadName_free I.ok.kind hk hc mC fin eK) hd
theorem Zi {i j pos} :PE X (.Constant (.int i) j pos) (tC (.int i)):=fun _ _ _ H _ I h=>wpAny_Constant_int ⟨.int i,H,I.tok _,⟨_,rfl⟩,h⟩
theorem W0 {b j pos} :PE X (.Constant (.bool b) j pos) (tC (.bl b)):=fun _ _ _ H _ I h=>Constant_bool ⟨.bl b,H,I,rfl,h⟩
theorem Uv {j pos} :PE X (.Constant .none j pos) (tC .ai):=fun _ _ _ H _ I h=>Constant_none ⟨.ai,H,I,rfl,h⟩
def Gl (X:Cx) (x:Str):Prop:=X.env.kindOf x=some .globalImplicit
theorem U3 {E:Value→Shared→Prop}{pins:List (Addr×Obj)}{s:Shared}{σ:St}{H:Hp}{x:Str}{u:Value}{pos:Pos}{Q:Value→Shared→Prop}(I:Inv X pins σ H s) (hg:Gl X x) (hm:X.mg x=some u) (h:Q u s)
  (hd:(x==("__debug__" :Str))=false:=by decide):wpAny (model X.prog X.w) X.A (eval (.Name x pos) X.env) Q E s:=
 Calls.Name_function_global I.ok.kind hg (Calls.loadGlobal_global (by rw[I.ok.glob];exact I.mod.glob.keeps I.bk) hm h) hd
theorem Yu {E:Value→Shared→Prop}{pins:List (Addr×Obj)}{s:Shared}{σ:St}{H:Hp}{x:Str}{u:Value}{pos:Pos}{Q:Value→Shared→Prop}(I:Inv X pins σ H s) (hg:Gl X x) (hm:X.mg x=none) (hv:bootBuiltins x=some u) (h:Q u s)
  (hn:x≠ "__name__" :=by decide) (hd:(x==("__debug__" :Str))=false:=by decide):wpAny (model X.prog X.w) X.A (eval (.Name x pos) X.env) Q E s:=by
 obtain⟨mb,h1,h2⟩:=I.mod.blt
 exact Calls.Name_function_global I.ok.kind hg (Calls.loadGlobal_builtin (by rw[I.ok.glob];exact I.mod.glob.keeps I.bk) hm (by rw[I.ok.blt];exact h1.keeps I.bk) ((h2 x hn).trans hv) h) hd
theorem Dw {x:Str}{v:V}{u:Value}{pos:Pos}(hg:Gl X x) (hm:X.mg x=some u) (r:RelV v u) (hd:(x==("__debug__" :Str))=false:=by decide):PE X (.Name x pos) (tC v):=
 fun _ _ _ H _ I h=>U3 I hg hm ⟨v,H,I,r,h⟩ hd
theorem Wx {x:Str}{v:V}{u:Value}{pos:Pos}(hg:Gl X x) (hm:X.mg x=none) (hv:bootBuiltins x=some u) (r:RelV v u) (hn:x≠ "__name__" :=by decide) (hd:(x==("__debug__" :Str))=false:=by decide):PE X (.Name x pos) (tC v):=
 fun _ _ _ H _ I h=>Yu I hg hm hv ⟨v,H,I,r,h⟩ hn hd
variable {a b:Expr}{ta tb:TE}{pos:Pos}
def PC (X:Cx) (op:CmpOp) (a b:Expr) (t:TE):Prop:=
 ∀(pins:List (Addr×Obj)) (s:Shared) (σ:St) (H:Hp) (Q:VK),Inv X pins σ H s→t σ H Q→
  wpAny (model X.prog X.w) X.A (eval a X.env) (fun v aB=>wpAny (model X.prog X.w) X.A (eval b X.env) (fun u nB=>wpAny (model X.prog X.w) X.A (compareOp op v u) (EP X pins σ Q) X.xe nB) X.xe aB) X.xe s
theorem sG (b:Expr) {op:CmpOp}(h:op≠.In) (h2:op≠.NotIn):behindInMarks op b=false:=by
 have e1:(op==CmpOp.In)=false:=by cases op<;>first |rfl |exact absurd rfl h
 have e2:(op==CmpOp.NotIn)=false:=by cases op<;>first |rfl |exact absurd rfl h2
 cases b<;>simp[behindInMarks,e1,e2]
def w5 (ta:TE):TE:=fun σ H Q=>ta σ H fun x H1=>Q (.bl (decide (x=.ai))) H1
def wR (ta:TE):TE:=fun σ H Q=>ta σ H fun x H1=>Q (.bl (!decide (x=.ai))) H1
theorem RelV.sF {x:V}{v:Value}(r:RelV x v):(v==Value.none)=decide (x=.ai):=by
 cases x with
 |ai=>cases r;rfl
 |bl _=>cases r;rfl
 |int _=>obtain⟨t,rfl⟩:=r;rfl
 |str _=>obtain⟨t,rfl⟩:=r;rfl
 |eP _=>obtain⟨t,rfl⟩:=r;rfl
 |gR _=>obtain⟨t,rfl⟩:=r;rfl
 |ref _=>cases r;rfl
 |ty _=>cases r;rfl
theorem Cy {j pos'} (ha:PE X a ta):PC X .Is a (.Constant .none j pos') (w5 ta):=by
 intro pins s σ H Q I h
 refine ao (ha pins s σ H _ I h) fun v s1 ⟨x,H1,I1,r1,q1⟩=> ?_
 exact Constant_none (is_none_gen ⟨.bl _,H1,I1,by rw[r1.sF];rfl,q1⟩)
theorem Jf {j pos'} (ha:PE X a ta):PC X .IsNot a (.Constant .none j pos') (wR ta):=by
 intro pins s σ H Q I h
 refine ao (ha pins s σ H _ I h) fun v s1 ⟨x,H1,I1,r1,q1⟩=> ?_
 exact Constant_none (isnot_none_gen ⟨.bl _,H1,I1,by rw[r1.sF];rfl,q1⟩)
def tB (t:TE):TT:=fun σ H Q=>t σ H fun x H1=> ∃c,x=.bl c∧Q c H1
theorem Cz {op:CmpOp}{t:TE}(h:PC X op a b t) (h1:behindInMarks op b=false:=by first |exact sG _ (by decide) (by decide) |rfl):PE X (.Compare a [op] [b] pos) t:=fun pins s σ H Q I hw=>wpAny_Compare1 (h pins s σ H Q I hw) h1
theorem Jq {op:CmpOp}{t:TE}(h:PC X op a b t) (h1:behindInMarks op b=false:=by first |exact sG _ (by decide) (by decide) |rfl):PT X (.Compare a [op] [b] pos) (tB t):=by
 intro pins s σ H Q I hw
 refine wpAny_isTrue_Compare1 (ao (h pins s σ H _ I hw) fun v s1 h1=>ao h1 fun u s2 h2=>ao h2 fun c s3 ⟨x,H1,I1,r1,q1⟩=> ?_) h1
 obtain⟨d,rfl,q⟩:=q1
 cases r1
 exact wpAny_truthy_bool ⟨H1,I1,q⟩
theorem YI {e:Expr}{t:TE}(h:PE X e t) (he:∀whole,isTrue e X.env whole=(do let v ←whole;standAt e.pos;holding [v] (truthy v)):=by intro _;rfl):PT X e (tB t):=by
 intro pins s σ H Q I hw
 refine isTrue_plain (ao (h pins s σ H _ I hw) fun v s1 ⟨x,H1,I1,r1,q1⟩=> ?_) (he _)
 obtain⟨d,rfl,q⟩:=q1
 cases r1
 exact wpAny_truthy_bool ⟨H1,I1,q⟩
variable {tA lr:TT}{rest:List Expr}
def xn (t u:TT):TT:=fun σ H Q=>t σ H fun c H1=>if c=true then u σ H1 Q else Q false H1
def wO (t u:TT):TT:=fun σ H Q=>t σ H fun c H1=>if c=true then Q true H1 else u σ H1 Q
def wU (t:TT):TT:=fun σ H Q=>t σ H fun c H1=>Q (!c) H1
theorem UU (ha:PT X a tA):PW X (.BoolOp .And [a] pos) tA:=by
 intro wh pins s σ H Q I h
 refine isTrue_and (ao (ha pins s σ H Q I h) fun c s1 e=> ?_)
 cases c with
 |true=>exact isTrue_and_nil e
 |false=>exact e
theorem Wu (ha:PT X a tA):PW X (.BoolOp .Or [a] pos) tA:=by
 intro wh pins s σ H Q I h
 refine isTrue_or (ao (ha pins s σ H Q I h) fun c s1 e=> ?_)
 cases c with
 |false=>exact isTrue_or_nil e
 |true=>exact e
theorem vG (ha:PT X a tA) (hb:PW X (.BoolOp .And (b::rest) pos) lr):PW X (.BoolOp .And (a::b::rest) pos) (xn tA lr):=by
 intro wh pins s σ H Q I h
 refine isTrue_and (ao (ha pins s σ H _ I h) fun c s1 ⟨H1,I1,q1⟩=> ?_)
 cases c with
 |true=>exact hb wh pins s1 σ H1 Q I1 q1
 |false=>exact⟨H1,I1,q1⟩
theorem UT (ha:PT X a tA) (hb:PW X (.BoolOp .Or (b::rest) pos) lr):PW X (.BoolOp .Or (a::b::rest) pos) (wO tA lr):=by
 intro wh pins s σ H Q I h
 refine isTrue_or (ao (ha pins s σ H _ I h) fun c s1 ⟨H1,I1,q1⟩=> ?_)
 cases c with
 |true=>exact⟨H1,I1,q1⟩
 |false=>exact hb wh pins s1 σ H1 Q I1 q1
theorem YW (ha:PT X a tA):PT X (.UnaryOp .Not a pos) (wU tA):=by
 intro pins s σ H Q I h
 exact isTrue_not (ha pins s σ H (fun c H1=>Q (!c) H1) I h)
def xm (ta tb:TE):TE:=fun σ H Q=>ta σ H fun x H1=> ∃c,x=.bl c∧if c=true then tb σ H1 Q else Q (.bl false) H1
def wQ (ta:TE):TE:=fun σ H Q=>ta σ H fun x H1=> ∃c,x=.bl c∧Q (.bl (!c)) H1
theorem YX {op}{t:TE}(h:PE X a t):PE X (.BoolOp op [a] pos) t:=fun pins s σ H Q I hw=>BoolOp_one (h pins s σ H Q I hw)
theorem YY (ha:PE X a ta) (hb:PE X (.BoolOp .And (b::rest) pos) tb):PE X (.BoolOp .And (a::b::rest) pos) (xm ta tb):=by
 intro pins s σ H Q I h
 refine BoolOp_and (ao (ha pins s σ H _ I h) fun v s1 ⟨x,H1,I1,r1,q1⟩=> ?_)
 obtain⟨c,rfl,q1⟩:=q1
 cases r1
 refine wpAny_truthy_bool ?_
 cases c with
 |true=>exact hb pins s1 σ H1 Q I1 q1
 |false=>exact⟨.bl false,H1,I1,rfl,q1⟩
theorem CA (ha:PE X a ta):PE X (.UnaryOp .Not a pos) (wQ ta):=by
 intro pins s σ H Q I h
 refine UnaryOp_ (ao (ha pins s σ H _ I h) fun v s1 ⟨x,H1,I1,r1,q1⟩=> ?_)
 obtain⟨c,rfl,q1⟩:=q1
 cases r1
 exact not_of (wpAny_truthy_bool ⟨.bl (!c),H1,I1,rfl,q1⟩)
def w9 (t:TT) (ta tb:TE):TE:=fun σ H Q=>t σ H fun c H1=>if c=true then ta σ H1 Q else tb σ H1 Q
theorem C9 {c:Expr}(hc:PT X c tA) (ha:PE X a ta) (hb:PE X b tb):PE X (.IfExp c a b pos) (w9 tA ta tb):=by
 intro pins s σ H Q I h
 refine wpAny_IfExp (ao (hc pins s σ H _ I h) fun d s1 ⟨H1,I1,q1⟩=> ?_)
 cases d with
 |true=>exact ha pins s1 σ H1 Q I1 q1
 |false=>exact hb pins s1 σ H1 Q I1 q1
end
def ae (K:PySem.W.Frag) (H:Hp) (a:Addr) (xs:List V):Prop:=
 Rd H a (.lst xs)∨
  ∃(o:Obj) (its:Array Value) (n:Nat),K.lookup a=some o∧o.cls=.type "list" ∧o.dict=none∧o.data=.seq its n∧its.size≤sizeLine∧Vals xs its.toList
def ak (K:PySem.W.Frag) (H:Hp) (a:Addr) (xs:List V):Prop:=
 Rd H a (.tup xs)∨
  (∃(o:Obj) (its:Array Value) (n:Nat),K.lookup a=some o∧o.cls=.type "tuple" ∧o.data=.seq its n∧its.size≤sizeLine∧Vals xs its.toList)∨H a=some (.par xs)
def BD:Value→Option V
 | .none=>some .ai
 | .bool b=>some (.bl b)
 | .int i _=>some (.int i)
 | .str x _=>some (.str x)
 | .bytes b _=>some (.eP b)
 | .float b _=>some (.gR b)
 | .ref a=>some (.ref a)
 | .type n=>some (.ty n)
 |_=>none
theorem RelV.abs {x:V}{u:Value}(r:RelV x u):BD u=some x:=by
 cases x with
 |ai=>cases r;rfl
 |bl _=>cases r;rfl
 |int _=>obtain⟨t,rfl⟩:=r;rfl
 |str _=>obtain⟨t,rfl⟩:=r;rfl
 |eP _=>obtain⟨t,rfl⟩:=r;rfl
 |gR _=>obtain⟨t,rfl⟩:=r;rfl
 |ref _=>cases r;rfl
 |ty _=>cases r;rfl
theorem RelV.inj {x y:V}{u:Value}(r:RelV x u) (q:RelV y u):x=y:=Option.some.inj (r.abs.symm.trans q.abs)
theorem Vals.inj:∀{xs ys:List V}{us:List Value},Vals xs us→Vals ys us→xs=ys
 |_,_,_,.nil,.nil=>rfl
 |_,_,_,.cons r t,.cons r' t'=>by rw[r.inj r',Vals.inj t t']
section
variable {X:Cx}{pins:List (Addr×Obj)}{σ:St}{H:Hp}{s:Shared}{a:Addr}{xs ys:List V}
theorem ae.of {K:PySem.W.Frag}(h:H a=some (.lst xs)):ae K H a xs:=.inl (.inl h)
theorem ak.of {K:PySem.W.Frag}(h:H a=some (.tup xs)):ak K H a xs:=.inl (.inl h)
theorem ak.pe {K:PySem.W.Frag}(h:H a=some (.par xs)):ak K H a xs:=.inr (.inr h)
theorem Inv.list (I:Inv X pins σ H s) (h:ae X.K H a xs):∃its:List Value,Vals xs its∧PlainL s.heap a its.toArray∧xs.length≤sizeLine:=by
 rcases h with h |⟨o,its,n,hk,hc,hd,hs,hz,r⟩
 ·obtain⟨z,its,n,r,e⟩:=h.ok I.af
  exact⟨its,r,⟨_,n,e,rfl,rfl,rfl⟩,z⟩
 ·refine⟨its.toList,r,⟨o,n,I.cV a o hk,hc,hd,by simpa using hs⟩,?_⟩
  have e:=r.length
  simp only[Array.length_toList]at e
  omega
theorem Inv.tuple (I:Inv X pins σ H s) (h:ak X.K H a xs):∃its:List Value,Vals xs its∧IsTup s.heap a its.toArray∧xs.length≤sizeLine:=by
 rcases h with h |⟨o,its,n,hk,hc,hs,hz,r⟩ |h
 ·obtain⟨z,its,r,p,_⟩:=h.ok I.af
  exact⟨its,r,p,z⟩
 rotate_left
 ·obtain⟨z,its,r,p⟩:=(show aI X.prog X.w H s.heap a (.par xs) from I.af a _ h)
  exact⟨its,r,p,z⟩
 ·refine⟨its.toList,r,⟨o,I.cV a o hk,hc,n,by simpa using hs⟩,?_⟩
  have e:=r.length
  simp only[Array.length_toList]at e
  omega
theorem Inv.pB (I:Inv X pins σ H s) (h:ae X.K H a xs) (h':ae X.K H a ys):xs=ys:=by
 obtain⟨its,r,⟨o,n,e,_,_,d⟩,_⟩:=I.list h
 obtain⟨its',r',⟨o',n',e',_,_,d'⟩,_⟩:=I.list h'
 rw[e]at e';cases e'
 rw[d]at d'
 injection d' with d1 _
 have:its=its':=by simpa using congrArg Array.toList d1
 subst this
 exact r.inj r'
theorem Inv.q0 (I:Inv X pins σ H s) (h:ak X.K H a xs) (h':ak X.K H a ys):xs=ys:=by
 obtain⟨its,r,⟨o,e,_,n,d⟩,_⟩:=I.tuple h
 obtain⟨its',r',⟨o',e',_,n',d'⟩,_⟩:=I.tuple h'
 rw[e]at e';cases e'
 rw[d]at d'
 injection d' with d1 _
 have:its=its':=by simpa using congrArg Array.toList d1
 subst this
 exact r.inj r'
end
abbrev Cx.fN (X:Cx) (E:Value→Shared→Prop):Cx:= {X with xe:=E}
abbrev Cx.l0 (X:Cx):Cx:=X.fN fun _ _=>False
theorem Cx.Ok.fN {X:Cx}(ok:X.Ok) (E:Value→Shared→Prop):(X.fN E).Ok:=
 ⟨ok.mod,ok.kind,ok.glob,ok.blt,ok.above,ok.inj,ok.has,ok.lg,ok.hd,ok.frames,ok.lz,ok.mK,ok.bs,ok.je,ok.ko,ok.k8,ok.fJ,ok.jS⟩
theorem Cx.Ok.hV {X:Cx}{E:Value→Shared→Prop}(ok:(X.fN E).Ok):X.Ok:=
 ⟨ok.mod,ok.kind,ok.glob,ok.blt,ok.above,ok.inj,ok.has,ok.lg,ok.hd,ok.frames,ok.lz,ok.mK,ok.bs,ok.je,ok.ko,ok.k8,ok.fJ,ok.jS⟩
section
variable {X:Cx}{pins:List (Addr×Obj)}{σ:St}{H:Hp}{s:Shared}{E:Value→Shared→Prop}
theorem Inv.fN (I:Inv X pins σ H s) (E:Value→Shared→Prop):Inv (X.fN E) pins σ H s:=⟨I.ok.fN E,I.os,I.bare,I.base,I.loc,I.cell,I.free,I.gm,I.pin,I.af,I.len⟩
theorem Inv.hV (I:Inv (X.fN E) pins σ H s):Inv X pins σ H s:=⟨I.ok.hV,I.os,I.bare,I.base,I.loc,I.cell,I.free,I.gm,I.pin,I.af,I.len⟩
theorem SP.hV {D:Ends}{f:Flow}{s':Shared}(h:SP (X.fN E) pins D f s'):SP X pins D f s':=by
 cases f with
 |next=>obtain⟨ah,H',I,q⟩:=h;exact⟨ah,H',I.hV,q⟩
 |brk=>obtain⟨ah,H',I,q⟩:=h;exact⟨ah,H',I.hV,q⟩
 |cont=>obtain⟨ah,H',I,q⟩:=h;exact⟨ah,H',I.hV,q⟩
 |ret u=>obtain⟨v,ah,H',I,r,q⟩:=h;exact⟨v,ah,H',I.hV,r,q⟩
theorem dY.l0 {st:List Stmt}{t:TS}(h:dY X.l0 st t):dY X st t:=fun pins s σ H D I hw=>
 wpAny_mono (h pins s σ H D (I.fN _) hw) (fun _ _ q=>q.hV) fun _ _ z=>False.elim z
end
section
variable {X:Cx}{st:Stmt}{rest:List Stmt}{t u:TS}{e:Expr}{te:TE}{pos:Pos}
def rg:TS:=fun D σ H=>D.nx σ H
def rf (t u:TS):TS:=fun D σ H=>t {D with nx:=u D} σ H
theorem ZF:dY X [] rg:=fun _ _ σ H _ I h=>wpAny_execs_nil ⟨σ,H,I,h⟩
theorem Zg (h1:PS X st t) (h2:dY X rest u):dY X (st::rest) (rf t u):=by
 intro pins s σ H D I h
 refine wpAny_execs_cons (ao (h1 pins s σ H {D with nx:=u D} I h) fun f s1 q=> ?_)
 cases f with
 |next=>
  obtain⟨ah,H',I',q⟩:=q
  exact h2 pins s1 ah H' D I' q
 |ret v=>exact q
 |brk=>exact q
 |cont=>exact q
theorem Zl (h1:PS X st t):dY X [st] t:=by
 intro pins s σ H D I h
 refine wpAny_execs_cons (ao (h1 pins s σ H D I h) fun f s1 q=> ?_)
 cases f with
 |next=>exact wpAny_execs_nil q
 |ret v=>exact q
 |brk=>exact q
 |cont=>exact q
theorem Inv.quiet {pins:List (Addr×Obj)}{σ:St}{H:Hp}{s:Shared}(I:Inv X pins σ H s):interactive X.env=false:=by simp[interactive,I.ok.kind]
def xf (te:TE):TS:=fun D σ H=>te σ H fun _ H1=>D.nx σ H1
theorem Ym (he:PE X e te) (hs:swapsWith e none pos.line X.env=pure false:=by rfl):PS X (.Expr e pos) (xf te):=by
 intro pins s σ H D I h
 exact wpAny_Expr_any (ao (he pins s σ H _ I h) fun v s1 ⟨x,H1,I1,r1,q1⟩=> ⟨σ,H1,I1,q1⟩) I.quiet hs
def wK (te:TE):TS:=fun D σ H=>te σ H D.rt
theorem Zq (he:PE X e te):PS X (.Return (some e) pos) (wK te):=by
 intro pins s σ H D I h
 exact wpAny_Return_some (ao (he pins s σ H _ I h) fun v s1 ⟨x,H1,I1,r1,q1⟩=> ⟨x,σ,H1,I1,r1,q1⟩)
def w6 (c:TT) (t u:TS):TS:=fun D σ H=>c σ H fun b H1=>if b=true then t D σ H1 else u D σ H1
theorem Z3 {c:Expr}{a b:List Stmt}{tc:TT}(hc:PT X c tc) (ha:dY X a t) (hb:dY X b u):PS X (.If c a b pos) (w6 tc t u):=by
 intro pins s σ H D I h
 refine wpAny_If (ao (hc pins s σ H _ I h) fun d s1 ⟨H1,I1,q1⟩=> ?_)
 cases d with
 |true=>exact ha pins s1 σ H1 D I1 q1
 |false=>exact hb pins s1 σ H1 D I1 q1
def wW:TS:=fun _ _ _=>False
theorem ZO {xq:List Stmt} :dY X xq wW:=fun _ _ _ _ _ _ h=>h.elim
end
abbrev TG:=V→St→Hp→(St→Hp→Prop)→Prop
abbrev jg:=List V→St→Hp→(St→Hp→Prop)→Prop
def PG (X:Cx) (target:Expr) (t:TG):Prop:=
 ∀(pins:List (Addr×Obj)) (s:Shared) (σ:St) (H:Hp) (v:V) (u:Value) (Q:St→Hp→Prop),Inv X pins σ H s→RelV v u→t v σ H Q→
  wpAny (model X.prog X.w) X.A (assign target X.env u) (fun _ s'=> ∃ah H',Inv X pins ah H' s'∧Q ah H') X.xe s
def mY (X:Cx) (ts:List Expr) (t:jg):Prop:=
 ∀(pins:List (Addr×Obj)) (s:Shared) (σ:St) (H:Hp) (vs:List V) (us:List Value) (Q:St→Hp→Prop),Inv X pins σ H s→Vals vs us→t vs σ H Q→
  wpAny (model X.prog X.w) X.A (assignInOrder ((assignEach ts X.env).map (·.2)) us) (fun _ s'=> ∃ah H',Inv X pins ah H' s'∧Q ah H') X.xe s
abbrev qG:=V→V→V→Hp→(Hp→Prop)→Prop
def vJ (X:Cx) (t:qG):Prop:=
 ∀(pins:List (Addr×Obj)) (s:Shared) (σ:St) (H:Hp) (o i v:V) (ov iv u:Value) (Q:Hp→Prop),Inv X pins σ H s→RelV o ov→RelV i iv→RelV v u→t o i v H Q→
  wpAny (model X.prog X.w) X.A (setItem ov iv u) (fun _ s'=> ∃H',Inv X pins σ H' s'∧Q H') X.xe s
section
variable {X:Cx}{pos:Pos}
def aS (i:Nat):TG:=fun v σ H Q=>Q (σ.set i (some v)) H
theorem ZA {i:Nat}{x:Str}(hN:X.N.Nodup) (hi:X.N[i]? =some x) (hx:Loc X.env.scope x) (hf:X.fn x=true∨X.env.scope.names.lookup x=some .local:=by first |exact .inl rfl |exact .inr rfl |assumption):PG X (.Name x pos) (aS i):=by
 intro pins s σ H v u Q I r h
 exact wpAny_assign_Name (Ya I hN hi hx r (fun s' I'=> ⟨_,H,I',h⟩) hf)
def dI:jg:=fun vs σ H Q=>vs=[]∧Q σ H
def aX (t:TG) (u:jg):jg:=fun vs σ H Q=> ∃v r,vs=v::r∧t v σ H fun ah H'=>u r ah H' Q
theorem Zy:mY X [] dI:=by
 intro pins s σ H vs us Q I r h
 obtain⟨e,h⟩:=h
 subst e
 cases r
 exact assignInOrder_nil ⟨σ,H,I,h⟩
theorem Zk {e:Expr}{es:List Expr}{t:TG}{u:jg}(h1:PG X e t) (h2:mY X es u)
  (hs:(assignEach (e::es) X.env).map (·.2)=assign e X.env::(assignEach es X.env).map (·.2):=by rfl):mY X (e::es) (aX t u):=by
 intro pins s σ H vs us Q I r h
 obtain⟨v,vr,e1,h⟩:=h
 subst e1
 cases r with
 |cons r rr=>
  rw[hs]
  refine assignInOrder_cons (ao (h1 pins s σ H _ _ _ I r h) fun _ s1 ⟨wj,H1,I1,q1⟩=> ?_)
  exact h2 pins s1 wj H1 _ _ Q I1 rr q1
def dH (K:PySem.W.Frag) (n:Nat) (t:jg):TG:=fun v σ H Q=> ∃a xs,v=.ref a∧ak K H a xs∧xs.length=n∧t xs σ H Q
theorem ZJ {es:List Expr}{k:Nat}{t:jg}{n:Nat}(hc:X.calm=true) (h:mY X es t)
  (hn:(assignEach es X.env).length=n:=by rfl) (zA:(assignEach es X.env).findIdx? (·.1)=none:=by rfl):PG X (.Tuple es k pos) (dH X.K n t):=by
 intro pins s σ H v u Q I r hw
 obtain⟨a,xs,e1,hq,hl,hw⟩:=hw
 subst e1
 cases r
 obtain⟨its,rv,ht,hz⟩:=I.tuple hq
 refine assign_Tuple_tuple (I.ok.hd hc) ht (by simp[hn,←hl,rv.length]) zA fun h' hx=> ?_
 have I1:Inv X pins σ H {s with heap:=h'} :=I.kept (t':=s.toks) fun b o e=>hx b o (Nat.ne_of_lt (Heap.lt_size e)) e
 exact h pins _ σ H xs _ Q I1 (by simpa using rv) hw
def AZ (to ti:TE) (t:qG):TG:=fun v σ H Q=>to σ H fun o H1=>ti σ H1 fun i H2=>t o i v H2 fun H3=>Q σ H3
theorem vc {o i:Expr}{to ti:TE}{t:qG}(ho:PE X o to) (hi:PE X i ti) (hs:vJ X t)
    (ha:∀v,assign (.Subscript o i pos) X.env v=(do
      let ov ←holding [v] (eval o X.env)
      let iv ←holding [v,ov] (eval i X.env)
      standAt pos
      holding [v,ov,iv] (setItem ov iv v)
      release [v,ov,iv] []):=by intro _;rfl):PG X (.Subscript o i pos) (AZ to ti t):=by
  intro pins s σ H v u Q I r h
  rw[ha]
  refine wpAny_bind (wpAny_holding (ao (ho pins s σ H _ I h) fun ov s1 ⟨x,H1,I1,r1,q1⟩=> ?_))
  refine wpAny_bind (wpAny_holding (ao (hi pins s1 σ H1 _ I1 q1) fun iv s2 ⟨y,H2,I2,r2,q2⟩=> ?_))
  refine wpAny_bind (wpAny_standAt (wpAny_bind (wpAny_holding (ao (hs pins s2 σ H2 x y v ov iv u _ I2 r1 r2 r q2) fun _ s3 ⟨H3,I3,q3⟩=> ?_))))
  exact wpAny_release ⟨σ,H3,I3,q3⟩
def ka (te:TE) (g:TG):TS:=fun D σ H=>te σ H fun x H1=>g x σ H1 D.nx
theorem Ww {tg e:Expr}{te:TE}{g:TG}(he:PE X e te) (hg:PG X tg g) (hs:swapsWithSole [tg] e pos.line X.env=pure false:=by rfl) (hw:swappedStores [tg] e X.env=pure none:=by rfl)
  (h1:(assignEach [tg] X.env).map (·.2)=[assign tg X.env]:=by rfl):PS X (.Assign [tg] e pos) (ka te g):=by
 intro pins s σ H D I h
 refine wpAny_Assign_stores (ao (he pins s σ H _ I h) fun v s1 ⟨x,H1,I1,r1,q1⟩=> ?_) hs hw
 rw[h1]
 exact ao (hg pins s1 σ H1 x v _ I1 r1 q1) fun _ s2 q=>q
theorem Zz {i:Nat}{x:Str}{e:Expr}{te:TE}{pos':Pos}(hN:X.N.Nodup) (hi:X.N[i]? =some x) (hx:Loc X.env.scope x) (he:PE X e te) (hs:swapsWith e (some (.Name x pos')) pos.line X.env=pure false:=by rfl) (hf:X.fn x=true∨X.env.scope.names.lookup x=some .local:=by first |exact .inl rfl |exact .inr rfl |assumption):
  PS X (.Assign [.Name x pos'] e pos) (ka te (aS i)):=by
 intro pins s σ H D I h
 refine wpAny_Assign_Name (ao (he pins s σ H _ I h) fun v s1 ⟨y,H1,I1,r1,q1⟩=> ?_) hs
 exact Ya I1 hN hi hx r1 (fun s2 I2=> ⟨_,H1,I2,q1⟩) hf
def wN (i j:Nat) (ta:TA):TS:=fun D σ H=>ta σ H fun vs H1=> ∃v w,vs=[v,w]∧D.nx ((σ.set i (some v)).set j (some w)) H1
theorem Wv {i j:Nat}{x y:Str}{a b:Expr}{ta:TA}{px py pt:Pos}{kt k2 iJ} (hc:X.calm=true) (hN:X.N.Nodup) (hi:X.N[i]? =some x) (hj:X.N[j]? =some y) (ck:i≠j)
  (hx:X.env.scope.names.lookup x=some .local) (hy:X.env.scope.names.lookup y=some .local) (ha:PA X [a,b] ta)
  (hw:swappedStores [.Tuple [.Name x px,.Name y py] kt pt] (.Tuple [a,b] k2 iJ) X.env=pure (some [x,y]))
  (hs:swapsWithSole [.Tuple [.Name x px,.Name y py] kt pt] (.Tuple [a,b] k2 iJ) pos.line X.env=pure false:=by rfl):
  PS X (.Assign [.Tuple [.Name x px,.Name y py] kt pt] (.Tuple [a,b] k2 iJ) pos) (wN i j ta):=by
 intro pins s σ H D I h
 rw[exec_Assign_arm]
 refine wpAny_bind (wpAny_standAt ?_)
 rw[hs]
 refine wpAny_bind (wpAny_pure ?_)
 rw[if_neg (by decide)]
 refine wpAny_bind (Tuple_ (ao (ha _ pins s σ H _ I h) fun us s1 ⟨vs,H1,I1,r1,q1⟩=> ?_))
 obtain⟨v,w,e1,q1⟩:=q1
 subst e1
 obtain⟨u1,u2,rfl,rv,eX⟩:∃u1 u2,us=[u1,u2]∧RelV v u1∧RelV w u2:=by
  cases r1 with
  |cons p q=>
   cases q with
   |cons p' q'=>
    cases q'
    exact⟨_,_,rfl,p,p'⟩
 refine wpAny_newObj_type ?_ (by show 2≤sizeLine;decide)
 have I2:Inv X pins σ H1 {s1 with heap:=s1.heap.push {cls:=.type "tuple",data:=.seq [u1,u2].toArray} } :=I1.kept (t':=s1.toks) fun b o e=>Heap.get?_push_of_some _ e
 rw[hw]
 refine wpAny_bind (wpAny_pure ?_)
 show wpAny (model X.prog X.w) X.A (do rule "assign.swapped-stores";let items ←unpackItems (.ref s1.heap.objs.size) 2 none;assignInOrder [fun v=>bindName X.env y v,fun v=>bindName X.env x v] items.reverse;pure Flow.next) _ _ _
 refine wpAny_bind (wpAny_rule (wpAny_bind (unpackItems_tuple (items:= #[u1,u2]) (I.ok.hd hc) (IsTup.new s1.heap _) fun h' gK=> ?_)))
 have I3:=I2.kept (h':=h') (t':=s1.toks) fun b o e=>gK b o (Nat.ne_of_lt (Heap.lt_size e)) e
 show wpAny _ _ (assignInOrder [fun v=>bindName X.env y v,fun v=>bindName X.env x v] [u2,u1] >>=fun _=>pure Flow.next) _ _ _
 refine wpAny_bind (assignInOrder_cons (wpAny_bindName (Ya I3 hN hj (.inl hy) eX (fun s2 I4=> ?_) (.inr hy))))
 refine assignInOrder_cons (wpAny_bindName (Ya I4 hN hi (.inl hx) rv (fun s3 I5=>assignInOrder_nil (wpAny_pure ?_)) (.inr hx)))
 rw[List.set_comm _ _ (Ne.symm ck)]at I5
 exact⟨_,H1,I5,q1⟩
end
structure It where
 go:Nat→Hp→Prop
 j7:Nat→Hp→V→Hp→Prop
 stop:Nat→Hp→Prop
def bM (X:Cx) (pins:List (Addr×Obj)) (H:Hp) (b:Addr):Prop:=
 H b=none∧b≠X.env.locals∧b∉X.fs∧(b∈X.ex∨X.bR.heap.objs.size≤b)∧(∀x c,X.env.cells.lookup x=some c→c≠b)∧∀p∈X.pn++pins,p.1≠b
theorem Inv.ja {X:Cx}{pins:List (Addr×Obj)}{σ:St}{H H':Hp}{s:Shared}{b:Addr}(I:Inv X pins σ H s) (hb:s.heap.objs.size≤b) (hn:H' b=none):bM X pins H' b:=by
 refine⟨hn,Nat.ne_of_gt (Nat.lt_of_lt_of_le I.lt hb),I.yJ hb,.inr (Nat.le_trans I.sz hb),fun x c e z=> ?_,fun p hp z=> ?_⟩
 ·obtain⟨v,q⟩:=I.cell x c e
  exact absurd (Nat.lt_of_lt_of_le q.lt (by rw[z];exact hb)) (Nat.lt_irrefl _)
 ·exact absurd (Nat.lt_of_lt_of_le (Heap.lt_size (I.pin p hp).1) (by rw[z];exact hb)) (Nat.lt_irrefl _)
structure Turn (P:Program) (w:World) (K:PySem.W.Frag) (tg:Expr) (J:It) (fp:List Addr) (it:Addr) (tn:Nat→Heap→Prop):Prop where
 mem:it∈fp
 obj:∀i h,tn i h→∀b∈fp,∃o,h.get? b=some o∧∀v,o.data≠.cell v
 keep:∀i h h',tn i h→(∀b∈fp,∀o,h.get? b=some o→h'.get? b=some o)→tn i h'
 item:∀(X:Cx),X.prog=P→X.w=w→X.K=K→X.calm=true→∀(i:Nat) (pins:List (Addr×Obj)) (s:Shared) (σ:St) (H:Hp) (E:Value→Shared→Prop),Inv X pins σ H s→(∀b∈fp,bM X pins H b)→tn i s.heap→J.go i H→
  wpAny (model P w) X.A (pyNext (.ref it)) (fun r s1=> ∃u,r=some u∧
   wpAny (model P w) X.A (letOwnedTupleGo tg (.ref it) u) (fun _ s2=> ∃x H',Inv X pins σ H' s2∧RelV x u∧J.j7 i H x H'∧tn (i+1) s2.heap∧∀b∈fp,H' b=none) E s1) E s
 done:∀(X:Cx),X.prog=P→X.w=w→X.K=K→X.calm=true→∀(i:Nat) (pins:List (Addr×Obj)) (s:Shared) (σ:St) (H:Hp) (E:Value→Shared→Prop),Inv X pins σ H s→(∀b∈fp,bM X pins H b)→tn i s.heap→J.stop i H→
  wpAny (model P w) X.A (pyNext (.ref it)) (fun r s1=>r=none∧Inv X pins σ H s1) E s
 self:∀(A:Around) (i:Nat) (s:Shared) (Q:Value→Shared→Prop) (E:Value→Shared→Prop),tn i s.heap→Q (.ref it) s→wpAny (model P w) A (pyIter (.ref it)) Q E s
abbrev TI:=St→Hp→(It→Hp→Prop)→Prop
def vK (X:Cx) (pins:List (Addr×Obj)) (σ:St) (tg:Expr) (R:It→Hp→Prop) (iO:Value) (s2:Shared):Prop:=
 ∃(it:Addr) (fp:List Addr) (tn:Nat→Heap→Prop) (J:It) (H':Hp),iO=.ref it∧Inv X pins σ H' s2∧Turn X.prog X.w X.K tg J fp it tn∧tn 0 s2.heap∧(∀b∈fp,bM X pins H' b)∧R J H'
def PI (X:Cx) (tg iter:Expr) (wi:TI):Prop:=
 ∀(pins:List (Addr×Obj)) (s:Shared) (σ:St) (H:Hp) (R:It→Hp→Prop),Inv X pins σ H s→wi σ H R→
  wpAny (model X.prog X.w) X.A (eval iter X.env) (fun v s1=>wpAny (model X.prog X.w) X.A (pyIter v) (vK X pins σ tg R) X.xe s1) X.xe s
theorem qF {M:Model}{A:Around}{E:Value→Shared→Prop}{s:Shared}{tg:Expr}{it:Addr}{u:Value}{o:Obj}{n:String}{vs:Array Value}{Q:Unit→Shared→Prop}(ho:s.heap.get? it=some o) (hc:o.cls=.type n) (hd:o.data=.fields vs)
    (hn:["enumerate", "zip", "dict_itemiterator", "dict_reverseitemiterator", "odict_iterator", "itertools.zip_longest", "itertools.pairwise"].contains n=false) (hQ:Q () s):wpAny M A (letOwnedTupleGo tg (.ref it) u) Q E s:=by
  unfold letOwnedTupleGo
  cases tg<;>first
    |exact wpAny_pure hQ
    |(cases u<;>first
        |exact wpAny_pure hQ
        |(refine wpAny_bind (wpAny_load ho ?_)
          rw[hc,hd]
          show wpAny M A (if (["enumerate", "zip", "dict_itemiterator", "dict_reverseitemiterator", "odict_iterator", "itertools.zip_longest", "itertools.pairwise"].contains n&&vs[0]? ==some (rawInt _))=true then _ else _) Q E s
          rw[if_neg (by intro h;rw[hn,Bool.false_and]at h;cases h)]
          exact wpAny_pure hQ))
def jY (K:PySem.W.Frag) (a:Addr):It:=
 ⟨fun i H=> ∃xs x,ae K H a xs∧xs[i]? =some x,fun i H x H'=>H'=H∧∀xs,ae K H a xs→xs[i]? =some x,fun i H=> ∃xs,ae K H a xs∧xs.length≤i⟩
def qK (K:PySem.W.Frag) (a:Addr):It:=
 ⟨fun i H=> ∃xs x,ak K H a xs∧xs[i]? =some x,fun i H x H'=>H'=H∧∀xs,ak K H a xs→xs[i]? =some x,fun i H=> ∃xs,ak K H a xs∧xs.length≤i⟩
def jm (lo:Int) (n:Nat):It:=⟨fun i _=>i<n,fun i H x H'=>H'=H∧x=.int (lo+i),fun i _=>n≤i⟩
theorem DR {P:Program}{w:World}{K:PySem.W.Frag}{tg:Expr}(a it:Addr):Turn P w K tg (jY K a) [it] it (fun i h=>h.IsListIter it a i) where
 mem:=by simp
 obj:=fun i h st b hb=>by
  have e:b=it:=by simpa using hb
  subst e
  obtain⟨o,e,c,d⟩:=st
  exact⟨o,e,fun v z=>by rw[d]at z;cases z⟩
 keep:=fun i h h' st k=>st.at fun o e=>k it (by simp) o e
 item:=by
  intro X hP hw hK hc i pins s σ H E I hf st hg
  subst hP hw hK
  obtain⟨xs,x,hq,hx⟩:=hg
  obtain⟨its,rv,p,hz⟩:=I.list hq
  obtain⟨u,hu,ru⟩:=rv.get hx
  obtain⟨f0,f1,f2,f3,f4,f5⟩:=hf it (by simp)
  refine wpAny_pyNext_list_item st p.isList (x:=u) (by simpa using hu) fun h' aa sb=> ?_
  have I1:Inv X pins σ H {s with heap:=h'} :=I.turned (t':=s.toks) (fun b o hb e=> (sb.2 b hb).trans e) f0 f1 f3 f4 f5
  obtain⟨o,e,c,d⟩:=id aa
  exact⟨u,rfl,qF (s:= {s with heap:=h'}) e c d (by decide) ⟨x,H,I1,ru,⟨rfl,fun ys hy=>by rw[I.pB hy hq];exact hx⟩,aa,fun b hb=> (hf b hb).1⟩⟩
 done:=by
  intro X hP hw hK hc i pins s σ H E I hf st hg
  subst hP hw hK
  obtain⟨xs,hq,hx⟩:=hg
  obtain⟨its,rv,p,hz⟩:=I.list hq
  obtain⟨f0,f1,f2,f3,f4,f5⟩:=hf it (by simp)
  have hl:=rv.length
  exact wpAny_pyNext_list_end (I.ok.hd hc) st p.isList (by simp;omega) fun h' eb=> ⟨rfl,I.turned (t':=s.toks) (fun b o hb e=>eb b o hb e) f0 f1 f3 f4 f5⟩
 self:=fun _ _ _ _ _ st h=>wpAny_pyIter_listiter st h
theorem Uq {P:Program}{w:World}{K:PySem.W.Frag}{tg:Expr}(a it:Addr):Turn P w K tg (qK K a) [it] it (fun i h=>h.IsTupleIter it a i) where
 mem:=by simp
 obj:=fun i h st b hb=>by
  have e:b=it:=by simpa using hb
  subst e
  obtain⟨o,e,c,d⟩:=st
  exact⟨o,e,fun v z=>by rw[d]at z;cases z⟩
 keep:=fun i h h' st k=>st.at fun o e=>k it (by simp) o e
 item:=by
  intro X hP hw hK hc i pins s σ H E I hf st hg
  subst hP hw hK
  obtain⟨xs,x,hq,hx⟩:=hg
  obtain⟨its,rv,p,hz⟩:=I.tuple hq
  obtain⟨u,hu,ru⟩:=rv.get hx
  obtain⟨f0,f1,f2,f3,f4,f5⟩:=hf it (by simp)
  refine wpAny_pyNext_tuple_item st (show s.heap.IsTuple a its.toArray from p) (x:=u) (by simpa using hu) fun h' aa sb=> ?_
  have I1:Inv X pins σ H {s with heap:=h'} :=I.turned (t':=s.toks) (fun b o hb e=> (sb.2 b hb).trans e) f0 f1 f3 f4 f5
  obtain⟨o,e,c,d⟩:=id aa
  exact⟨u,rfl,qF (s:= {s with heap:=h'}) e c d (by decide) ⟨x,H,I1,ru,⟨rfl,fun ys hy=>by rw[I.q0 hy hq];exact hx⟩,aa,fun b hb=> (hf b hb).1⟩⟩
 done:=by
  intro X hP hw hK hc i pins s σ H E I hf st hg
  subst hP hw hK
  obtain⟨xs,hq,hx⟩:=hg
  obtain⟨its,rv,p,hz⟩:=I.tuple hq
  obtain⟨f0,f1,f2,f3,f4,f5⟩:=hf it (by simp)
  have hl:=rv.length
  exact wpAny_pyNext_tuple_end (I.ok.hd hc) st (show s.heap.IsTuple a its.toArray from p) (by simp;omega) fun h' eb=> ⟨rfl,I.turned (t':=s.toks) (fun b o hb e=>eb b o hb e) f0 f1 f3 f4 f5⟩
 self:=fun _ _ _ _ _ st h=>wpAny_pyIter_tupleiter st h
theorem Ur {P:Program}{w:World}{K:PySem.W.Frag}{tg:Expr}(it:Addr) (lo:Int) (n:Nat):Turn P w K tg (jm lo n) [it] it (fun i h=>IsRangeIter h it (lo+(i:Nat)*1) ((n:Int) - (i:Nat)) 1) where
 mem:=by simp
 obj:=fun i h st b hb=>by
  have e:b=it:=by simpa using hb
  subst e
  exact⟨_,st,fun v z=>by
   have z':Data.fields _=Data.cell v:=z
   cases z'⟩
 keep:=fun i h h' st k=>k it (by simp) _ st
 item:=by
  intro X hP hw hK hc i pins s σ H E I hf st hg
  subst hP hw hK
  obtain⟨f0,f1,f2,f3,f4,f5⟩:=hf it (by simp)
  have W:=Walks.range (prog:=X.prog) (w:=X.w) (I.ok.hd hc) it lo 1 n
  refine W.item i s _ _ hg st fun v h' tk hv aa kk=> ?_
  obtain⟨t,rfl⟩:=hv
  have I1:Inv X pins σ H {s with heap:=h',toks:=tk} :=I.turned (fun b o hb e=>kk b o (by simpa using hb) e) f0 f1 f3 f4 f5
  refine⟨_,rfl,qF (s:= {s with heap:=h',toks:=tk}) (n:= "range_iterator") aa rfl rfl (by decide) ⟨.int (lo+i),H,I1,⟨t,?_⟩,⟨rfl,rfl⟩,aa,fun b hb=> (hf b hb).1⟩⟩
  rw[Int.mul_one]
 done:=by
  intro X hP hw hK hc i pins s σ H E I hf st hg
  subst hP hw hK
  obtain⟨f0,f1,f2,f3,f4,f5⟩:=hf it (by simp)
  exact wpAny_pyNext_range_end (I.ok.hd hc) st (by have:n≤i:=hg;omega) fun h' eb=> ⟨rfl,I.turned (t':=s.toks) (fun b o hb e=>eb b o hb e) f0 f1 f3 f4 f5⟩
 self:=fun _ _ _ _ _ st h=>wpAny_pyIter_rangeiter st h
section
variable {X:Cx}{tg:Expr}
def tF (K:PySem.W.Frag) (tl:TE):TI:=fun σ H R=>tl σ H fun x H1=> ∃a,x=.ref a∧(∃xs,ae K H1 a xs)∧R (jY K a) H1
def zc (K:PySem.W.Frag) (tl:TE):TI:=fun σ H R=>tl σ H fun x H1=> ∃a,x=.ref a∧(∃xs,ak K H1 a xs)∧R (qK K a) H1
theorem ZK {l:Expr}{tl:TE}(hl:PE X l tl):PI X tg l (tF X.K tl):=by
 intro pins s σ H R I h
 refine ao (hl pins s σ H _ I h) fun v s1 ⟨x,H1,I1,r1,q1⟩=> ?_
 obtain⟨a,e,⟨xs,hq⟩,q⟩:=q1
 subst e
 cases r1
 obtain⟨its,rv,p,hz⟩:=I1.list hq
 refine wpAny_pyIter_list p.isList ?_
 refine⟨s1.heap.objs.size,[s1.heap.objs.size],_,_,H1,rfl,I1.kept (t':=s1.toks) fun b o e=>Heap.get?_push_of_some _ e,DR a _,⟨_,Heap.get?_push_size _ rfl,rfl,rfl⟩,fun b hb=> ?_,q⟩
 have e:b=s1.heap.objs.size:=by simpa using hb
 subst e
 exact I1.ja (Nat.le_refl _) (I1.af.fresh (Nat.le_refl _))
theorem vE {l:Expr}{tl:TE}(hl:PE X l tl):PI X tg l (zc X.K tl):=by
 intro pins s σ H R I h
 refine ao (hl pins s σ H _ I h) fun v s1 ⟨x,H1,I1,r1,q1⟩=> ?_
 obtain⟨a,e,⟨xs,hq⟩,q⟩:=q1
 subst e
 cases r1
 obtain⟨its,rv,p,hz⟩:=I1.tuple hq
 refine wpAny_pyIter_tuple (show s1.heap.IsTuple a its.toArray from p) ?_
 refine⟨s1.heap.objs.size,[s1.heap.objs.size],_,_,H1,rfl,I1.kept (t':=s1.toks) fun b o e=>Heap.get?_push_of_some _ e,Uq a _,⟨_,Heap.get?_push_size _ rfl,rfl,rfl⟩,fun b hb=> ?_,q⟩
 have e:b=s1.heap.objs.size:=by simpa using hb
 subst e
 exact I1.ja (Nat.le_refl _) (I1.af.fresh (Nat.le_refl _))
theorem Es {pins:List (Addr×Obj)}{σ:St}{H:Hp}{s:Shared}{R:It→Hp→Prop}{E:Value→Shared→Prop}{lo hi:Int}{t u v:Tok}{tk:Nat}(I:Inv X pins σ H s) (h1: -(2^62)≤lo) (h2:lo<2^62) (h3: -(2^62)≤hi) (h4:hi<2^62)
  (q:R (jm lo (hi - lo).toNat) H):wpAny (model X.prog X.w) X.A (pyIter (.ref s.heap.objs.size)) (vK X pins σ tg R) E {s with heap:=s.heap.push {cls:=.type "range",data:=.fields #[.int lo t,.int hi u,.int 1 v]},toks:=tk} :=by
 refine wpAny_pyIter_range (IsRange.new ..) (small_one h1 h2 h3 h4) ?_
 have I1:Inv X pins σ H {s with heap:=s.heap.push {cls:=.type "range",data:=.fields #[.int lo t,.int hi u,.int 1 v]},toks:=tk} :=I.kept fun b o e=>Heap.get?_push_of_some _ e
 refine⟨(s.heap.push {cls:=.type "range",data:=.fields #[.int lo t,.int hi u,.int 1 v]}).objs.size,[(s.heap.push {cls:=.type "range",data:=.fields #[.int lo t,.int hi u,.int 1 v]}).objs.size],_,_,H,rfl,
  I1.kept (t':=tk) fun b o e=>Heap.get?_push_of_some _ e,Ur _ lo (hi - lo).toNat,?_,fun b hb=> ?_,q⟩
 ·have e1:lo+((0:Nat):Int)*1=lo:=by simp
  have e2:(((hi - lo).toNat:Nat):Int) - ((0:Nat):Int)=Builtin.Range.rangeSize lo hi 1:=by rw[rangeSize_one];split<;>omega
  show IsRangeIter _ _ (lo+((0:Nat):Int)*1) ((((hi - lo).toNat:Nat):Int) - ((0:Nat):Int)) 1
  rw[e1,e2]
  exact Heap.get?_push_size _ rfl
 ·have e:b=(s.heap.push {cls:=.type "range",data:=.fields #[.int lo t,.int hi u,.int 1 v]}).objs.size:=by simpa using hb
  subst e
  exact I1.ja (Nat.le_refl _) (I1.af.fresh (Nat.le_refl _))
def zd (ta:TA):TI:=fun σ H R=>ta σ H fun vs H1=> ∃j:Int,vs=[.int j]∧ -(2^62)≤j∧j<2^62∧R (jm 0 j.toNat) H1
theorem Z6 {a:Expr}{ta:TA}{p pos:Pos}(hg:Gl X "range") (hm:X.mg "range" =none) (ha:PA X [a] ta) (hs:starEach [a] X.env=[(false,eval a X.env)]:=by rfl):PI X tg (.Call (.Name "range" p) [a] [] pos) (zd ta):=by
 intro pins s σ H R I h
 refine Call_ (Yu I hg hm boot_range (PyProof.Rows.callWith_type1 (ao (ha pos pins s σ H _ I h) fun us s1 ⟨vs,H1,I1,r1,q1⟩=> ?_) hs rfl))
 obtain⟨j,e,q1,q2,q⟩:=q1
 subst e
 cases r1 with
 |cons r rr=>
  cases rr
  obtain⟨t,rfl⟩:=r
  exact call_range_1 (Es I1 (by omega) (by omega) q1 q2 (by simpa using q))
def xb (wi:TI) (g:TG) (tb:TS):TS:=fun D σ H=>wi σ H fun J H1=> ∃W:Nat→Nat→St→Hp→Prop,(∃m,W 0 m σ H1)∧∀i m σ H,W i m σ H→
 (J.stop i H∧D.nx σ H)∨(J.go i H∧∃N:St→Hp→Prop,(∀ah H',N ah H'→∃m',m'<m∧W (i+1) m' ah H')∧∀x H',J.j7 i H x H'→g x σ H' fun aR H2=>tb {D with nx:=N,ct:=N,bk:=D.nx} aR H2)
def gE (fp:List Addr) (h:Heap):List (Addr×Obj):=fp.filterMap fun b=> (h.get? b).map fun o=> (b,o)
theorem ZH {fp:List Addr}{h:Heap}{b:Addr}{o:Obj}(hb:b∈fp) (e:h.get? b=some o):(b,o)∈gE fp h:=List.mem_filterMap.mpr ⟨b,hb,by rw[e];rfl⟩
theorem YZ {fp:List Addr}{h:Heap}{p:Addr×Obj}(hp:p∈gE fp h):p.1∈fp∧h.get? p.1=some p.2:=by
 obtain⟨b,hb,e⟩:=List.mem_filterMap.mp hp
 cases q:h.get? b with
 |none=>rw[q]at e;cases e
 |some o=>
  rw[q]at e
  have e':(b,o)=p:=Option.some.inj e
  subst e'
  exact⟨hb,q⟩
theorem Inv.pinned {pins:List (Addr×Obj)}{σ:St}{H:Hp}{s:Shared}{fp:List Addr}(I:Inv X pins σ H s) (hf:∀b∈fp,bM X pins H b) (ho:∀b∈fp,∃o,s.heap.get? b=some o∧∀v,o.data≠.cell v):Inv X (pins++gE fp s.heap) σ H s:=
 I.sf fun p hp=> (List.mem_append.mp hp).elim (fun z=>I.pin p (List.mem_append_right _ z)) fun z=>by
  obtain⟨hb,e⟩:=YZ z
  obtain⟨f0,f1,f2,_⟩:=hf p.1 hb
  obtain⟨o,e',d⟩:=ho p.1 hb
  rw[e]at e';cases e'
  exact⟨e,f0,f1,f2,d⟩
theorem Inv.fO {pins pl:List (Addr×Obj)}{σ:St}{H:Hp}{s:Shared}(I:Inv X (pins++pl) σ H s):Inv X pins σ H s:=I.sf fun p hp=>I.pin p (List.mem_append_right _ (List.mem_append_left _ hp))
theorem Yp {iter:Expr}{body:List Stmt}{wi:TI}{g:TG}{tb:TS}{pos:Pos}(hp:PassesOwn (model X.prog X.w) X.A X.env X.xe) (hc:X.calm=true) (hi:PI X tg iter wi) (hg:PG X tg g) (hb:dY X body tb)
  (hs:∀x,foldedSetIterable iter X.env x=pure x:=by intro _;rfl):PS X (.For tg iter body [] pos) (xb wi g tb):=by
 intro pins s σ H D I h
 refine wpAny_For (ao (hi pins s σ H _ I h) fun v s1 h1=>ao h1 fun iO s2 h2=> ?_) hs
 obtain⟨it,fp,tn,J,H2,e,I2,T,ag,f2,W,⟨m0,w0⟩,turn⟩:=h2
 subst e
 have stat:∀{H':Hp},(∀b∈fp,H' b=none)→∀b∈fp,bM X pins H' b:=fun hn b hb=> ⟨hn b hb,(f2 b hb).2⟩
 refine codeAny_forLoop_any (fun n s'=> ∃i ah H',Inv X pins ah H' s'∧tn i s'.heap∧(∀b∈fp,H' b=none)∧W i n ah H') ?_ m0 ⟨0,σ,H2,I2,ag,fun b hb=> (f2 b hb).1,w0⟩
 rintro n s3 ⟨i,eQ,H3,I3,aE,mJ,w3⟩
 rcases turn i n eQ H3 w3 with ⟨stop,qn⟩ |⟨go,N,hN,step⟩
 ·refine wpAny_passesOwn hp (ao (T.done X rfl rfl rfl hc i pins s3 eQ H3 X.xe I3 (stat mJ) aE stop) fun r s4 ⟨hr,I4⟩=> ?_)
  subst hr
  exact wpAny_execs_nil ⟨eQ,H3,I4,qn⟩
 ·refine wpAny_passesOwn hp (ao (T.item X rfl rfl rfl hc i pins s3 eQ H3 X.xe I3 (stat mJ) aE go) fun r s4 ⟨u,hr,h4⟩=> ?_)
  subst hr
  refine wpAny_passesOwn hp (ao h4 fun _ s5 ⟨x,H5,I5,r5,y5,fS,qr⟩=> ?_)
  have qO:=I5.pinned (stat qr) (T.obj _ _ fS)
  refine wpAny_passesOwn hp (ao (hg _ s5 eQ H5 x u _ qO r5 (step x H5 y5)) fun _ s6 ⟨j5,H6,I6,q6⟩=> ?_)
  refine wpAny_passesOwn hp (ao (hb _ s6 j5 H6 _ I6 q6) fun f s7 q7=> ?_)
  have again:∀{cJ:St}{H7:Hp},Inv X (pins++gE fp s5.heap) cJ H7 s7→N cJ H7→∃m,m<n∧∃i ah H',Inv X pins ah H' s7∧tn i s7.heap∧(∀b∈fp,H' b=none)∧W i m ah H':=fun {cJ H7} I7 n7=>by
   obtain⟨m',hm,w7⟩:=hN cJ H7 n7
   refine⟨m',hm,i+1,cJ,H7,I7.fO,T.keep _ _ _ fS fun b hb o e=> (I7.pin (b,o) (List.mem_append_right _ (List.mem_append_right _ (ZH hb e)))).1,fun b hb=> ?_,w7⟩
   obtain⟨o,e,d⟩:=T.obj _ _ fS b hb
   exact(I7.pin (b,o) (List.mem_append_right _ (List.mem_append_right _ (ZH hb e)))).2.1
  cases f with
  |next=>obtain⟨cJ,H7,I7,n7⟩:=q7;exact again I7 n7
  |cont=>obtain⟨cJ,H7,I7,n7⟩:=q7;exact again I7 n7
  |brk=>obtain⟨cJ,H7,I7,q7⟩:=q7;exact⟨cJ,H7,I7.fO,q7⟩
  |ret v=>obtain⟨x7,cJ,H7,I7,r7,q7⟩:=q7;exact⟨x7,cJ,H7,I7.fO,r7,q7⟩
end
theorem JI {K:PySem.W.Frag}{a:Addr}{xs:List V}{g:TG}{tb:TS}{D:Ends}{σ:St}{H:Hp}(Pv:Nat→St→Hp→Prop) (h0:Pv 0 σ H) (hl:∀i σ H,i≤xs.length→Pv i σ H→ae K H a xs)
  (hs:∀i x σ H,xs[i]? =some x→Pv i σ H→g x σ H fun aR H2=>tb {D with nx:=Pv (i+1),ct:=Pv (i+1),bk:=D.nx} aR H2) (hd:∀σ H,Pv xs.length σ H→D.nx σ H):
  ∃W:Nat→Nat→St→Hp→Prop,(∃m,W 0 m σ H)∧∀i m σ H,W i m σ H→
   ((jY K a).stop i H∧D.nx σ H)∨((jY K a).go i H∧∃N:St→Hp→Prop,(∀ah H',N ah H'→∃m',m'<m∧W (i+1) m' ah H')∧∀x H',(jY K a).j7 i H x H'→g x σ H' fun aR H2=>tb {D with nx:=N,ct:=N,bk:=D.nx} aR H2):=by
 refine⟨fun i m σ H=>m=xs.length - i∧i≤xs.length∧Pv i σ H,⟨xs.length,by simp,Nat.zero_le _,h0⟩,?_⟩
 rintro i m σ H ⟨rfl,hi,p⟩
 have q:=hl i σ H hi p
 by_cases aK:i<xs.length
 ·refine .inr ⟨⟨xs,xs[i],q,by simp[aK]⟩,Pv (i+1),fun ah H' p'=> ⟨xs.length - (i+1),by omega,rfl,aK,p'⟩,fun x H' y=> ?_⟩
  obtain⟨e,y⟩:=y
  subst e
  exact hs i x σ _ (y xs q) p
 ·have e:i=xs.length:=by omega
  subst e
  exact .inl ⟨⟨xs,q,Nat.le_refl _⟩,hd σ H p⟩
theorem Yj {lo:Int}{n:Nat}{g:TG}{tb:TS}{D:Ends}{σ:St}{H:Hp}(Pv:Nat→St→Hp→Prop) (h0:Pv 0 σ H)
  (hs:∀i σ H,i<n→Pv i σ H→g (.int (lo+i)) σ H fun aR H2=>tb {D with nx:=Pv (i+1),ct:=Pv (i+1),bk:=D.nx} aR H2) (hd:∀σ H,Pv n σ H→D.nx σ H):
  ∃W:Nat→Nat→St→Hp→Prop,(∃m,W 0 m σ H)∧∀i m σ H,W i m σ H→
   ((jm lo n).stop i H∧D.nx σ H)∨((jm lo n).go i H∧∃N:St→Hp→Prop,(∀ah H',N ah H'→∃m',m'<m∧W (i+1) m' ah H')∧∀x H',(jm lo n).j7 i H x H'→g x σ H' fun aR H2=>tb {D with nx:=N,ct:=N,bk:=D.nx} aR H2):=by
 refine⟨fun i m σ H=>m=n - i∧i≤n∧Pv i σ H,⟨n,by simp,Nat.zero_le _,h0⟩,?_⟩
 rintro i m σ H ⟨rfl,hi,p⟩
 by_cases aK:i<n
 ·refine .inr ⟨aK,Pv (i+1),fun ah H' p'=> ⟨n - (i+1),by omega,rfl,aK,p'⟩,fun x H' y=> ?_⟩
  obtain⟨e,y⟩:=y
  subst e y
  exact hs i σ _ aK p
 ·have e:i=n:=by omega
  subst e
  exact .inl ⟨Nat.le_refl _,hd σ H p⟩
abbrev R2:=V→V→Hp→VK→Prop
def aW (X:Cx) (f:Value→Value→Sem Value) (r:R2):Prop:=
 ∀(pins:List (Addr×Obj)) (s:Shared) (σ:St) (H:Hp) (x y:V) (v u:Value) (Q:VK),Inv X pins σ H s→RelV x v→RelV y u→r x y H Q→
  wpAny (model X.prog X.w) X.A (f v u) (EP X pins σ Q) X.xe s
def di (X:Cx) (f:Value) (r:List V→Hp→VK→Prop):Prop:=
 ∀(pins:List (Addr×Obj)) (s:Shared) (σ:St) (H:Hp) (xs:List V) (us:List Value) (Q:VK),Inv X pins σ H s→Vals xs us→r xs H Q→
  wpAny (model X.prog X.w) X.A (call f us) (EP X pins σ Q) X.xe s
def jn (r:R2) (ta tb:TE):TE:=fun σ H Q=>ta σ H fun x H1=>tb σ H1 fun y H2=>r x y H2 Q
def rI (C:Int→Int→Prop) (g:Int→Int→V):R2:=fun x y H Q=> ∃i j,x=.int i∧y=.int j∧C i j∧Q (g i j) H
def ic (g:Int→Int→V):R2:=fun x y H Q=> ∃i j,x=.int i∧y=.int j∧Q (g i j) H
section
variable {X:Cx}{a b c:Expr}{ta tb tc:TE}{pos:Pos}
theorem qz (ha:PE X a ta) (hb:PE X b tb) {pins:List (Addr×Obj)}{s:Shared}{σ:St}{H:Hp}{R:V→V→Hp→Prop}(I:Inv X pins σ H s)
  (h:ta σ H fun x H1=>tb σ H1 fun y H2=>R x y H2) {Q:Value→Shared→Prop}{f:Value→Value→Sem Value}
  (hf:∀v u s2 x y H2,Inv X pins σ H2 s2→RelV x v→RelV y u→R x y H2→wpAny (model X.prog X.w) X.A (f v u) Q X.xe s2):
  wpAny (model X.prog X.w) X.A (eval a X.env) (fun v aB=>wpAny (model X.prog X.w) X.A (eval b X.env) (fun u nB=>wpAny (model X.prog X.w) X.A (f v u) Q X.xe nB) X.xe aB) X.xe s:=by
 refine ao (ha pins s σ H _ I h) fun v s1 ⟨x,H1,I1,r1,q1⟩=> ?_
 refine ao (hb pins s1 σ H1 _ I1 q1) fun u s2 ⟨y,H2,I2,r2,q2⟩=> ?_
 exact hf v u s2 x y H2 I2 r1 r2 q2
theorem Zo {op:Operator}{r:R2}(ho:aW X (binaryOp op) r) (ha:PE X a ta) (hb:PE X b tb):PE X (.BinOp a op b pos) (jn r ta tb):=by
 intro pins s σ H Q I h
 exact wpAny_BinOp (qz ha hb I h fun v u s2 x y H2 I2 rx ry q=>ho pins s2 σ H2 x y v u Q I2 rx ry q)
theorem lV {f:Value→Value→Sem Value}{C:Int→Int→Prop}{g:Int→Int→Int}
  (rule:∀(i j:Int) (t u:Tok) (s:Shared) (Q:Value→Shared→Prop) (E:Value→Shared→Prop),C i j→Q (.int (g i j) s.toks) {s with toks:=s.toks+1}→wpAny (model X.prog X.w) X.A (f (.int i t) (.int j u)) Q E s):
  aW X f (rI C fun i j=> .int (g i j)):=by
 intro pins s σ H x y v u Q I rx ry h
 obtain⟨i,j,rfl,rfl,hc,q⟩:=h
 obtain⟨t,rfl⟩:=rx
 obtain⟨t',rfl⟩:=ry
 exact rule i j t t' s _ _ hc ⟨.int (g i j),H,I.tok _,⟨_,rfl⟩,q⟩
theorem sv {f:Value→Value→Sem Value}{g:Int→Int→Int}
  (rule:∀(i j:Int) (t u:Tok) (s:Shared) (Q:Value→Shared→Prop) (E:Value→Shared→Prop),Q (.int (g i j) s.toks) {s with toks:=s.toks+1}→wpAny (model X.prog X.w) X.A (f (.int i t) (.int j u)) Q E s):
  aW X f (ic fun i j=> .int (g i j)):=by
 intro pins s σ H x y v u Q I rx ry h
 obtain⟨i,j,rfl,rfl,q⟩:=h
 obtain⟨t,rfl⟩:=rx
 obtain⟨t',rfl⟩:=ry
 exact rule i j t t' s _ _ ⟨.int (g i j),H,I.tok _,⟨_,rfl⟩,q⟩
theorem lW {f:Value→Value→Sem Value}{g:Int→Int→Bool}
  (rule:∀(i j:Int) (t u:Tok) (s:Shared) (Q:Value→Shared→Prop) (E:Value→Shared→Prop),Q (.bool (g i j)) s→wpAny (model X.prog X.w) X.A (f (.int i t) (.int j u)) Q E s):
  aW X f (ic fun i j=> .bl (g i j)):=by
 intro pins s σ H x y v u Q I rx ry h
 obtain⟨i,j,rfl,rfl,q⟩:=h
 obtain⟨t,rfl⟩:=rx
 obtain⟨t',rfl⟩:=ry
 exact rule i j t t' s _ _ ⟨.bl (g i j),H,I,rfl,q⟩
def Ff (i j:Int):Prop:=0<j∧j<1073741824
def Fe (i j:Int):Prop:=0≤j∧j≤1000000∧i.natAbs<2^64
def qV (i j:Int):Prop:=(-(2^64)<i∧i<2^64)∨(-(2^64)<j∧j<2^64)
theorem qV.ok {i j:Int}(h:qV i j):IntMulOk i j:=by
 rcases h with ⟨h1,h2⟩ |⟨h1,h2⟩
 ·exact .of_left (intBits_le_64 h1 h2)
 ·exact .of_right (intBits_le_64 h1 h2)
theorem YJ:aW X (binaryOp .Add) (ic fun i j=> .int (i+j)):=sv fun _ _ _ _ _ _ _ q=>add_int q
theorem ZP:aW X (binaryOp .Sub) (ic fun i j=> .int (i - j)):=sv fun _ _ _ _ _ _ _ q=>sub_int q
theorem Yb:aW X (binaryOp .Mult) (rI qV fun i j=> .int (i*j)):=lV fun _ _ _ _ _ _ _ hc q=>mul_int q hc.ok
theorem Jg:aW X (binaryOp .FloorDiv) (rI Ff fun i j=> .int (i/j)):=lV fun i j _ _ _ _ _ hc q=>by
 have h1:(0:Int)<j:=hc.1
 have h2:j<1073741824:=hc.2
 exact floordiv_int (by omega) (by rw[Int.fdiv_eq_ediv_of_nonneg i (by omega)];exact q) (.inl (PyProof.noPylong_small (by omega)))
theorem Yq:aW X (binaryOp .Mod) (rI (fun _ j=>0<j) fun i j=> .int (i%j)):=lV fun i j _ _ _ _ _ hc q=>by
 have h1:(0:Int)<j:=hc
 exact mod_int' (by omega) (by rw[Int.fmod_eq_emod_of_nonneg i (by omega)];exact q)
theorem Cv:aW X (binaryOp .Pow) (rI Fe fun i j=> .int (i^j.toNat)):=lV fun _ _ _ _ _ _ _ hc q=>pow_int_small hc.1 hc.2.1 hc.2.2 q
end
def rF:V→V→Bool
 | .ai,.ai=>true | .ai,.int _=>true | .int _,.ai=>true | .ai,.bl _=>true | .bl _,.ai=>true | .ai,.str _=>true | .str _,.ai=>true
 | .int _,.int _=>true | .bl _,.bl _=>true | .str _,.str _=>true | .eP _,.eP _=>true
 | .int _,.str _=>true | .str _,.int _=>true | .bl _,.str _=>true | .str _,.bl _=>true
 |_,_=>false
def yw:R2:=fun x y H Q=>rF x y=true∧Q (.bl (decide (x=y))) H
def yr:R2:=fun x y H Q=>rF x y=true∧Q (.bl (!decide (x=y))) H
theorem WK {i j:Int} :decide (V.int i=V.int j)=(i==j):=by
 rw[Bool.eq_iff_iff]
 simp
theorem vn {i j:Bool} :decide (V.bl i=V.bl j)=(i==j):=by
 rw[Bool.eq_iff_iff]
 simp
theorem vD {i j:Str} :decide (V.str i=V.str j)=(i==j):=by
 rw[Bool.eq_iff_iff]
 simp
theorem vC {i j:Array UInt8} :decide (V.eP i=V.eP j)=(i.toList==j.toList):=by
 rw[Bool.eq_iff_iff]
 cases i
 cases j
 simp
section
variable {X:Cx}{a b c:Expr}{ta tb tc:TE}{pos:Pos}
theorem Zr {pins:List (Addr×Obj)}{σ:St}{H:Hp}{s:Shared}{Q:VK}{k k':Bool}(I:Inv X pins σ H s) (q:Q (.bl k) H) (e:k=k'):EP X pins σ Q (.bool k') s:=by
 subst e
 exact⟨.bl k,H,I,rfl,q⟩
theorem W1:aW X (compareOp .Eq) yw:=by
 intro pins s σ H x y v u Q I rx ry h
 obtain⟨hs,q⟩:=h
 cases x with
 |ai=>
  cases rx
  cases y with
  |ai=>cases ry;exact PySem.EqNone.eq_none_none (Zr I q (by simp))
  |bl j=>cases ry;exact PySem.EqNone.eq_none_bool (Zr I q (by simp))
  |int j=>obtain⟨t',rfl⟩:=ry;exact PySem.EqNone.eq_none_int (Zr I q (by simp))
  |str j=>obtain⟨t',rfl⟩:=ry;exact PySem.EqNone.eq_none_str (Zr I q (by simp))
  |_=>exact absurd (show false=true from hs) Bool.false_ne_true
 |bl i=>
  cases rx
  cases y with
  |ai=>cases ry;exact PySem.EqNone.eq_bool_none (Zr I q (by simp))
  |bl j=>cases ry;exact eq_bool (Zr I q vn)
  |str j=>obtain⟨t',rfl⟩:=ry;exact PySem.EqMixed.eq_bool_str (Zr I q (by simp))
  |_=>exact absurd (show false=true from hs) Bool.false_ne_true
 |int i=>
  obtain⟨t,rfl⟩:=rx
  cases y with
  |ai=>cases ry;exact PySem.EqNone.eq_int_none (Zr I q (by simp))
  |int j=>obtain⟨t',rfl⟩:=ry;exact eq_int (Zr I q WK)
  |str j=>obtain⟨t',rfl⟩:=ry;exact PySem.EqMixed.eq_int_str (Zr I q (by simp))
  |_=>exact absurd (show false=true from hs) Bool.false_ne_true
 |str i=>
  obtain⟨t,rfl⟩:=rx
  cases y with
  |ai=>cases ry;exact PySem.EqNone.eq_str_none (Zr I q (by simp))
  |bl j=>cases ry;exact PySem.EqMixed.eq_str_bool (Zr I q (by simp))
  |int j=>obtain⟨t',rfl⟩:=ry;exact PySem.EqMixed.eq_str_int (Zr I q (by simp))
  |str j=>obtain⟨t',rfl⟩:=ry;exact eq_str (Zr I q vD)
  |_=>exact absurd (show false=true from hs) Bool.false_ne_true
 |eP i=>
  obtain⟨t,rfl⟩:=rx
  cases y with
  |eP j=>obtain⟨t',rfl⟩:=ry;exact PySem.W.eq_bytes (Zr I q vC)
  |_=>exact absurd (show false=true from hs) Bool.false_ne_true
 |_=>cases y<;>exact absurd (show false=true from hs) Bool.false_ne_true
theorem Wc:aW X (compareOp .NotEq) yr:=by
 intro pins s σ H x y v u Q I rx ry h
 obtain⟨hs,q⟩:=h
 cases x with
 |ai=>
  cases rx
  cases y with
  |ai=>cases ry;exact PySem.EqNone.ne_none_none (Zr I q (by simp))
  |bl j=>cases ry;exact PySem.EqNone.ne_none_bool (Zr I q (by simp))
  |int j=>obtain⟨t',rfl⟩:=ry;exact PySem.EqNone.ne_none_int (Zr I q (by simp))
  |str j=>obtain⟨t',rfl⟩:=ry;exact PySem.EqNone.ne_none_str (Zr I q (by simp))
  |_=>exact absurd (show false=true from hs) Bool.false_ne_true
 |bl i=>
  cases rx
  cases y with
  |ai=>cases ry;exact PySem.EqNone.ne_bool_none (Zr I q (by simp))
  |bl j=>cases ry;exact ne_bool (Zr I q (congrArg not vn))
  |str j=>obtain⟨t',rfl⟩:=ry;exact PySem.EqMixed.ne_bool_str (Zr I q (by simp))
  |_=>exact absurd (show false=true from hs) Bool.false_ne_true
 |int i=>
  obtain⟨t,rfl⟩:=rx
  cases y with
  |ai=>cases ry;exact PySem.EqNone.ne_int_none (Zr I q (by simp))
  |int j=>obtain⟨t',rfl⟩:=ry;exact ne_int (Zr I q (congrArg not WK))
  |str j=>obtain⟨t',rfl⟩:=ry;exact PySem.EqMixed.ne_int_str (Zr I q (by simp))
  |_=>exact absurd (show false=true from hs) Bool.false_ne_true
 |str i=>
  obtain⟨t,rfl⟩:=rx
  cases y with
  |ai=>cases ry;exact PySem.EqNone.ne_str_none (Zr I q (by simp))
  |bl j=>cases ry;exact PySem.EqMixed.ne_str_bool (Zr I q (by simp))
  |int j=>obtain⟨t',rfl⟩:=ry;exact PySem.EqMixed.ne_str_int (Zr I q (by simp))
  |str j=>obtain⟨t',rfl⟩:=ry;exact ne_str (Zr I q (congrArg not vD))
  |_=>exact absurd (show false=true from hs) Bool.false_ne_true
 |eP i=>
  obtain⟨t,rfl⟩:=rx
  cases y with
  |eP j=>obtain⟨t',rfl⟩:=ry;exact PySem.W.ne_bytes (Zr I q (congrArg not vC))
  |_=>exact absurd (show false=true from hs) Bool.false_ne_true
 |_=>cases y<;>exact absurd (show false=true from hs) Bool.false_ne_true
theorem uZ:aW X (compareOp .Lt) (ic fun i j=> .bl (decide (i<j))):=lW fun _ _ _ _ _ _ _ q=>lt_int q
theorem uY:aW X (compareOp .LtE) (ic fun i j=> .bl (decide (i≤j))):=lW fun _ _ _ _ _ _ _ q=>le_int q
theorem U1:aW X (compareOp .Gt) (ic fun i j=> .bl (decide (j<i))):=lW fun _ _ _ _ _ _ _ q=>gt_int q
theorem uX:aW X (compareOp .GtE) (ic fun i j=> .bl (decide (j≤i))):=lW fun _ _ _ _ _ _ _ q=>ge_int q
theorem aW.or {f:Value→Value→Sem Value}{r r':R2}(h:aW X f r) (h':aW X f r'):aW X f (fun x y H Q=>r x y H Q∨r' x y H Q):=by
 intro pins s σ H x y v u Q I rx ry q
 rcases q with q |q
 ·exact h pins s σ H x y v u Q I rx ry q
 ·exact h' pins s σ H x y v u Q I rx ry q
theorem bJ (b:Expr) {op:CmpOp}(h:op≠.In:=by decide) (h2:op≠.NotIn:=by decide):behindInMarks op b=false:=by
 have e1:(op==CmpOp.In)=false:=by cases op<;>first |rfl |exact absurd rfl h
 have e2:(op==CmpOp.NotIn)=false:=by cases op<;>first |rfl |exact absurd rfl h2
 cases b<;>simp[behindInMarks,e1,e2]
theorem YO {op:CmpOp}{r:R2}(ho:aW X (compareOp op) r) (ha:PE X a ta) (hb:PE X b tb) (hm:behindInMarks op b=false):PE X (.Compare a [op] [b] pos) (jn r ta tb):=by
 intro pins s σ H Q I h
 exact wpAny_Compare1 (qz ha hb I h fun v u s2 x y H2 I2 rx ry q=>ho pins s2 σ H2 x y v u Q I2 rx ry q) hm
def wI (t:TE):TT:=fun σ H Q=>t σ H fun x H'=> ∃k,x=.bl k∧Q k H'
theorem Zu {op:CmpOp}{r:R2}(ho:aW X (compareOp op) r) (ha:PE X a ta) (hb:PE X b tb) (hm:behindInMarks op b=false):PT X (.Compare a [op] [b] pos) (wI (jn r ta tb)):=by
 intro pins s σ H Q I h
 refine wpAny_isTrue_Compare1 (ao (ha pins s σ H _ I h) fun v s1 ⟨x,H1,I1,r1,q1⟩=>ao (hb pins s1 σ H1 _ I1 q1) fun u s2 ⟨y,H2,I2,r2,q2⟩=>
  ao (ho pins s2 σ H2 x y v u _ I2 r1 r2 q2) fun c s3 ⟨z,H3,I3,r3,k,e,q3⟩=> ?_) hm
 subst e
 cases r3
 exact wpAny_truthy_bool ⟨H3,I3,q3⟩
def xl (r r':R2) (ta tb tc:TE):TE:=fun σ H Q=>ta σ H fun x H1=>tb σ H1 fun y H2=>r x y H2 fun z H3=> ∃k,z=.bl k∧
 (if k=true then tc σ H3 fun w' H4=>r' y w' H4 Q else Q (.bl false) H3)
theorem C8 {op o9:CmpOp}{r r':R2}(ho:aW X (compareOp op) r) (eE:aW X (compareOp o9) r') (ha:PE X a ta) (hb:PE X b tb) (hc:PE X c tc)
  (hm:lastMarks [op,o9] [b,c]=false:=by with_unfolding_all rfl):PE X (.Compare a [op,o9] [b,c] pos) (xl r r' ta tb tc):=by
 intro pins s σ H Q I h
 refine Compare_chain (ao (ha pins s σ H _ I h) fun v s1 ⟨x,H1,I1,r1,q1⟩=>chain_link (ao (hb pins s1 σ H1 _ I1 q1) fun u s2 ⟨y,H2,I2,r2,q2⟩=>
  ao (ho pins s2 σ H2 x y v u _ I2 r1 r2 q2) fun d s3 ⟨z,H3,I3,r3,k,e,q3⟩=> ?_)) hm
 subst e
 cases r3
 refine wpAny_truthy_bool ?_
 cases k with
 |false=>exact ite_ff ⟨.bl false,H3,I3,rfl,q3⟩
 |true=>exact ite_tt (chain_last (ao (hc pins s3 σ H3 _ I3 q3) fun w' s4 ⟨z',H4,I4,r4,q4⟩=>eE pins s4 σ H4 y z' u w' Q I4 r2 r4 q4))
theorem l6:(sizeLine:Nat)<2^63:=by rw[sizeLine_eq];decide
theorem vals1 {x:V}{us:List Value}(r:Vals [x] us):∃u,us=[u]∧RelV x u:=by
 cases r with
 |cons r1 r2=>cases r2;exact⟨_,rfl,r1⟩
theorem vals2 {x y:V}{us:List Value}(r:Vals [x,y] us):∃u w',us=[u,w']∧RelV x u∧RelV y w':=by
 cases r with
 |cons r1 r2=>
  cases r2 with
  |cons r3 r4=>cases r4;exact⟨_,_,rfl,r1,r3⟩
theorem Wj (hc:X.calm=true):di X (.builtin "max") (fun xs H Q=> ∃i j,xs=[.int i,.int j]∧Q (.int (if j>i then j else i)) H):=by
 intro pins s σ H xs us Q I r h
 obtain⟨i,j,rfl,q⟩:=h
 obtain⟨u,w',rfl,⟨t,rfl⟩,⟨t',rfl⟩⟩:=vals2 r
 refine max_two_ints (I.ok.hd hc) fun h' tk k=> ⟨_,H,I.kept k,?_,q⟩
 by_cases hj:j>i
 ·rw[if_pos hj,if_pos hj];exact⟨_,rfl⟩
 ·rw[if_neg hj,if_neg hj];exact⟨_,rfl⟩
theorem D8 (hc:X.calm=true):di X (.builtin "min") (fun xs H Q=> ∃i j,xs=[.int i,.int j]∧Q (.int (if j<i then j else i)) H):=by
 intro pins s σ H xs us Q I r h
 obtain⟨i,j,rfl,q⟩:=h
 obtain⟨u,w',rfl,⟨t,rfl⟩,⟨t',rfl⟩⟩:=vals2 r
 refine min_two_ints (I.ok.hd hc) fun h' tk k=> ⟨_,H,I.kept k,?_,q⟩
 by_cases hj:j<i
 ·rw[if_pos hj,if_pos hj];exact⟨_,rfl⟩
 ·rw[if_neg hj,if_neg hj];exact⟨_,rfl⟩
end
structure qH (h:Heap) (x dx C:Addr) (mA:Str→Option Value):Prop where
 obj:h.get? x=some (PySem.W.instObj C dx)
 ns:h.Ns1 dx mA
 ne:dx≠x
theorem Ej {h:Heap}{dx:Addr}{mA:Str→Option Value}(n:h.Ns1 dx mA):∃od,h.get? dx=some od∧∀name,PySem.W.lookIn name od=some (mA name):=by
 obtain⟨o,es,ep,ho,hd,hk,_,hm⟩:=n
 refine⟨o,ho,fun name=> ?_⟩
 have e:=hm name
 unfold nsFind findBy at e
 rw[←Array.find?_toList]at e
 unfold PySem.W.lookIn
 rw[hd]
 dsimp only
 split
 ·rename_i y q
  rw[q]at e
  exact congrArg some e
 ·rename_i q
  rw[q]at e
  have a:es.toList.any (·.refKey)=false:=by
   rw[List.any_eq_false]
   intro y hy
   obtain⟨z,t,Aa⟩:=hk y (Array.mem_toList_iff.mp hy)
   simp[DictEntry.refKey,Aa]
  have a':¬es.toList.any (·.refKey)=true:=by rw[a];exact Bool.false_ne_true
  rw[if_neg a']
  exact congrArg some e
theorem qH.look {h:Heap}{x dx C:Addr}{mA:Str→Option Value}(I:qH h x dx C mA):∃od,PySem.W.InstAt h x (PySem.W.instObj C dx) C (some od)∧∀name,PySem.W.lookIn name od=some (mA name):=
 let ⟨od,ho,hl⟩:=Ej I.ns
 ⟨od,⟨I.obj,rfl,rfl,ho⟩,hl⟩
section
variable {P:Program}{w:World}{H H':Hp}{h h':Heap}{a C dx:Addr}{fs A1:List (Str×V)}
theorem BO (af:bh P w H h) (e:H a=some (.ins C dx fs)):∃mA,qH h a dx C mA∧(∀f,g8 (fs.lookup f) (mA f))∧PySem.Within mA (fs.map (·.1))∧fs.length≤1000∧H dx=some (.own a):=by
 obtain⟨d,z,ne,ob,mA,n,r,q⟩:=(show aI P w H h a (.ins C dx fs) from af a _ e)
 exact⟨mA,⟨ob,n,ne⟩,r,q,z,d⟩
end
structure qU (K:PySem.W.Frag) (C:Addr):Prop where
 pg:PySem.W.plainGet K C Str.empty=true
 hd:PySem.W.hasDictIn K C=true
 po:PySem.W.plainOver K C=true
 sa:PySem.W.findIn K (.ref C) "__setattr__" =some (some (.builtin "object.__setattr__"))
theorem qU.get {K:PySem.W.Frag}{C:Addr}(c:qU K C) (f:Str):PySem.W.plainGet K C f=true:=c.pg
structure Gg (K:PySem.W.Frag) (C:Addr) (f:Str) (v:V) (u:Value):Prop where
 at_:PySem.W.findIn K (.ref C) f=some (some u)
 rel:RelV v u
 get:PySem.W.specialIn K u "__get__" =some none
 cp:PySem.W.copiedNames.contains f=false
structure Meth (K:PySem.W.Frag) (C:Addr) (m:Str) (f:Addr):Prop where
 at_:PySem.W.findIn K (.ref C) m=some (some (.ref f))
 fn:PySem.W.isFn K (.ref f)=true
 kp:PySem.W.keepIn K (.ref f)=true
section
variable {X:Cx}{pins:List (Addr×Obj)}{σ:St}{H:Hp}{s:Shared}{A:Around}{E:Value→Shared→Prop}{Q:Value→Shared→Prop}{c:Value}{b:Bool}
inductive da (K:PySem.W.Frag) (H:Hp):V→Value→Prop where
 |ai:da K H .ai (.type "NoneType")
 |bl (x:Bool):da K H (.bl x) (.type "bool")
 |int (i:Int):da K H (.int i) (.type "int")
 |str (x:Str):da K H (.str x) (.type "str")
 |gR (x:UInt64):da K H (.gR x) (.type "float")
 |lst {a:Addr}{xs:List V} (e:H a=some (.lst xs)):da K H (.ref a) (.type "list")
 |aZ {a:Addr}{o:Obj}{xs:List V} (e:H a=some (.aZ o (.lst xs))):da K H (.ref a) (.type "list")
 |tup {a:Addr}{xs:List V} (e:H a=some (.tup xs)):da K H (.ref a) (.type "tuple")
 |dK {a:Addr}{kvs:List (Key×V)} (e:H a=some (.dK kvs)):da K H (.ref a) (.type "dict")
 |dT {a:Addr}{kvs:List (List Key×V)} (e:H a=some (.dT kvs)):da K H (.ref a) (.type "dict")
 |ins {a C dx:Addr}{fs:List (Str×V)} (e:H a=some (.ins C dx fs)) (cl:qU K C) (ha:PySem.W.findIn K (.ref C) "__class__" =some (some (.builtin "object.__class__")))
  (hn:PySem.W.specialIn K (.builtin "object.__class__") "__get__" =some (some (.builtin "getset_descriptor.__get__"))) (tL:PySem.W.takesIn K (.builtin "object.__class__")=some true)
  (hm:PySem.W.mroIn K C (.type "object")=some true):da K H (.ref a) (.ref C)
theorem Ee {x:V}{u t:Value}(I:Inv X pins σ H s) (rx:RelV x u) (ty:da X.K H x t) (e:PySem.W.kitOne X.K t c=some b) (h:∀tk,Q (.bool b) {s with toks:=tk}):
  wpAny (model X.prog X.w) A (call (.builtin "isinstance") [u,c]) Q E s:=by
 cases ty with
 |ai=>cases (show u=Value.none from rx);exact PySem.W.kia_one PySem.W.kitx_none I.cV True.intro e (fun z=>nomatch z) h
 |bl y=>cases (show u=Value.bool y from rx);exact PySem.W.kia_one PySem.W.kitx_bool I.cV True.intro e (fun z=>nomatch z) h
 |int i=>obtain⟨t,q⟩:=(show ∃t,u=Value.int i t from rx);cases q;exact PySem.W.kia_one PySem.W.kitx_int I.cV True.intro e (fun z=>nomatch z) h
 |str y=>obtain⟨t,q⟩:=(show ∃t,u=Value.str y t from rx);cases q;exact PySem.W.kia_one PySem.W.kitx_str I.cV True.intro e (fun z=>nomatch z) h
 |gR y=>obtain⟨t,q⟩:=(show ∃t,u=Value.float y t from rx);cases q;exact PySem.W.kia_one PySem.W.kitx_float I.cV True.intro e (fun z=>nomatch z) h
 | @lst a xs ea=>
  cases (show u=Value.ref a from rx)
  obtain⟨_,_,n,_,h1⟩:=(show aI X.prog X.w H s.heap a (.lst xs) from I.af a _ ea)
  exact PySem.W.kia_one PySem.W.kitx_list I.cV ⟨_,h1,rfl⟩ e (fun z=>nomatch z) h
 | @aZ a ob xs ea=>
  cases (show u=Value.ref a from rx)
  obtain⟨_,_,_,n,_,h1⟩:=(show aI X.prog X.w H s.heap a (.aZ ob (.lst xs)) from I.af a _ ea)
  exact PySem.W.kia_one PySem.W.kitx_list I.cV ⟨_,h1,rfl⟩ e (fun z=>nomatch z) h
 | @tup a xs ea=>
  cases (show u=Value.ref a from rx)
  obtain⟨_,_,_,p,_⟩:=(show aI X.prog X.w H s.heap a (.tup xs) from I.af a _ ea)
  obtain⟨o,h1,h2,_⟩:=p
  exact PySem.W.kia_one PySem.W.kitx_tuple I.cV ⟨o,h1,h2⟩ e (fun z=>nomatch z) h
 | @dK a kvs ea=>
  cases (show u=Value.ref a from rx)
  obtain⟨_,_,vs,_,p⟩:=(show aI X.prog X.w H s.heap a (.dK kvs) from I.af a _ ea)
  obtain⟨o,es,ep,h1,h2,_⟩:=p
  exact PySem.W.kia_one PySem.W.kitx_dict I.cV ⟨o,h1,h2.1⟩ e (fun z=>nomatch z) h
 | @dT a kvs ea=>
  cases (show u=Value.ref a from rx)
  obtain⟨_,_,xs,_,o,es,ep,h1,h2,_⟩:=(show aI X.prog X.w H s.heap a (.dT kvs) from I.af a _ ea)
  exact PySem.W.kia_one PySem.W.kitx_dict I.cV ⟨o,h1,h2.1⟩ e (fun z=>nomatch z) h
 | @ins a C dx fs ea cl ha hn tL hm=>
  cases (show u=Value.ref a from rx)
  obtain⟨mA,O,_⟩:=BO I.af ea
  obtain⟨od,J,_⟩:=O.look
  exact PySem.W.kia_one (PySem.W.kitx_own (cl.get _) cl.hd ha hn tL hm) I.cV J e (fun z=>nomatch z) h
end
structure cg (k:Nat) (A:Around):Prop where
 hd:A.handled=none
 dp:A.depth+3*k+5<recursionLimit
 un:A.units+16*k+200<cLine
 gd:A.guards=some []
theorem cg.mono {j k:Nat}{A:Around}(r:cg k A) (h:j≤k):cg j A:=⟨r.hd,by have:=r.dp;omega,by have:=r.un;omega,r.gd⟩
theorem cg.deeper {k:Nat}{A:Around}(r:cg (k+1) A) (env:Env):cg k (A.deeper env):=
 ⟨r.hd,by have:=r.dp;show A.depth+1+3*k+5<_;omega,by have:=r.un;show A.units+3+16*k+200<_;omega,r.gd⟩
theorem cg.depth {k:Nat}{A:Around}(r:cg k A):A.depth<recursionLimit:=by have:=r.dp;omega
theorem cg.units {k:Nat}{A:Around}(r:cg k A):A.units+64<cLine:=by have:=r.un;omega
theorem cg.nh {k:Nat}{A:Around}(r:cg k A):A.units<cLine:=by have:=r.un;omega
def gw:TA:=fun _ H Q=>Q [] H
def gz (ta:TE) (tr:TA):TA:=fun σ H Q=>ta σ H fun x H1=>tr σ H1 fun xs H2=>Q (x::xs) H2
section
variable {X:Cx}{e:Expr}{es:List Expr}{te:TE}{t:TA}{pos:Pos}
theorem Zd:PA X [] gw:=fun _ _ _ _ H Q I h=>Calls.spliced_nil ⟨[],H,I,.nil,h⟩
theorem Za (ha:PE X e te) (hr:PA X es t) (hs:starEach (e::es) X.env=(false,eval e X.env)::starEach es X.env:=by rfl):PA X (e::es) (gz te t):=by
 intro pos pins s σ H Q I h
 rw[hs]
 show wpAny _ _ (spliced ((false,eval e X.env)::backTo pos (starEach es X.env))) _ _ s
 refine Calls.spliced_cons (ao (ha pins s σ H _ I h) fun u s1 ⟨x,H1,I1,r1,q1⟩=> ?_)
 exact ao (hr pos pins s1 σ H1 _ I1 q1) fun us s2 ⟨xs,H2,I2,r2,q2⟩=> ⟨x::xs,H2,I2,.cons r1 r2,q2⟩
def nA (t:TA):TE:=fun σ H Q=>t σ H fun xs H1=>xs.length≤sizeLine∧∀p,H1 p=none→Q (.ref p) (upd H1 p (.tup xs))
def w4 (t:TA):TE:=fun σ H Q=>t σ H fun xs H1=>xs.length≤sizeLine∧∀p,H1 p=none→Q (.ref p) (upd H1 p (.lst xs))
theorem ZG {x1} (h:PA X es t):PE X (.Tuple es x1 pos) (nA t):=by
 intro pins s σ H Q I hq
 refine wpAny_Tuple_spliced (ao (h pos pins s σ H _ I hq) fun us s1 ⟨xs,H1,I1,r,z,q⟩=> ⟨by rw[←r.length];exact z,?_⟩)
 have hf:H1 s1.heap.objs.size=none:=I1.af.fresh (Nat.le_refl _)
 refine⟨.ref s1.heap.objs.size,upd H1 s1.heap.objs.size (.tup xs),I1.laid (t':=s1.toks) (fun b u e=>Heap.get?_push_of_some _ e) (Nat.le_refl _) ?_,rfl,q _ hf⟩
 exact⟨z,us,r,⟨_,Heap.get?_push_size _ rfl,rfl,_,rfl⟩,_,Heap.get?_push_size _ rfl,rfl⟩
theorem Yn (h:PA X es t):PE X (.List es pos) (w4 t):=by
 intro pins s σ H Q I hq
 refine wpAny_List_spliced (ao (h pos pins s σ H _ I hq) fun us s1 ⟨xs,H1,I1,r,z,q⟩=> ⟨by rw[←r.length];exact z,?_⟩)
 have hf:H1 s1.heap.objs.size=none:=I1.af.fresh (Nat.le_refl _)
 refine⟨.ref s1.heap.objs.size,upd H1 s1.heap.objs.size (.lst xs),I1.laid (t':=s1.toks) (fun b u e=>Heap.get?_push_of_some _ e) (Nat.le_refl _) ?_,rfl,q _ hf⟩
 exact⟨z,us,0,r,Heap.get?_push_size _ rfl⟩
end
abbrev Sp:=List V→Hp→VK→XK→Prop
abbrev hJ:=List Env→Hp→Shared→XK→Value→Shared→Prop
structure m8 (P:Program) (w:World) (K:PySem.W.Frag) (mg:Str→Option Value) (base:Heap) (A:Around) (outer:List Env) (s:Shared) (H:Hp):Prop where
 frames:A.frames=some outer
 mod:Mod K mg base
 bs:∀b o,base.get? b=some o→s.heap.get? b=some o∧H b=none
 je:base.objs.size≤s.heap.objs.size
 fJ:s.heap.FunFrames base outer
 jS:∀b∈dJ outer,H b=none
 af:bh P w H s.heap
 bare:AllBare s.gens
def CE (outer:List Env) (P:Program) (w:World) (H:Hp) (s:Shared) (Q:VK) (u:Value) (s':Shared):Prop:=
 ∃v H',s'.os=s.os∧AllBare s'.gens∧Un (dJ outer) [] H H' s.heap s'.heap∧bh P w H' s'.heap∧RelV v u∧Q v H'
def CR (CX:hJ) (outer:List Env) (P:Program) (w:World) (H:Hp) (s:Shared) (Q:VK) (E:XK) (r:Result) (s':Shared):Prop:=
 match r with
 | .ok (.ret u)=>CE outer P w H s Q u s'
 | .ok _=>False
 | .error e=>CX outer H s E e s'
structure aL (P:Program) (w:World) (K:PySem.W.Frag) (mg:Str→Option Value) (base:Heap) (CX:hJ) (k:Nat) (f:Addr) (fd:FuncData) (ps:List Str) (sp:Sp):Prop where
 len:∀vs H Q E,sp vs H Q E→vs.length=ps.length
 run:∀(A:Around) (outer:List Env) (s:Shared) (H:Hp) (args:Args) (us:List Value) (vs:List V) (Q:VK) (E:XK),cg k A→m8 P w K mg base A outer s H→BindsTo s fd args (ps.zip us)→Vals vs us→sp vs H Q E→
  codeAny (model P w) A (.call (.ref f) args) (CR CX outer P w H s Q E) s
section
variable {X:Cx}{pins:List (Addr×Obj)}{σ:St}{H:Hp}{s s':Shared}
theorem Inv.A6 (I:Inv X pins σ H s):m8 X.prog X.w X.K X.mg X.base X.A X.stack s H:=
 ⟨I.ok.frames,I.ok.mod,I.bs,Nat.le_trans I.ok.je I.sz,I.stack,I.rp,I.af,I.bare⟩
theorem Inv.after {Q:VK}{u:Value}(I:Inv X pins σ H s) (h:CE X.stack X.prog X.w H s Q u s'):EP X pins σ Q u s':=by
 obtain⟨v,H',os,bare,un,af,r,q⟩:=h
 obtain⟨hh,g,d,t,yD⟩:=s'
 obtain rfl:yD=s.os:=os
 exact⟨v,H',I.call (h':=hh) (g':=g) (d':=d) (t':=t) (ch:=[]) un af bare (fun b z=>absurd z (by simp)),r,q⟩
end
def rk (sp:Sp) (iA:List V) (E:XK) (t:TA):TE:=fun σ H Q=>t σ H fun vs H1=>sp (vs++iA) H1 Q E
def Binds (K:PySem.W.Frag) (fd:FuncData) (ps:List Str) (ds:List Value):Prop:=
 ∀(s:Shared) (us:List Value),K.In s.heap→(us++ds).length=ps.length→BindsTo s fd ⟨us,[]⟩ (ps.zip (us++ds))
theorem Binds.all {K:PySem.W.Frag}{fd:FuncData}{ps:List Str}(h:∀us:List Value,us.length=ps.length→bindArgs fd ⟨us,[]⟩=pure (ps.zip us)):Binds K fd ps []:=fun s us _ hl=>by
 rw[List.append_nil]at hl ⊢
 exact .of_eq (h us hl)
def Passes (CX:hJ) (X:Cx) (E:XK):Prop:=∀(pins:List (Addr×Obj)) (σ:St) (H:Hp) (s:Shared) (e:Value) (s':Shared),Inv X pins σ H s→CX X.stack H s E e s'→X.xe e s'
section
variable {X:Cx}{CX:hJ}{k:Nat}{f C:Addr}{fd:FuncData}{ps:List Str}{sp:Sp}{iA:List V}{ds:List Value}{E:XK}{x m:Str}{p pos apos:Pos}{e o:Expr}{es:List Expr}{ta:TE}{t:TA}
theorem BI {pins:List (Addr×Obj)}{σ:St}{H:Hp}{s:Shared}{Q:VK}{us:List Value}{vs:List V}(F:aL X.prog X.w X.K X.mg X.base CX k f fd ps sp) (hr:cg k X.A) (hb:Binds X.K fd ps ds) (hd:Vals iA ds) (hx:Passes CX X E)
  (I:Inv X pins σ H s) (r:Vals vs us) (h:sp (vs++iA) H Q E):wpAny (model X.prog X.w) X.A (call (.ref f) us) (EP X pins σ Q) X.xe s:=by
 have r2:Vals (vs++iA) (us++ds):=r.append hd
 have hl:(us++ds).length=ps.length:=by rw[←r2.length];exact F.len _ _ _ _ h
 refine wpAny_call (codeAny_mono (F.run X.A X.stack s H ⟨us,[]⟩ (us++ds) (vs++iA) Q E hr I.A6 (hb s us I.cV hl) r2 h) fun r s' hq=> ?_)
 cases r with
 |error e=>exact hx pins σ H s e s' I hq
 |ok fl=>
  cases fl with
  |ret u=>exact I.after hq
  |next=>exact False.elim hq
  |brk=>exact False.elim hq
  |cont=>exact False.elim hq
theorem Dv (F:aL X.prog X.w X.K X.mg X.base CX k f fd ps sp) (hr:cg k X.A) (hg:Gl X x) (hm:X.mg x=some (.ref f)) (hk:PySem.W.keepIn X.K (.ref f)=true) (hb:Binds X.K fd ps ds) (hd:Vals iA ds) (hx:Passes CX X E)
  (ha:PA X (e::es) t) (gM:(x==("__debug__" :Str))=false:=by decide) (he:starEach (e::es) X.env=(false,eval e X.env)::starEach es X.env:=by rfl) (dk:(backTo pos (starEach es X.env)).any (·.1)=false:=by rfl):
  PE X (.Call (.Name x p) (e::es) [] pos) (rk sp iA E t):=by
 intro pins s σ H Q I h
 refine wpAny_Call_Name_kw (U3 I hg hm ?_ gM)
 refine PySem.W.callWith_K (h₀:=X.base) I.ok.mod.pC hk (ao (ha pos pins s σ H _ I h) fun us s1 ⟨vs,H1,I1,r,q⟩=> ⟨I1.cV,?_⟩) he dk
 exact BI F hr hb hd hx I1 r q
structure Mk (K:PySem.W.Frag) (C f:Addr):Prop where
 makes:PySem.W.makesIn K C=true
 init:PySem.W.findIn K (.ref C) "__init__" =some (some (.ref f))
 fn:PySem.W.isFn K (.ref f)=true
 kp:PySem.W.keepIn K (.ref C)=true
end
def PK (X:Cx) (kz:List Keyword) (t:TA):Prop:=
 ∀(pos:Pos) (pins:List (Addr×Obj)) (s:Shared) (σ:St) (H:Hp) (Q:List V→Hp→Prop),Inv X pins σ H s→t σ H Q→wpAny (model X.prog X.w) X.A (evalAll ((backToKw pos (keywordEach kz X.env)).map (·.2))) (AP X pins σ Q) X.xe s
section
variable {X:Cx}{CX:hJ}{k:Nat}{f C:Addr}{fd:FuncData}{ps ks:List Str}{sp:Sp}{E:XK}{x m:Str}{p pos apos gG:Pos}{e o:Expr}{es:List Expr}{kz:List Keyword}{te ta:TE}{t tk:TA}{nm:Option Str}
theorem vF:PK X [] gw:=fun _ _ _ _ H Q I h=>wpAny_evalAll_nil ⟨[],H,I,.nil,h⟩
theorem UY (ha:PE X e te) (hr:PK X kz t):PK X (⟨nm,e,gG⟩::kz) (gz te t):=by
 intro pos pins s σ H Q I h
 show wpAny _ _ (evalAll ((do let v ←eval e X.env;standAt pos;pure v)::(backToKw pos (keywordEach kz X.env)).map (·.2))) _ _ s
 refine wpAny_evalAll_cons (wpAny_bind (ao (ha pins s σ H _ I h) fun u s1 ⟨x,H1,I1,r1,q1⟩=>wpAny_bind (wpAny_standAt (wpAny_pure ?_))))
 exact ao (hr pos pins s1 σ H1 _ I1 q1) fun us s2 ⟨xs,H2,I2,r2,q2⟩=> ⟨x::xs,H2,I2,.cons r1 r2,q2⟩
structure F6 (K:PySem.W.Frag) (fd:FuncData) (ps ks:List Str) (g:List Value→List Value→List Value) (gV:List V→List V→List V):Prop where
 to:∀(s:Shared) (us ws:List Value),K.In s.heap→(g us ws).length=ps.length→BindsTo s fd ⟨us,ks.zip ws⟩ (ps.zip (g us ws))
 rel:∀{vs:List V}{us:List Value}{zs:List V}{ws:List Value},Vals vs us→Vals zs ws→Vals (gV vs zs) (g us ws)
variable {g:List Value→List Value→List Value}{gV:List V→List V→List V}
end
structure bf (N P:List Str) (sc:Scope):Prop where
 kind:sc.kind=.function
 co:sc.isCoroutine=false
 gen:sc.isGenerator=false
 nd:N.Nodup
 pre:N.take P.length=P
 par:∀x∈P,sc.names.lookup x=some .local∨sc.names.lookup x=some .cell
 yK:∀y∈sc.names,y.2≠.free
theorem Wk {kindOf:Str→Option NameKind}{x:Str} :∀{binds:List (Str×Value)}{m:Str→Option Value},(∀v,(x,v)∉binds)→bindL kindOf binds m x=m x
 | [],_,_=>rfl
 |(n,v)::r,m,h=>by
  unfold bindL
  rw[Wk fun w hw=>h w (List.mem_cons_of_mem _ hw)]
  split
  ·have:x≠n:=by rintro rfl;exact h v List.mem_cons_self
   simp[this]
  ·rfl
theorem Wm {kindOf:Str→Option NameKind}{x:Str} :∀{binds:List (Str×Value)}{m:Str→Option Value},(∀v,(x,v)∉binds)→bindC kindOf binds m x=m x
 | [],_,_=>rfl
 |(n,v)::r,m,h=>by
  unfold bindC
  rw[Wm fun w hw=>h w (List.mem_cons_of_mem _ hw)]
  split
  ·rfl
  ·have:x≠n:=by rintro rfl;exact h v List.mem_cons_self
   simp[this]
theorem Wl {kindOf:Str→Option NameKind}{x:Str}{v:Value} :∀{P:List Str}{vs:List Value}{i:Nat}{m:Str→Option Value},P.Nodup→P[i]? =some x→vs[i]? =some v→kindOf x=some .local→
  bindL kindOf (P.zip vs) m x=some v
 | [],_,_,_,_,h,_,_=>by simp at h
 |_::_,[],_,_,_,_,h,_=>by simp at h
 |p::P,w::vs,0,m,nd,h1,h2,hk=>by
  simp at h1 h2;subst h1;subst h2
  show bindL kindOf ((p,w)::P.zip vs) m p=_
  unfold bindL
  rw[Wk fun v hv=> (List.nodup_cons.mp nd).1 (List.of_mem_zip hv).1,if_pos hk]
  simp
 |p::P,w::vs,i+1,m,nd,h1,h2,hk=>by
  show bindL kindOf ((p,w)::P.zip vs) m x=_
  unfold bindL
  exact Wl (i:=i) (List.nodup_cons.mp nd).2 (by simpa using h1) (by simpa using h2) hk
theorem Wn {kindOf:Str→Option NameKind}{x:Str}{v:Value} :∀{P:List Str}{vs:List Value}{i:Nat}{m:Str→Option Value},P.Nodup→P[i]? =some x→vs[i]? =some v→kindOf x≠some .local→
  bindC kindOf (P.zip vs) m x=some v
 | [],_,_,_,_,h,_,_=>by simp at h
 |_::_,[],_,_,_,_,h,_=>by simp at h
 |p::P,w::vs,0,m,nd,h1,h2,hk=>by
  simp at h1 h2;subst h1;subst h2
  show bindC kindOf ((p,w)::P.zip vs) m p=_
  unfold bindC
  rw[Wm fun v hv=> (List.nodup_cons.mp nd).1 (List.of_mem_zip hv).1,if_neg hk]
  simp
 |p::P,w::vs,i+1,m,nd,h1,h2,hk=>by
  show bindC kindOf ((p,w)::P.zip vs) m x=_
  unfold bindC
  exact Wn (i:=i) (List.nodup_cons.mp nd).2 (by simpa using h1) (by simpa using h2) hk
def start (N:List Str) (vs:List V):St:=vs.map some++List.replicate (N.length - vs.length) none
def jV (CX:hJ) (P:Program) (w:World) (K:PySem.W.Frag) (mg:Str→Option Value) (base:Heap) (N:List Str) (qual:Str) (scope:Scope) (f:Addr) (cd:Value) (A:Around) (outer:List Env) (s:Shared) (H:Hp) (E:XK):Cx where
 prog:=P
 w:=w
 K:=K
 mg:=mg
 base:=base
 A:=A.deeper (envOfC qual scope s.heap.objs.size f cd)
 N:=N
 bR:=s
 ll:=H
 env:=envOfC qual scope s.heap.objs.size f cd
 outer:=outer
 stack:=envOfC qual scope s.heap.objs.size f cd::outer
 ex:=[]
 calm:=true
 fn:=fun _=>true
 pn:=[]
 xe:=fun e s'=>wpAny (model P w) (A.deeper (envOfC qual scope s.heap.objs.size f cd)) (leaving (envOfC qual scope s.heap.objs.size f cd) e) (fun _ iI=>CX outer H s E e iI) (fun e' iI=>CX outer H s E e' iI) s'
theorem Uj {sc:Scope}{n:Nat}{x:Str}(h:sc.names.lookup x=some .cell):∃c,(cellsFrom n sc.names []).lookup x=some c:=by
 have q:=PySem.W.cellsFrom_some sc.names n [] (.inl h)
 exact Option.isSome_iff_exists.mp q
theorem Ed {CX:hJ}{P:Program}{w:World}{K:PySem.W.Frag}{mg:Str→Option Value}{base:Heap}{N ps:List Str}{qual:Str}{scope:Scope}{f:Addr}{cd:Value}{A:Around}{outer:List Env}{s s1:Shared}{H:Hp}{E:XK}{us:List Value}{vs:List V}
  (S:bf N ps scope) (hd:A.handled=none) (e0:m8 P w K mg base A outer s H) (hl:vs.length=ps.length) (r:Vals vs us)
  (x:InCallC s s.heap.objs.size (bindL (envOfC qual scope s.heap.objs.size f cd).kindOf (ps.zip us) fun _=>none) (cellsFrom (s.heap.objs.size+1) scope.names []) (bindC (envOfC qual scope s.heap.objs.size f cd).kindOf (ps.zip us) fun _=>none) s1):
  Inv (jV CX P w K mg base N qual scope f cd A outer s H E) [] (start N vs) H s1:=by
 have dk:ps.length≤N.length:=by have:=congrArg List.length S.pre;rw[List.length_take]at this;omega
 obtain⟨h1,tk,rfl,hk⟩:=x.done
 have jC:∀b:Addr,b∉(jV CX P w K mg base N qual scope f cd A outer s H E).ex:=fun b z=>absurd (show b∈([]:List Addr) from z) (by simp)
 refine⟨⟨e0.mod,S.kind,rfl,rfl,Nat.le_refl _,fun y z c h1 h2=> ?_,fun y hy=> ?_,fun y c _ h=> ?_,fun _=>hd,Around.frames_deeper e0.frames,.inr ⟨rfl,rfl⟩,fun b z=>absurd z (jC b),e0.bs,e0.je,fun b _ _=>jC b,fun b z=>absurd z (jC b),e0.fJ,e0.jS⟩,
  rfl,e0.bare,Un.kept hk,⟨_,x.toInCall.ns,fun i y v h1 h2 h3=> ?_⟩,fun y c h=> ⟨_,x.cell y c h⟩,e0.af.fresh (Nat.le_refl _),fun y c h=> ?_,fun p hp=>absurd (show p∈([]:List (Addr×Obj)) from hp) (by simp),e0.af.kept hk,?_⟩
 ·exact name_of_addr x.apart (PySem.mem_of_lookup h1) (PySem.mem_of_lookup h2)
 ·have hy:scope.names.lookup y=some .cell∨scope.names.lookup y=some .free:=hy
  rcases hy with hy |hy
  ·exact Uj hy
  ·exact absurd rfl (S.yK _ (PySem.mem_of_lookup hy))
 ·exact Nat.le_of_lt (x.above y c (PySem.mem_of_lookup h))
 ·have hi:i<vs.length:=by
   unfold start at h2
   by_cases hi:i<vs.length
   ·exact hi
   ·rw[List.getElem?_append_right (by simpa using hi)]at h2
    rw[List.getElem?_replicate]at h2
    split at h2<;>cases h2
  have ha:vs[i]? =some v:=by
   unfold start at h2
   rw[List.getElem?_append_left (by simpa using hi),List.getElem?_map]at h2
   cases e:vs[i]? with
   |none=>rw[e]at h2;cases h2
   |some a=>rw[e]at h2;cases h2;rfl
  obtain⟨u,hu,rv⟩:=r.get ha
  have hp:ps[i]? =some y:=by
   rw[←S.pre,List.getElem?_take_of_lt (by omega)];exact h1
  have sO:ps.Nodup:=by rw[←S.pre];exact S.nd.sublist (List.take_sublist _ _)
  refine⟨u,rv,?_⟩
  rcases S.par y (List.mem_of_getElem? hp) with k |k
  ·exact .inl ⟨k,Wl sO hp hu k⟩
  ·obtain⟨c,e⟩:=Uj (n:=s.heap.objs.size+1) k
   refine .inr ⟨.inl k,c,e,?_⟩
   have q:=x.cell y c e
   rw[Wn sO hp hu (by show scope.names.lookup y≠_;rw[k];decide)]at q
   exact q
 ·exact e0.af.fresh (Nat.le_of_lt (x.above y c (PySem.mem_of_lookup h)))
 ·unfold start
  show _=N.length
  rw[List.length_append,List.length_map,List.length_replicate]
  omega
theorem CF {CX:hJ}{P:Program}{w:World}{K:PySem.W.Frag}{mg:Str→Option Value}{base:Heap}{k:Nat}{f:Addr}{name qual:Str}{params:Arguments}{body:List Stmt}{scope:Scope}{dV kV doc pm au ct oc:Value}{an od:Option Addr}
    {fb:Array (Option Value)}{N ps:List Str}{sp:Sp} (lk:K.lookup f=some ⟨oc,od,.func (PySem.W.fnOf name qual params body scope dV kV doc pm an au ct),fb⟩) (eK:PySem.W.codeIn K au qual=true) (S:bf N ps scope)
    (len:∀vs H Q E,sp vs H Q E→vs.length=ps.length)
    (qe:∀(A:Around) (outer:List Env) (s:Shared) (H:Hp) (vs:List V) (Q:VK) (E:XK),cg k (A.deeper (envOfC qual scope s.heap.objs.size f au))→sp vs H Q E→
      ∃t,dY (jV CX P w K mg base N qual scope f au A outer s H E) body t∧t {nx:=fun _ H'=>Q .ai H',rt:=Q} (start N vs) H):
    aL P w K mg base CX (k+1) f (PySem.W.fnOf name qual params body scope dV kV doc pm an au ct) ps sp:=by
  refine⟨len,fun A outer s H args us vs Q E hr e0 hb r il=> ?_⟩
  have hl:=len _ _ _ _ il
  have KX:K.In s.heap:=e0.mod.pC.keeps fun b o e=> (e0.bs b o e).1
  have lim:s.heap.NoLimit:=e0.mod.nolimit.keeps fun b o e=> (e0.bs b o e).1
  have z8:∀y∈ps.zip us,scope.names.lookup y.1=some .local∨(scope.names.lookup y.1=some .cell∧((cellsFrom (s.heap.objs.size+1) scope.names []).lookup y.1).isSome=true):=fun⟨n,v⟩ hy=>by
    rcases S.par n (List.of_mem_zip hy).1 with q |q
    · exact .inl q
    · exact .inr ⟨q,PySem.W.cellsFrom_some _ _ _ (.inl q)⟩
  refine codeAny_call_function hr.depth (KX _ _ lk) rfl S.co S.gen rfl (PySem.W.codeRec_of KX eK) (hb _ _ _ _ ?_)
  refine wpAny_newFunctionEnv_cells S.kind z8 fun env he s1 x=> ?_
  subst he
  refine⟨lim.keeps x.toInCall.keep,codeAny_func ?_⟩
  obtain⟨t,ht,hq⟩:=qe A outer s H vs Q E (hr.deeper _) il
  have I:Inv (jV CX P w K mg base N qual scope f au A outer s H E) [] (start N vs) H s1:=Ed S hr.hd e0 hl r x
  refine wpAny_mono (ht [] s1 (start N vs) H _ I hq) (fun fl s' hs=> ?_) fun e s' hs=>hs
  have fin:∀{ah:St}{H':Hp}{v:V}{u:Value},Inv (jV CX P w K mg base N qual scope f au A outer s H E) [] ah H' s'→RelV v u→Q v H'→CE outer P w H s Q u s':=
    fun {ah H' v u} J rv q=> ⟨v,H',J.os,J.bare,J.base,J.af,rv,q⟩
  cases fl with
  |ret u=>
   obtain⟨v,ah,H',J,rv,q⟩:=hs
   exact fin J rv q
  |next=>
   obtain⟨ah,H',J,q⟩:=hs
   exact fin (v:=V.ai) (u:=Value.none) J rfl q
  |brk=>
   obtain⟨_,_,_,q⟩:=hs
   exact False.elim q
  |cont=>
   obtain⟨_,_,_,q⟩:=hs
   exact False.elim q
section
variable {X:Cx}{x:Str}{p pos:Pos}{e:Expr}{es:List Expr}{t:TA}{id T:String}{r:List V→Hp→VK→Prop}
def rm (r:List V→Hp→VK→Prop) (t:TA):TE:=fun σ H Q=>t σ H fun vs H1=>r vs H1 Q
theorem Zp (hc:di X (.builtin id) r) (hg:Gl X x) (hm:X.mg x=none) (hv:bootBuiltins x=some (.builtin id)) (ha:PA X (e::es) t) (hn:x≠ "__name__" :=by decide) (gM:(x==("__debug__" :Str))=false:=by decide)
  (he:starEach (e::es) X.env=(false,eval e X.env)::starEach es X.env:=by rfl) (dk:(backTo pos (starEach es X.env)).any (·.1)=false:=by rfl):PE X (.Call (.Name x p) (e::es) [] pos) (rm r t):=by
 intro pins s σ H Q I h
 refine wpAny_Call_Name_kw (Yu I hg hm hv ?_ hn gM)
 exact PyProof.Rows.callWith_builtin1 (ao (ha pos pins s σ H _ I h) fun us s1 ⟨vs,H1,I1,r1,q1⟩=>hc pins s1 σ H1 vs us Q I1 r1 q1) he dk
theorem Yi (hc:di X (.type T) r) (hg:Gl X x) (hm:X.mg x=none) (hv:bootBuiltins x=some (.type T)) (ha:PA X (e::es) t) (hn:x≠ "__name__" :=by decide) (gM:(x==("__debug__" :Str))=false:=by decide)
  (he:starEach (e::es) X.env=(false,eval e X.env)::starEach es X.env:=by rfl) (dk:(backTo pos (starEach es X.env)).any (·.1)=false:=by rfl):PE X (.Call (.Name x p) (e::es) [] pos) (rm r t):=by
 intro pins s σ H Q I h
 refine wpAny_Call_Name_kw (Yu I hg hm hv ?_ hn gM)
 exact PyProof.Rows.callWith_type1 (ao (ha pos pins s σ H _ I h) fun us s1 ⟨vs,H1,I1,r1,q1⟩=>hc pins s1 σ H1 vs us Q I1 r1 q1) he dk
end
end L2
namespace HT
open PySem PyProof.Rows
def lexLt:List Int→List Int→Bool
 | [],[]=>false
 | [],_::_=>true
 |_::_,[]=>false
 |x::xs,y::ys=>if x=y then lexLt xs ys else decide (x<y)
theorem tf (x y:Int) (xs ys:List Int):lexLt (x::xs) (y::ys)=if x=y then lexLt xs ys else decide (x<y):=rfl
theorem JT:lexLt [] []=false:=rfl
theorem Jz (y:Int) (ys:List Int):lexLt [] (y::ys)=true:=rfl
theorem JB (x:Int) (xs:List Int):lexLt (x::xs) []=false:=rfl
theorem Dm (A:Around) (s:Shared) (a:Int) (t:Tok) (c:Int) (u:Tok):∃e,SeqAt.EqAt A s (.int a t) (.int c u) e∧(e=true↔a=c):=
 ⟨(a==c),SeqAt.EqAt.int_int a t c u,by simp⟩
theorem Et (A:Around) (s:Shared) (a:Int) (t:Tok) (c:Int) (u:Tok) (prog:Program) (w:World) (E:Value→Shared→Prop) (Q:Value→Shared→Prop) (h:Q (.bool (decide (a<c))) s):
  wpAny (model prog w) A (richCompare .Lt (.int a t) (.int c u)) Q E s:=
 (PyProof.Rows.lt_int h:wpAny (model prog w) A (compareOp .Lt (.int a t) (.int c u)) Q E s)
section
open PySem.SeqAt
open PySem.AutoSeq1 (wpAny_loadPart')
open PySem.MeetsSeq PySem.MeetsSeq2 PySem.MeetsSeq3
theorem JR (l b:Addr) (items items2:Array Value) (n n2:Nat) (dd iB:Option Addr) (sl hX:Array (Option Value)) (ns ms:List Int) (hi:IntsAre items.toList ns) (hj:IntsAre items2.toList ms):
  Meets (Builtin.«tuple.__lt__» ⟨[.ref l,.ref b],[]⟩)
   (fun _ R s=>s.heap.get? l=some {cls:=.type "tuple",dict:=dd,data:=.seq items n,slots:=sl}∧s.heap.get? b=some {cls:=.type "tuple",dict:=iB,data:=.seq items2 n2,slots:=hX}∧
    R (.ok (.ret (.bool (lexLt ns ms)))) s):=
 .of_wp fun prog w A R s h=>by
  obtain⟨hp,g,d,tk,os⟩:=s;obtain⟨hl,hb,h⟩:=h
  have f2:=AutoSeq1.sub_tuple_tuple
  have z1:items.size=ns.length:=by rw[←hi.length];simp
  have z2:items2.size=ms.length:=by rw[←hj.length];simp
  wp_walk using wpAny_loadPart' hl,wpAny_loadPart' hb,wpAny_forIn_list _ (fun rest b s'=>b.1=none∧s'=⟨hp,g,d,tk,os⟩∧∃(vs ws:List Value) (jB jE:List Int),rest=vs.zip ws∧
   IntsAre vs jB∧IntsAre ws jE∧jB.length+items2.size=jE.length+items.size∧R (.ok (.ret (.bool (lexLt jB jE)))) ⟨hp,g,d,tk,os⟩) _
  case turn=>
   rintro⟨y,x⟩ rest b s' ⟨cG,rfl,vs,ws,jB,jE,hz,pK,md,hlen,hR⟩
   cases pK with
   |nil=>rw[List.zip_nil_left]at hz;cases hz
   |cons a t zi=>
    cases md with
    |nil=>rw[List.zip_nil_right]at hz;cases hz
    |cons c u zh=>
     rw[List.zip_cons_cons]at hz
     injection hz with zg zE
     injection zg with hy hx
     subst hy hx
     rw[tf]at hR
     simp only[List.length_cons]at hlen
     obtain⟨e,he,uj⟩:=Dm A.in1 ⟨hp,g,d,tk,os⟩ a t c u
     refine wpAny_bind (he prog w _ _ ?_)
     cases e with
     |true=>
      rw[if_pos (uj.mp rfl)]at hR
      wp_walk
      exact⟨rfl,rfl,_,_,_,_,zE,zi,zh,by omega,hR⟩
     |false=>
      rw[if_neg (fun q=>absurd (uj.mpr q) Bool.false_ne_true)]at hR
      have zC:=Et A.in1 ⟨hp,g,d,tk,os⟩ a t c u prog w
      wp_walk using zC
      exact⟨_,rfl,by simpa using hR⟩
  case fin=>
   rintro⟨b1,b2⟩ s' ⟨cG,rfl,vs,ws,jB,jE,hz,pK,md,hlen,hR⟩
   simp only at cG
   subst cG
   have hv:lexLt jB jE=decide (items.size<items2.size):=by
    cases pK with
    |nil=>
     cases md with
     |nil=>
      simp only[List.length_nil]at hlen
      rw[JT]
      exact(decide_eq_false (by omega)).symm
     |cons c u hw=>
      simp only[List.length_nil,List.length_cons]at hlen
      rw[Jz]
      exact(decide_eq_true (by omega)).symm
    |cons a t hv=>
     cases md with
     |nil=>
      simp only[List.length_nil,List.length_cons]at hlen
      rw[JB]
      exact(decide_eq_false (by omega)).symm
     |cons c u hw=>
      rw[List.zip_cons_cons]at hz
      cases hz
   rw[hv]at hR
   wp_walk
   exact⟨_,rfl,by simpa[Builtin.Tuple.tupleCompareSizes] using hR⟩
  case h=>
   exact⟨rfl,rfl,items.toList,items2.toList,ns,ms,rfl,hi,hj,by omega,h⟩
end
section
variable {prog:Program}{w:World}{A:Around}{E:Value→Shared→Prop}{s:Shared}
theorem sW {l b:Addr}{items items2:Array Value}{ns ms:List Int}{Q:Value→Shared→Prop}(hl:IsTup s.heap l items) (hb:IsTup s.heap b items2) (hi:IntsAre items.toList ns) (hj:IntsAre items2.toList ms)
  (hu:A.units<cLine) (h:Q (.bool (lexLt ns ms)) s):wpAny (model prog w) A (compareOp .Lt (.ref l) (.ref b)) Q E s:=by
 obtain⟨⟨cls,dd,data,sl⟩,ho,hc,n,hd⟩:=id hl
 obtain⟨⟨uU,iB,data2,hX⟩,fX,fF,n2,hd2⟩:=id hb
 simp only at hc hd fF hd2
 subst hc hd fF hd2
 exact richCompare_meets_room (op:=.Lt) ⟨_,ho,rfl⟩ ⟨_,fX,rfl⟩ PySem.F.slot_tuple_lt PySem.F.entry_tuple_lt (PySem.F.args_tuple_lt_2 _ _) (JR l b items items2 n n2 dd iB sl hX ns ms hi hj)
  ⟨ho,fX,show Value.bool (lexLt ns ms)≠Value.notImplemented∧Q (.bool (lexLt ns ms)) s from ⟨(fun x=>nomatch x),h⟩⟩ hu
theorem Bw {t b:Addr}{vs ws:List Value}{Q:Value→Shared→Prop}(ht:IsTup s.heap t vs.toArray) (hb:IsTup s.heap b ws.toArray) (hv:vs≠[])
  (h1:ws=[]→Q (.ref t) s) (h2:ws≠[]→Q (.ref s.heap.objs.size) {s with heap:=s.heap.push {cls:=.type "tuple",data:=.seq (vs++ws).toArray} })
  (hsz:vs.length+ws.length≤sizeLine):wpAny (model prog w) A (binaryOp .Add (.ref t) (.ref b)) Q E s:=by
 obtain⟨⟨cls,dd,data,sl⟩,ho,hc,n,hd⟩:=id ht
 obtain⟨⟨uU,iB,data2,hX⟩,fX,fF,n2,hd2⟩:=id hb
 simp only at hc hd fF hd2
 subst hc hd fF hd2
 have e:vs.toArray++ws.toArray=(vs++ws).toArray:=by simp
 by_cases hw:ws=[]
 ·exact concat_meets ⟨_,ho,rfl⟩ ⟨_,fX,rfl⟩ noFill_tuple_add seq_tuple_add PySem.F.slot_tuple_add PySem.F.entry_tuple_add (PySem.F.args_tuple_add_2 _ _)
   (tuple_addW1 t b vs.toArray ws.toArray n n2 dd iB sl hX (by simpa using hv) (by simp[hw])) ⟨ho,fX,h1 hw⟩
 ·refine concat_meets ⟨_,ho,rfl⟩ ⟨_,fX,rfl⟩ noFill_tuple_add seq_tuple_add PySem.F.slot_tuple_add PySem.F.entry_tuple_add (PySem.F.args_tuple_add_2 _ _)
   (tuple_addW2 t b vs.toArray ws.toArray n n2 dd iB sl hX (by simpa using hv) (by simpa using hw) (by rw[List.size_toArray,List.size_toArray];exact hsz)) ⟨ho,fX,?_⟩
  rw[e]
  exact h2 hw
def de (n d:Nat):Option Int→Nat
 |none=>d
 |some v=>if v<0 then (v+(n:Int)).toNat else min v.toNat n
end
end HT
namespace L2
open PySem PySem.Spec PyProof.Rows
abbrev TO:=St→Hp→(Option Int→Hp→Prop)→Prop
def PO (X:Cx) (e:Option Expr) (t:TO):Prop:=
 ∀(pins:List (Addr×Obj)) (s:Shared) (σ:St) (H:Hp) (Q:Option Int→Hp→Prop),Inv X pins σ H s→t σ H Q→
  wpAny (model X.prog X.w) X.A (evalPart e X.env) (fun u s'=> ∃o H',Inv X pins σ H' s'∧IsPart u o∧Q o H') X.xe s
def wV:TO:=fun _ H Q=>Q none H
def wL (t:TE):TO:=fun σ H Q=>t σ H fun x H1=> ∃i,x=.int i∧Q (some i) H1
theorem Yd {ns:List Int} :∀{us:List Value},Vals (ns.map V.int) us→IntsAre us ns:=by
 induction ns with
 |nil=>intro us r;rw[List.map_nil]at r;cases r;exact .nil
 |cons n ns ih=>
  intro us r
  rw[List.map_cons]at r
  cases r with
  |cons r1 r2=>
   obtain⟨t,e⟩:=r1
   subst e
   exact .cons n t (ih r2)
section
variable {X:Cx}{e:Expr}{te:TE}{lo hi:Option Expr}{tl th:TO}{pos p2:Pos}
theorem DB:PO X none wV:=by
 intro pins s σ H Q I h
 rw[evalPart_none]
 exact wpAny_pure ⟨none,H,I,.none,h⟩
theorem DC (h:PE X e te):PO X (some e) (wL te):=by
 intro pins s σ H Q I hw
 rw[evalPart_some]
 refine ao (h pins s σ H _ I hw) fun u s1 ⟨x,H1,I1,r1,q1⟩=> ?_
 obtain⟨i,rfl,q⟩:=q1
 obtain⟨t,rfl⟩:=r1
 exact⟨some i,H1,I1,.int i t,q⟩
def vI (X:Cx) (r:V→Option Int→Option Int→Hp→VK→Prop):Prop:=
 ∀(pins:List (Addr×Obj)) (s:Shared) (σ:St) (H:Hp) (x:V) (v vl vu:Value) (lo hi:Option Int) (sl:Addr) (Q:VK),Inv X pins σ H s→RelV x v→s.heap.IsSliceOf sl vl vu .none→IsPart vl lo→IsPart vu hi→r x lo hi H Q→
  ∃T id,typeLookup (.type T) "__getitem__" =pure (some (.builtin id))∧s.TypeIs v T∧wpAny (model X.prog X.w) X.A (getItem v (.ref sl)) (EP X pins σ Q) X.xe s
def wJ (r:V→Option Int→Option Int→Hp→VK→Prop) (te:TE) (tl th:TO):TE:=fun σ H Q=>te σ H fun x H1=>tl σ H1 fun l H2=>th σ H2 fun u H3=>r x l u H3 Q
theorem Dc {r:V→Option Int→Option Int→Hp→VK→Prop}(hr:vI X r) (he:PE X e te) (hl:PO X lo tl) (hu:PO X hi th):PE X (.Subscript e (.Slice lo hi none p2) pos) (wJ r te tl th):=by
 intro pins s σ H Q I h
 refine Subscript_ (ao (he pins s σ H _ I h) fun v s1 ⟨x,H1,I1,r1,q1⟩=> ?_)
 refine wpAny_Slice (ao (hl pins s1 σ H1 _ I1 q1) fun vl s2 ⟨l,H2,I2,pl,q2⟩=>ao (hu pins s2 σ H2 _ I2 q2) fun vu s3 ⟨u,H3,I3,pu,q3⟩=> ?_)
 rw[evalPart_none]
 refine wpAny_pure ?_
 have I4:Inv X pins σ H3 {s3 with heap:=s3.heap.push {cls:=.type "slice",data:=.fields #[vl,vu,.none]} } :=I3.kept (t':=s3.toks) fun b ob q=>Heap.get?_push_of_some _ q
 obtain⟨T,id,hT,ht,hg⟩:=hr pins {s3 with heap:=s3.heap.push {cls:=.type "slice",data:=.fields #[vl,vu,.none]} } σ H3 x v vl vu l u s3.heap.objs.size Q I4 r1 (Heap.IsSliceOf.new ..) pl pu q3
 show wpAny (model X.prog X.w) X.A (subscriptTail e (.Slice lo hi none p2) v (.ref s3.heap.objs.size)) (EP X pins σ Q) X.xe {s3 with heap:=s3.heap.push {cls:=.type "slice",data:=.fields #[vl,vu,.none]} }
 exact tail_any (ops:=[.ref s3.heap.objs.size,v]) ht hT hg (by with_unfolding_all rfl)
def jc (xs:List V) (lo hi:Option Int):List V:=(xs.drop (HT.de xs.length 0 lo)).take (HT.de xs.length xs.length hi - HT.de xs.length 0 lo)
theorem Ue (xs:List V) (lo hi:Option Int):(jc xs lo hi).length≤xs.length:=by
 unfold jc
 rw[List.length_take,List.length_drop]
 omega
def r8 (K:PySem.W.Frag):R2:=fun x y H Q=> ∃a b xs ys,x=.ref a∧y=.ref b∧ak K H a xs∧ak K H b ys∧xs≠[]∧xs.length+ys.length≤sizeLine∧
 (ys=[]→Q (.ref a) H)∧(ys≠[]→∀p,H p=none→Q (.ref p) (upd H p (.tup (xs++ys))))
theorem Vals.pf {xs:List V}{us:List Value}(r:Vals xs us):us=[]↔xs=[]:=by
 cases r with
 |nil=>simp
 |cons _ _=>simp
theorem B5:aW X (binaryOp .Add) (r8 X.K):=by
 intro pins s σ H x y v u Q I rx ry h
 obtain⟨a,b,xs,ys,rfl,rfl,ha,hb,hx,hz,q1,q2⟩:=h
 cases rx
 cases ry
 obtain⟨its,r1,p1,_⟩:=I.tuple ha
 obtain⟨l7,r2,p2,_⟩:=I.tuple hb
 refine HT.Bw p1 p2 (fun z=>hx (r1.pf.mp z)) (fun z=> ⟨.ref a,H,I,rfl,q1 (r2.pf.mp z)⟩) (fun z=> ?_) (by rw[←r1.length,←r2.length];exact hz)
 refine⟨.ref s.heap.objs.size,_,I.laid (t':=s.toks) (o:=.tup (xs++ys)) (fun b ob q=>Heap.get?_push_of_some _ q) (Nat.le_refl _) ?_,rfl,q2 (fun w=>z (r2.pf.mpr w)) _ (I.af.fresh (Nat.le_refl _))⟩
 exact⟨by rw[List.length_append];exact hz,_,r1.append r2,IsTup.new _ _,_,Heap.get?_push_size _ rfl,rfl⟩
end
def gJ (n:Nat) (i:Int):Option Nat:=if 0≤i then (if i<n then some i.toNat else none) else if -(n:Int)≤i then some (i+n).toNat else none
def dU {α:Type} (xs:List α) (i:Int):Option α:=(gJ xs.length i).bind fun j=>xs[j]?
theorem WG {n:Nat}{i:Int}{j:Nat}(h:gJ n i=some j):seqIndex? i n=some j∧j<n∧ -(n:Int)≤i∧i<n:=by
 unfold gJ at h
 by_cases h0:0≤i
 ·rw[if_pos h0]at h
  by_cases h1:i<n
  ·rw[if_pos h1]at h
   have e:i.toNat=j:=Option.some.inj h
   exact⟨by rw[seqIndex_of h0 h1,e],by omega,by omega,h1⟩
  ·rw[if_neg h1]at h;cases h
 ·rw[if_neg h0]at h
  by_cases h1: -(n:Int)≤i
  ·rw[if_pos h1]at h
   have e:(i+n).toNat=j:=Option.some.inj h
   exact⟨by rw[seqIndex_neg (by omega) h1,e],by omega,h1,by omega⟩
  ·rw[if_neg h1]at h;cases h
theorem vt {α:Type}{xs:List α}{i:Int}{v:α}(h:dU xs i=some v):∃j,seqIndex? i xs.length=some j∧xs[j]? =some v∧j<xs.length∧ -(xs.length:Int)≤i∧i<xs.length:=by
 unfold dU at h
 cases e:gJ xs.length i with
 |none=>rw[e]at h;cases h
 |some j=>
  rw[e]at h
  obtain⟨h1,h2,h3,h4⟩:=WG e
  exact⟨j,h1,h,h2,h3,h4⟩
theorem Jl {α:Type}{xs:List α}{j:Nat}{v:α}(h:xs[j]? =some v):dU xs (j:Int)=some v:=by
 have hj:j<xs.length:=(List.getElem?_eq_some_iff.mp h).1
 have e:gJ xs.length (j:Int)=some j:=by
  unfold gJ
  rw[if_pos (by omega),if_pos (by omega)];simp
 unfold dU;rw[e];exact h
def Ez (b:Expr):Prop:=∀o i,subscripted b false o i=operate [o,i] (getItem o i)
def qI (X:Cx) (r:R2):Prop:=
 ∀(value slice:Expr) (pins:List (Addr×Obj)) (s:Shared) (σ:St) (H:Hp) (x y:V) (v u:Value) (Q:VK),Inv X pins σ H s→RelV x v→RelV y u→r x y H Q→
  subscripted slice false v u=operate [v,u] (getItem v u)→wpAny (model X.prog X.w) X.A (subscriptTail value slice v u) (EP X pins σ Q) X.xe s
def EB (X:Cx) (id:String) (r:V→List V→Hp→VK→Prop):Prop:=
 ∀(pins:List (Addr×Obj)) (s:Shared) (σ:St) (H:Hp) (x:V) (xs:List V) (v:Value) (us:List Value) (Q:VK),Inv X pins σ H s→RelV x v→Vals xs us→r x xs H Q→
  wpAny (model X.prog X.w) X.A (call (.builtin id) (v::us)) (EP X pins σ Q) X.xe s
section
variable {X:Cx}{a b:Expr}{ta tb:TE}{pos:Pos}
theorem ZN {r:R2}(hr:qI X r) (ha:PE X a ta) (hb:PE X b tb) (hs:Ez b):PE X (.Subscript a b pos) (jn r ta tb):=by
 intro pins s σ H Q I h
 exact Subscript_ (qz ha hb I h fun v u s2 x y H2 I2 rx ry q=>hr a b pins s2 σ H2 x y v u Q I2 rx ry q (hs _ _))
def yu (K:PySem.W.Frag):R2:=fun x y H Q=> ∃p xs i v,x=.ref p∧y=.int i∧ae K H p xs∧dU xs i=some v∧Q v H
def yt (K:PySem.W.Frag):R2:=fun x y H Q=> ∃p xs i v,x=.ref p∧y=.int i∧ak K H p xs∧dU xs i=some v∧Q v H
theorem ZY:qI X (yu X.K):=by
 intro value slice pins s σ H x y v u Q I rx ry h hs
 obtain⟨p,xs,i,z,rfl,rfl,hq,he,q⟩:=h
 cases rx
 obtain⟨t,rfl⟩:=ry
 obtain⟨its,r,pl,hz⟩:=I.list hq
 obtain⟨j,h1,h2,h3,h4,h5⟩:=vt he
 obtain⟨w,ew,eX⟩:=r.get h2
 have hl:=r.length
 have hn:=l6
 have fin:EP X pins σ Q w s:=⟨z,H,I,eX,q⟩
 by_cases h0:0≤i
 ·have hj:i.toNat=j:=by
   rw[seqIndex_of h0 h5]at h1
   exact Option.some.inj h1
  exact item_listR pl.isList h0 (by omega) (by rw[hj];simpa using ew) fin hs
 ·have hj:(i+(its.toArray.size:Int)).toNat=j:=by
   rw[seqIndex_neg (by omega) h4]at h1
   rw[List.size_toArray,←hl]
   exact Option.some.inj h1
  exact subscriptTail_builtinR (x:=w) pl.isList.typeIs slot_list_getitem.lookup
   (wpAny_getItem_list_neg (Q:=fun r s'=>r=w∧EP X pins σ Q r s') pl.isList (by omega) (by rw[List.size_toArray]<;>omega) (by omega) (by rw[hj];simpa using ew) ⟨rfl,fin⟩) hs
theorem Z2:qI X (yt X.K):=by
 intro value slice pins s σ H x y v u Q I rx ry h hs
 obtain⟨p,xs,i,z,rfl,rfl,hq,he,q⟩:=h
 cases rx
 obtain⟨t,rfl⟩:=ry
 obtain⟨its,r,pl,hz⟩:=I.tuple hq
 obtain⟨j,h1,h2,h3,h4,h5⟩:=vt he
 obtain⟨w,ew,eX⟩:=r.get h2
 have hl:=r.length
 have hn:=l6
 have fin:EP X pins σ Q w s:=⟨z,H,I,eX,q⟩
 exact subscriptTail_builtinR (x:=w) pl.typeIs slot_tuple_getitem.lookup
  (getItem_tuple (j:=j) (Q:=fun r s'=>r=w∧EP X pins σ Q r s') pl (by omega) (by omega) (by rw[List.size_toArray,←hl];exact h1) (by simpa using ew) ⟨rfl,fin⟩) hs
theorem UD (its:List Value) (n j:Nat) (u:Value):Obj.mapSeq (·.setIfInBounds j u) {cls:=.type "list",data:=.seq its.toArray n} = {cls:=.type "list",data:=.seq (its.set j u).toArray n} :=by
 simp[Obj.mapSeq]
theorem Inv.lst {pins:List (Addr×Obj)}{σ:St}{H:Hp}{s:Shared}{p:Addr}{xs:List V}(I:Inv X pins σ H s) (h:H p=some (.lst xs)):
  ∃(its:List Value) (n:Nat),Vals xs its∧s.heap.get? p=some {cls:=.type "list",data:=.seq its.toArray n}∧xs.length≤sizeLine:=by
 obtain⟨z,its,n,r,e⟩:=I.af p _ h
 exact⟨its,n,r,e,z⟩
theorem Inv.yX {pins:List (Addr×Obj)}{σ:St}{H:Hp}{s:Shared}{p:Addr}{xs ys:List V}{its its':List Value}{n n':Nat}{f:Obj→Obj}(I:Inv X pins σ H s) (h:H p=some (.lst xs))
  (ho:s.heap.get? p=some {cls:=.type "list",data:=.seq its.toArray n}) (hf:f {cls:=.type "list",data:=.seq its.toArray n} = {cls:=.type "list",data:=.seq its'.toArray n'}) (r:Vals ys its') (hz:ys.length≤sizeLine) (t:Nat):
  Inv X pins σ (upd H p (.lst ys)) {s with heap:=s.heap.update p f,toks:=t} :=by
 have e:(s.heap.update p f).get? p=some {cls:=.type "list",data:=.seq its'.toArray n'} :=by
  rw[Heap.get?_update_self f ho (by rw[hf]<;>rfl),hf]
 refine I.write (x:=p) (e:=p) (by rw[h];trivial) (.inl rfl) (fun b u hb q=> (Heap.get?_update_other _ _ (Ne.symm hb)).trans q) ⟨_,e⟩ ?_
 exact⟨hz,its',n',r,e⟩
def yp:V→V→V→Hp→(Hp→Prop)→Prop:=fun o i v H Q=> ∃p xs k j,o=.ref p∧i=.int k∧H p=some (.lst xs)∧gJ xs.length k=some j∧Q (upd H p (.lst (xs.set j v)))
theorem WW:vJ X yp:=by
 intro pins s σ H o i v ov iv u Q I ro ri rv h
 obtain⟨p,xs,k,j,rfl,rfl,hp,hj,q⟩:=h
 cases ro
 obtain⟨t,rfl⟩:=ri
 obtain⟨its,n,r,ho,hz⟩:=I.lst hp
 obtain⟨h1,h2,h3,h4⟩:=WG hj
 have hl:=r.length
 have hn:=l6
 have I':Inv X pins σ (upd H p (.lst (xs.set j v))) {s with heap:=s.heap.update p (Obj.mapSeq (·.setIfInBounds j u))} :=
  I.yX hp ho (UD its n j u) (r.set rv j) (by rw[List.length_set];exact hz) s.toks
 by_cases h0:0≤k
 ·have hk:k.toNat=j:=by
   rw[seqIndex_of h0 h4]at h1
   exact Option.some.inj h1
  exact PySem.W.ki_setAt ho h0 (by omega) (by rw[List.size_toArray,←hl];exact h4) (by rw[hk];exact⟨_,I',q⟩)
 ·have hk:(k+(its.toArray.size:Int)).toNat=j:=by
   rw[seqIndex_neg (by omega) h3]at h1
   rw[List.size_toArray,←hl]
   exact Option.some.inj h1
  exact PySem.W.ki_setBack ho (by omega) (by rw[List.size_toArray,←hl];exact h3) (by omega) (by rw[hk];exact⟨_,I',q⟩)
theorem Wr (lo hi:Option Int) (n:Nat):(sliceBounds lo hi none n).1=((HT.de n 0 lo:Nat):Int)∧(sliceBounds lo hi none n).2.1=((HT.de n n hi:Nat):Int)∧(sliceBounds lo hi none n).2.2=1:=by
 refine⟨?_,?_,rfl⟩
 ·cases lo with
  |none=>simp[sliceBounds,HT.de]
  |some i=>
   simp only[sliceBounds,HT.de,Option.getD_none,show(1:Int)>0 by decide,if_true]
   by_cases h:i<0
   ·simp only[h,if_true]<;>omega
   ·simp only[h,if_false]<;>omega
 ·cases hi with
  |none=>simp[sliceBounds,HT.de]
  |some i=>
   simp only[sliceBounds,HT.de,Option.getD_none,show(1:Int)>0 by decide,if_true]
   by_cases h:i<0
   ·simp only[h,if_true]<;>omega
   ·simp only[h,if_false]<;>omega
theorem JS (its:List Value) (lo hi:Option Int):slicePick its.toArray lo hi none=((its.drop (HT.de its.length 0 lo)).take (HT.de its.length its.length hi - HT.de its.length 0 lo)).toArray:=by
 obtain⟨h1,h2,h3⟩:=Wr lo hi its.toArray.size
 unfold slicePick
 rw[h1,h2,h3]
 simp only[sliceRange_one,pick_run,List.size_toArray]<;>rfl
def yo (K:PySem.W.Frag):V→Option Int→Option Int→Hp→VK→Prop:=fun x lo hi H Q=> ∃a xs,x=.ref a∧ae K H a xs∧∀p,H p=none→Q (.ref p) (upd H p (.lst (jc xs lo hi)))
theorem DE:vI X (yo X.K):=by
 intro pins s σ H x v vl vu lo hi sl Q I rx hs pl pu h
 obtain⟨a,xs,rfl,hx,q⟩:=h
 cases rx
 obtain⟨its,r,ht,hz⟩:=I.list hx
 have hlen:=r.length
 refine⟨"list",_,slot_list_getitem.lookup,ht.isList.typeIs,?_⟩
 refine wpAny_getItem_list_slice ht.isList hs pl pu .none (by simp) ?_ (by rw[List.size_toArray]<;>omega)
 rw[JS,←hlen]
 refine⟨.ref s.heap.objs.size,_,I.laid (t':=s.toks) (o:=.lst (jc xs lo hi)) (fun b ob q=>Heap.get?_push_of_some _ q) (Nat.le_refl _) ?_,rfl,q _ (I.af.fresh (Nat.le_refl _))⟩
 exact⟨Nat.le_trans (Ue xs lo hi) hz,_,0,(r.drop (HT.de xs.length 0 lo)).take (HT.de xs.length xs.length hi - HT.de xs.length 0 lo),Heap.get?_push_size _ rfl⟩
def gT:V→Bool
 | .ai=>true
 | .bl _=>true
 | .int _=>true
 | .str _=>true
 |_=>false
def iz:V→V→Bool
 | .ai,.ai=>true
 | .bl a,.bl b=>a==b
 | .bl a,.int b=> (if a then 1 else 0)==b
 | .int a,.bl b=>a==(if b then 1 else 0)
 | .int a,.int b=>a==b
 | .str a,.str b=>a==b
 |_,_=>false
theorem Ci {A:Around}{s:Shared}{y x:V}{u v:Value}(ry:RelV y u) (rx:RelV x v) (fy:gT y=true) (fx:gT x=true):SeqAt.EqAt A s u v (iz y x):=by
 cases y with
 |ai=>
  cases ry
  cases x with
  |ai=>cases rx;exact SeqAt.EqAt.same _
  |bl b=>cases rx;exact SeqAt.EqAt.none_bool b
  |int b=>obtain⟨t,rfl⟩:=rx;exact SeqAt.EqAt.none_int b t
  |str b=>obtain⟨t,rfl⟩:=rx;exact SeqAt.EqAt.none_str b t
  |_=>exact absurd (show false=true from fx) Bool.false_ne_true
 |bl a=>
  cases ry
  cases x with
  |ai=>cases rx;exact SeqAt.EqAt.bool_none a
  |bl b=>cases rx;exact SeqAt.EqAt.bool_bool a b
  |int b=>obtain⟨t,rfl⟩:=rx;exact SeqAt.EqAt.bool_int a b t
  |str b=>obtain⟨t,rfl⟩:=rx;exact SeqAt.EqAt.bool_str a b t
  |_=>exact absurd (show false=true from fx) Bool.false_ne_true
 |int a=>
  obtain⟨t',rfl⟩:=ry
  cases x with
  |ai=>cases rx;exact SeqAt.EqAt.int_none a t'
  |bl b=>cases rx;exact SeqAt.EqAt.int_bool a t' b
  |int b=>obtain⟨t,rfl⟩:=rx;exact SeqAt.EqAt.int_int a t' b t
  |str b=>obtain⟨t,rfl⟩:=rx;exact SeqAt.EqAt.int_str a t' b t
  |_=>exact absurd (show false=true from fx) Bool.false_ne_true
 |str a=>
  obtain⟨t',rfl⟩:=ry
  cases x with
  |ai=>cases rx;exact SeqAt.EqAt.str_none a t'
  |bl b=>cases rx;exact SeqAt.EqAt.str_bool a t' b
  |int b=>obtain⟨t,rfl⟩:=rx;exact SeqAt.EqAt.str_int a t' b t
  |str b=>obtain⟨t,rfl⟩:=rx;exact SeqAt.EqAt.str_str a t' b t
  |_=>exact absurd (show false=true from fx) Bool.false_ne_true
 |_=>exact absurd (show false=true from fy) Bool.false_ne_true
def gW (x:V) (u:Value):Bool:=match u with
 | .none=>iz .ai x
 | .bool b=>iz (.bl b) x
 | .int i _=>iz (.int i) x
 | .str z _=>iz (.str z) x
 |_=>false
theorem vo {x y:V}{u:Value}(r:RelV y u) (f:gT y=true):gW x u=iz y x:=by
 cases y with
 |ai=>cases r;rfl
 |bl b=>cases r;rfl
 |int i=>obtain⟨t,rfl⟩:=r;rfl
 |str z=>obtain⟨t,rfl⟩:=r;rfl
 |_=>exact absurd (show false=true from f) Bool.false_ne_true
theorem WN {x:V} :∀{xs:List V}{us:List Value},Vals xs us→xs.all gT=true→us.any (gW x)=xs.any fun y=>iz y x
 |_,_,.nil,_=>rfl
 |y::xs,u::us,.cons r t,f=>by
  rw[List.all_cons,Bool.and_eq_true]at f
  rw[List.any_cons,List.any_cons,vo r f.1,WN t f.2]
theorem Jx {A:Around}{s:Shared}{x:V}{v:Value}(rx:RelV x v) (fx:gT x=true):∀{xs:List V}{us:List Value},Vals xs us→xs.all gT=true→∀u∈us,SeqAt.EqAt A s u v (gW x u)
 |_,_,.nil,_=>fun u hu=>by cases hu
 |y::xs,u::us,.cons r t,f=>fun u' hu=>by
  rw[List.all_cons,Bool.and_eq_true]at f
  rcases List.mem_cons.mp hu with rfl |hu
  ·rw[vo r f.1];exact Ci r rx f.1 fx
  ·exact Jx rx fx t f.2 u' hu
def dD (x:V) (xs:List V):Bool:=xs.any fun y=>iz y x
def r6 (K:PySem.W.Frag) (neg:Bool):R2:=fun x y H Q=> ∃p xs,y=.ref p∧(ae K H p xs∨ak K H p xs)∧gT x=true∧xs.all gT=true∧Q (.bl (if neg then !dD x xs else dD x xs)) H
theorem WA:aW X (compareOp .NotIn) (r6 X.K true):=by
 intro pins s σ H x y v u Q I rx ry h
 obtain⟨p,xs,rfl,hq,fx,fs,q⟩:=h
 cases ry
 rcases hq with hq |hq
 ·obtain⟨its,r,pl,hz⟩:=I.list hq
  refine SeqAt.notIn_listAt (gW x) pl.isList (fun w hw=>Jx rx fx r fs w (by simpa using hw)) ⟨.bl _,H,I,rfl,?_⟩
  rw[show its.toArray.any (gW x)=its.any (gW x) by simp,WN r fs]
  exact q
 ·obtain⟨its,r,pl,hz⟩:=I.tuple hq
  refine SeqAt.notIn_tupleAt (gW x) pl (fun w hw=>Jx rx fx r fs w (by simpa using hw)) ⟨.bl _,H,I,rfl,?_⟩
  rw[show its.toArray.any (gW x)=its.any (gW x) by simp,WN r fs]
  exact q
theorem ZC:di X (.builtin "len") (fun xs H Q=> ∃p ys,xs=[.ref p]∧(ae X.K H p ys∨ak X.K H p ys)∧Q (.int ys.length) H):=by
 intro pins s σ H xs us Q I r h
 obtain⟨p,ys,rfl,hq,q⟩:=h
 obtain⟨u,rfl,rx⟩:=vals1 r
 cases rx
 have hn:=l6
 rcases hq with hq |hq
 ·obtain⟨its,r',pl,hz⟩:=I.list hq
  have hlen:=r'.length
  exact Calls.call_len_list pl.isList (by simp only[List.size_toArray]<;>omega) ⟨.int ys.length,H,I.tok _,⟨s.toks+1,by rw[List.size_toArray,hlen]⟩,q⟩
 ·obtain⟨its,r',pl,hz⟩:=I.tuple hq
  have hlen:=r'.length
  exact len_tuple pl (by simp only[List.size_toArray]<;>omega) ⟨.int ys.length,H,I.tok _,⟨s.toks+1,by rw[List.size_toArray,hlen]⟩,q⟩
theorem JV:di X (.type "tuple") (fun xs H Q=> ∃p ys,xs=[.ref p]∧((ae X.K H p ys∧∀l,H l=none→Q (.ref l) (upd H l (.tup ys)))∨(ak X.K H p ys∧Q (.ref p) H))):=by
 intro pins s σ H xs us Q I r h
 obtain⟨p,ys,rfl,h⟩:=h
 obtain⟨u,rfl,rx⟩:=vals1 r
 cases rx
 rcases h with ⟨hq,q⟩ |⟨hq,q⟩
 ·obtain⟨its,r',pl,hz⟩:=I.list hq
  have hlen:=r'.length
  refine call_tuple_list pl.isList (fun h' kp=> ?_) (by simp only[List.size_toArray]<;>omega)
  have I1:Inv X pins σ H {s with heap:=h'} :=I.kept (t':=s.toks) kp
  have I2:Inv X pins σ (upd H h'.objs.size (.tup ys)) {s with heap:=h'.push {cls:=.type "tuple",data:=.seq its.toArray} } :=
   I1.laid (t':=s.toks) (fun b o e=>Heap.get?_push_of_some _ e) (Nat.le_refl _) (show aI X.prog X.w _ _ _ (.tup ys) from ⟨hz,its,r',IsTup.new _ _,_,Heap.get?_push_size _ rfl,rfl⟩)
  exact⟨.ref h'.objs.size,_,I2,rfl,q _ (I1.af.fresh (Nat.le_refl _))⟩
 ·obtain⟨its,r',pl,hz⟩:=I.tuple hq
  exact call_tuple_same pl ⟨.ref p,H,I,rfl,q⟩
def qY (K:PySem.W.Frag) (T:String) (x:V) (H:Hp):Prop:=match x with
 | .str _=>T= "str"
 | .int _=>T= "int"
 | .ref p=> (T= "list" ∧∃xs,ae K H p xs)∨(T= "tuple" ∧((∃o,K.lookup p=some o∧o.cls=.type "tuple" ∧o.dict=none)∨∃xs,H p=some (.tup xs)))∨
   (T= "dict" ∧((∃kvs,H p=some (.dK kvs))∨∃kvs,H p=some (.dT kvs)))∨(T= "set" ∧∃S n,H p=some (.set S n))
 |_=>False
theorem BK {pins:List (Addr×Obj)}{σ:St}{H:Hp}{s:Shared}{T:String}{x:V}{v:Value}(I:Inv X pins σ H s) (r:RelV x v) (ty:qY X.K T x H):
  s.TypeIs v T∧∀a,v=.ref a→∃ob,s.heap.get? a=some ob∧ob.dict=none:=by
 cases x with
 |str z=>
  obtain⟨t,rfl⟩:=r
  cases (show T= "str" from ty)
  exact⟨typeIs_str s z t,fun _ e=>nomatch e⟩
 |int i=>
  obtain⟨t,rfl⟩:=r
  cases (show T= "int" from ty)
  exact⟨typeIs_int s i t,fun _ e=>nomatch e⟩
 |ref p=>
  cases r
  rcases ty with ⟨rfl,xs,hq⟩ |⟨rfl,⟨o,hk,hc,hd⟩ |⟨xs,hx⟩⟩ |⟨rfl,hk⟩ |⟨rfl,S,n,hk⟩
  ·obtain⟨its,_,pl,_⟩:=I.list hq
   refine⟨pl.isList.typeIs,fun a e=> ?_⟩
   cases e
   obtain⟨o,n,e,c,hd,_⟩:=pl
   exact⟨o,e,hd⟩
  ·refine⟨⟨o,I.cV p o hk,hc⟩,fun a e=> ?_⟩
   cases e
   exact⟨o,I.cV _ o hk,hd⟩
  ·obtain⟨_,_,_,⟨o,e,c,_⟩,o2,e2,hd⟩:=(show aI X.prog X.w H s.heap p (.tup xs) from I.af p _ hx)
   refine⟨⟨o,e,c⟩,fun a e3=> ?_⟩
   cases e3
   exact⟨o2,e2,hd⟩
  ·have z:∃o,s.heap.get? p=some o∧o.ExactDict:=by
    rcases hk with ⟨kvs,hk⟩ |⟨kvs,hk⟩
    ·obtain⟨_,_,_,_,o,_,_,e,ex,_⟩:=I.af p _ hk
     exact⟨o,e,ex⟩
    ·obtain⟨_,_,_,_,o,_,_,e,ex,_⟩:=I.af p _ hk
     exact⟨o,e,ex⟩
   obtain⟨o,e,ex⟩:=z
   refine⟨⟨o,e,ex.1⟩,fun a e2=> ?_⟩
   cases e2
   exact⟨o,e,ex.2.1⟩
  ·obtain⟨o,_,_,_,e,ex,_⟩:=I.af p _ hk
   refine⟨⟨o,e,ex.1⟩,fun a e2=> ?_⟩
   cases e2
   exact⟨o,e,ex.2.1⟩
 |_=>exact False.elim ty
def rn (K:PySem.W.Frag) (T:String) (r:V→List V→Hp→VK→Prop) (to:TE) (t:TA):TE:=fun σ H Q=>to σ H fun x H1=>qY K T x H1∧t σ H1 fun xs H2=>r x xs H2 Q
variable {o e:Expr}{es:List Expr}{to:TE}{t:TA}{name:Str}{apos bI:Pos}{T id:String}{r:V→List V→Hp→VK→Prop}
theorem UZ (pa:PlainAttrs T) (slot:Slot T name id) (zo:typeOf (.builtin id)=pure (.type "method_descriptor")) (hm:EB X id r) (ho:PE X o to) (ha:PA X (e::es) t)
    (kY:attributeBase o name X.env (eval o X.env)=eval o X.env:=by rfl)
    (Ai:((backTo bI (starEach (e::es) X.env)).all (fun x=> !x.1)&&(backToKw bI (keywordEach [] X.env)).all (fun x=>x.1.isSome)
      &&decide ((e::es).length+([]:List Keyword).length+(if ([]:List Keyword).isEmpty then 0 else 1)<30))=true:=by rfl)
    (kQ:(apos.endLine==bI.line)=true:=by rfl) (hs:starEach (e::es) X.env=(false,eval e X.env)::starEach es X.env:=by rfl) (zL:(backTo bI (starEach es X.env)).any (·.1)=false:=by rfl):
    PE X (.Call (.Attribute o name apos) (e::es) [] bI) (rn X.K T r to t):=by
  intro pins s σ H Q I h
  refine wpAny_Call_method_late kY Ai kQ rfl (ao (ho pins s σ H _ I h) fun v s1 ⟨x,H1,I1,r1,ty,q1⟩=> ?_)
  obtain⟨h1,h2⟩:=BK I1 r1 ty
  refine⟨T,id,pa,slot,zo,h1,h2,?_⟩
  have hA:=ha bI pins s1 σ H1 _ I1 q1
  rw[hs]at hA ⊢
  refine Calls.callWith_builtin (by show(false||(backTo bI (starEach es X.env)).any (·.1))=false;rw[zL]<;>rfl) (Calls.evalArgs_plain ?_)
  exact ao hA fun us s2 ⟨vs,H2,I2,r2,q2⟩=>hm pins s2 σ H2 x vs v us Q I2 r1 r2 q2
end
def vL (X:Cx) (id:String) (r:V→List V→Hp→VK→Prop):Prop:=
 ∀(pins:List (Addr×Obj)) (s:Shared) (σ:St) (H:Hp) (x:V) (xs:List V) (v:Value) (us:List Value) (Q:VK),Inv X pins σ H s→RelV x v→Vals xs us→r x xs H Q→
  wpAny (model X.prog X.w) X.A (call (.builtin id) (v::us)) (EP X pins σ Q) X.xe s
theorem Vals.one:∀{x:V}{us:List Value},Vals [x] us→∃u,us=[u]∧RelV x u
 |_,_,.cons r .nil=> ⟨_,rfl,r⟩
theorem Vals.eraseIdx:∀{xs:List V}{us:List Value}(i:Nat),Vals xs us→Vals (xs.eraseIdx i) (us.eraseIdx i)
 |_,_,_,.nil=> .nil
 |_,_,0,.cons _ t=>t
 |_,_,i+1,.cons r t=> .cons r (Vals.eraseIdx i t)
theorem We {α:Type} :∀(l:List α) (i:Nat),(l.eraseIdx i).length≤l.length
 | [],_=>Nat.le_refl _
 |_::_,0=>Nat.le_succ _
 |_::r,i+1=>Nat.succ_le_succ (We r i)
section
variable {X:Cx}{pins:List (Addr×Obj)}{σ:St}{H:Hp}{s:Shared}{l b:Addr}{xs ys zs:List V}
theorem Inv.sZ {its its':List Value}{n:Nat}{f:Array Value→Array Value}{t':Nat}(I:Inv X pins σ H s) (hH:H l=some (.lst xs))
  (e:s.heap.get? l=some {cls:=.type "list",data:=.seq its.toArray n}) (hf:f its.toArray=its'.toArray) (hv:Vals ys its') (hz:ys.length≤sizeLine):
  Inv X pins σ (upd H l (.lst ys)) {s with heap:=s.heap.update l (Obj.mapSeq f),toks:=t'} :=by
 have q:=PySem.IsL.update e f
 rw[hf]at q
 refine I.write (x:=l) (e:=l) (by rw[hH];exact trivial) (.inl rfl) (fun b' u hb hu=> (Heap.get?_update_other s.heap (Obj.mapSeq f) (Ne.symm hb)).trans hu) ⟨_,q⟩ ?_
 exact⟨hz,its',_,hv,q⟩
theorem Inv.fresh (I:Inv X pins σ H s):H s.heap.objs.size=none:=I.af.fresh (Nat.le_refl _)
theorem Inv.sY (I:Inv X pins σ H s) (hH:H l=some (.lst xs)):xs.length≤sizeLine∧∃(its:List Value) (n:Nat),Vals xs its∧xs.length=its.length∧s.heap.get? l=some {cls:=.type "list",data:=.seq its.toArray n} :=by
 obtain⟨z,its,n,r,e⟩:=I.af l _ hH
 exact⟨z,its,n,r,r.length,e⟩
end
section
variable {X:Cx}
def r9:V→List V→Hp→VK→Prop:=fun x vs H Q=> ∃l xs y,x=.ref l∧vs=[y]∧H l=some (.lst xs)∧xs.length<sizeLine∧Q .ai (upd H l (.lst (xs++[y])))
theorem Y1:vL X "list.append" r9:=by
 intro pins s σ H x vs v us Q I rx rv h
 obtain⟨l,xs,y,rfl,rfl,hH,hz,q⟩:=h
 cases rx
 obtain⟨u,rfl,ru⟩:=rv.one
 obtain⟨z,its,n,r,hl,e⟩:=I.sY hH
 refine call_meets F.slot_list_append ⟨_,e,rfl⟩ F.entry_list_append (F.args_list_append_2 _ _) (PySem.list_append l its.toArray n u (by rw[List.size_toArray];omega)) ⟨e,?_⟩
 refine⟨.ai,_,I.sZ (its':=its++[u]) hH e (by simp) (r.append (.cons ru .nil)) ?_,rfl,q⟩
 rw[List.length_append,List.length_singleton]
 omega
def yq:V→List V→Hp→VK→Prop:=fun x vs H Q=> ∃l xs i k y,x=.ref l∧vs=[.int i]∧H l=some (.lst xs)∧ -(2^63)≤i∧i<2^63∧seqIndex? i xs.length=some k∧xs[k]? =some y∧Q y (upd H l (.lst (xs.eraseIdx k)))
theorem CS:vL X "list.pop" yq:=by
 intro pins s σ H x vs v us Q I rx rv h
 obtain⟨l,xs,i,k,y,rfl,rfl,hH,h1,h2,hk,hy,q⟩:=h
 cases rx
 obtain⟨u,rfl,ru⟩:=rv.one
 obtain⟨t,rfl⟩:=ru
 obtain⟨z,its,n,r,hl,e⟩:=I.sY hH
 obtain⟨w,hw,eX⟩:=r.get hy
 refine call_meets F.slot_list_pop ⟨_,e,rfl⟩ F.entry_list_pop (F.args_list_pop_2 _ _)
  (MeetsSeq.list_pop_at l its.toArray n i t k w (fitsIndex_both h1 h2) (by rw[List.size_toArray,←hl];exact hk) (by rw[←Array.getElem?_toList];exact hw) (by rw[List.size_toArray];omega)) ⟨e,?_⟩
 refine⟨y,_,I.sZ (its':=its.eraseIdx k) hH e ?_ (r.eraseIdx k) ?_,eX,q⟩
 ·show its.toArray.eraseIdxIfInBounds k=(its.eraseIdx k).toArray
  rw[List.eraseIdxIfInBounds_toArray]
 ·have:=We xs k
  omega
end
end L2
namespace we
open PySem PySem.W PySem.Calls PyProof.Rows
theorem Jb {P:Params}{h:Heap} :∀(ns:List Int) (vs:List Value),WellAll P h vs (ns.map WData.int)→IntsAre vs ns:=by
 intro ns
 induction ns with
 |nil=>
  intro vs w
  rw[List.map_nil]at w
  cases w
  exact .nil
 |cons n ns ih=>
  intro vs w
  rw[List.map_cons]at w
  cases w with
  |cons a b=>
   cases a
   exact .cons _ _ (ih _ b)
theorem DO {l:OpenLaw}{n:Nat}(hn:l.most=some n) {P:Params}{h:Heap}{args:List WData}{vals:List Value}
  (mi:l.row.toRowW.claim.pre args=true) (pJ:WellAll P h vals args):
  ∃a vs ns,vals=[Value.ref a]∧args=[WData.list (ns.map WData.int)]∧h.get? a=some {cls:=.type "list",data:=.seq vs.toArray}∧IntsAre vs ns∧ns.length≤n:=by
 have zB:WShape.hasAll [] args [.list .int]=true:=(pre_splitW mi).1
 have hc:l.pre.holds [] {args:=args} =true:=(pre_splitW mi).2
 obtain⟨d,r,rfl,h1,h2⟩:=hasAllW_cons zB
 obtain rfl:=hasAllW_nil h2
 obtain⟨xs,rfl,h3⟩:=hasW_list h1
 obtain⟨ns,rfl⟩:=items_int h3
 have hlen:ns.length≤n:=by
  unfold OpenLaw.pre at hc
  have h4:(WTm.not (.lt (.lit (.int (n:Int))) (.len (.arg 0)))).holds [] {args:=[.list (ns.map .int)]} =true:=by
   have h4:=(holds_andW hc).1
   rw[hn]at h4
   exact h4
  have h5:=condW_of h4 (w_not (w_lt w_lit (w_len_list (w_arg rfl))))
  rw[List.length_map]at h5
  refine Nat.le_of_not_lt fun q=> ?_
  have q':(n:Int)< ((ns.length:Nat):Int):=by omega
  first
   |(rw[decide_eq_true q']at h5;exact absurd h5 (by decide))
   |(simp at h5;omega)
 cases pJ with
 |cons w1 w2=>
  cases w2
  cases w1 with
  |list ho gN=>exact⟨_,_,ns,rfl,rfl,ho,Jb ns _ gN,hlen⟩
theorem DN (l:OpenLaw) (args:List WData):l.row.toRowW.claim.post args (.bool true) args=true:=
 postW_of (r:=l.row.toRowW) (X:=(true==true))
  (show WShape.has [] (.bool true) .bool=true by first |rfl |decide |simp[WShape.has,WShape.arms,WShape.armsAll])
  (show(WTm.eq .res (.lit (.bool true))).value [] {args:=args,res:=some (.bool true),after:=args} =some (.bool (true==true)) from w_eq_bool (w_res rfl) w_lit) rfl
theorem Bz {l:OpenLaw}{n:Nat}{q:Program}{loose:List Str}{XP:(Str→Option Value)→Heap→Prop}{YP:World→Heap→Prop}{d:DefRec}
    (hn:l.most=some n) (qc:d.params.defaults=[])
    (call:∀(w:World) (bR aB:Shared) (mg mb:Str→Option Value) (fa:Addr) (o:Obj) (pm cd doc:Value) (a:Addr) (vs:List Value) (ns:List Int),
      Ground q loose [] XP w bR mg mb aB.heap→YP w aB.heap→
      aB.heap.get? fa=some o→o.data=.func (docDef d.name d.params d.body d.scope pm cd doc)→aB.heap.CodeRec cd d.name→mg d.name=some (.ref fa)→
      aB.heap.get? a=some {cls:=.type "list",data:=.seq vs.toArray}→IntsAre vs ns→ns.length≤n→aB.gens= #[]→
      codeAny (model l.prog w) callerA (.call (.ref fa) ⟨[.ref a],[]⟩) (fun r s'=>r=.ok (.ret (.bool true))∧OldK aB.heap s'.heap∧s'.os=aB.os∧AllBare s'.gens) aB):
    WalkO q loose XP YP l.row.toRowW d [] (fun f vs=>PySem.call f vs):=by
  intro w bR aB mg mb G Y fa o pm cd doc dV kV ho hd eK hD hmg hg args vals as mi FR FJ pJ ud
  obtain rfl:dV=.none:=Dflts.none hD qc
  obtain rfl:kV=.none:=Dflts.noKw hD
  obtain⟨a,vs,ns,rfl,rfl,pV,hints,hlen⟩:=DO hn mi pJ
  refine enter_call (codeAny_mono (call w bR aB mg mb fa o pm cd doc a vs ns G Y ho (fd_plain hd) eK hmg pV hints hlen hg) fun r s' hq=> ?_)
  obtain⟨rfl,h2,h3,h4⟩:=hq
  exact⟨.inl ⟨.bool true,.bool true,[],rfl,fun _=>rfl,.bool true,DN l _,fun _=> ⟨List.Pairwise.nil,fun _ hm=> (nomatch hm)⟩⟩,h2,h3,h4⟩
end we
namespace L2
open PySem PySem.Spec PyProof.Rows
theorem J6:∀{vs:List Value}{ns:List Int},IntsAre vs ns→Vals (ns.map V.int) vs
 |_,_,.nil=> .nil
 |_,_,.cons n t h=> .cons ⟨t,rfl⟩ (J6 h)
def fK (s:Stmt):Arguments:=match s with
 | .FunctionDef _ a _ _ _ _ _ _ _ _=>a
 |_=> {posonlyargs:=[],args:=[],vararg:=none,kwonlyargs:=[],kw_defaults:=[],kwarg:=none,defaults:=[]}
def eO (s:Stmt):List Stmt:=match s with
 | .FunctionDef _ _ b _ _ _ _ _ _ _=>b
 |_=> []
def aG (s:Stmt):Scope:=match s with
 | .FunctionDef _ _ _ _ _ _ sc _ _ _=>sc
 |_=> {kind:=.function,names:=[],isGenerator:=false,isCoroutine:=false}
abbrev aP:hJ:=fun _ _ _ _ _ _=>False
abbrev E0:XK:=fun _ _ _=>False
theorem yB {X:Cx} :Passes aP X E0:=fun _ _ _ _ _ _ _ h=>h.elim
structure aT (K:PySem.W.Frag) (x qual:Str) (st:Stmt) (f:Addr) (fd:FuncData):Prop where
 ex:∃(oc:Value) (od:Option Addr) (kV doc pm:Value) (an:Option Addr) (au ct:Value) (fb:Array (Option Value)),
  fd=PySem.W.fnOf x qual (fK st) (eO st) (aG st) .none kV doc pm an au ct∧K.lookup f=some ⟨oc,od,.func fd,fb⟩∧PySem.W.codeIn K au qual=true
 kp:PySem.W.keepIn K (.ref f)=true
section
variable {P:Program}{w:World}{K:PySem.W.Frag}{mg:Str→Option Value}{base:Heap}
theorem aT.ok {x qual:Str}{st:Stmt}{f:Addr}{fd:FuncData}{N ps:List Str}{k:Nat}{sp:Sp}(F:aT K x qual st f fd) (S:bf N ps (aG st)) (len:∀vs H Q E,sp vs H Q E→vs.length=ps.length)
    (qe:∀(au:Value) (A:Around) (outer:List Env) (s:Shared) (H:Hp) (vs:List V) (Q:VK) (E:XK),cg k (A.deeper (envOfC qual (aG st) s.heap.objs.size f au))→sp vs H Q E→
      ∃t,dY (jV aP P w K mg base N qual (aG st) f au A outer s H E).l0 (eO st) t∧t {nx:=fun _ H'=>Q .ai H',rt:=Q} (start N vs) H):aL P w K mg base aP (k+1) f fd ps sp:=by
  obtain⟨oc,od,kV,doc,pm,an,au,ct,fb,rfl,lk,eK⟩:=F.ex
  refine CF lk eK S len fun A outer s H vs Q E hr il=> ?_
  obtain⟨t,h,q⟩:=qe au A outer s H vs Q E hr il
  exact⟨t,h.l0,q⟩
theorem aT.binds {x qual:Str}{st:Stmt}{f:Addr}{fd:FuncData}{ps:List Str}(F:aT K x qual st f fd)
  (h:∀(kV doc pm:Value) (an:Option Addr) (au ct:Value) (us:List Value),us.length=ps.length→bindArgs (PySem.W.fnOf x qual (fK st) (eO st) (aG st) .none kV doc pm an au ct) ⟨us,[]⟩=pure (ps.zip us)):Binds K fd ps []:=by
 obtain⟨oc,od,kV,doc,pm,an,au,ct,fb,rfl,lk,eK⟩:=F.ex
 exact .all (h kV doc pm an au ct)
theorem Cj {x qual:Str}{st:Stmt}{f:Addr}{oc:Value}{od an:Option Addr}{fb:Array (Option Value)}{kV doc pm au ct:Value}(l:K.lookup f=some ⟨oc,od,.func (PySem.W.fnOf x qual (fK st) (eO st) (aG st) .none kV doc pm an au ct),fb⟩)
  (c:PySem.W.codeIn K au qual=true) (k:PySem.W.keepIn K (.ref f)=true):aT K x qual st f (PySem.W.fnOf x qual (fK st) (eO st) (aG st) .none kV doc pm an au ct):=⟨⟨oc,od,kV,doc,pm,an,au,ct,fb,rfl,l,c⟩,k⟩
end
theorem W9 {A:Around}{k:Nat}(hr:cg k A):A.units+1<cLine:=Nat.lt_of_le_of_lt (Nat.add_le_add_left (by decide:1≤64) _) hr.units
section
variable {X:Cx}
theorem pv (i:Nat) {x:Str}{pos:Pos}(hN:X.N[i]? =some x:=by rfl) (hv:mU X.env.scope x:=by first |exact Or.inl rfl |exact Or.inr (Or.inl rfl) |exact Or.inr (Or.inr rfl)) (hd:(x==("__debug__" :Str))=false:=by decide)
  (eK:(x==("__classdict__" :Str))=false:=by decide):PE X (.Name x pos) (hW i):=CC hN hv hd eK
end
theorem aO {A B:Prop}(h:B):if false=true then A else B:=by
 rw[if_neg Bool.false_ne_true]
 exact h
theorem bD {A B:Prop}(h:A):if true=true then A else B:=by
 rw[if_pos rfl]
 exact h
theorem pD {c A B:Prop} [Decidable c] (h1:c→A) (h2:¬c→B):if c then A else B:=by
 by_cases h:c
 ·rw[if_pos h]
  exact h1 h
 ·rw[if_neg h]
  exact h2 h
def ab (H H':Hp):Prop:=∀b o,H b=some o→H' b=some o
theorem ab.refl (H:Hp):ab H H:=fun _ _ h=>h
theorem ab.trans {H H1 H2:Hp}(a:ab H H1) (b:ab H1 H2):ab H H2:=fun c o h=>b c o (a c o h)
theorem ab.free {H H':Hp}(e:ab H H') {l:Addr}(h:H' l=Option.none):H l=Option.none:=by
 cases q:H l with
 |none=>rfl
 |some o=>
  rw[e l o q]at h
  cases h
section
variable {κ:Type} [DecidableEq κ]
def bj (kvs:List (κ×V)) (k:κ):Option V:=(kvs.find? fun kv=>decide (kv.1=k)).map (·.2)
def putK (kvs:List (κ×V)) (k:κ) (v:V):List (κ×V):=
 if (kvs.any fun kv=>decide (kv.1=k))=true then kvs.map (fun kv=>if kv.1=k then (kv.1,v) else kv) else kvs++[(k,v)]
theorem ZI {p:κ×V}{r:List (κ×V)}{k:κ}(e:p.1=k):bj (p::r) k=some p.2:=by simp[bj,List.find?_cons,e]
theorem ZM {p:κ×V}{r:List (κ×V)}{k:κ}(e:¬p.1=k):bj (p::r) k=bj r k:=by simp[bj,List.find?_cons,e]
theorem Z8 (k:κ):∀kvs:List (κ×V),(kvs.any fun kv=>decide (kv.1=k))=(bj kvs k).isSome
 | []=>rfl
 |p::r=>by
  rw[List.any_cons]
  by_cases e:p.1=k
  ·simp only[ZI e,decide_eq_true e,Bool.true_or,Option.isSome_some]
  ·rw[ZM e,decide_eq_false e,Bool.false_or];exact Z8 k r
theorem WS (k j:κ) (y:V):∀kvs:List (κ×V),bj (kvs.map fun kv=>if kv.1=k then (kv.1,y) else kv) j=(bj kvs j).map fun x=>if j=k then y else x
 | []=>rfl
 |p::r=>by
  have ih:=WS k j y r
  rw[List.map_cons]
  by_cases h:p.1=k
  ·rw[if_pos h]
   by_cases e:p.1=j
   ·rw[ZI (p:=(p.1,y)) e,ZI e,Option.map_some,if_pos (e.symm.trans h)]
   ·rw[ZM (p:=(p.1,y)) e,ZM e,ih]
  ·rw[if_neg h]
   by_cases e:p.1=j
   ·rw[ZI (p:=p) e,ZI e,Option.map_some,if_neg (fun z=>h (e.trans z))]
   ·rw[ZM (p:=p) e,ZM e,ih]
theorem J7 (k j:κ) (y:V):∀kvs:List (κ×V),bj kvs k=none→bj (kvs++[(k,y)]) j=if j=k then some y else bj kvs j
 | [],_=>by
  by_cases e:k=j
  ·rw[if_pos e.symm];exact ZI (p:=(k,y)) e
  ·rw[if_neg (fun z=>e z.symm)];exact ZM (p:=(k,y)) e
 |p::r,hn=>by
  rw[List.cons_append]
  have hk:¬p.1=k:=fun z=>by rw[ZI z]at hn;cases hn
  rw[ZM hk]at hn
  have ih:=J7 k j y r hn
  by_cases e:p.1=j
  ·rw[ZI e,ZI e,if_neg (fun z=>hk (e.trans z))]
  ·rw[ZM e,ZM e,ih]
theorem D0 (kvs:List (κ×V)) (k j:κ) (y:V):bj (putK kvs k y) j=if j=k then some y else bj kvs j:=by
 unfold putK
 by_cases a:(kvs.any fun kv=>decide (kv.1=k))=true
 ·rw[if_pos a,WS]
  rw[Z8]at a
  by_cases e:j=k
  ·obtain⟨x,hx⟩:=Option.isSome_iff_exists.mp a
   rw[if_pos e,e,hx,Option.map_some,if_pos rfl]
  ·rw[if_neg e]
   cases bj kvs j with
   |none=>rfl
   |some x=>rw[Option.map_some,if_neg e]
 ·rw[if_neg a]
  refine J7 k j y kvs ?_
  rw[Z8]at a
  cases q:bj kvs k with
  |none=>rfl
  |some x=>rw[q]at a;exact(a rfl).elim
theorem Yt (kvs:List (κ×V)) (k:κ) (v:V):(putK kvs k v).length≤kvs.length+1:=by
 unfold putK
 split
 ·rw[List.length_map];omega
 ·rw[List.length_append,List.length_cons,List.length_nil];omega
theorem Er {kvs:List (κ×V)}{k:κ}(v:V) (h:bj kvs k=none):putK kvs k v=kvs++[(k,v)]:=by
 unfold putK
 rw[Z8,h]
 exact if_neg (by decide)
theorem g8.pE {o:Option V}{u:Option Value}(r:g8 o u):o.isSome=u.isSome:=by
 cases o with
 |none=>cases u with
  |none=>rfl
  |some _=>exact(show False from r).elim
 |some _=>cases u with
  |none=>exact(show False from r).elim
  |some _=>rfl
theorem g8.getD {o:Option V}{u:Option Value}{d:V}{d':Value}(r:g8 o u) (rd:RelV d d'):RelV (o.getD d) (u.getD d'):=by
 cases o with
 |none=>cases u with
  |none=>exact rd
  |some _=>exact(show False from r).elim
 |some _=>cases u with
  |none=>exact(show False from r).elim
  |some _=>exact r
theorem KV.val {kvs:List (κ×V)}{vs:List (κ×Value)}(r:KV kvs vs) (k:κ):g8 (bj kvs k) (valueAt vs k):=by
 unfold KV at r
 induction r with
 |nil=>exact True.intro
 | @cons p q ps qs h t ih=>
  obtain⟨h1,h2⟩:=h
  by_cases e:p.1=k
  ·have e':q.1=k:=h1.symm.trans e
   have b:valueAt (q::qs) k=some q.2:=by simp[valueAt,List.find?_cons,e']
   rw[ZI e,b];exact h2
  ·have e':¬q.1=k:=fun z=>e (h1.trans z)
   have b:valueAt (q::qs) k=valueAt qs k:=by simp[valueAt,List.find?_cons,e']
   rw[ZM e,b];exact ih
theorem KV.any {kvs:List (κ×V)}{vs:List (κ×Value)}(r:KV kvs vs) (k:κ):(kvs.any fun kv=>decide (kv.1=k))=vs.any fun kv=>decide (kv.1=k):=by
 unfold KV at r
 induction r with
 |nil=>rfl
 |cons h t ih=>rw[List.any_cons,List.any_cons,ih,h.1]
theorem KV.oZ {kvs:List (κ×V)}{vs:List (κ×Value)}(r:KV kvs vs) (k:κ) {y:V}{u:Value}(ry:RelV y u):
  KV (kvs.map fun kv=>if kv.1=k then (kv.1,y) else kv) (vs.map fun kv=>if kv.1=k then (kv.1,u) else kv):=by
 unfold KV at r ⊢
 induction r with
 |nil=>exact .nil
 | @cons p q ps qs h t ih=>
  rw[List.map_cons,List.map_cons]
  refine .cons ?_ ih
  obtain⟨h1,h2⟩:=h
  by_cases e:p.1=k
  ·rw[if_pos e,if_pos (h1.symm.trans e)];exact⟨h1,ry⟩
  ·rw[if_neg e,if_neg (fun z=>e (h1.trans z))];exact⟨h1,h2⟩
theorem KV.put {kvs:List (κ×V)}{vs:List (κ×Value)}(r:KV kvs vs) (k:κ) {y:V}{u:Value}(ry:RelV y u):KV (putK kvs k y) (stored vs k u):=by
 unfold putK stored
 rw[r.any k]
 by_cases e:(vs.any fun kv=>decide (kv.1=k))=true
 ·rw[if_pos e,if_pos e];exact r.oZ k ry
 ·rw[if_neg e,if_neg e];exact Paired.snoc r ⟨rfl,ry⟩
theorem KV.length {kvs:List (κ×V)}{vs:List (κ×Value)}(r:KV kvs vs):kvs.length=vs.length:=Paired.length r
end
theorem U4 {P:Program}{w:World}{k:Key}{u:Value}(r:RelV (kV k) u):(cU P w).is k u=true:=by
 cases k with
 |inl i=>obtain⟨t,e⟩:=(show ∃t,u=Value.int i t from r);subst e;exact W5 P w i t
 |inr x=>obtain⟨t,e⟩:=(show ∃t,u=Value.str x t from r);subst e;exact W4 P w x t
theorem Wf {P:Program}{w:World} :∀{ks:List Key}{us:List Value},Vals (ks.map kV) us→ItemsAre (cU P w) ks us
 | [],_,r=>by rw[List.map_nil]at r;cases r;exact .nil
 |k::ks,_,r=>by
  rw[List.map_cons]at r
  cases r with
  |cons h t=>exact .cons (U4 h) (Wf t)
abbrev KT (H:Hp):List (List Key×V)→List (List Key×Addr×Value)→Prop:=Paired fun p q=>p.1=q.1∧H q.2.1=some (.tup (p.1.map kV))∧RelV p.2 q.2.2
theorem KT.val {H:Hp}{kvs:List (List Key×V)}{xs:List (List Key×Addr×Value)}(r:KT H kvs xs) (k:List Key):g8 (bj kvs k) ((atKey xs k).map (·.2)):=by
 induction r with
 |nil=>exact True.intro
 | @cons p q ps qs h t ih=>
  obtain⟨h1,_,h2⟩:=h
  by_cases e:p.1=k
  ·have e':q.1=k:=h1.symm.trans e
   have b:atKey (q::qs) k=some q.2:=by simp[atKey,List.find?_cons,e']
   rw[ZI e,b];exact h2
  ·have e':¬q.1=k:=fun z=>e (h1.trans z)
   have b:atKey (q::qs) k=atKey qs k:=by simp[atKey,List.find?_cons,e']
   rw[ZM e,b];exact ih
theorem KT.oZ {H:Hp}{kvs:List (List Key×V)}{xs:List (List Key×Addr×Value)}(r:KT H kvs xs) (k:List Key) {y:V}{u:Value}(ry:RelV y u):
  KT H (kvs.map fun kv=>if kv.1=k then (kv.1,y) else kv) (xs.map (putAt k u)):=by
 induction r with
 |nil=>exact .nil
 | @cons p q ps qs h t ih=>
  rw[List.map_cons,List.map_cons]
  refine .cons ?_ ih
  obtain⟨h1,h2,h3⟩:=h
  unfold putAt
  by_cases e:p.1=k
  ·rw[if_pos e,if_pos (h1.symm.trans e)];exact⟨h1,h2,ry⟩
  ·rw[if_neg e,if_neg (fun z=>e (h1.trans z))];exact⟨h1,h2,h3⟩
theorem KT.put {H:Hp}{kvs:List (List Key×V)}{xs:List (List Key×Addr×Value)}(r:KT H kvs xs) (k:List Key) {b:Addr}{y:V}{u:Value}(hb:H b=some (.tup (k.map kV))) (ry:RelV y u):
  KT H (putK kvs k y) (storedH xs k b u):=by
 have e:(kvs.any fun kv=>decide (kv.1=k))=(atKey xs k).isSome:=by
  rw[Z8,(r.val k).pE,Option.isSome_map]
 unfold putK storedH
 rw[e]
 by_cases q:(atKey xs k).isSome=true
 ·rw[if_pos q,if_pos q];exact r.oZ k ry
 ·rw[if_neg q,if_neg q];exact Paired.snoc r ⟨rfl,hb,ry⟩
theorem KT.keeps {H H':Hp}{kvs:List (List Key×V)}{xs:List (List Key×Addr×Value)}(r:KT H kvs xs) (ht:∀b ys,H b=some (.tup ys)→H' b=some (.tup ys)):KT H' kvs xs:=
 Paired.bO r fun _ _ z=> ⟨z.1,ht _ _ z.2.1,z.2.2⟩
section
variable {P:Program}{w:World}{H:Hp}{h:Heap}{a:Addr}
theorem u5 {u:HO}(ok:bh P w H h) (e:Rd H a u):aI P w H h a u:=e.ok ok
theorem mT {kvs:List (Key×V)}(ok:bh P w H h) (e:Rd H a (.dK kvs)):kvs.length≤sizeLine∧(a==sysModules)=false∧∃vs,KV kvs vs∧h.DictOf (cU P w) a vs:=
 show aI P w H h a (.dK kvs) from u5 ok e
theorem BF {kvs:List (Key×V)}(ok:bh P w H h) (e:H a=some (.dK kvs)):kvs.length≤sizeLine∧(a==sysModules)=false∧∃vs,KV kvs vs∧h.DictOf (cU P w) a vs:=mT ok (.inl e)
theorem WF {ks:List Key}(ok:bh P w H h) (e:H a=some (.tup (ks.map kV))):(tupleKind (cU P w)).is h ks a:=by
 obtain⟨_,its,r,⟨o,h1,h2,n,h3⟩,_⟩:=(show aI P w H h a (.tup (ks.map kV)) from ok a _ e)
 exact⟨o,its.toArray,n,h1,h2,h3,by simpa using Wf r⟩
theorem U9 {kvs:List (List Key×V)}(ok:bh P w H h) (e:Rd H a (.dT kvs)):kvs.length≤sizeLine∧(a==sysModules)=false∧
  ∃xs,KT H kvs xs∧h.DictOfH (tupleKind (cU P w)) a xs:=by
 obtain⟨z,y,xs,r,o,es,ep,h1,h2,h3,h4,h5⟩:=(show aI P w H h a (.dT kvs) from u5 ok e)
 refine⟨z,y,xs,r,o,es,ep,h1,h2,h3,h4,fun x hx=> ?_,h5⟩
 have all:∀{l:List (List Key×V)}{m:List (List Key×Addr×Value)},KT H l m→∀x∈m,(tupleKind (cU P w)).is h x.1 x.2.1:=by
  intro l m q
  induction q with
  |nil=>intro x hx;exact nomatch hx
  | @cons p q ps qs hq t ih=>
   intro x hx
   rcases List.mem_cons.mp hx with e |hx
   ·subst e
    exact WF ok (by rw[←hq.1];exact hq.2.1)
   ·exact ih x hx
 exact all r x hx
theorem CD {kvs:List (List Key×V)}(ok:bh P w H h) (e:H a=some (.dT kvs)):kvs.length≤sizeLine∧(a==sysModules)=false∧
  ∃xs,KT H kvs xs∧h.DictOfH (tupleKind (cU P w)) a xs:=U9 ok (.inl e)
end
def hG (H:Hp) (a:Addr) (y:V) (r:Option V):Prop:=
 (∃kvs k,Rd H a (.dK kvs)∧y=kV k∧r=bj kvs k)∨∃kvs k b,Rd H a (.dT kvs)∧y=.ref b∧H b=some (.tup (k.map kV))∧r=bj kvs k
def jZ (H:Hp) (a:Addr) (y v:V) (H':Hp):Prop:=
 (∃kvs k,H a=some (.dK kvs)∧y=kV k∧kvs.length<sizeLine∧H'=upd H a (.dK (putK kvs k v)))∨
 ∃kvs k b,H a=some (.dT kvs)∧y=.ref b∧H b=some (.tup (k.map kV))∧kvs.length<sizeLine∧H'=upd H a (.dT (putK kvs k v))
theorem hG.t {H:Hp}{a b:Addr}{kvs:List (List Key×V)}{k:List Key}(e:H a=some (.dT kvs)) (eb:H b=some (.tup (k.map kV))):hG H a (.ref b) (bj kvs k):=.inr ⟨kvs,k,b,.inl e,rfl,eb,rfl⟩
theorem jZ.t {H:Hp}{a b:Addr}{kvs:List (List Key×V)}{k:List Key}{v:V}(e:H a=some (.dT kvs)) (eb:H b=some (.tup (k.map kV))) (hl:kvs.length<sizeLine):
  jZ H a (.ref b) v (upd H a (.dT (putK kvs k v))):=.inr ⟨kvs,k,b,e,rfl,eb,hl,rfl⟩
section
variable {X:Cx}{pins:List (Addr×Obj)}{σ:St}{H:Hp}{s:Shared}{a:Addr}{y v:V}{u r:Value}{o:Option V}{A:Around}{E:Value→Shared→Prop}
theorem Inv.big (I:Inv X pins σ H s):sysModules<s.heap.objs.size:=by
 have h:mainGlobals<s.heap.objs.size:=(I.mod.glob.keeps I.bk).lt
 exact Nat.lt_trans (by decide) h
theorem Bb {Q:Value→Shared→Prop}(hu:A.units+1<cLine) (I:Inv X pins σ H s) (g:hG H a y o) (ry:RelV y u) (h:∀s',Inv X pins σ H s'→Q (.bool o.isSome) s'):
  wpAny (model X.prog X.w) A (compareOp .In u (.ref a)) Q E s:=by
 rcases g with ⟨kvs,k,e,ey,l⟩ |⟨kvs,k,b,e,ey,eb,l⟩
 ·subst ey
  obtain⟨z,hd,vs,rel,dd⟩:=mT I.af e
  refine wpAny_in_of (U4 ry) hd dd.mapOf ?_
  rw[←(rel.val k).pE,←l]
  exact h _ (I.tok _)
 ·subst ey
  cases (show u=Value.ref b from ry)
  obtain⟨z,hd,xs,rel,dd⟩:=U9 I.af e
  refine wpAny_in_heap (tupleKind_room_in1 hu) (WF I.af eb) hd dd ?_
  have q:=(rel.val k).pE
  rw[Option.isSome_map]at q
  rw[←q,←l]
  exact h _ (I.tok _)
theorem vB {h':Heap}{t':Nat}{ob:HO}(I:Inv X pins σ H s) (mu:lj (H a)) (hs:Heap.SameBut a s.heap h') (he:∃q,h'.get? a=some q) (new:aI X.prog X.w (upd H a ob) h' a ob):
  Inv X pins σ (upd H a ob) {s with heap:=h',toks:=t'} :=
 I.write (x:=a) (e:=a) mu (.inl rfl) (fun b q hb z=> (hs.2 b hb).trans z) he new
theorem Cg {P:Program}{w:World}{H':Hp}{h':Heap}{kvs:List (Key×V)}{vs:List (Key×Value)}(z:kvs.length≤sizeLine) (hd:(a==sysModules)=false) (rel:KV kvs vs) (dd:h'.DictOf (cU P w) a vs):
  aI P w H' h' a (.dK kvs):=⟨z,hd,vs,rel,dd⟩
theorem Ea {H':Hp}{Q:Unit→Shared→Prop}(hu:A.units+1<cLine) (I:Inv X pins σ H s) (g:jZ H a y v H') (ry:RelV y u) (rv:RelV v r) (h:∀s',Inv X pins σ H' s'→Q () s'):
  wpAny (model X.prog X.w) A (setItem (.ref a) u r) Q E s:=by
 rcases g with ⟨kvs,k,e,ey,l,eH⟩ |⟨kvs,k,b,e,ey,eb,l,eH⟩
 ·subst ey eH
  obtain⟨z,hd,vs,rel,dd⟩:=BF I.af e
  have hz:vs.length≤sizeLine:=by rw[←rel.length];exact z
  have hl:(putK kvs k v).length≤sizeLine:=by have:=Yt kvs k v;omega
  refine wpAny_setItem_pairs (hsz:=hz) (U4 ry) dd fun h' mO hs=>h _ ?_
  have he:∃q,h'.get? a=some q:=let ⟨q,_,_,hq,_⟩:=mO;⟨q,hq⟩
  exact vB I (by rw[e];exact True.intro) hs he (Cg hl hd (rel.put k rv) mO)
 ·subst ey eH
  cases (show u=Value.ref b from ry)
  obtain⟨z,hd,xs,rel,dd⟩:=CD I.af e
  have hz:xs.length≤sizeLine:=by rw[←Paired.length rel];exact z
  have hl:(putK kvs k v).length≤sizeLine:=by have:=Yt kvs k v;omega
  refine wpAny_setItem_heap (hsz:=hz) (tupleKind_room_in1 hu) (WF I.af eb) dd fun h' mO hs=>h _ ?_
  obtain⟨q,es,ep,hq,h2,h3,h4,_,h5⟩:=mO
  refine vB I (by rw[e];exact True.intro) hs ⟨q,hq⟩ ⟨hl,hd,_,(rel.put k eb rv).keeps fun c ys ec=> ?_,q,es,ep,hq,h2,h3,h4,h5⟩
  rw[Zf (Yc ec e (fun z=>nomatch z))]
  exact ec
end
def xh (ty td:TE):TE:=fun σ H Q=>ty σ H fun y H1=>td σ H1 fun x H2=> ∃a o,x=.ref a∧hG H2 a y o∧Q (.bl o.isSome) H2
def xZ (td ty tv:TE):TS:=fun D σ H=>tv σ H fun v H1=>td σ H1 fun x H2=>ty σ H2 fun y H3=> ∃a H4,x=.ref a∧jZ H3 a y v H4∧D.nx σ H4
section
variable {X:Cx}{o i e value:Expr}{pos pos' Fi:Pos}{td ty tv:TE}
theorem Cw (hu:X.A.units+1<cLine) (hi:PE X i ty) (ho:PE X o td):PC X .In i o (xh ty td):=by
 intro pins s σ H Q I h
 refine ao (hi pins s σ H _ I h) fun iv s1 ⟨y,H1,I1,ry,q1⟩=>ao (ho pins s1 σ H1 _ I1 q1) fun u s2 ⟨x,H2,I2,rx,a,ov,ex,g,q2⟩=> ?_
 subst ex
 obtain rfl:u=Value.ref a:=rx
 exact Bb hu I2 g ry fun s3 I3=> ⟨.bl ov.isSome,H2,I3,rfl,q2⟩
theorem UX (hu:X.A.units+1<cLine) (ho:PE X o td) (hi:PE X i ty) (hv:PE X value tv) (hs:swapsWith value (some (.Subscript o i pos')) pos.line X.env=pure false):
  PS X (.Assign [.Subscript o i pos'] value pos) (xZ td ty tv):=by
 intro pins s σ H D I h
 refine wpAny_Assign_Subscript (ao (hv pins s σ H _ I h) fun r s1 ⟨v,H1,I1,rv,q1⟩=>ao (ho pins s1 σ H1 _ I1 q1) fun u s2 ⟨x,H2,I2,rx,q2⟩=>ao (hi pins s2 σ H2 _ I2 q2) fun iv s3 ⟨y,H3,I3,ry,a,H4,ex,g,q3⟩=> ?_) hs
 subst ex
 obtain rfl:u=Value.ref a:=rx
 exact Ea hu I3 g ry rv fun s4 I4=> ⟨σ,H4,I4,q3⟩
end
theorem Dk {P:Program}{w:World}{H:Hp}(h:Heap) (hb:sysModules<h.objs.size):aI P w H (h.push {cls:=.type "dict",data:=.dict #[]}) h.objs.size (.dT []):=
 ⟨Nat.zero_le _,beq_eq_false_iff_ne.mpr (Ne.symm (Nat.ne_of_lt hb)),[],.nil,_, #[],0,Heap.get?_push_size _ rfl,⟨rfl,rfl,rfl⟩,rfl,rfl,List.nodup_nil⟩
def xg:TE:=fun _ H Q=> ∀p,H p=none→Q (.ref p) (upd H p (.dT []))
section
variable {X:Cx}{pos:Pos}
theorem WY:PE X (.Dict [] [] pos) xg:=fun pins s σ H Q I h=>
 wpAny_Dict_empty ⟨.ref s.heap.objs.size,_,I.laid (a:=s.heap.objs.size) (o:=.dT []) (t':=s.toks) (fun _ _ q=>Heap.get?_push_of_some _ q) (Nat.le_refl _) (Dk s.heap I.big),rfl,h _ (I.af.fresh (Nat.le_refl _))⟩
end
structure M1 (X:Cx) (o:Expr) (m:Str) (apos:Pos) (e:Expr) (bI:Pos):Prop where
 base:attributeBase o m X.env (eval o X.env)=eval o X.env
 uG:((backTo bI (starEach [e] X.env)).all (fun x=> !x.1)&&(backToKw bI (keywordEach [] X.env)).all (fun x=>x.1.isSome)
  &&decide (([e]:List Expr).length+([]:List Keyword).length+(if ([]:List Keyword).isEmpty then 0 else 1)<30))=true
 line:(apos.endLine==bI.line)=true
 trees:backTo bI (starEach [e] X.env)=[(false,eval e X.env)]
structure M2 (X:Cx) (o:Expr) (m:Str) (apos:Pos) (e f:Expr) (bI:Pos):Prop where
 base:attributeBase o m X.env (eval o X.env)=eval o X.env
 uG:((backTo bI (starEach [e,f] X.env)).all (fun x=> !x.1)&&(backToKw bI (keywordEach [] X.env)).all (fun x=>x.1.isSome)
  &&decide (([e,f]:List Expr).length+([]:List Keyword).length+(if ([]:List Keyword).isEmpty then 0 else 1)<30))=true
 line:(apos.endLine==bI.line)=true
 trees:backTo bI (starEach [e,f] X.env)=[(false,eval e X.env),(false,eval f X.env)]
def vO (H:Hp) (a:Addr):Prop:=(∃kvs,Rd H a (.dK kvs))∨∃kvs,Rd H a (.dT kvs)
theorem Ck {X:Cx}{pins:List (Addr×Obj)}{σ:St}{H:Hp}{s:Shared}{a:Addr}(I:Inv X pins σ H s) (d:vO H a):
  s.TypeIs (.ref a) "dict" ∧(∀b,Value.ref a=.ref b→∃ob,s.heap.get? b=some ob∧ob.dict=none)∧(a==sysModules)=false:=by
 rcases d with ⟨kvs,e⟩ |⟨kvs,e⟩
 ·obtain⟨_,hd,vs,_,dd⟩:=mT I.af e
  refine⟨dd.typeIs,fun b q=> ?_,hd⟩
  cases q
  obtain⟨ob,_,_,h1,h2,_⟩:=dd
  exact⟨ob,h1,h2.2.1⟩
 ·obtain⟨_,hd,xs,_,dd⟩:=U9 I.af e
  refine⟨dd.typeIs,fun b q=> ?_,hd⟩
  cases q
  obtain⟨ob,_,_,h1,h2,_⟩:=dd
  exact⟨ob,h1,h2.2.1⟩
section
variable {X:Cx}{pins:List (Addr×Obj)}{σ:St}{H:Hp}{s:Shared}{a:Addr}{y d:V}{u r:Value}{o:Option V}{A:Around}{E:Value→Shared→Prop}
theorem Cf {Q:Value→Shared→Prop}(hu:A.units+1<cLine) (I:Inv X pins σ H s) (g:hG H a y o) (ry:RelV y u) (rd:RelV d r) (h:∀w' s',Inv X pins σ H s'→RelV (o.getD d) w'→Q w' s'):
  wpAny (model X.prog X.w) A (call (.builtin "dict.get") [.ref a,u,r]) Q E s:=by
 rcases g with ⟨kvs,k,e,ey,l⟩ |⟨kvs,k,b,e,ey,eb,l⟩
 ·subst ey
  obtain⟨z,hd,vs,rel,dd⟩:=mT I.af e
  refine call_meetsIn PySem.F.slot_dict_get dd.typeIs PySem.F.entry_dict_get (PySem.F.args_dict_get_3 _ _ _) (meets_dict_get_default (cU X.prog X.w) a (U4 ry) hd r) ⟨_,dd.mapOf,h _ _ (I.tok _) ?_⟩
  rw[l]
  exact(rel.val k).getD rd
 ·subst ey
  cases (show u=Value.ref b from ry)
  obtain⟨z,hd,xs,rel,dd⟩:=U9 I.af e
  refine call_meetsIn PySem.F.slot_dict_get dd.typeIs PySem.F.entry_dict_get (PySem.F.args_dict_get_3 _ _ _) (meetsH_dict_get_default (tupleKind (cU X.prog X.w)) a b hd r) ⟨tupleKind_room_in1 hu,k,xs,WF I.af eb,dd,h _ _ (I.tok _) ?_⟩
  rw[l]
  exact(rel.val k).getD rd
end
def xk (td ty tx:TE):TE:=fun σ H Q=>td σ H fun x H1=> ∃a,x=.ref a∧vO H1 a∧ty σ H1 fun y H2=>tx σ H2 fun z H3=> ∃o,hG H3 a y o∧Q (o.getD z) H3
section
variable {X:Cx}{o e f:Expr}{apos bI:Pos}{td ty tx:TE}
theorem WZ (hu:X.A.units+1<cLine) (ho:PE X o td) (he:PE X e ty) (hf:PE X f tx) (m:M2 X o "get" apos e f bI):PE X (.Call (.Attribute o "get" apos) [e,f] [] bI) (xk td ty tx):=by
 intro pins s σ H Q I h
 refine wpAny_Call_method m.base m.uG m.line PySem.F.plainAttrs_dict PySem.F.slot_dict_get PySem.F.type_dict_get (ao (ho pins s σ H _ I h) fun u s1 ⟨x,H1,I1,rx,a,ex,d,q1⟩=> ?_)
 subst ex
 obtain rfl:u=Value.ref a:=rx
 obtain⟨t1,t2,_⟩:=Ck I1 d
 refine⟨t1,t2,?_⟩
 rw[m.trees]
 refine Calls.callWith_builtin rfl (Calls.evalArgs_plain (Calls.spliced_cons (ao (he pins s1 σ H1 _ I1 q1) fun iv s2 ⟨y,H2,I2,ry,q2⟩=>
  Calls.spliced_cons (ao (hf pins s2 σ H2 _ I2 q2) fun fv s3 ⟨z,H3,I3,rz,ov,g,q3⟩=>Calls.spliced_nil ?_))))
 exact Cf hu I3 g ry rz fun w' s4 I4 eX=> ⟨_,H3,I4,eX,q3⟩
end
section
variable {κ:Type} [DecidableEq κ]
theorem DZ {kvs:List (κ×V)}{k:κ}(h:bj kvs k=none):¬k∈kvs.map (·.1):=by
 intro m
 obtain⟨p,hp,e⟩:=List.mem_map.mp m
 have q:(kvs.any fun kv=>decide (kv.1=k))=true:=List.any_eq_true.mpr ⟨p,hp,decide_eq_true e⟩
 rw[Z8,h]at q
 exact absurd q (by simp)
theorem Df {kvs:List (κ×V)}{k:κ}{v:V}(h:bj kvs k=some v):k∈kvs.map (·.1):=by
 have q:(kvs.any fun kv=>decide (kv.1=k))=true:=by
  rw[Z8,h]
  all_goals rfl
 obtain⟨p,hp,e⟩:=List.any_eq_true.mp q
 exact List.mem_map.mpr ⟨p,hp,of_decide_eq_true e⟩
theorem WC:∀{l:List κ}{k:κ},l.Nodup→¬k∈l→(l++[k]).Nodup
 | [],k,_,_=>by simp
 |a::r,k,h,hk=>by
  obtain⟨h1,h2⟩:=List.nodup_cons.mp h
  show(a::(r++[k])).Nodup
  refine List.nodup_cons.mpr ⟨fun m=> ?_,WC h2 fun m=>hk (List.mem_cons.mpr (Or.inr m))⟩
  rcases List.mem_append.mp m with q |q
  ·exact h1 q
  ·exact hk (List.mem_cons.mpr (Or.inl (List.mem_singleton.mp q).symm))
end
def gX (scope:Scope) (env:Env):List (Str×Addr):=scope.names.foldl (fun cs y=>if y.2==.free then (y.1,(env.cells.lookup y.1).getD 0)::cs else cs) []
theorem YH {scope:Scope}{env:Env}(h:∀y∈scope.names,y.2=.free→∃c,env.cells.lookup y.1=some c):closureFor scope env=pure (gX scope env):=by
 unfold closureFor gX
 have key:∀(l:List (Str×NameKind)) (cs:List (Str×Addr)),(∀y∈l,y.2=.free→∃c,env.cells.lookup y.1=some c)→
   (forIn l cs (fun x r=>match x with |(name,kind)=>if (kind==NameKind.free)=true then do let c ←cellOf env name;pure (ForInStep.yield ((name,c)::r)) else pure (ForInStep.yield r)):Sem (List (Str×Addr)))
    =pure (l.foldl (fun cs y=>if y.2==.free then (y.1,(env.cells.lookup y.1).getD 0)::cs else cs) cs):=by
  intro l
  induction l with
  |nil=>intro cs _;rfl
  |cons y l ih=>
   intro cs hl
   obtain⟨n,k⟩:=y
   rw[List.forIn_cons,List.foldl_cons]
   by_cases hk:k=.free
   ·subst hk
    obtain⟨c,hc⟩:=hl (n,.free) List.mem_cons_self rfl
    have bG:env.cells.lookup n=some c:=hc
    have e1:cellOf env n=pure c:=by unfold cellOf;rw[bG]
    simp only[beq_self_eq_true,if_true,e1,bG,Option.getD_some,pure_bind]
    exact ih _ fun y hy=>hl y (List.mem_cons_of_mem _ hy)
   ·have hb:(k==NameKind.free)=false:=by simpa using hk
    simp only[hb,Bool.false_eq_true,if_false,pure_bind]
    exact ih _ fun y hy=>hl y (List.mem_cons_of_mem _ hy)
 simp only[key scope.names [] h,pure_bind]
 all_goals rfl
theorem Uh {scope:Scope}{env:Env}{x:Str}{c:Addr}(h:(gX scope env).lookup x=some c):c=(env.cells.lookup x).getD 0∧(x,NameKind.free)∈scope.names:=by
 unfold gX at h
 have key:∀(l:List (Str×NameKind)) (cs:List (Str×Addr)),(l.foldl (fun cs y=>if y.2==.free then (y.1,(env.cells.lookup y.1).getD 0)::cs else cs) cs).lookup x=some c→
   (c=(env.cells.lookup x).getD 0∧(x,NameKind.free)∈l)∨cs.lookup x=some c:=by
  intro l
  induction l with
  |nil=>intro cs h;exact .inr h
  |cons y l ih=>
   intro cs h
   obtain⟨n,k⟩:=y
   rw[List.foldl_cons]at h
   rcases ih _ h with ⟨h1,h2⟩ |h'
   ·exact .inl ⟨h1,List.mem_cons_of_mem _ h2⟩
   ·by_cases hk:k=.free
    ·subst hk
     simp only[beq_self_eq_true,if_true]at h'
     rw[List.lookup_cons]at h'
     cases hx:x==n with
     |true=>
      rw[hx]at h'
      have e:x=n:=by simpa using hx
      subst e
      have e':(env.cells.lookup x).getD 0=c:=Option.some.inj h'
      exact .inl ⟨e'.symm,List.mem_cons_self⟩
     |false=>rw[hx]at h';exact .inr h'
    ·have hb:(k==NameKind.free)=false:=by simpa using hk
     simp only[hb,Bool.false_eq_true,if_false]at h'
     exact .inr h'
 rcases key _ _ h with h |h
 ·exact h
 ·simp at h
theorem Ui {scope:Scope}{env:Env}{x:Str}(h:(x,NameKind.free)∈scope.names):∃c,(gX scope env).lookup x=some c:=by
 unfold gX
 have key:∀(l:List (Str×NameKind)) (cs:List (Str×Addr)),((x,NameKind.free)∈l∨∃c,cs.lookup x=some c)→∃c,(l.foldl (fun cs y=>if y.2==.free then (y.1,(env.cells.lookup y.1).getD 0)::cs else cs) cs).lookup x=some c:=by
  intro l
  induction l with
  |nil=>
   intro cs h
   rcases h with h |h
   ·simp at h
   ·exact h
  |cons y l ih=>
   intro cs h
   obtain⟨n,k⟩:=y
   rw[List.foldl_cons]
   refine ih _ ?_
   by_cases hk:k=.free
   ·subst hk
    simp only[beq_self_eq_true,if_true]
    rw[List.lookup_cons]
    cases hx:x==n with
    |true=>exact .inr ⟨_,rfl⟩
    |false=>
     rcases h with h |h
     ·rcases List.mem_cons.mp h with e |h
      ·have e1:x=n:=congrArg Prod.fst e
       simp[e1]at hx
      ·exact .inl h
     ·exact .inr h
   ·have hb:(k==NameKind.free)=false:=by simpa using hk
    simp only[hb,Bool.false_eq_true,if_false]
    rcases h with h |h
    ·rcases List.mem_cons.mp h with e |h
     ·exact absurd (congrArg Prod.snd e).symm hk
     ·exact .inl h
    ·exact .inr h
 exact key _ _ (.inl h)
def rl (env:Env) (y:Str×NameKind):Str×NameKind:=if (y.2==NameKind.free&&env.scope.kind==.function&&env.kindOf y.1==some .cell) then (y.1,NameKind.cell) else y
theorem vH (env:Env) (y:Str×NameKind):(rl env y).1=y.1:=by unfold rl;split<;>rfl
theorem DD {env:Env}{y:Str×NameKind}(h:y.2=.free):(rl env y).2=.cell∨(rl env y).2=.free:=by
 unfold rl;split
 ·exact .inl rfl
 ·exact .inr h
theorem BH {env:Env}{y:Str×NameKind}(h:y.2≠.free):rl env y=y:=by
 have hb:(y.2==NameKind.free)=false:=by simpa using h
 unfold rl;rw[hb];simp
theorem YF (scope:Scope) (env:Env):(relabel scope env).names=scope.names.map (rl env):=rfl
theorem Wt {scope:Scope}{env:Env}{x:Str}(hc:∀y∈scope.names,y.2≠.cell) (h:(relabel scope env).names.lookup x=some .cell∨(relabel scope env).names.lookup x=some .free):(x,NameKind.free)∈scope.names:=by
 rw[YF]at h
 have key:∀(l:List (Str×NameKind)),(∀y∈l,y.2≠.cell)→(∃k,(k=NameKind.cell∨k=.free)∧(l.map (rl env)).lookup x=some k)→(x,NameKind.free)∈l:=by
  intro l
  induction l with
  |nil=>rintro _ ⟨k,_,h⟩;simp at h
  |cons y l ih=>
   rintro hl ⟨k',bo,h⟩
   obtain⟨n,k⟩:=y
   have e1:(rl env (n,k))=(n,(rl env (n,k)).2):=Prod.ext (vH env _) rfl
   rw[List.map_cons,e1,List.lookup_cons]at h
   cases hx:x==n with
   |true=>
    have e:x=n:=by simpa using hx
    subst e
    by_cases hk:k=.free
    ·subst hk;exact List.mem_cons_self
    ·rw[hx]at h
     rw[BH (env:=env) (y:=(x,k)) hk]at h
     have e:k=k':=Option.some.inj h
     subst e
     rcases bo with z |z
     ·exact absurd z (hl _ List.mem_cons_self)
     ·exact absurd z hk
   |false=>
    rw[hx]at h
    exact List.mem_cons_of_mem _ (ih (fun y hy=>hl y (List.mem_cons_of_mem _ hy)) ⟨k',bo,h⟩)
 refine key _ hc ?_
 rcases h with h |h
 ·exact⟨_,.inl rfl,h⟩
 ·exact⟨_,.inr rfl,h⟩
theorem YE {scope:Scope}{env:Env}{x:Str}(h:scope.names.lookup x=some .free):(relabel scope env).names.lookup x=some .cell∨(relabel scope env).names.lookup x=some .free:=by
 rw[YF]
 have key:∀(l:List (Str×NameKind)),l.lookup x=some .free→(l.map (rl env)).lookup x=some .cell∨(l.map (rl env)).lookup x=some .free:=by
  intro l
  induction l with
  |nil=>intro h;simp at h
  |cons y l ih=>
   intro h
   obtain⟨n,k⟩:=y
   have e1:(rl env (n,k))=(n,(rl env (n,k)).2):=Prod.ext (vH env _) rfl
   rw[List.map_cons,e1,List.lookup_cons]
   rw[List.lookup_cons]at h
   cases hx:x==n with
   |true=>
    rw[hx]at h
    have e:k=.free:=Option.some.inj h
    rcases DD (env:=env) (y:=(n,k)) e with z |z
    ·exact .inl (congrArg some z)
    ·exact .inr (congrArg some z)
   |false=>rw[hx]at h;exact ih h
 exact key _ h
def aV (X:Cx) (N':List Str) (scope:Scope) (C:Addr) (s2:Shared) (H2:Hp) (fp:List Addr):Cx:=
 {X with N:=N',bR:=s2,ll:=H2,env:=compEnvC scope (gX scope X.env) C X.env,outer:=X.stack,stack:=X.stack,ex:=fp,fn:=fun _=>false,pn:=[],xe:=fun _ _=>False}
def mP (so si:Scope) (N N':List Str) (ts:Nat) (br:List Nat):Bool:=
 decide (si.kind=.function)&&si.names.all (fun y=>y.2 !=.cell)&&si.names.all (fun y=>y.2 !=.local||si.names.lookup y.1==some .local)
 &&si.names.all (fun y=>y.2 !=.free||so.names.lookup y.1==some .cell||so.names.lookup y.1==some .free)
 &&decide N'.Nodup&&decide (N'.length=ts+br.length)
 &&(List.range br.length).all (fun k=> (N'[ts+k]? ==(br[k]?.bind fun j=>N[j]?))&&(N'[ts+k]?.isSome)&&(N'[ts+k]?.all fun x=>so.names.lookup x !=some .local&&si.names.lookup x==some .free))
def iC (ts:Nat) (br:List Nat) (σ:St):St:=List.replicate ts none++br.map fun j=> (σ[j]?).join
structure qT (X:Cx) (N':List Str) (ts:Nat) (br:List Nat) (scope:Scope):Prop where
 kind:scope.kind=.function
 iK:∀y∈scope.names,y.2≠.cell
 names:∀y∈scope.names,y.2=.local→scope.names.lookup y.1=some .local
 free:∀y∈scope.names,y.2=.free→X.env.kindOf y.1=some .cell∨X.env.kindOf y.1=some .free
 nd:N'.Nodup
 len:N'.length=ts+br.length
 Bx:∀k j,br[k]? =some j→∃x,N'[ts+k]? =some x∧X.N[j]? =some x∧X.env.kindOf x≠some .local∧scope.names.lookup x=some .free
theorem YK {x:Str}{k:NameKind} :∀{l:List (Str×NameKind)},l.lookup x=some k→(x,k)∈l
 | [],h=>by simp at h
 |(n,j)::l,h=>by
  rw[List.lookup_cons]at h
  cases hx:x==n with
  |true=>
   rw[hx]at h
   have e:x=n:=by simpa using hx
   have e':j=k:=Option.some.inj h
   subst e e'
   exact List.mem_cons_self
  |false=>rw[hx]at h;exact List.mem_cons_of_mem _ (YK h)
theorem Ug {X:Cx}{N':List Str}{ts:Nat}{br:List Nat}{scope:Scope}(h:mP X.env.scope scope X.N N' ts br=true):qT X N' ts br scope:=by
 unfold mP at h
 simp only[Bool.and_eq_true]at h
 obtain⟨⟨⟨⟨⟨⟨h1,h2⟩,h3⟩,h4⟩,h5⟩,h6⟩,h7⟩:=h
 refine⟨of_decide_eq_true h1,fun y hy z=> ?_,fun y hy z=> ?_,fun y hy z=> ?_,of_decide_eq_true h5,of_decide_eq_true h6,fun k j hk=> ?_⟩
 ·have q:=List.all_eq_true.mp h2 y hy
  rw[z]at q;exact absurd q (by decide)
 ·have q:=List.all_eq_true.mp h3 y hy
  rw[z]at q
  simpa using q
 ·have q:=List.all_eq_true.mp h4 y hy
  rw[z]at q
  simpa[Env.kindOf] using q
 ·have aK:k<br.length:=(List.getElem?_eq_some_iff.mp hk).1
  have q:=List.all_eq_true.mp h7 k (List.mem_range.mpr aK)
  simp only[Bool.and_eq_true]at q
  obtain⟨⟨q1,q2⟩,q3⟩:=q
  obtain⟨x,hx⟩:=Option.isSome_iff_exists.mp q2
  rw[hx]at q1 q3
  rw[hk]at q1
  have e1:some x=X.N[j]? :=by simpa using q1
  have o7:(X.env.scope.names.lookup x !=some .local&&scope.names.lookup x==some .free)=true:=q3
  simp only[Bool.and_eq_true]at o7
  refine⟨x,hx,e1.symm,?_,by simpa using o7.2⟩
  have z:=o7.1
  intro e
  have e':X.env.scope.names.lookup x=some .local:=e
  rw[e']at z
  exact absurd z (by decide)
section
variable {X:Cx}{pins:List (Addr×Obj)}{σ:St}{H:Hp}{s:Shared}
theorem BP {N':List Str}{ts:Nat}{br:List Nat}{scope:Scope}{fp:List Addr}{h':Heap}{t':Nat}{m:Str→Option Value}{C:Addr}(S:qT X N' ts br scope) (I:Inv X pins σ H s) (hf:∀b∈fp,bM X pins H b)
  (ho:∀b∈fp,∃o,s.heap.get? b=some o) (hC:s.heap.objs.size≤C) (hn:h'.Ns C m) (k:∀b o,s.heap.get? b=some o→h'.get? b=some o):
  Inv (aV X N' scope C s H fp) [] (iC ts br σ) H {s with heap:=h',toks:=t'} :=by
 have sub:∀x c,(gX scope X.env).lookup x=some c→X.env.cells.lookup x=some c:=fun x c e=>by
  obtain⟨e1,e2⟩:=Uh e
  obtain⟨c',bG⟩:=I.ok.has x (S.free _ e2 rfl)
  rw[bG]at e1
  rw[bG,e1];rfl
 have eC:∀b o,s.heap.get? b=some o→b≠C:=fun b o e=>Nat.ne_of_lt (Nat.lt_of_lt_of_le (Heap.lt_size e) hC)
 refine⟨⟨I.ok.mod,?_,I.ok.glob,I.ok.blt,hC,fun x y c e1 e2=>I.ok.inj x y c (sub x c e1) (sub y c e2),fun x hx=> ?_,fun x c z _=>absurd z Bool.false_ne_true,I.ok.hd,I.ok.frames,.inl rfl,fun b hb=> ?_,fun b o e=>I.bs b o e,Nat.le_trans I.ok.je I.sz,fun b o e hb=> ?_,fun b hb=> ?_,I.stack,I.rp⟩,
  rfl,I.bare,Un.kept k,⟨m,hn,fun i x v e1 e2 e3=> ?_⟩,fun x c e=> ?_,I.af.fresh hC,fun x c e=>I.gm x c (sub x c e),fun p hp=>absurd (show p∈([]:List (Addr×Obj)) from hp) (by simp),I.af.kept k,?_⟩
 ·show(relabel scope X.env).kind=.function
  exact S.kind
 ·exact Ui (Wt S.iK hx)
 ·obtain⟨o,e⟩:=ho b hb
  refine⟨eC b o e,fun x c ec=> ?_⟩
  exact(hf b hb).2.2.2.2.1 x c (sub x c ec)
 ·obtain⟨e1,e2⟩:=I.bs b o e
  obtain⟨f0,f1,f2,f3,f4,f5⟩:=hf b hb
  rcases f3 with z |z
  ·exact I.ok.ko b o e z
  ·exact absurd (Nat.lt_of_lt_of_le (Heap.lt_size (I.ok.bs b o e).1) z) (Nat.lt_irrefl _)
 ·intro z
  obtain⟨f0,f1,f2,f3,f4,f5⟩:=hf b hb
  rcases List.mem_cons.mp (I.nC b z) with q |q
  ·exact f1 q
  ·exact f2 q
 ·-- the FC values
  have hlen:¬i<ts:=fun aK=>by
   unfold iC at e2
   rw[List.getElem?_append_left (by simpa using aK),List.getElem?_replicate]at e2
   split at e2<;>cases e2
  have k9:(br.map fun j=> (σ[j]?).join)[i - ts]? =some (some v):=by
   unfold iC at e2
   rw[List.getElem?_append_right (by simpa using hlen),List.length_replicate]at e2
   exact e2
  rw[List.getElem?_map]at k9
  cases hc:br[i - ts]? with
  |none=>rw[hc]at k9;cases k9
  |some j=>
   rw[hc]at k9
   have mN:(σ[j]?).join=some v:=Option.some.inj k9
   have e4:σ[j]? =some (some v):=by
    cases q:σ[j]? with
    |none=>rw[q]at mN;cases mN
    |some o=>rw[q]at mN;exact congrArg some mN
   obtain⟨x',n1,n2,n3,n4⟩:=S.Bx _ _ hc
   have ei:ts+(i - ts)=i:=by omega
   rw[ei]at n1
   have ex:x=x':=by
    have jb:N'[i]? =some x:=e1
    rw[n1]at jb;exact(Option.some.inj jb).symm
   subst ex
   obtain⟨mX,FO,hl⟩:=I.loc
   have wu:mU X.env.scope x:=by
    rcases S.free _ (YK n4) rfl with z |z
    ·exact .inr (.inl z)
    ·exact .inr (.inr z)
   obtain⟨u,ru,lk⟩:=hl j x v n2 e4 wu
   refine⟨u,ru,?_⟩
   rcases lk with ⟨z,_⟩ |⟨z,c,ec,mC⟩
   ·exact absurd z n3
   ·obtain⟨c',bG⟩:=Ui (env:=X.env) (YK n4)
    have:=sub x c' bG
    rw[ec]at this
    cases this
    refine .inr ⟨?_,c,bG,mC.keeps k⟩
    exact YE n4
 ·obtain⟨v,z⟩:=I.cell x c (sub x c e)
  exact⟨v,z.keeps k⟩
 ·show(iC ts br σ).length=N'.length
  unfold iC
  rw[List.length_append,List.length_replicate,List.length_map,S.len]
end
def AccAt (h:Heap) (D:Addr) (ys:List V):Prop:=ys.length≤sizeLine∧∃(its:List Value) (n:Nat),Vals ys its∧h.get? D=some {cls:=.type "list",data:=.seq its.toArray n}
theorem AccAt.keep {h h':Heap}{D:Addr}{ys:List V}(a:AccAt h D ys) (k:∀o,h.get? D=some o→h'.get? D=some o):AccAt h' D ys:=by
 obtain⟨z,its,n,r,e⟩:=a
 exact⟨z,its,n,r,k _ e⟩
abbrev TC:=List V→St→Hp→(List V→St→Hp→Prop)→Prop
def jl (Y:Cx) (D:Addr) (m:Sem PySem.Fin→Sem PySem.Fin) (t:TC):Prop:=
 ∀(pins:List (Addr×Obj)) (s:Shared) (σ:St) (H:Hp) (ys:List V) (Q:List V→St→Hp→Prop) (k:Sem PySem.Fin) (R:PySem.Fin→Shared→Prop),Inv Y pins σ H s→bM Y pins H D→AccAt s.heap D ys→t ys σ H Q→
  (∀s' aU ah H',Inv Y pins ah H' s'→bM Y pins H' D→AccAt s'.heap D aU→Q aU ah H'→wpAny (model Y.prog Y.w) Y.A k R (fun _ _=>False) s')→wpAny (model Y.prog Y.w) Y.A (m k) R (fun _ _=>False) s
def q5 (ifs:List Expr) (env:Env):Sem Bool:=forIn ifs true fun c r=>if r=true then do let ok ←isTrue c env (eval c env);pure (ForInStep.yield ok) else pure (ForInStep.yield r)
def jk (Y:Cx) (ifs:List Expr) (t:TT):Prop:=
 ∀(pins:List (Addr×Obj)) (s:Shared) (σ:St) (H:Hp) (Q:Bool→Hp→Prop),Inv Y pins σ H s→t σ H Q→wpAny (model Y.prog Y.w) Y.A (q5 ifs Y.env) (TP Y pins σ Q) Y.xe s
def wH:TT:=fun _ H Q=>Q true H
section
variable {Y:Cx}{D:Addr}
theorem Yl:jk Y [] wH:=fun pins s σ H Q I h=>wpAny_tests_nil ⟨H,I,h⟩
theorem ZZ {c:Expr}{t:TT}(hc:PT Y c t):jk Y [c] t:=fun pins s σ H Q I h=>wpAny_tests_one (hc pins s σ H Q I h)
def xc (te:TE):TC:=fun ys σ H Q=>te σ H fun v H1=>ys.length<sizeLine∧Q (ys++[v]) σ H1
theorem AccAt.iK {h:Heap}{ys:List V}(a:AccAt h D ys):∀b∈[D],∃o,h.get? b=some o∧∀v,o.data≠.cell v:=fun b hb=>by
 have e:b=D:=by simpa using hb
 subst e
 obtain⟨z,its,n,r,e⟩:=a
 exact⟨_,e,fun v z=>by
  have z':Data.seq its.toArray n=Data.cell v:=z
  cases z'⟩
theorem AccAt.through {h:Heap}{pins:List (Addr×Obj)}{ah:St}{H':Hp}{s':Shared}{ys:List V}(a:AccAt h D ys) (I:Inv Y (pins++gE [D] h) ah H' s'):AccAt s'.heap D ys∧H' D=none:=by
 obtain⟨z,its,n,r,e⟩:=a
 have q:=I.pin (D,_) (List.mem_append_right _ (List.mem_append_right _ (ZH (List.mem_singleton.mpr rfl) e)))
 exact⟨⟨z,its,n,r,q.1⟩,q.2.1⟩
theorem Zv {elt:Expr}{te:TE}(hx:Y.xe=fun _ _=>False) (he:PE Y elt te):
    jl Y D (fun k=> (do let _ ←call (.builtin "list.append") [.ref D,←eval elt Y.env]) >>=fun _=>k) (xc te):=by
  intro pins s σ H ys Q k R I f a h hk
  refine wpAny_bind (wpAny_mono (Q:=fun _ s'=> ∃aU ah H',Inv Y pins ah H' s'∧bM Y pins H' D∧AccAt s'.heap D aU∧Q aU ah H') ?_ (fun _ s' ⟨aU,ah,H',q1,q2,q3,q4⟩=>hk s' aU ah H' q1 q2 q3 q4) fun _ _ z=>z)
  have I':=I.pinned (fp:=[D]) (fun b hb=>by have e:b=D:=by simpa using hb
                                            subst e;exact f) a.iK
  refine wpAny_bind (wpAny_mono (he _ s σ H _ I' h) (fun u s1 ⟨v,H1,I1,ru,hz,q⟩=> ?_) fun e s1 z=>by rw[hx]at z;exact z)
  obtain⟨a1,n1⟩:=a.through I1
  have f1:bM Y pins H1 D:=⟨n1,f.2⟩
  obtain⟨z,its,n,r,e⟩:=a1
  have hl:=r.length
  refine wpAny_bind (call_meets F.slot_list_append ⟨_,e,rfl⟩ F.entry_list_append (F.args_list_append_2 _ _) (PySem.list_append D its.toArray n u (by rw[List.size_toArray];omega)) ⟨e,wpAny_pure ?_⟩)
  have q2:=PySem.IsL.update e (·.push u)
  obtain⟨f0,g1,g2,g3,g4,g5⟩:=f1
  have I2:Inv Y pins σ H1 {s1 with heap:=s1.heap.update D (Obj.mapSeq (·.push u))} :=I1.fO.turned (t':=s1.toks) (it:=D) (fun b o hb eb=> (Heap.get?_update_other s1.heap _ (Ne.symm hb)).trans eb) f0 g1 g3 g4 g5
  refine⟨ys++[v],σ,H1,I2,⟨f0,g1,g2,g3,g4,g5⟩,⟨by rw[List.length_append,List.length_singleton];omega,its++[u],(if ((its.toArray.push u).size==its.toArray.size)=true then n else n+1),r.append (.cons ru .nil),?_⟩,q⟩
  have e3:its.toArray.push u=(its++[u]).toArray:=by simp
  rw[←e3]
  exact q2
def inner (elt:Expr) (gens:List Comprehension) (scope:Scope) (pos:Pos) (d:Nat) (acc:Value) (env:Env) (k:Sem PySem.Fin):Sem PySem.Fin:=
 match gens[d+1]? with
 |some g'=>eval g'.iter env >>=fun x=>standAt g'.iter.pos >>=fun _=>foldedSetIterable g'.iter env x >>=fun x=>holding [x] (pyIter x) >>=fun iO=>
  runOwn (.compStart (.ListComp elt gens scope pos) (d+1) iO acc env) env >>=fun _=>k
 |none=> (do let _ ←call (.builtin "list.append") [acc,←eval elt env]) >>=fun _=>k
set_option maxHeartbeats 400000 in
theorem Uf (elt tg iter:Expr) (ifs:List Expr) (gens:List Comprehension) (scope:Scope) (pos:Pos) (d:Nat) (it acc:Value) (env:Env) (hg:gens[d]? =some ⟨tg,iter,ifs,0⟩) (h2:∀g',gens[d+1]? =some g'→g'.is_async=0):
  compTurn (.ListComp elt gens scope pos) d it acc env=(standAt iter.pos >>=fun _=>pyNext it >>=fun r=>match r with
   |none=>pure (.done .next)
   |some v=>letOwnedTupleGo tg it v >>=fun _=>assign tg env v >>=fun _=>q5 ifs env >>=fun ok=>
    if ok=true then inner elt gens scope pos d acc env (again (.compLoop (.ListComp elt gens scope pos) d it acc env)) else again (.compLoop (.ListComp elt gens scope pos) d it acc env)):=by
 unfold compTurn inner
 dsimp only
 rw[hg]
 generalize hn:gens[d+1]? =o
 cases o with
 |none=>rfl
 |some g'=>
  have e:=h2 g' hn
  obtain⟨t',i',f',a'⟩:=g'
  have e':a'=0:=e
  subst e'
  rfl
def fQ (g:TG) (tt:TT) (ti:TC) (J:It):TC:=fun ys σ H Q=> ∃W:Nat→Nat→List V→St→Hp→Prop,(∃m,W 0 m ys σ H)∧∀i m ys σ H,W i m ys σ H→
 (J.stop i H∧Q ys σ H)∨(J.go i H∧∃N:List V→St→Hp→Prop,(∀aU ah H',N aU ah H'→∃m',m'<m∧W (i+1) m' aU ah H')∧
  ∀x H',J.j7 i H x H'→g x σ H' fun aR H2=>tt aR H2 fun b H3=>if b=true then ti ys aR H3 N else N ys aR H3)
theorem Wi {elt tg iter:Expr}{ifs:List Expr}{gens:List Comprehension}{scope:Scope}{pos:Pos}{d:Nat}{it:Addr}{fp:List Addr}{tn:Nat→Heap→Prop}{J:It}{g:TG}{tt:TT}{ti:TC}{pins:List (Addr×Obj)}{s:Shared}{σ:St}{H:Hp}{ys:List V}{Q:List V→St→Hp→Prop}
    (hx:Y.xe=fun _ _=>False) (hc:Y.calm=true) (hg:gens[d]? =some ⟨tg,iter,ifs,0⟩) (T:Turn Y.prog Y.w Y.K tg J fp it tn) (hf:∀b∈fp,bM Y pins H b) (st:tn 0 s.heap) (hD:D∉fp)
    (h2:∀g',gens[d+1]? =some g'→g'.is_async=0) (pg:PG Y tg g) (pt:jk Y ifs tt) (pi:jl Y D (inner elt gens scope pos d (.ref D) Y.env) ti)
    (I:Inv Y pins σ H s) (f:bM Y pins H D) (a:AccAt s.heap D ys) (h:fQ g tt ti J ys σ H Q):
    codeAny (model Y.prog Y.w) Y.A (.compLoop (.ListComp elt gens scope pos) d (.ref it) (.ref D) Y.env) (fun r s'=>match r with
      | .ok _=> ∃aU ah H',Inv Y pins ah H' s'∧bM Y pins H' D∧AccAt s'.heap D aU∧Q aU ah H'
      | .error _=>False) s:=by
  obtain⟨W,⟨m0,w0⟩,turn⟩:=h
  have stat:∀{H':Hp},(∀b∈fp,H' b=none)→∀b∈fp,bM Y pins H' b:=fun hn b hb=> ⟨hn b hb,(hf b hb).2⟩
  refine codeAny_loop rfl (fun n s'=> ∃i aU ah H',Inv Y pins ah H' s'∧bM Y pins H' D∧AccAt s'.heap D aU∧tn i s'.heap∧(∀b∈fp,H' b=none)∧W i n aU ah H') (fun n s3 hI=> ?_) m0 ⟨0,ys,σ,H,I,f,a,st,fun b hb=> (hf b hb).1,w0⟩
  obtain⟨i,j6,eQ,H3,I3,f3,a3,aE,mJ,w3⟩:=hI
  show wpAny _ Y.A ((compTurn (.ListComp elt gens scope pos) d (.ref it) (.ref D) Y.env).onRaise (fun x=>do noteFrame x Y.env;theTreesLotGoes x)) _ _ s3
  refine wpAny_noted (wpAny_mono (E:=fun _ _=>False) ?_ (fun _ _ q=>q) fun _ _ z=>z.elim)
  rw[Uf elt tg iter ifs gens scope pos d (.ref it) (.ref D) Y.env hg h2]
  refine wpAny_bind (wpAny_standAt (wpAny_bind ?_))
  have aD:∀{h h':Heap},(∀b o,b∉fp→h.get? b=some o→h'.get? b=some o)→∀{zs},AccAt h D zs→AccAt h' D zs:=fun k _ q=>q.keep fun o e=>k D o hD e
  have vP:=I3.pinned (fp:=[D]) (fun b hb=>by have e:b=D:=by simpa using hb
                                             subst e;exact f3) a3.iK
  have rq:∀b∈fp,bM Y (pins++gE [D] s3.heap) H3 b:=fun b hb=>by
    obtain⟨g0,g1,g2,g3,g4,g5⟩:=stat mJ b hb
    refine⟨g0,g1,g2,g3,g4,fun p hp=> ?_⟩
    rcases List.mem_append.mp hp with z |z
    · exact g5 p (List.mem_append_left _ z)
    · rcases List.mem_append.mp z with z |z
      · exact g5 p (List.mem_append_right _ z)
      · intro q
        have e:p.1=D:=by simpa using (YZ z).1
        exact hD (by rw[←e,q];exact hb)
  rcases turn i n j6 eQ H3 w3 with ⟨stop,qn⟩ |⟨go,N,hN,step⟩
  · refine wpAny_mono (T.done Y rfl rfl rfl hc i _ s3 eQ H3 (fun _ _=>False) vP rq aE stop) (fun r s4 ⟨hr,I4⟩=> ?_) fun _ _ z=>z
    subst hr
    obtain⟨a4,n4⟩:=a3.through I4
    exact wpAny_pure ⟨j6,eQ,H3,I4.fO,f3,a4,qn⟩
  · refine wpAny_mono (T.item Y rfl rfl rfl hc i _ s3 eQ H3 (fun _ _=>False) vP rq aE go) (fun r s4 ⟨u,hr,h4⟩=> ?_) fun _ _ z=>z
    subst hr
    refine wpAny_bind (wpAny_mono h4 (fun _ s5 ⟨x,H5,I5,r5,y5,fS,qr⟩=> ?_) fun _ _ z=>z)
    obtain⟨a5,n5⟩:=a3.through I5
    have f5:bM Y pins H5 D:=⟨n5,f3.2⟩
    have zP:∀b∈D::fp,∃o,s5.heap.get? b=some o∧∀v,o.data≠.cell v:=fun b hb=>by
      rcases List.mem_cons.mp hb with e |hb
      · exact a5.iK b (by simp[e])
      · exact T.obj _ _ fS b hb
    have qO:=I5.fO.pinned (fp:=D::fp) (fun b hb=>by
      rcases List.mem_cons.mp hb with e |hb
      · rw[e];exact f5
      · exact stat qr b hb) zP
    refine wpAny_bind (wpAny_mono (pg _ s5 eQ H5 x u _ qO r5 (step x H5 y5)) (fun _ s6 ⟨j5,H6,I6,q6⟩=> ?_) fun _ _ z=>by rw[hx]at z;exact z)
    refine wpAny_bind (wpAny_mono (pt _ s6 j5 H6 _ I6 q6) (fun b s7 ⟨H7,I7,q7⟩=> ?_) fun _ _ z=>by rw[hx]at z;exact z)
    have sr:∀{cJ:St}{H7:Hp}{s7:Shared},Inv Y (pins++gE (D::fp) s5.heap) cJ H7 s7→AccAt s7.heap D j6∧H7 D=none:=fun {cJ H7 s7} J=>by
      obtain⟨z,its,n,r,e⟩:=id a5
      have q:=J.pin (D,_) (List.mem_append_right _ (List.mem_append_right _ (ZH List.mem_cons_self e)))
      exact⟨⟨z,its,n,r,q.1⟩,q.2.1⟩
    have sk:∀{cJ:St}{H7:Hp}{s7:Shared},Inv Y (pins++gE (D::fp) s5.heap) cJ H7 s7→tn (i+1) s7.heap∧∀b∈fp,H7 b=none:=fun {cJ H7 s7} J=>by
      refine⟨T.keep _ _ _ fS fun b hb o e=> (J.pin (b,o) (List.mem_append_right _ (List.mem_append_right _ (ZH (List.mem_cons_of_mem _ hb) e)))).1,fun b hb=> ?_⟩
      obtain⟨o,e,dd⟩:=T.obj _ _ fS b hb
      exact(J.pin (b,o) (List.mem_append_right _ (List.mem_append_right _ (ZH (List.mem_cons_of_mem _ hb) e)))).2.1
    cases b with
    |false=>
     simp only[Bool.false_eq_true,if_false]at q7 ⊢
     obtain⟨m',hm,w7⟩:=hN _ _ _ q7
     obtain⟨a7,n7⟩:=sr I7
     obtain⟨t7,r7⟩:=sk I7
     exact wpAny_pure ⟨rfl,m',hm,i+1,j6,j5,H7,I7.fO,⟨n7,f3.2⟩,a7,t7,r7,w7⟩
    |true=>
     simp only[if_true]at q7 ⊢
     obtain⟨a7,n7⟩:=sr I7
     obtain⟨t7,r7⟩:=sk I7
     have EC:=I7.fO.pinned (fp:=fp) (stat r7) (T.obj _ _ t7)
     have f7:bM Y (pins++gE fp s7.heap) H7 D:=by
       obtain⟨g0,g1,g2,g3,g4,g5⟩:=f3
       refine⟨n7,g1,g2,g3,g4,fun p hp=> ?_⟩
       rcases List.mem_append.mp hp with z |z
       · exact g5 p (List.mem_append_left _ z)
       · rcases List.mem_append.mp z with z |z
         · exact g5 p (List.mem_append_right _ z)
         · intro q
           exact hD (by rw[←q];exact(YZ z).1)
     refine pi _ s7 j5 H7 j6 N _ _ EC f7 a7 q7 fun s8 wo wg H8 I8 f8 a8 q8=> ?_
     obtain⟨m',hm,w8⟩:=hN _ _ _ q8
     refine wpAny_pure ⟨rfl,m',hm,i+1,wo,wg,H8,I8.fO,⟨f8.1,f3.2⟩,a8,T.keep _ _ _ t7 fun b hb o e=> (I8.pin (b,o) (List.mem_append_right _ (List.mem_append_right _ (ZH hb e)))).1,fun b hb=> ?_,w8⟩
     obtain⟨o,e,dd⟩:=T.obj _ _ t7 b hb
     exact(I8.pin (b,o) (List.mem_append_right _ (List.mem_append_right _ (ZH hb e)))).2.1
theorem JL {elt tg iter:Expr}{ifs:List Expr}{gens:List Comprehension}{scope:Scope}{pos:Pos}{d:Nat}{it:Addr}{R:Result→Shared→Prop}{s:Shared}{A:Around}{prog:Program}{w:World}{env:Env}{acc:Value}{fp:List Addr}{tn:Nat→Heap→Prop}{J:It}{K:PySem.W.Frag}
  (hg:gens[d]? =some ⟨tg,iter,ifs,0⟩) (T:Turn prog w K tg J fp it tn) {i:Nat} (st:tn i s.heap) (h:codeAny (model prog w) A (.compLoop (.ListComp elt gens scope pos) d (.ref it) acc env) R s):
  codeAny (model prog w) A (.compStart (.ListComp elt gens scope pos) d (.ref it) acc env) R s:=by
 refine codeAny_of_tree ?_
 show wpAny _ _ ((compStart (.ListComp elt gens scope pos) d (.ref it) acc env).onRaise (fun x=>do noteFrame x env;standAt theWindowsPlace)) _ _ s
 refine wpAny_notedAt ?_
 have Ag:(clausesOf (.ListComp elt gens scope pos))[d]? =some ⟨tg,iter,ifs,0⟩:=hg
 unfold compStart
 rw[Ag]
 show wpAny _ _ (ask >>=_) _ _ s
 refine wpAny_bind (wpAny_askSetting (wpAny_ite ?_))
 split
 ·first
   |exact wpAny_bind (wpAny_pure (wpAny_pure (And.intro rfl h)))
   |exact wpAny_pure (And.intro rfl h)
 ·refine wpAny_bind (wpAny_rule ?_)
  show wpAny _ _ (standAt iter.pos >>=_) _ _ s
  exact wpAny_bind (wpAny_standAt (wpAny_bind (T.self A i s _ _ st (wpAny_pure (And.intro rfl h)))))
def wX (wi:TI) (g:TG) (tt:TT) (ti:TC):TC:=fun ys σ H Q=>wi σ H fun J H1=>fQ g tt ti J ys σ H1 Q
theorem Ep {elt tg iter:Expr}{ifs:List Expr}{gens:List Comprehension}{scope:Scope}{pos:Pos}{d:Nat}{wi:TI}{g:TG}{tt:TT}{ti:TC}
    (hx:Y.xe=fun _ _=>False) (hc:Y.calm=true) (hg:gens[d+1]? =some ⟨tg,iter,ifs,0⟩) (hi:PI Y tg iter wi) (pg:PG Y tg g) (pt:jk Y ifs tt) (pi:jl Y D (inner elt gens scope pos (d+1) (.ref D) Y.env) ti)
    (hs:∀x,foldedSetIterable iter Y.env x=pure x) (h2:∀g',gens[d+1+1]? =some g'→g'.is_async=0):jl Y D (inner elt gens scope pos d (.ref D) Y.env) (wX wi g tt ti):=by
  intro pins s σ H ys Q k R I f a h hk
  unfold inner
  rw[hg]
  have I':=I.pinned (fp:=[D]) (fun b hb=>by have e:b=D:=by simpa using hb
                                            subst e;exact f) a.iK
  refine wpAny_bind (wpAny_mono (hi _ s σ H _ I' h) (fun v s1 h1=> ?_) fun _ _ z=>by rw[hx]at z;exact z)
  refine wpAny_bind (wpAny_standAt (wpAny_bind (wpAny_of_eq (hs v) (wpAny_bind (wpAny_holding (wpAny_mono h1 (fun iO s2 h2=> ?_) fun _ _ z=>by rw[hx]at z;exact z))))))
  obtain⟨it,fp,tn,J,H2,e,I2,T,ag,f2,q2⟩:=h2
  subst e
  obtain⟨a2,n2⟩:=a.through I2
  have fD:bM Y pins H2 D:=⟨n2,f.2⟩
  have hD:D∉fp:=fun z=>by
    obtain⟨z1,its,n,r,e⟩:=a
    exact(f2 D z).2.2.2.2.2 (D,_) (List.mem_append_right _ (List.mem_append_right _ (ZH (List.mem_singleton.mpr rfl) e))) rfl
  have uH:∀b∈fp,bM Y pins H2 b:=fun b hb=>by
    obtain⟨g0,g1,g2,g3,g4,g5⟩:=f2 b hb
    exact⟨g0,g1,g2,g3,g4,fun p hp=>g5 p (by
      rcases List.mem_append.mp hp with z |z
      · exact List.mem_append_left _ z
      · exact List.mem_append_right _ (List.mem_append_left _ z))⟩
  refine wpAny_bind (wpAny_runOwn (codeAny_mono (JL hg T ag (Wi (Q:=Q) hx hc hg T uH ag hD h2 pg pt pi I2.fO fD a2 q2)) fun r s' hr=> ?_))
  cases r with
  |ok fl=>
   obtain⟨aU,ah,H',q1,q2,q3,q4⟩:=hr
   exact hk s' aU ah H' q1 q2 q3 q4
  |error e=>exact hr.elim
end
section
variable {X:Cx}{pins:List (Addr×Obj)}{σ:St}{H H':Hp}{s s':Shared}
theorem Um {N':List Str}{scope:Scope}{C D:Addr}{fp:List Addr}{ah:St}{ys:List V}{pl:List (Addr×Obj)}{h':Heap}(I:Inv X pins σ H s) (hf:∀b∈fp,bM X pins H b) (hC:s.heap.objs.size≤C) (hD:s.heap.objs.size≤D) (i9:D≠C)
  (J:Inv (aV X N' scope C s H fp) pl ah H' s') (n:H' D=none) (a:AccAt s'.heap D ys) (sb:Heap.SameBut C s'.heap h'):Inv X pins σ (upd H' D (.lst ys)) {s' with heap:=h'} :=by
 have eC:∀b o,s.heap.get? b=some o→b≠C:=fun b o e=>Nat.ne_of_lt (Nat.lt_of_lt_of_le (Heap.lt_size e) hC)
 have yP:∀b o,s.heap.get? b=some o→b≠D:=fun b o e=>Nat.ne_of_lt (Nat.lt_of_lt_of_le (Heap.lt_size e) hD)
 have ph:∀b o,H b=some o→b≠D:=fun b o e=>Nat.ne_of_lt (Nat.lt_of_lt_of_le (I.af.lt e) hD)
 have fC:H' C=none:=J.free
 have u:Un (dJ X.stack) fp H H' s.heap s'.heap:=J.base
 refine I.By (s':= {s' with heap:=h'}) (ch:=fp) J.os ⟨fun b o e nb hb hx=> (sb.2 b (eC b o e)).trans (u.keep b o e nb hb hx),fun b o e nb hb hx=> ?_,fun b o e nb hx=>by rw[Zf (yP b o e)];exact u.free b o e nb hx,fun b o e hx=> ?_,
  fun b xs e=>by rw[Zf (ph b _ e)];exact u.gq b xs e,fun b o xs e=>by rw[Zf (ph b _ e)];exact u.gk b o xs e,fun b ps e=>by rw[Zf (ph b _ e)];exact u.fP b ps e⟩ (fun b v e=> ?_) J.bare fun b hb=> ?_
 ·obtain⟨sl,q⟩:=u.slot b o e nb hb hx
  exact⟨sl,(sb.2 b (eC b o e)).trans q⟩
 ·obtain⟨o',q⟩:=u.there b o e hx
  exact⟨o',(sb.2 b (eC b o e)).trans q⟩
 ·by_cases hb:b=D
  ·subst hb
   rw[Ze]at e
   cases e
   obtain⟨z,its,k,r,q⟩:=a
   exact⟨z,its,k,r,(sb.2 b i9).trans q⟩
  ·rw[Zf hb]at e
   refine(J.af b v e).dA (fun c w hc q=> (sb.2 c ?_).trans q) (fun c q=>by rw[Zf (Zb q n)];exact q) fun c xs q=>by rw[Zf (Zb q n)];exact q
   rcases hc with z |z
   ·rw[z];exact Zb e fC
   ·exact Zb z fC
 ·obtain⟨f0,f1,f2,f3,f4,f5⟩:=hf b hb
  exact⟨f3,f1,f4,f5⟩
theorem JM {elt tg iter:Expr}{ifs:List Expr}{rest:List Comprehension}{scope:Scope}{pos:Pos}{N':List Str}{ts:Nat}{br:List Nat}{it:Addr}{fp:List Addr}{tn:Nat→Heap→Prop}{J:It}{g:TG}{tt:TT}{ti:TC}{Q:List V→Hp→Prop}{E:Value→Shared→Prop}{RR:Value→Addr→Result→Shared→Prop}
  (S:qT X N' ts br scope) (hc:X.calm=true) (I:Inv X pins σ H s) (T:Turn X.prog X.w X.K tg J fp it tn) (st:tn 0 s.heap) (hf:∀b∈fp,bM X pins H b)
  (h2:∀g',(Comprehension.mk tg iter ifs 0::rest)[0+1]? =some g'→g'.is_async=0)
  (pg:∀C,PG (aV X N' scope C s H fp) tg g) (pt:∀C,jk (aV X N' scope C s H fp) ifs tt)
  (pi:∀C D,jl (aV X N' scope C s H fp) D (inner elt (⟨tg,iter,ifs,0⟩::rest) scope pos 0 (.ref D) (aV X N' scope C s H fp).env) ti)
  (h:fQ g tt ti J [] (iC ts br σ) H fun ys _ H2=>Q ys H2)
  (AD:∀C D s' ah H' ys fl,s.heap.objs.size≤C→s.heap.objs.size≤D→D≠C→Inv (aV X N' scope C s H fp) [] ah H' s'→H' D=none→AccAt s'.heap D ys→Q ys H'→RR (.ref D) C (.ok fl) s'):
  wpAny (model X.prog X.w) X.A (newList []) (fun acc xp=>wpAny (model X.prog X.w) X.A (newFunctionEnv scope X.env.globals (gX scope X.env) [] X.env.qual none .none (some X.env)) (fun uV xo=>
   codeAny (model X.prog X.w) X.A (.compStart (.ListComp elt (⟨tg,iter,ifs,0⟩::rest) scope pos) 0 (.ref it) acc {uV with scope:=relabel scope X.env}) (RR acc uV.locals) xo) E xp) E s:=by
 refine wpAny_newObj_type (wpAny_newFunctionEnv S.iK (by intro y hy;simp at hy) (fun kB pW mf=> ?_) S.kind)
 dsimp only at pW mf ⊢
 generalize jQ:s.heap.push {cls:=.type "list",dict:=none,data:=.seq ([]:List Value).toArray} =h0 at pW mf ⊢
 have hC:h0.objs.size=s.heap.objs.size+1:=by rw[←jQ,Heap.size_push]
 have i9:s.heap.objs.size≠h0.objs.size:=by rw[hC];exact Nat.ne_of_lt (Nat.lt_succ_self _)
 have qo:s.heap.objs.size≤h0.objs.size:=by rw[hC];exact Nat.le_succ _
 have eC:∀b o,s.heap.get? b=some o→b≠h0.objs.size:=fun b o e=>Nat.ne_of_lt (Nat.lt_of_lt_of_le (Heap.lt_size e) qo)
 have old:∀b o,s.heap.get? b=some o→kB.get? b=some o:=fun b o e=>mf.extBut b o (eC b o e) (Heap.get?_push_of_some _ (jQ▸Heap.get?_push_of_some _ e))
 have qi:kB.get? s.heap.objs.size=some {cls:=.type "list",data:=.seq ([]:List Value).toArray 0} :=mf.extBut _ _ i9 (Heap.get?_push_of_some _ (jQ▸Heap.get?_push_size _ rfl))
 have ho:∀b∈fp,∃o,s.heap.get? b=some o:=fun b hb=>let ⟨o,e,_⟩:=T.obj _ _ st b hb;⟨o,e⟩
 have I1:Inv (aV X N' scope h0.objs.size s H fp) [] (iC ts br σ) H {s with heap:=kB,toks:=s.toks+([]:List (Str×Value)).length} :=BP S I hf ho qo pW old
 have fresh:=I.af.fresh (a:=s.heap.objs.size) (Nat.le_refl _)
 have A2:∀b∈fp,bM (aV X N' scope h0.objs.size s H fp) [] H b:=fun b hb=>by
  obtain⟨f0,f1,f2,f3,f4,f5⟩:=hf b hb
  refine⟨f0,(I1.ok.mK b hb).1,I1.ok.k8 b hb,.inl hb,(I1.ok.mK b hb).2,fun p hp=>absurd (show p∈([]:List (Addr×Obj)) from hp) (by simp)⟩
 have fD:bM (aV X N' scope h0.objs.size s H fp) [] H s.heap.objs.size:=by
  refine⟨fresh,i9,fun z=> ?_,.inr (Nat.le_refl _),fun x c e z=> ?_,fun p hp=>absurd (show p∈([]:List (Addr×Obj)) from hp) (by simp)⟩
  ·obtain⟨_,o,eE,_⟩:=I.stack.mem z
   exact absurd (Heap.lt_size eE) (Nat.lt_irrefl _)
  ·obtain⟨e1,e2⟩:=Uh e
   obtain⟨c',bG⟩:=I.ok.has x (S.free _ e2 rfl)
   obtain⟨v,q⟩:=I.cell x c' bG
   rw[bG]at e1
   have e3:c=c':=e1
   have l:=q.lt
   rw[←e3,z]at l
   exact absurd l (Nat.lt_irrefl _)
 have aD:AccAt kB s.heap.objs.size []:=⟨Nat.zero_le _,[],0,.nil,qi⟩
 have AS:s.heap.objs.size∉fp:=fun z=>by obtain⟨o,e⟩:=ho _ z;exact absurd (Heap.lt_size e) (Nat.lt_irrefl _)
 have aw:tn 0 kB:=T.keep _ _ _ st fun b _ o e=>old b o e
 have run:=JL (elt:=elt) (gens:=⟨tg,iter,ifs,0⟩::rest) (scope:=scope) (pos:=pos) (d:=0) rfl T aw
  (Wi (Y:=aV X N' scope h0.objs.size s H fp) (D:=s.heap.objs.size) (Q:=fun ys _ H2=>Q ys H2) (elt:=elt) (gens:=⟨tg,iter,ifs,0⟩::rest) (scope:=scope) (pos:=pos) (d:=0) rfl hc rfl T A2 aw AS h2 (pg _) (pt _) (pi _ _) I1 fD aD h)
 refine codeAny_mono run fun r s' hr=> ?_
 cases r with
 |error e=>exact hr.elim
 |ok fl=>
  obtain⟨aU,ah,H',q1,q2,q3,q4⟩:=hr
  exact AD _ _ s' ah H' aU fl qo (Nat.le_refl _) i9 q1 q2.1 q3 q4
end
def rh (wi:TI) (ts:Nat) (br:List Nat) (g:TG) (tt:TT) (ti:TC):TE:=fun σ H Q=>wi σ H fun J H1=>fQ g tt ti J [] (iC ts br σ) H1 fun ys _ H2=> ∀p,H2 p=none→Q (.ref p) (upd H2 p (.lst ys))
section
variable {X:Cx}{elt tg iter:Expr}{ifs:List Expr}{rest:List Comprehension}{scope:Scope}{pos:Pos}{wi:TI}{g:TG}{tt:TT}{ti:TC}
theorem ZW (N':List Str) (ts:Nat) (br:List Nat) (hi:PI X tg iter wi) (pg:∀C s H fp,PG (aV X N' scope C s H fp) tg g) (pt:∀C s H fp,jk (aV X N' scope C s H fp) ifs tt)
  (pi:∀C s H fp D,jl (aV X N' scope C s H fp) D (inner elt (⟨tg,iter,ifs,0⟩::rest) scope pos 0 (.ref D) (aV X N' scope C s H fp).env) ti)
  (ok:mP X.env.scope scope X.N N' ts br=true:=by rfl) (hc:X.calm=true:=by rfl) (h2:∀g',(Comprehension.mk tg iter ifs 0::rest)[0+1]? =some g'→g'.is_async=0:=by(intro g' h;cases h<;>rfl))
  (hs:∀x,foldedSetIterable iter X.env x=pure x:=by intro _;rfl):
  PE X (.ListComp elt (⟨tg,iter,ifs,0⟩::rest) scope pos) (rh wi ts br g tt ti):=by
 intro pins s σ H Q I h
 have S:=Ug ok
 rw[eval_ListComp]
 refine wpAny_comprehension_free (use:=none) rfl hs (YH fun y hy e=>I.ok.has _ (S.free y hy e)) S.kind S.names (ao (hi pins s σ H _ I h) fun v s1 h1=>ao h1 fun iO s2 mH=> ?_)
 obtain⟨it,fp,tn,J,H2,e,I2,T,ag,f2,q2⟩:=mH
 subst e
 refine JM (RR:=fun acc C=>compPost (model X.prog X.w) X.A X.xe none _ acc C) S hc I2 T ag f2 h2 (fun C=>pg C _ _ _) (fun C=>pt C _ _ _) (fun C D=>pi C _ _ _ D) q2 ?_
 intro C D s' ah H' ys fl hC hD i9 J' n a q
 obtain⟨m,hn,_⟩:=J'.loc
 exact⟨m,hn,fun h' sb=> ⟨.ref D,_,Um I2 f2 hC hD i9 J' n a sb,rfl,q D n⟩⟩
theorem YN (N':List Str) (ts:Nat) (br:List Nat) {i:Nat}{x:Str}{px rC:Pos}(hN:X.N.Nodup) (Ae:X.N[i]? =some x) (hx:Loc X.env.scope x) (hi:PI X tg iter wi) (pg:∀C s H fp,PG (aV X N' scope C s H fp) tg g) (pt:∀C s H fp,jk (aV X N' scope C s H fp) ifs tt)
  (pi:∀C s H fp D,jl (aV X N' scope C s H fp) D (inner elt (⟨tg,iter,ifs,0⟩::rest) scope pos 0 (.ref D) (aV X N' scope C s H fp).env) ti)
  (zy:swapsWith (.ListComp elt (⟨tg,iter,ifs,0⟩::rest) scope pos) (some (.Name x px)) rC.line X.env=pure true:=by rfl)
  (ok:mP X.env.scope scope X.N N' ts br=true:=by rfl) (hc:X.calm=true:=by rfl) (h2:∀g',(Comprehension.mk tg iter ifs 0::rest)[0+1]? =some g'→g'.is_async=0:=by(intro g' h;cases h<;>rfl))
  (hs:∀x,foldedSetIterable iter X.env x=pure x:=by intro _;rfl) (fE:X.fn x=true∨X.env.scope.names.lookup x=some .local:=by first |exact .inl rfl |exact .inr rfl |assumption):
  PS X (.Assign [.Name x px] (.ListComp elt (⟨tg,iter,ifs,0⟩::rest) scope pos) rC) (ka (rh wi ts br g tt ti) (aS i)):=by
 intro pins s σ H D I h
 have S:=Ug ok
 rw[exec_Assign_Name_used _ _ _ _ zy]
 refine wpAny_bind (wpAny_standAt (wpAny_bind ?_))
 show wpAny _ X.A (do let _ ←comprehension (.ListComp elt (⟨tg,iter,ifs,0⟩::rest) scope pos) scope X.env _ (newList []) false (eval iter X.env) (some (assign (.Name x px) X.env))) _ _ s
 refine wpAny_bind (wpAny_mono (wpAny_comprehension_free (use:=some (assign (.Name x px) X.env)) (Q:=fun _ s'=> ∃ah H',Inv X pins ah H' s'∧D.nx ah H') rfl hs (YH fun y hy e=>I.ok.has _ (S.free y hy e)) S.kind S.names
  (ao (hi pins s σ H _ I h) fun v s1 h1=>ao h1 fun iO s2 mH=> ?_)) (fun _ s' hq=>wpAny_pure (wpAny_pure hq)) fun _ _ e=>e)
 obtain⟨it,fp,tn,J,H2,e,I2,T,ag,f2,q2⟩:=mH
 subst e
 refine JM (RR:=fun acc C=>compPost (model X.prog X.w) X.A X.xe (some (assign (.Name x px) X.env)) _ acc C) S hc I2 T ag f2 h2 (fun C=>pg C _ _ _) (fun C=>pt C _ _ _) (fun C D=>pi C _ _ _ D) q2 ?_
 intro C B s' ah H' ys fl hC hB uD J' n a q
 obtain⟨m,hn,_⟩:=J'.loc
 have IX:Inv X pins σ (upd H' B (.lst ys)) s':=Um I2 f2 hC hB uD J' n a (Heap.SameBut.refl C s'.heap)
 have fC:=I2.ja (H':=upd H' B (.lst ys)) (b:=C) hC (by rw[Zf (Ne.symm uD)];exact J'.free)
 obtain⟨f0,f1,uH,f3,f4,f5⟩:=fC
 show wpAny _ X.A (assign (.Name x px) X.env (.ref B)) _ _ s'
 refine wpAny_assign_Name (Wa (v:=.ref B) (u:=.ref B) IX hN Ae hx rfl (fun iI ED ⟨c,sb,mD⟩=> ?_) fE)
 have AV:C≠c:=by
  rcases mD with z |z
  ·rw[z];exact f1
  ·exact(f4 x c z).symm
 refine⟨m,Heap.Ns.sameBut hn sb AV,fun h' xW=> ?_⟩
 refine⟨σ.set i (some (.ref B)),_,ED.turned (t':=iI.toks) (it:=C) (fun b o hb e=> (xW.2 b hb).trans e) f0 f1 f3 f4 f5,q B n⟩
end
section
variable {X:Cx}
theorem Yx {c:String} :di X (.builtin "isinstance") (fun xs H Q=> ∃x t b,xs=[x,.ty c]∧da X.K H x t∧PySem.W.kitOne X.K t (.type c)=some b∧Q (.bl b) H):=by
 intro pins s σ H xs us Q I r h
 obtain⟨x,t,b,rfl,ty,e,q⟩:=h
 obtain⟨u,v,rfl,ru,rv⟩:=vals2 r
 cases rv
 exact Ee I ru ty e fun tk=> ⟨.bl b,H,I.tok tk,rfl,q⟩
theorem Ul (hc:X.calm=true:=by rfl):di X (.builtin "all") (fun xs H Q=> ∃(p:Addr) (bs:List Bool),xs=[.ref p]∧ae X.K H p (bs.map V.bl)∧Q (.bl (bs.all id)) H):=by
 intro pins s σ H xs us Q I r h
 obtain⟨p,bs,rfl,hp,q⟩:=h
 obtain⟨u,rfl,ru⟩:=vals1 r
 cases ru
 obtain⟨its,rv,pl,hz⟩:=I.list hp
 have hb:∀(i:Nat) (v:Value),its.toArray[i]? =some v→v=.bool (bs.getD i false):=fun i v e=>by
  have e':its[i]? =some v:=by simpa using e
  have hl:=rv.length
  have hi:i<its.length:=(List.getElem?_eq_some_iff.mp e').1
  have bL:i< (bs.map V.bl).length:=by omega
  obtain⟨u,hu,ru⟩:=rv.get (i:=i) (x:=(bs.map V.bl)[i]) (by simp)
  rw[e']at hu
  cases hu
  rw[List.getElem_map]at ru
  have dR:i<bs.length:=by simpa using bL
  have e2:bs.getD i false=bs[i]:=by simp[List.getD_eq_getElem?_getD,dR]
  rw[e2]
  exact ru
 refine call_all_walk (wpAny_pyIter_list pl.isList ?_)
 have cj:p≠s.heap.objs.size:=Nat.ne_of_lt (by obtain⟨o,n,e,_⟩:=pl;exact Heap.lt_size e)
 refine⟨s.heap.objs.size,_,_,_,_,_,fun i=>bs.getD i false,rfl,Walks.list (A:=X.A.in1) (show X.A.in1.handled=none from I.ok.hd hc) s.heap.objs.size p cj its.toArray,⟨⟨_,Heap.get?_push_size _ rfl,rfl,rfl⟩,pl.isList.at fun o e=>Heap.get?_push_of_some _ e⟩,fun i v s' Q' E' hP hQ=> ?_,fun h' tk hk=> ?_⟩
 ·rw[hb i v hP]
  exact wpAny_truthy_bool hQ
 ·have e:(List.range its.toArray.size).all (fun i=>bs.getD i false)=bs.all id:=by
   have hl:its.toArray.size=bs.length:=by have:=rv.length;rw[List.length_map]at this;simpa using this.symm
   rw[hl,Bool.eq_iff_iff,List.all_eq_true,List.all_eq_true]
   constructor
   ·intro h b hb
    obtain⟨i,hi,e⟩:=List.mem_iff_getElem.mp hb
    have:=h i (List.mem_range.mpr hi)
    rw[List.getD_eq_getElem?_getD,List.getElem?_eq_getElem hi,Option.getD_some,e]at this
    exact this
   ·intro h i hi
    have bL:=List.mem_range.mp hi
    rw[List.getD_eq_getElem?_getD,List.getElem?_eq_getElem bL,Option.getD_some]
    exact h _ (List.getElem_mem bL)
  rw[e]
  refine⟨.bl (bs.all id),H,I.kept fun b o eb=>hk b o ?_ (Heap.get?_push_of_some _ eb),rfl,q⟩
  intro z
  have e1:b=s.heap.objs.size:=by simpa using z
  exact absurd (Heap.lt_size eb) (by rw[e1];exact Nat.lt_irrefl _)
def jq (ns:List Int):Nat:=(PyProof.Rows.firstMet (fun i=>ns.getD i 0) ns.length).length
theorem JX (hc:X.calm=true:=by rfl):di X (.type "set") (fun xs H Q=> ∃(p:Addr) (ns:List Int),xs=[.ref p]∧ae X.K H p (ns.map V.int)∧ns.length≤1000∧∀q S,H q=none→Q (.ref q) (upd H q (.set S (jq ns)))):=by
 intro pins s σ H xs us Q I r h
 obtain⟨p,ns,rfl,hp,hn,q⟩:=h
 obtain⟨u,rfl,ru⟩:=vals1 r
 cases ru
 obtain⟨its,rv,pl,hz⟩:=I.list hp
 have hl:=rv.length
 rw[List.length_map]at hl
 refine call_set_list (I.ok.hd hc) pl.isList (Yd rv) (by rw[List.size_toArray,←hl];unfold scanBound;omega) fun h' tk hs hk=> ?_
 have e:its.toArray.size=ns.length:=by simp[hl]
 rw[e]at hs
 exact⟨.ref s.heap.objs.size,_,I.laid (a:=s.heap.objs.size) (o:=.set _ (jq ns)) (fun b o eb=>hk b o (Heap.lt_size eb) eb) (Nat.le_refl _) hs,rfl,q _ _ I.fresh⟩
theorem JZ:di X (.builtin "len") (fun xs H Q=> ∃p S n,xs=[.ref p]∧H p=some (.set S n)∧Q (.int n) H):=by
 intro pins s σ H xs us Q I r h
 obtain⟨p,S,n,rfl,hp,q⟩:=h
 obtain⟨u,rfl,ru⟩:=vals1 r
 cases ru
 obtain⟨o,es,ep,t,h1,h2,h3,h4,h5,h6,h7,h8⟩:=(show aI X.prog X.w H s.heap p (.set S n) from I.af p _ hp)
 refine call_len_set h1 h2 h3 h7 (by have:scanBound=4096:=rfl;omega) ⟨.int n,H,I.tok _,⟨_,by rw[h8]⟩,q⟩
theorem Uk:di X (.type "range") (fun xs H Q=> ∃j:Int,xs=[.int j]∧∀q,H q=none→Q (.ref q) (upd H q (.eh 0 j))):=by
 intro pins s σ H xs us Q I r h
 obtain⟨j,rfl,q⟩:=h
 obtain⟨u,rfl,ru⟩:=vals1 r
 obtain⟨t,rfl⟩:=ru
 refine call_range_1 ?_
 exact⟨.ref s.heap.objs.size,_,I.laid (a:=s.heap.objs.size) (o:=.eh 0 j) (fun b o eb=>Heap.get?_push_of_some _ eb) (Nat.le_refl _) ⟨_,_,_,Heap.get?_push_size _ rfl⟩,rfl,q _ I.fresh⟩
def upTo (n:Nat):List V:=(List.range n).map fun(i:Nat)=>V.int (i:Int)
theorem WH {acc:Array Value}{n:Nat}(h:ItemsOf (fun i v=> ∃t,v=.int (0+i*1) t) acc n):Vals (upTo n) acc.toList:=by
 obtain⟨h1,h2⟩:=h
 obtain⟨l⟩:=acc
 have h1:l.length=n:=h1
 have h2:∀(j:Nat) (v:Value),l[j]? =some v→∃t,v=.int (j:Int) t:=fun j v e=>by
  obtain⟨t,q⟩:=h2 j v (by simpa using e)
  exact⟨t,by rw[q];congr 1;omega⟩
 have key:∀(l:List Value) (k:Nat),(∀(j:Nat) (v:Value),l[j]? =some v→∃t,v=.int ((k+j:Nat):Int) t)→Vals ((List.range' k l.length).map fun(i:Nat)=>V.int (i:Int)) l:=by
  intro l
  induction l with
  |nil=>intro k _;exact .nil
  |cons v l ih=>
   intro k h
   rw[List.length_cons,List.range'_succ,List.map_cons]
   obtain⟨t,e⟩:=h 0 v rfl
   refine .cons ⟨t,by rw[e];simp⟩ (ih (k+1) fun j w q=> ?_)
   obtain⟨t',e'⟩:=h (j+1) w (by simpa using q)
   exact⟨t',by rw[e'];congr 1;omega⟩
 have:=key l 0 (fun j v e=>by simpa using h2 j v e)
 unfold upTo
 rw[←h1,List.range_eq_range']
 exact this
theorem JY (hc:X.calm=true:=by rfl):di X (.type "list") (fun xs H Q=> ∃(p:Addr) (j:Int),xs=[.ref p]∧H p=some (.eh 0 j)∧0≤j∧j≤1000∧∀q,H q=none→Q (.ref q) (upd H q (.lst (upTo j.toNat)))):=by
 intro pins s σ H xs us Q I r h
 obtain⟨p,j,rfl,hp,h0,h1,q⟩:=h
 obtain⟨u,rfl,ru⟩:=vals1 r
 cases ru
 obtain⟨t,u,v,e⟩:=(show aI X.prog X.w H s.heap p (.eh 0 j) from I.af p _ hp)
 refine call_list_range (n:=j.toNat) (I.ok.hd hc) e (small_one (by omega) (by omega) (by omega) (by omega)) (by rw[rangeSize_one];split<;>omega) (by omega) fun h' tk acc c' hk hS qi=> ?_
 have r2:=WH qi
 have hlen:(upTo j.toNat).length≤sizeLine:=by unfold upTo;rw[List.length_map,List.length_range,sizeLine_eq];omega
 exact⟨.ref s.heap.objs.size,_,I.laid (a:=s.heap.objs.size) (o:=.lst (upTo j.toNat)) hk (Nat.le_refl _) ⟨hlen,acc.toList,c',r2,by simpa using hS⟩,rfl,q _ I.fresh⟩
theorem C7:aW X (binaryOp .Add) (fun x y H Q=> ∃a b ys,x=.ref a∧y=.ref b∧ak X.K H a []∧ak X.K H b ys∧Q (.ref b) H):=by
 intro pins s σ H x y u v Q I rx ry h
 obtain⟨a,b,ys,rfl,rfl,ha,hb,q⟩:=h
 cases rx
 cases ry
 obtain⟨its,rv,pl,hz⟩:=I.tuple ha
 obtain⟨l7,gD,dC,aF⟩:=I.tuple hb
 cases rv
 obtain⟨⟨cls,dd,data,sl⟩,ho,uq,n,hd⟩:=id pl
 obtain⟨⟨uU,iB,data2,hX⟩,fX,fF,n2,hd2⟩:=id dC
 simp only at uq hd fF hd2
 subst uq hd fF hd2
 exact concat_meets ⟨_,ho,rfl⟩ ⟨_,fX,rfl⟩ noFill_tuple_add seq_tuple_add PySem.F.slot_tuple_add PySem.F.entry_tuple_add (PySem.F.args_tuple_add_2 _ _)
   (tuple_addW0 a b #[] l7.toArray n n2 dd iB sl hX rfl) ⟨ho,fX,⟨.ref b,H,I,rfl,q⟩⟩
end
theorem W3 {K:PySem.W.Frag}{a:Addr}{xs:List V}{g:TG}{tt:TT}{ti:TC}{ys:List V}{σ:St}{H:Hp}{Q:List V→St→Hp→Prop}(Pv:Nat→List V→St→Hp→Prop) (h0:Pv 0 ys σ H)
  (hl:∀i ys σ H,i≤xs.length→Pv i ys σ H→ak K H a xs)
  (hs:∀i x ys σ H,xs[i]? =some x→Pv i ys σ H→g x σ H fun aR H2=>tt aR H2 fun b H3=>if b=true then ti ys aR H3 (Pv (i+1)) else Pv (i+1) ys aR H3)
  (hd:∀ys σ H,Pv xs.length ys σ H→Q ys σ H):fQ g tt ti (qK K a) ys σ H Q:=by
 refine⟨fun i m ys σ H=>m=xs.length - i∧i≤xs.length∧Pv i ys σ H,⟨xs.length,by simp,Nat.zero_le _,h0⟩,?_⟩
 rintro i m ys σ H ⟨rfl,hi,p⟩
 have q:=hl i ys σ H hi p
 by_cases aK:i<xs.length
 ·refine .inr ⟨⟨xs,xs[i],q,by simp[aK]⟩,Pv (i+1),fun aU ah H' p'=> ⟨xs.length - (i+1),by omega,rfl,aK,p'⟩,fun x H' y=> ?_⟩
  obtain⟨e,y⟩:=y
  subst e
  exact hs i x ys σ _ (y xs q) p
 ·have e:i=xs.length:=by omega
  subst e
  exact .inl ⟨⟨xs,q,Nat.le_refl _⟩,hd ys σ H p⟩
theorem ZE {K:PySem.W.Frag}{a:Addr}{xs:List V}{g:TG}{tt:TT}{ti:TC}{ys:List V}{σ:St}{H:Hp}{Q:List V→St→Hp→Prop}(Pv:Nat→List V→St→Hp→Prop) (h0:Pv 0 ys σ H)
  (hl:∀i ys σ H,i≤xs.length→Pv i ys σ H→ae K H a xs)
  (hs:∀i x ys σ H,xs[i]? =some x→Pv i ys σ H→g x σ H fun aR H2=>tt aR H2 fun b H3=>if b=true then ti ys aR H3 (Pv (i+1)) else Pv (i+1) ys aR H3)
  (hd:∀ys σ H,Pv xs.length ys σ H→Q ys σ H):fQ g tt ti (jY K a) ys σ H Q:=by
 refine⟨fun i m ys σ H=>m=xs.length - i∧i≤xs.length∧Pv i ys σ H,⟨xs.length,by simp,Nat.zero_le _,h0⟩,?_⟩
 rintro i m ys σ H ⟨rfl,hi,p⟩
 have q:=hl i ys σ H hi p
 by_cases aK:i<xs.length
 ·refine .inr ⟨⟨xs,xs[i],q,by simp[aK]⟩,Pv (i+1),fun aU ah H' p'=> ⟨xs.length - (i+1),by omega,rfl,aK,p'⟩,fun x H' y=> ?_⟩
  obtain⟨e,y⟩:=y
  subst e
  exact hs i x ys σ _ (y xs q) p
 ·have e:i=xs.length:=by omega
  subst e
  exact .inl ⟨⟨xs,q,Nat.le_refl _⟩,hd ys σ H p⟩
theorem UB {lo:Int}{n:Nat}{g:TG}{tt:TT}{ti:TC}{ys:List V}{σ:St}{H:Hp}{Q:List V→St→Hp→Prop}(Pv:Nat→List V→St→Hp→Prop) (h0:Pv 0 ys σ H)
  (hs:∀i ys σ H,i<n→Pv i ys σ H→g (.int (lo+i)) σ H fun aR H2=>tt aR H2 fun b H3=>if b=true then ti ys aR H3 (Pv (i+1)) else Pv (i+1) ys aR H3)
  (hd:∀ys σ H,Pv n ys σ H→Q ys σ H):fQ g tt ti (jm lo n) ys σ H Q:=by
 refine⟨fun i m ys σ H=>m=n - i∧i≤n∧Pv i ys σ H,⟨n,by simp,Nat.zero_le _,h0⟩,?_⟩
 rintro i m ys σ H ⟨rfl,hi,p⟩
 by_cases aK:i<n
 ·refine .inr ⟨aK,Pv (i+1),fun aU ah H' p'=> ⟨n - (i+1),by omega,rfl,aK,p'⟩,fun x H' y=> ?_⟩
  obtain⟨e,y⟩:=y
  subst e y
  exact hs i ys σ _ aK p
 ·have e:i=n:=by omega
  subst e
  exact .inl ⟨Nat.le_refl _,hd ys σ H p⟩
theorem pb {X:Cx}{N':List Str}{scope:Scope}{C:Addr}{s:Shared}{H:Hp}{fp:List Addr}(i:Nat) {x:Str}{pos:Pos}(hN:N'.Nodup:=by decide+kernel) (hi:N'[i]? =some x:=by rfl) (hx:(relabel scope X.env).names.lookup x=some .local:=by rfl):
  PG (aV X N' scope C s H fp) (.Name x pos) (aS i):=ZA (X:=aV X N' scope C s H fp) hN hi (.inl hx) (.inr hx)
def Def (P:Program) (w:World) (K:PySem.W.Frag) (mg:Str→Option Value) (base:Heap) (k:Nat) (x:Str) (ps:List Str) (sp:Sp):Prop:=
 ∃f fd,aL P w K mg base aP k f fd ps sp∧mg x=some (.ref f)∧PySem.W.keepIn K (.ref f)=true∧Binds K fd ps []
section
variable {X:Cx}{k:Nat}{x:Str}{ps:List Str}{sp:Sp}{e:Expr}{es:List Expr}{t:TA}{p pos:Pos}
theorem Zh (d:Def X.prog X.w X.K X.mg X.base k x ps sp) (hr:cg k X.A) (ha:PA X (e::es) t) (hg:Gl X x:=by rfl) (gM:(x==("__debug__" :Str))=false:=by decide)
  (he:starEach (e::es) X.env=(false,eval e X.env)::starEach es X.env:=by rfl) (dk:(backTo pos (starEach es X.env)).any (·.1)=false:=by rfl):
  PE X (.Call (.Name x p) (e::es) [] pos) (rk sp [] E0 t):=by
 obtain⟨f,fd,F,hm,hk,hb⟩:=d
 exact Dv F hr hg hm hk hb .nil yB ha gM he dk
end
def iG (K:PySem.W.Frag) (H:Hp) (x:V):Prop:=∃T,da K H x (.type T)
def whole:V→Bool
 | .int _=>true
 |_=>false
def bQ:V→Int→Int→Bool
 | .int i,a,b=>decide (a≤i)&&decide (i≤b)
 |_,_,_=>false
def nk:Option HO→Option (List V)
 |some (.tup xs)=>some xs
 |_=>none
def bV (H:Hp):V→Option (List V)
 | .ref a=>nk (H a)
 |_=>none
theorem Z4 {H:Hp}{a:Addr} :bV H (.ref a)=nk (H a):=rfl
theorem ZS {H:Hp}{a:Addr}{xs:List V}(h:H a=some (.tup xs)):bV H (.ref a)=some xs:=by rw[Z4,h];rfl
theorem DP {o:Option HO}{xs:List V}(h:nk o=some xs):o=some (.tup xs):=by
 cases o with
 |none=>cases h
 |some o=>cases o<;>first |(cases h;rfl) |cases h
theorem Zw {H:Hp}{x:V}{xs:List V}(h:bV H x=some xs):∃a,x=.ref a∧H a=some (.tup xs):=by
 cases x with
 |ref a=>exact⟨a,rfl,DP h⟩
 |_=>cases h
theorem ab.bV {H H':Hp}(s:ab H H') {x:V}{xs:List V}(h:L2.bV H x=some xs):L2.bV H' x=some xs:=by
 obtain⟨a,rfl,q⟩:=Zw h
 exact ZS (s _ _ q)
theorem ab.se {K:PySem.W.Frag}{H H':Hp}(s:ab H H') {x:V}(h:iG K H x):iG K H' x:=by
 obtain⟨T,t⟩:=h
 cases t with
 |ai=>exact⟨_,.ai⟩
 |bl y=>exact⟨_,.bl y⟩
 |int i=>exact⟨_,.int i⟩
 |str y=>exact⟨_,.str y⟩
 |gR y=>exact⟨_,.gR y⟩
 |lst e=>exact⟨_,.lst (s _ _ e)⟩
 |aZ e=>exact⟨_,.aZ (s _ _ e)⟩
 |tup e=>exact⟨_,.tup (s _ _ e)⟩
 |dK e=>exact⟨_,.dK (s _ _ e)⟩
 |dT e=>exact⟨_,.dT (s _ _ e)⟩
def pF:V→Bool
 | .int _=>true
 | .bl _=>true
 |_=>false
def tq:V→Bool
 | .bl _=>true
 |_=>false
theorem BR {K:PySem.W.Frag}{H:Hp}{x:V}{T:String}(t:da K H x (.type T)):PySem.W.kitOne K (.type T) (.type "int")=some (pF x):=by cases t<;>rfl
theorem Dt {K:PySem.W.Frag}{H:Hp}{x:V}{T:String}(t:da K H x (.type T)):PySem.W.kitOne K (.type T) (.type "bool")=some (tq x):=by cases t<;>rfl
theorem Ei {K:PySem.W.Frag}{H:Hp}{x:V}{T:String}(t:da K H x (.type T)):PySem.W.kitOne K (.type T) (.type "tuple")=some (bV H x).isSome:=by
 cases t with
 |tup e=>rw[ZS e];rfl
 |lst e=>rw[Z4,e];rfl
 |aZ e=>rw[Z4,e];rfl
 |dK e=>rw[Z4,e];rfl
 |dT e=>rw[Z4,e];rfl
 |_=>rfl
theorem W7 (x:V):whole x=(pF x&& !tq x):=by cases x<;>rfl
def wM (i j k:Nat) (ta:TA):TS:=fun D σ H=>ta σ H fun vs H1=> ∃v w z,vs=[v,w,z]∧D.nx (((σ.set k (some z)).set j (some w)).set i (some v)) H1
theorem UW {X:Cx}{pos:Pos}{i j k:Nat}{x y z:Str}{a b c:Expr}{ta:TA}{px py pz pt:Pos}{kt k2 iJ} (hc:X.calm=true) (hN:X.N.Nodup) (hi:X.N[i]? =some x) (hj:X.N[j]? =some y) (hk:X.N[k]? =some z)
  (hx:X.env.scope.names.lookup x=some .local) (hy:X.env.scope.names.lookup y=some .local) (hz:X.env.scope.names.lookup z=some .local) (ha:PA X [a,b,c] ta)
  (hw:swappedStores [.Tuple [.Name x px,.Name y py,.Name z pz] kt pt] (.Tuple [a,b,c] k2 iJ) X.env=pure (some [x,y,z]):=by rfl)
  (hs:swapsWithSole [.Tuple [.Name x px,.Name y py,.Name z pz] kt pt] (.Tuple [a,b,c] k2 iJ) pos.line X.env=pure false:=by rfl):
  PS X (.Assign [.Tuple [.Name x px,.Name y py,.Name z pz] kt pt] (.Tuple [a,b,c] k2 iJ) pos) (wM i j k ta):=by
 intro pins s σ H D I h
 rw[exec_Assign_arm]
 refine wpAny_bind (wpAny_standAt ?_)
 rw[hs]
 refine wpAny_bind (wpAny_pure ?_)
 rw[if_neg (by decide)]
 refine wpAny_bind (Tuple_ (ao (ha _ pins s σ H _ I h) fun us s1 ⟨vs,H1,I1,r1,q1⟩=> ?_))
 obtain⟨v,w,t,e1,q1⟩:=q1
 subst e1
 obtain⟨u1,u2,u3,rfl,rv,eX,rt⟩:∃u1 u2 u3,us=[u1,u2,u3]∧RelV v u1∧RelV w u2∧RelV t u3:=by
  cases r1 with
  |cons p q=>
   cases q with
   |cons p' q'=>
    cases q' with
    |cons yC yy=>
     cases yy
     exact⟨_,_,_,rfl,p,p',yC⟩
 refine wpAny_newObj_type ?_ (by show 3≤sizeLine;decide)
 have I2:Inv X pins σ H1 {s1 with heap:=s1.heap.push {cls:=.type "tuple",data:=.seq [u1,u2,u3].toArray} } :=I1.kept (t':=s1.toks) fun b o e=>Heap.get?_push_of_some _ e
 rw[hw]
 refine wpAny_bind (wpAny_pure ?_)
 show wpAny (model X.prog X.w) X.A (do rule "assign.swapped-stores";let items ←unpackItems (.ref s1.heap.objs.size) 3 none;assignInOrder [fun v=>bindName X.env z v,fun v=>bindName X.env y v,fun v=>bindName X.env x v] items.reverse;pure Flow.next) _ _ _
 refine wpAny_bind (wpAny_rule (wpAny_bind (unpackItems_tuple (items:= #[u1,u2,u3]) (I.ok.hd hc) (IsTup.new s1.heap _) fun h' gK=> ?_)))
 have I3:=I2.kept (h':=h') (t':=s1.toks) fun b o e=>gK b o (Nat.ne_of_lt (Heap.lt_size e)) e
 show wpAny _ _ (assignInOrder [fun v=>bindName X.env z v,fun v=>bindName X.env y v,fun v=>bindName X.env x v] [u3,u2,u1] >>=fun _=>pure Flow.next) _ _ _
 refine wpAny_bind (assignInOrder_cons (wpAny_bindName (Ya I3 hN hk (.inl hz) rt (fun s2 I4=> ?_) (.inr hz))))
 refine assignInOrder_cons (wpAny_bindName (Ya I4 hN hj (.inl hy) eX (fun s3 I5=> ?_) (.inr hy)))
 refine assignInOrder_cons (wpAny_bindName (Ya I5 hN hi (.inl hx) rv (fun s4 I6=>assignInOrder_nil (wpAny_pure ?_)) (.inr hx)))
 exact⟨_,H1,I6,q1⟩
def az (p:Addr) (H H':Hp):Prop:=∀b o,H b=some o→b≠p→H' b=some o
theorem az.refl (p:Addr) (H:Hp):az p H H:=fun _ _ h _=>h
theorem az.trans {p:Addr}{H H1 H2:Hp}(a:az p H H1) (b:az p H1 H2):az p H H2:=fun c o h n=>b c o (a c o h n) n
theorem ab.x {p:Addr}{H H1:Hp}(a:ab H H1):az p H H1:=fun c o h _=>a c o h
theorem az.upd {p:Addr}{H:Hp}{o:HO} :az p H (L2.upd H p o):=fun b u h n=>by rw[Zf n];exact h
theorem u6 {X:Cx}(hu:X.A.units<cLine):aW X (compareOp .Eq) (fun x y H Q=> ∃(a b:Addr) (xs:List V),x=.ref a∧y=.ref b∧ae X.K H a xs∧ae X.K H b []∧Q (.bl xs.isEmpty) H):=by
 intro pins s σ H x y u v Q I rx ry h
 obtain⟨a,b,xs,rfl,rfl,ha,hb,q⟩:=h
 cases rx
 cases ry
 obtain⟨its,rv,pl,hz⟩:=I.list ha
 obtain⟨l7,gD,dC,aF⟩:=I.list hb
 cases gD
 cases rv with
 |nil=>exact SeqAt.eq_listAt (e:=fun _=>true) pl.isList dC.isList rfl hu (fun j h1 h2=>absurd h2 (by simp)) ⟨.bl true,H,I,rfl,q⟩
 |cons r t=>exact SeqAt.eq_list_lengthsAt pl.isList dC.isList (by simp) hu ⟨.bl false,H,I,rfl,q⟩
theorem u7 {X:Cx}(hu:X.A.units<cLine):aW X (compareOp .NotEq) (fun x y H Q=> ∃(a b:Addr) (xs:List V),x=.ref a∧y=.ref b∧ae X.K H a xs∧ae X.K H b []∧Q (.bl (!xs.isEmpty)) H):=by
 intro pins s σ H x y u v Q I rx ry h
 obtain⟨a,b,xs,rfl,rfl,ha,hb,q⟩:=h
 cases rx
 cases ry
 obtain⟨its,rv,pl,hz⟩:=I.list ha
 obtain⟨l7,gD,dC,aF⟩:=I.list hb
 cases gD
 cases rv with
 |nil=>exact SeqAt.RcNeAt.lists (e:=fun _=>true) pl.isList dC.isList rfl hu (fun j h1 h2=>absurd h2 (by simp)) _ _ _ _ ⟨.bl false,H,I,rfl,q⟩
 |cons r t=>exact SeqAt.RcNeAt.lists_lengths pl.isList dC.isList (by simp) hu _ _ _ _ ⟨.bl true,H,I,rfl,q⟩
section
variable {prog:Program}{w:World}{A:Around}{E:Value→Shared→Prop}{s:Shared}
theorem UA {j t:Addr}{i:Nat}{its:Array Value}{x:Value}{Q:Value→Shared→Prop}(h1:s.heap.IsTupleIter j t i) (h2:s.heap.IsTuple t its) (hx:its[i]? =some x)
  (k:∀h',h'.IsTupleIter j t (i+1)→Heap.SameBut j s.heap h'→Q x {s with heap:=h'}):wpAny (model prog w) A (Builtin.SmallTypes.nextOf (.ref j)) Q E s:=by
 obtain⟨o,eo,co,dO⟩:=id h1
 obtain⟨ot,et,_,nt,dt⟩:=h2
 unfold Builtin.SmallTypes.nextOf
 refine wpAny_bind (wpAny_callSpecial?_slot (name:=Str.ofString "__next__") h1.typeIs F.slot_tuple_iterator_next (wpAny_call_entry F.slot_tuple_iterator_next h1.typeIs F.entry_tuple_iterator_next ?_ (F.args_tuple_iterator_next_1 _)))
 show wpAny _ _ (field (.ref j) 0 >>=_) _ _ s
 refine wpAny_bind (wpAny_field eo dO (x:=.ref t) rfl ?_)
 show wpAny _ _ (if (Value.ref t==Value.none)=true then _ else _) _ _ s
 rw[if_neg (show ¬((Value.ref t==Value.none)=true) from Bool.false_ne_true)]
 show wpAny _ _ (field (.ref j) 1 >>=_) _ _ s
 refine wpAny_bind (wpAny_field eo dO (x:=.int i 0) rfl ?_)
 show wpAny _ _ (seqItems? (.ref t) >>=_) _ _ s
 refine wpAny_bind (wpAny_seqItems et dt ?_)
 simp only[Int.toNat_natCast,hx]
 refine wpAny_bind (wpAny_setField eo dO (by simp) (wpAny_pure ⟨x,rfl,wpAny_pure (k _ ⟨_,Heap.get?_update_self _ eo (Obj.isFreed_of_fields (Obj.data_mapFields dO _)),(Obj.cls_mapFields ..).trans co,?_⟩ (Heap.SameBut.update ..))⟩))
 rw[Obj.data_mapFields dO]
 simp[rawInt]
theorem Eo {j t:Addr}{i:Nat}{its:Array Value}{Q:Value→Shared→Prop}(hh:A.handled=none) (h1:s.heap.IsTupleIter j t i) (h2:s.heap.IsTuple t its) (hx:its[i]? =none)
  (k:∀h' e,Heap.ExtBut j s.heap h'→(∃o,h'.get? e=some o∧o.cls=.type "StopIteration")→E (.ref e) {s with heap:=h'}):wpAny (model prog w) A (Builtin.SmallTypes.nextOf (.ref j)) Q E s:=by
 obtain⟨o,eo,co,dO⟩:=id h1
 obtain⟨ot,et,_,nt,dt⟩:=h2
 unfold Builtin.SmallTypes.nextOf
 refine wpAny_bind (wpAny_callSpecial?_slot (name:=Str.ofString "__next__") h1.typeIs F.slot_tuple_iterator_next (wpAny_call_entry F.slot_tuple_iterator_next h1.typeIs F.entry_tuple_iterator_next ?_ (F.args_tuple_iterator_next_1 _)))
 show wpAny _ _ (field (.ref j) 0 >>=_) _ _ s
 refine wpAny_bind (wpAny_field eo dO (x:=.ref t) rfl ?_)
 show wpAny _ _ (if (Value.ref t==Value.none)=true then _ else _) _ _ s
 rw[if_neg (show ¬((Value.ref t==Value.none)=true) from Bool.false_ne_true)]
 show wpAny _ _ (field (.ref j) 1 >>=_) _ _ s
 refine wpAny_bind (wpAny_field eo dO (x:=.int i 0) rfl ?_)
 show wpAny _ _ (seqItems? (.ref t) >>=_) _ _ s
 refine wpAny_bind (wpAny_seqItems et dt ?_)
 simp only[Int.toNat_natCast,hx]
 refine wpAny_bind (wpAny_rule (wpAny_bind (wpAny_setField eo dO (by simp) ?_)))
 show wpAny _ _ (newExc (.type "StopIteration") [] >>=_) _ _ _
 refine wpAny_bind ?_
 simp only[newExc,newTuple]
 refine wpAny_bind (wpAny_newObj_type ?_ (by size_fits))
 refine wpAny_bind (m:=firstArgMember _ _) (wpAny_of_eq (a:=Value.none) (by first |rfl |(simp only[firstArgMember];rfl)) (wpAny_newObj_type ?_ (by size_fits)))
 simp only[raiseNew]
 refine wpAny_bind (wpAny_handled ?_)
 first |rw[show A.in1.handled=none from hh] |rw[hh]
 exact wpAny_bind (wpAny_pure (wpAny_throw (k _ _ (((Heap.SameBut.update ..).extBut.push _).push _) ⟨_,Heap.get?_push_size _ rfl,rfl⟩)))
end
theorem uR {prog:Program}{w:World}{A:Around}(hh:A.handled=none) (j t:Addr) (cj:t≠j) (its:Array Value):
  Draws prog w A j [j,t] its.size (fun i v=>its[i]? =some v) (fun i h=>h.IsTupleIter j t i∧h.IsTuple t its) where
 live:=fun _ _ st=>let ⟨o,ho,_⟩:=st.1;⟨o,ho⟩
 frame:=fun _ _ _ st hk=> ⟨st.1.at fun o e=>hk j (by simp) o e,st.2.at fun o e=>hk t (by simp) o e⟩
 item:=fun i s Q E hi st hQ=>UA st.1 st.2 (x:=its[i]) (by simp[hi]) fun h' a b=>hQ _ h' s.toks (by simp[hi]) ⟨a,st.2.extBut b.extBut cj⟩ b
 done:=fun s Q E st hE=>Eo hh st.1 st.2 (by simp) hE
section
variable {prog:Program}{w:World}{A:Around}{E:Value→Shared→Prop}{s:Shared}
theorem Eb (l:Addr) (its:Array Value) (n:Nat) (jU:Option Addr) (sl:Array (Option Value)):
  Meets (Builtin.«enumerate.__new__» ⟨[.type "enumerate",.ref l],[]⟩) (fun _ R s=>s.heap.get? l=some {cls:=.type "tuple",dict:=jU,data:=.seq its n,slots:=sl}∧
   R (.ok (.ret (.ref (s.heap.push {cls:=.type "tuple_iterator",data:=.fields #[.ref l,.int 0 0]}).objs.size)))
    {s with heap:=(s.heap.push {cls:=.type "tuple_iterator",data:=.fields #[.ref l,.int 0 0]}).push {cls:=.type "enumerate",data:=.fields #[.none,.bool false,.ref s.heap.objs.size,rawInt 0,.none,.none]} }):=
 .of_wp fun prog w A R s h=>by
  obtain⟨hp,g,d,tk,os⟩:=s
  obtain⟨hl,h⟩:=h
  have FH:=sub_enumerate
  have hL:Heap.IsTuple (Shared.heap ⟨hp,g,d,tk,os⟩) l its:=⟨_,hl,rfl,n,rfl⟩
  wp_walk using AutoSeq1.wpAny_loadPart' hl
  refine wpAny_stack_any fun st=>wpAny_pure ?_
  split
  ·rename_i c _ _ _ _ _
   cases (c==Value.type "enumerate")<;> (wp_walk using AutoSeq1.wpAny_loadPart' hl,wpAny_pyIter_tuple hL;exact⟨_,rfl,h⟩)
  ·wp_walk using AutoSeq1.wpAny_loadPart' hl,wpAny_pyIter_tuple hL
   exact⟨_,rfl,h⟩
theorem UN {l:Addr}{its:Array Value}{Q:Value→Shared→Prop}(hL:s.heap.IsTuple l its)
  (h:∀h',IsEnum h' (s.heap.objs.size+1) s.heap.objs.size 0 .none→h'.IsTupleIter s.heap.objs.size l 0→(∀b o,s.heap.get? b=some o→h'.get? b=some o)→Q (.ref (s.heap.objs.size+1)) {s with heap:=h'}):
  wpAny (model prog w) A (call (.type "enumerate") [.ref l]) Q E s:=by
 obtain⟨⟨c,jU,dt,sl⟩,hl,hc,n,hd⟩:=hL
 replace hc:c=.type "tuple" :=hc
 replace hd:dt=.seq its n:=hd
 subst hc hd
 refine callType_new F.called_enumerate (by decide) (F.typeCall_enumerate_1 _) (F.newCall_enumerate_1 _) (fun obj=>F.args_object_init_2 obj _) F.entry_enumerate_new (Eb l its n jU sl) ⟨hl,?_⟩
 have hz:(s.heap.push {cls:=.type "tuple_iterator",data:=.fields #[.ref l,.int 0 0]}).objs.size=s.heap.objs.size+1:=Heap.size_push ..
 show _∧_
 rw[hz]
 have he:IsEnum ((s.heap.push {cls:=.type "tuple_iterator",data:=.fields #[.ref l,.int 0 0]}).push {cls:=.type "enumerate",data:=.fields #[.none,.bool false,.ref s.heap.objs.size,rawInt 0,.none,.none]}) (s.heap.objs.size+1) s.heap.objs.size 0 .none:=by
  have q:=Heap.get?_push_size (s.heap.push {cls:=.type "tuple_iterator",data:=.fields #[.ref l,.int 0 0]}) (o:= {cls:=.type "enumerate",data:=.fields #[.none,.bool false,.ref s.heap.objs.size,rawInt 0,.none,.none]}) rfl
  rw[hz]at q
  exact q
 exact⟨⟨_,he,rfl⟩,h _ he ⟨_,Heap.get?_push_of_some _ (Heap.get?_push_size _ rfl),rfl,rfl⟩ fun b o x=>Heap.get?_push_of_some _ (Heap.get?_push_of_some _ x)⟩
end
def qL (K:PySem.W.Frag) (t:Addr):It:=
 ⟨fun i H=> ∃xs x,ak K H t xs∧xs[i]? =some x,fun i H x H'=> ∃(T:Addr) (y:V),x=.ref T∧H T=none∧H'=upd H T (.par [.int (i:Int),y])∧∀xs,ak K H t xs→xs[i]? =some y,fun i H=> ∃xs,ak K H t xs∧xs.length=i⟩
theorem DQ {P:Program}{w:World}{K:PySem.W.Frag}{elts:List Expr}{kk:Nat}{pos:Pos}(t e j:Addr) (mw:e≠j) (tO:t≠e) (tN:t≠j):
  Turn P w K (.Tuple elts kk pos) (qL K t) [e,j] e (fun i h=> (∃old,IsEnum h e j i old)∧h.IsTupleIter j t i) where
 mem:=by simp
 obj:=fun i h st b hb=>by
  obtain⟨⟨old,he⟩,o,ho,hc,hd⟩:=st
  rcases List.mem_cons.mp hb with rfl |hb
  ·exact⟨_,he,fun v z=>by cases z⟩
  ·rw[List.mem_singleton.mp hb]
   exact⟨o,ho,fun v z=>by rw[hd]at z;cases z⟩
 keep:=fun i h h' st k=> ⟨let ⟨old,he⟩:=st.1;⟨old,k e (by simp) _ he⟩,st.2.at fun o q=>k j (by simp) o q⟩
 item:=by
  intro X hP hw hK hc i pins s σ H E I hf st hg
  subst hP hw hK
  obtain⟨xs,x,hq,hx⟩:=hg
  obtain⟨its,rv,p,hz⟩:=I.tuple hq
  obtain⟨u,hu,ru⟩:=rv.get hx
  have hl:=rv.length
  have p6:i<its.toArray.size:=by
   have:=(List.getElem?_eq_some_iff.mp hu).1
   simpa using this
  have W:=WalksT.enumerateD (prog:=X.prog) (w:=X.w) (A:=X.A) (uR (A:=X.A.in1) (show X.A.in1.handled=none from I.ok.hd hc) j t tN its.toArray) e mw (by simp[mw,tO.symm]) (by simp)
  have hT:s.heap.IsTuple t its.toArray:=p
  refine W.item i s _ _ p6 ⟨st.1,st.2,hT⟩ fun T vals h' tk hP ir qj kM hk=> ⟨_,rfl,W.go elts kk pos i T _ _ _ kM fun bH eV cY=> ?_⟩
  obtain⟨nz,x2,pI,rfl⟩:=hP
  have kE:its[i]? =some x2:=by simpa using pI
  rw[hu]at kE
  cases kE
  have iw:H T=none:=I.af.fresh ir
  have both:∀b o,b∉[e,j]→s.heap.get? b=some o→bH.get? b=some o:=fun b o hb q=>cY b o hb (hk b o hb q)
  have mG:T∉[e,j]:=W.apart _ _ _ kM
  have qk:bH.IsTuple T #[.int i nz,u]:=qj.at fun o q=>cY T o mG q
  have neT:∀b o,s.heap.get? b=some o→b≠T:=fun b o q=>Nat.ne_of_lt (Nat.lt_of_lt_of_le (Heap.lt_size q) ir)
  have cQ:∀b o,H b=some o→b≠T:=fun b o q=>Zb q iw
  have bW:∀b o,H b=some o→b∉[e,j]:=fun b o q z=>by
   have:=(hf b z).1
   rw[this]at q;cases q
  refine⟨.ref T,upd H T (.par [.int (i:Int),x]),?_,rfl,⟨T,x,rfl,iw,rfl,fun ys hy=>by rw[I.q0 hy hq];exact hx⟩,⟨eV.1,eV.2.1⟩,fun b hb=> ?_⟩
  ·refine(show Inv X pins σ (upd H T (.par [.int (i:Int),x])) {s with heap:=bH,toks:=tk} from ?_)
   refine I.call (g':=s.gens) (d':=s.drawn) (t':=tk) (h':=bH) (ch:=[e,j]) ⟨fun b o q _ _ hx=>both b o hx q,fun b o q _ _ hx=> ⟨o.slots,both b o hx q⟩,fun b o q n hx=>by rw[Zf (neT b o q)];exact n,fun b o q hx=> ⟨o,both b o hx q⟩,
    fun b ys q=>by rw[Zf (cQ b _ q)];exact q,fun b o u q=>by rw[Zf (cQ b _ q)];exact q,fun b ps q=> ⟨#[],by rw[Zf (cQ b _ q),q];simp⟩⟩ (fun b v q=> ?_) I.bare fun b hb=> ?_
   ·by_cases hb:b=T
    ·subst hb
     rw[Ze]at q
     cases q
     exact⟨by show 2≤sizeLine;decide,[.int i nz,u],.cons ⟨nz,rfl⟩ (.cons ru .nil),qk⟩
    ·rw[Zf hb]at q
     refine(I.af b v q).dA (fun c z bG q'=>both c z ?_ q') (fun c q'=>by rw[Zf (cQ c _ q')];exact q') fun c ys q'=>by rw[Zf (cQ c _ q')];exact q'
     rcases bG with z' |z'
     ·rw[z'];exact bW b v q
     ·exact bW c _ z'
   ·obtain⟨f0,f1,f2,f3,f4,f5⟩:=hf b hb
    exact⟨f3,f1,f4,f5⟩
  ·rw[Zf (fun z=>mG (by rw[←z];exact hb))]
   exact(hf b hb).1
 done:=by
  intro X hP hw hK hc i pins s σ H E I hf st hg
  subst hP hw hK
  obtain⟨xs,hq,hx⟩:=hg
  obtain⟨its,rv,p,hz⟩:=I.tuple hq
  have hl:=rv.length
  have W:=WalksT.enumerateD (prog:=X.prog) (w:=X.w) (A:=X.A) (uR (A:=X.A.in1) (show X.A.in1.handled=none from I.ok.hd hc) j t tN its.toArray) e mw (by simp[mw,tO.symm]) (by simp)
  have hn:i=its.toArray.size:=by rw[List.size_toArray];omega
  have hT:s.heap.IsTuple t its.toArray:=p
  rw[hn]at st
  refine W.done s _ _ ⟨st.1,st.2,hT⟩ fun h' tk hk=> ⟨rfl,?_⟩
  have bW:∀b o,H b=some o→b∉[e,j]:=fun b o q z=>by
   have:=(hf b z).1
   rw[this]at q;cases q
  refine I.call (g':=s.gens) (d':=s.drawn) (t':=tk) (h':=h') (ch:=[e,j]) ⟨fun b o q _ _ hx=>hk b o hx q,fun b o q _ _ hx=> ⟨o.slots,hk b o hx q⟩,fun b o q n hx=>n,fun b o q hx=> ⟨o,hk b o hx q⟩,fun b ys q=>q,fun b o u q=>q,fun b ps q=> ⟨#[],by rw[q];simp⟩⟩ (fun b v q=> ?_) I.bare fun b hb=> ?_
  ·refine(I.af b v q).dA (fun c z bG q'=>hk c z ?_ q') (fun _ q'=>q') fun _ _ q'=>q'
   rcases bG with z' |z'
   ·rw[z'];exact bW b v q
   ·exact bW c _ z'
  ·obtain⟨f0,f1,f2,f3,f4,f5⟩:=hf b hb
   exact⟨f3,f1,f4,f5⟩
 self:=fun A i s Q E st h=>let ⟨old,he⟩:=st.1;wpAny_pyIter_enum he h
section
variable {X:Cx}{elts:List Expr}{kk:Nat}{tp:Pos}
def zf (K:PySem.W.Frag) (ta:TA):TI:=fun σ H R=>ta σ H fun vs H1=> ∃t,vs=[.ref t]∧(∃xs,ak K H1 t xs)∧R (qL K t) H1
theorem Dz {a:Expr}{ta:TA}{p pos:Pos}(hg:Gl X "enumerate") (hm:X.mg "enumerate" =none) (ha:PA X [a] ta) (hs:starEach [a] X.env=[(false,eval a X.env)]:=by rfl):PI X (.Tuple elts kk tp) (.Call (.Name "enumerate" p) [a] [] pos) (zf X.K ta):=by
 intro pins s σ H R I h
 refine Call_ (Yu I hg hm boot_enumerate (PyProof.Rows.callWith_type1 (ao (ha pos pins s σ H _ I h) fun us s1 ⟨vs,H1,I1,r1,q1⟩=> ?_) hs rfl))
 obtain⟨t,e,⟨xs,hq⟩,q⟩:=q1
 subst e
 obtain⟨u,rfl,ru⟩:=vals1 r1
 cases ru
 obtain⟨its,rv,pl,hz⟩:=I1.tuple hq
 have hT:s1.heap.IsTuple t its.toArray:=pl
 have ht:t<s1.heap.objs.size:=by obtain⟨o,ho,_⟩:=hT;exact Heap.lt_size ho
 refine UN hT fun h' he hj hk=>wpAny_pyIter_enum he ?_
 have I2:Inv X pins σ H1 {s1 with heap:=h'} :=I1.kept (t':=s1.toks) hk
 refine⟨s1.heap.objs.size+1,[s1.heap.objs.size+1,s1.heap.objs.size],_,_,H1,rfl,I2,DQ t _ _ (Nat.succ_ne_self _) (Nat.ne_of_lt (Nat.lt_succ_of_lt ht)) (Nat.ne_of_lt ht),⟨⟨_,he⟩,hj⟩,fun b hb=> ?_,q⟩
 have kX:s1.heap.objs.size≤b:=by
  rcases List.mem_cons.mp hb with z |z
  ·rw[z];exact Nat.le_succ _
  ·rw[List.mem_singleton.mp z];exact Nat.le_refl _
 exact I1.ja kX (I1.af.fresh kX)
end
theorem Em {K:PySem.W.Frag}{a:Addr}{xs:List V}{g:TG}{tt:TT}{ti:TC}{ys:List V}{σ:St}{H:Hp}{Q:List V→St→Hp→Prop}(Pv:Nat→List V→St→Hp→Prop) (h0:Pv 0 ys σ H)
  (hl:∀i ys σ H,i≤xs.length→Pv i ys σ H→ak K H a xs)
  (hs:∀i x T ys σ H,xs[i]? =some x→H T=none→Pv i ys σ H→g (.ref T) σ (upd H T (.par [.int (i:Int),x])) fun aR H2=>tt aR H2 fun b H3=>if b=true then ti ys aR H3 (Pv (i+1)) else Pv (i+1) ys aR H3)
  (hd:∀ys σ H,Pv xs.length ys σ H→Q ys σ H):fQ g tt ti (qL K a) ys σ H Q:=by
 refine⟨fun i m ys σ H=>m=xs.length - i∧i≤xs.length∧Pv i ys σ H,⟨xs.length,by simp,Nat.zero_le _,h0⟩,?_⟩
 rintro i m ys σ H ⟨rfl,hi,p⟩
 have q:=hl i ys σ H hi p
 by_cases aK:i<xs.length
 ·refine .inr ⟨⟨xs,xs[i],q,by simp[aK]⟩,Pv (i+1),fun aU ah H' p'=> ⟨xs.length - (i+1),by omega,rfl,aK,p'⟩,fun x H' y=> ?_⟩
  obtain⟨T,z,e1,e2,e3,e4⟩:=y
  subst e1 e3
  exact hs i z T ys σ H (e4 xs q) e2 p
 ·have e:i=xs.length:=by omega
  subst e
  exact .inl ⟨⟨xs,q,rfl⟩,hd ys σ H p⟩
structure Fl (P:Program) (w:World) (outer:List Env) (H:Hp) (s:Shared) (e C:Addr) (H':Hp) (s':Shared):Prop where
 os:s'.os=s.os
 bare:AllBare s'.gens
 un:Un (dJ outer) [] H H' s.heap s'.heap
 af:bh P w H' s'.heap
 FY:∃B a0,Heap.FlyingW B outer e (.ref C) a0 s'.heap∧(∀b o,s.heap.get? b=some o→b∉dJ outer→∃u,B.get? b=some u)∧∀b o,H' b=some o→∃u,B.get? b=some u
end L2
namespace L2
open PySem PySem.Spec PyProof.Rows PySem.Builtin PySem.Builtin.ObjectAttr PySem.Builtin.Getset_descriptor
structure Gf (K:PySem.W.Frag) (C:Addr):Prop where
 ga:PySem.W.findIn K (.ref C) "__getattribute__" =some (some (.builtin "BaseException.__getattribute__"))
 hook:PySem.W.findIn K (.ref C) "__getattr__" =some none
 cl:PySem.W.findIn K (.ref C) "__class__" =some (some (.builtin "object.__class__"))
 ob:PySem.W.mroIn K C (.type "object")=some true
 bx:PySem.W.mroIn K C (.type "BaseException")=some true
 cls:(PySem.W.clsIn K C).isSome=true
end L2
namespace L2
open PySem PySem.Spec PyProof.Rows
abbrev Cx.eF (X:Cx) (e:Value):Cx:= {X with A:=X.A.mark (some e),calm:=false,xe:=fun _ _=>False}
structure F4 (X:Cx) (c P:Addr):Prop where
 code:X.env.code=.ref c
 hd:PySem.W.CodeHd X.base c P
 bm:∃bm ob,X.mg "__builtins__" =some (.ref bm)∧bm≠builtinsNs∧X.base.get? bm=some ob∧ob.cls=.type "module" ∧ob.dict=some builtinsNs∧ob.data=.plain
structure F2 (base:Heap) (scope:Scope) (cl:List (Str×Addr)) (x y:Str) (vx vy:V):Prop where
 kx:scope.names.lookup x=some .free
 ky:scope.names.lookup y=some .free
 only:∀z,scope.names.lookup z=some .cell∨scope.names.lookup z=some .free→z=x∨z=y
 ne:x≠y
 cx:∃c u,cl.lookup x=some c∧base.IsCell c (some u)∧RelV vx u
 cy:∃c u,cl.lookup y=some c∧base.IsCell c (some u)∧RelV vy u
 mem:∀z c,cl.lookup z=some c→z=x∨z=y
 inj:∀c,cl.lookup x=some c→cl.lookup y=some c→False
inductive Lit where
 |sc (v:V)
 |tup (xs:List V)
 |lst (xs:List V)
 |jU
theorem DV (n l1 l2:Nat) (h1:l1<n) (h2:l2<n):ZipApart (n+4) (n+2) (n+3) n (n+1) l1 l2:=by
 constructor<;>intro z<;>refine absurd (show @Eq Nat _ _ from z) ?_<;>omega
end L2
namespace L2
open PySem PySem.Spec PyProof.Rows SeqAt
theorem Jr {α β:Type}{F:α→β→Prop} :∀{ig:List α}{ie:List β}{i:Nat}{x:α},Paired F ig ie→ig[i]? =some x→∃y,ie[i]? =some y∧F x y
 |_,_,_,_,.nil,h=>by simp at h
 |_,_,0,_,.cons r _,h=>by simp at h;subst h;exact⟨_,rfl,r⟩
 |_,_,i+1,_,.cons _ t,h=>by
  obtain⟨y,e,q⟩:=Jr t (i:=i) (by simpa using h)
  exact⟨y,by simpa using e,q⟩
section
variable {X:Cx}
theorem Wg {ns:List Int}{us:List Value}(r:Vals (ns.map V.int) us) (j:Nat) (h:j<us.length):∃t,us[j]=.int (ns.getD j 0) t:=by
 have hl:=r.length
 rw[List.length_map]at hl
 have hj:j<ns.length:=by omega
 obtain⟨u,hu,t,ru⟩:=r.get (i:=j) (x:=.int ns[j]) (by rw[List.getElem?_map,List.getElem?_eq_getElem hj];rfl)
 rw[List.getElem?_eq_getElem h]at hu
 cases hu
 exact⟨t,by rw[ru];simp[hj]⟩
end
end L2
namespace L2
open PySem PySem.Spec PyProof.Rows
structure One (base:Heap) (scope:Scope) (cl:List (Str×Addr)) (x:Str) (vx:V):Prop where
 kx:scope.names.lookup x=some .free
 only:∀z,scope.names.lookup z=some .cell∨scope.names.lookup z=some .free→z=x
 cx:∃c u,cl.lookup x=some c∧base.IsCell c (some u)∧RelV vx u
 mem:∀z c,cl.lookup z=some c→z=x
structure Src (prog:Program) (w:World) (i l:Addr) (n:Nat) (f:Nat→Value) (S:Nat→Heap→Prop):Prop where
 here:∀k h,S k h→∃o,h.get? i=some o
 dA:∀k h h',S k h→(∀c,c=i∨c=l→∀o,h.get? c=some o→h'.get? c=some o)→S k h'
 item:∀(A:Around) k (s:Shared) (Q:Value→Shared→Prop) (E:Value→Shared→Prop),k<n→S k s.heap→(∀h',S (k+1) h'→Heap.SameBut i s.heap h'→Q (f k) {s with heap:=h'})→wpAny (model prog w) A (Builtin.SmallTypes.nextOf (.ref i)) Q E s
 stop:∀(A:Around) (s:Shared) (Q:Value→Shared→Prop) (E:Value→Shared→Prop),A.handled=none→S n s.heap→(∀h' e,Heap.ExtBut i s.heap h'→(∃o,h'.get? e=some o∧o.cls=.type "StopIteration")→E (.ref e) {s with heap:=h'})→wpAny (model prog w) A (Builtin.SmallTypes.nextOf (.ref i)) Q E s
end L2
namespace L2
open PySem PySem.Spec PyProof.Rows SeqAt
section
variable {X:Cx}
theorem B6 (hu:X.A.units<cLine):aW X (compareOp .Eq) (fun x y H Q=> ∃(a b:Addr) (ns ms:List Int),x=.ref a∧y=.ref b∧ak X.K H a (ns.map V.int)∧ak X.K H b (ms.map V.int)∧Q (.bl (decide (ns=ms))) H):=by
 intro pins s σ H x y u v Q I rx ry h
 obtain⟨a,b,ns,ms,rfl,rfl,ha,hb,q⟩:=h
 cases rx
 cases ry
 obtain⟨us,r1,p1,_⟩:=I.tuple ha
 obtain⟨vs,r2,p2,_⟩:=I.tuple hb
 have l1:=r1.length
 have l2:=r2.length
 rw[List.length_map]at l1 l2
 refine eq_tupleAt (e:=fun j=>ns.getD j 0==ms.getD j 0) p1 p2 hu (fun j h1 h2=> ?_) ?_
 ·obtain⟨t1,e1⟩:=Wg r1 j (by simpa using h1)
  obtain⟨t2,e2⟩:=Wg r2 j (by simpa using h2)
  rw[show us.toArray[j]=us[j]'(by simpa using h1) by simp,show vs.toArray[j]=vs[j]'(by simpa using h2) by simp,e1,e2]
  exact SeqAt.EqAt.int_int _ _ _ _
 ·have e:((List.range (min us.toArray.size vs.toArray.size)).all (fun j=>ns.getD j 0==ms.getD j 0)&&us.toArray.size==vs.toArray.size)=decide (ns=ms):=by
   rw[Bool.eq_iff_iff,Bool.and_eq_true,List.all_eq_true,decide_eq_true_eq,beq_iff_eq,List.size_toArray,List.size_toArray]
   constructor
   ·rintro⟨h,hl⟩
    refine List.ext_getElem (by omega) fun i h1 h2=> ?_
    have:=h i (by rw[List.mem_range];omega)
    simpa[h1,h2] using this
   ·rintro rfl
    exact⟨fun j _=>by simp,by omega⟩
  rw[e]
  exact⟨.bl _,H,I,rfl,q⟩
end
structure Cells (base:Heap) (scope:Scope) (cl:List (Str×Addr)) (N:List Str) (vs:List V):Prop where
 len:vs.length=N.length
 only:∀z,scope.names.lookup z=some .cell∨scope.names.lookup z=some .free→z∈N
 at_:∀(i:Nat) x v,N[i]? =some x→vs[i]? =some v→scope.names.lookup x=some .free∧∃c u,cl.lookup x=some c∧base.IsCell c (some u)∧RelV v u
 mem:∀z c,cl.lookup z=some c→z∈N
 inj:∀x y c,cl.lookup x=some c→cl.lookup y=some c→x=y
end L2
namespace L2
open PySem PySem.Spec PyProof.Rows
end L2
namespace PyProof.Rows.dW
open PySem
def AY:Bool→Keyed→Array Keyed→Nat→Nat→Nat→StateT SortSt Sem (Option Nat):=sortPriv%PySem.Builtin.gallop
def mQ (left:Bool) (key:Keyed) (arr:Array Keyed) (base:Nat) (i:Nat):StateT SortSt Sem (Option Bool):=
 elem' arr (base+i) >>=fun x=>if left=true then lt' x key else lt' key x >>=fun c=>pure (c.map fun z=> !z)
structure Ord (r:Keyed→Keyed→Bool):Prop where
 bt:∀x y,r x y=true→r y x=false
 cf:∀x y z,r y x=false→r z y=false→r z x=false
theorem Ord.ij {r:Keyed→Keyed→Bool}(o:Ord r) (x:Keyed):r x x=false:=by
 cases h:r x x with
 |false=>rfl
 |true=>have:=o.bt x x h;rw[h]at this;cases this
section
variable {prog:Program}{w:World}{A:Around}{E:Value→Shared→Prop}{s:Shared}{κ:SortKind}{a₀:Array Keyed}{r:Keyed→Keyed→Bool}
def fM (prog:Program) (w:World) (A:Around) (E:Value→Shared→Prop) (s:Shared) (κ:SortKind) (a₀:Array Keyed) (r:Keyed→Keyed→Bool):Prop:=
 ∀(x y:Keyed) (st:SortSt) (Q:Option Bool→SortSt→Prop),x∈a₀.toList→y∈a₀.toList→kindOf st=κ→Q (some (r x y)) st→wpS (model prog w) A E s (lt' x y) Q st
theorem Zj {arr:Array Keyed}{i:Nat}{x:Keyed}{Q:Keyed→SortSt→Prop}{st:SortSt}(hx:arr[i]? =some x) (h:Q x st):wpS (model prog w) A E s (elem' arr i) Q st:=by
 rw[elem'_eq,hx]
 exact wpS_pure h
def bp (r:Keyed→Keyed→Bool) (left:Bool) (key x:Keyed):Bool:=if left=true then r x key else !r key x
theorem Uo {left:Bool}{key:Keyed}{arr:Array Keyed}{base i:Nat}{x:Keyed}{Q:Option Bool→SortSt→Prop}{st:SortSt}(hc:fM prog w A E s κ a₀ r) (hk:kindOf st=κ) (hx:arr[base+i]? =some x) (mx:x∈a₀.toList) (mk:key∈a₀.toList) (h:Q (some (bp r left key x)) st):
  wpS (model prog w) A E s (mQ left key arr base i) Q st:=by
 unfold mQ
 refine wpS_bind (Zj hx ?_)
 cases left with
 |true=>
  rw[if_pos rfl]
  exact hc _ _ _ _ mx mk hk h
 |false=>
  rw[if_neg Bool.false_ne_true]
  exact wpS_bind (hc _ _ _ _ mk mx hk (wpS_pure h))
theorem Zs {left:Bool}{key:Keyed}{arr:Array Keyed}{base n hint:Nat}{Q:Option Nat→SortSt→Prop}{st:SortSt}(hc:fM prog w A E s κ a₀ r) (hk:kindOf st=κ) (p:Nat→Bool)
  (hp:∀i,i<n→∃x,arr[base+i]? =some x∧x∈a₀.toList∧p i=bp r left key x) (mk:key∈a₀.toList) (mono:∀i j,i≤j→j<n→p j=true→p i=true) (hh:hint<n)
  (h:∀k,k≤n→(∀i,i<k→p i=true)→(∀i,k≤i→i<n→p i=false)→Q (some k) st):wpS (model prog w) A E s (AY left key arr base n hint) Q st:=by
 have gY:∀{i:Nat}{Q:Option Bool→SortSt→Prop},i<n→Q (some (p i)) st→wpS (model prog w) A E s (mQ left key arr base i) Q st:=fun {i Q} hi hq=>by
  obtain⟨x,e,m,ep⟩:=hp i hi
  exact Uo hc hk e m mk (by rw[←ep];exact hq)
 have down:∀i j,i≤j→j<n→p i=false→p j=false:=fun i j ck hj hf=>by
  cases hh:p j with
  |false=>rfl
  |true=>rw[mono i j ck hj hh]at hf;cases hf
 show wpS (model prog w) A E s (mQ left key arr base hint >>=_) _ _
 dsimp only
 refine wpS_bind (gY hh ?_)
 cases tV:p hint with
 |true=>
  dsimp only
  rw[if_pos rfl]
  refine wpS_bind (wpS_forRange (I:=fun x c aa=>aa=st∧∃cw cc,c=(none,cw,cc)∧hint+cw<n∧p (hint+cw)=true∧cw<cc∧x+1≤cc) ?xu ?A4 ⟨rfl,0,1,rfl,hh,tV,by omega,by omega⟩)
  case A4=>
   rintro c aa ⟨rfl,cw,cc,rfl,q1,q2,q3,q4⟩
   rw[Nat.max_eq_right (Nat.zero_le n)]at q4
   dsimp only
   refine wpS_bind (wpS_forRange (I:=fun x c ag=>ag=aa∧∃lo hi,c=(none,lo,hi)∧lo≤hi∧hi≤n∧(∀i,i<lo→p i=true)∧(∀i,hi≤i→i<n→p i=false)∧hi - lo≤n - x) ?_ ?_ ⟨rfl,_,_,rfl,(by omega),(by omega),(fun i hi=>mono i (hint+cw) (by omega) q1 q2),(fun i h1 h2=>by omega),by omega⟩)
   ·rintro x c ag _ hx ⟨rfl,lo,hi,rfl,h1,h2,h3,h4,h5⟩
    dsimp only
    by_cases bq:lo≥hi
    ·rw[if_pos bq]
     have e:lo=hi:=by omega
     subst e
     exact wpS_pure (wpS_pure (h lo h2 h3 h4))
    ·rw[if_neg bq]
     have hm:lo+(hi - lo)/2<hi:=by omega
     generalize em:lo+(hi - lo)/2=m at hm
     have fz:lo≤m:=by omega
     refine wpS_bind (gY (by omega) ?_)
     cases cX:p m with
     |true=>exact wpS_pure ⟨rfl,m+1,hi,rfl,by omega,h2,fun i bL=>mono i m (by omega) (by omega) cX,h4,by omega⟩
     |false=>exact wpS_pure ⟨rfl,lo,m,rfl,fz,by omega,h3,fun i h1 h2=>down m i h1 h2 cX,by omega⟩
   ·rintro c ag ⟨rfl,lo,hi,rfl,h1,h2,h3,h4,h5⟩
    rw[Nat.max_eq_right (Nat.zero_le n)]at h5
    have e:lo=hi:=by omega
    subst e
    exact wpS_pure (h lo h2 h3 h4)
  case xu=>
   rintro x c aa _ hx ⟨rfl,cw,cc,rfl,q1,q2,q3,q4⟩
   dsimp only
   by_cases bq:cc≥n - hint
   ·rw[if_pos bq]
    refine wpS_pure ?_
    dsimp only
    refine wpS_bind (wpS_forRange (I:=fun x c ag=>ag=aa∧∃lo hi,c=(none,lo,hi)∧lo≤hi∧hi≤n∧(∀i,i<lo→p i=true)∧(∀i,hi≤i→i<n→p i=false)∧hi - lo≤n - x) ?_ ?_ ⟨rfl,_,_,rfl,(by omega),(by omega),(fun i hi=>mono i (hint+cw) (by omega) q1 q2),(fun i h1 h2=>by omega),by omega⟩)
    ·rintro x c ag _ hx ⟨rfl,lo,hi,rfl,h1,h2,h3,h4,h5⟩
     dsimp only
     by_cases bq:lo≥hi
     ·rw[if_pos bq]
      have e:lo=hi:=by omega
      subst e
      exact wpS_pure (wpS_pure (h lo h2 h3 h4))
     ·rw[if_neg bq]
      have hm:lo+(hi - lo)/2<hi:=by omega
      generalize em:lo+(hi - lo)/2=m at hm
      have fz:lo≤m:=by omega
      refine wpS_bind (gY (by omega) ?_)
      cases cX:p m with
      |true=>exact wpS_pure ⟨rfl,m+1,hi,rfl,by omega,h2,fun i bL=>mono i m (by omega) (by omega) cX,h4,by omega⟩
      |false=>exact wpS_pure ⟨rfl,lo,m,rfl,fz,by omega,h3,fun i h1 h2=>down m i h1 h2 cX,by omega⟩
    ·rintro c ag ⟨rfl,lo,hi,rfl,h1,h2,h3,h4,h5⟩
     rw[Nat.max_eq_right (Nat.zero_le n)]at h5
     have e:lo=hi:=by omega
     subst e
     exact wpS_pure (h lo h2 h3 h4)
   ·rw[if_neg bq]
    refine wpS_bind (gY (by omega) ?_)
    cases kK:p (hint+cc) with
    |true=>exact wpS_pure ⟨rfl,cc,2*cc+1,rfl,by omega,kK,by omega,by omega⟩
    |false=>
     refine wpS_pure ?_
     dsimp only
     refine wpS_bind (wpS_forRange (I:=fun x c ag=>ag=aa∧∃lo hi,c=(none,lo,hi)∧lo≤hi∧hi≤n∧(∀i,i<lo→p i=true)∧(∀i,hi≤i→i<n→p i=false)∧hi - lo≤n - x) ?_ ?_ ⟨rfl,_,_,rfl,(by omega),(by omega),(fun i hi=>mono i (hint+cw) (by omega) q1 q2),(fun i h1 h2=>down (hint+cc) i (by omega) h2 kK),by omega⟩)
     ·rintro x c ag _ hx ⟨rfl,lo,hi,rfl,h1,h2,h3,h4,h5⟩
      dsimp only
      by_cases bq:lo≥hi
      ·rw[if_pos bq]
       have e:lo=hi:=by omega
       subst e
       exact wpS_pure (wpS_pure (h lo h2 h3 h4))
      ·rw[if_neg bq]
       have hm:lo+(hi - lo)/2<hi:=by omega
       generalize em:lo+(hi - lo)/2=m at hm
       have fz:lo≤m:=by omega
       refine wpS_bind (gY (by omega) ?_)
       cases cX:p m with
       |true=>exact wpS_pure ⟨rfl,m+1,hi,rfl,by omega,h2,fun i bL=>mono i m (by omega) (by omega) cX,h4,by omega⟩
       |false=>exact wpS_pure ⟨rfl,lo,m,rfl,fz,by omega,h3,fun i h1 h2=>down m i h1 h2 cX,by omega⟩
     ·rintro c ag ⟨rfl,lo,hi,rfl,h1,h2,h3,h4,h5⟩
      rw[Nat.max_eq_right (Nat.zero_le n)]at h5
      have e:lo=hi:=by omega
      subst e
      exact wpS_pure (h lo h2 h3 h4)
 |false=>
  dsimp only
  rw[if_neg Bool.false_ne_true]
  refine wpS_bind (wpS_forRange (I:=fun x c aa=>aa=st∧∃cw cc,c=(none,cw,cc)∧cw≤hint∧p (hint - cw)=false∧cw<cc∧x+1≤cc) ?xr ?fin2 ⟨rfl,0,1,rfl,by omega,tV,by omega,by omega⟩)
  case fin2=>
   rintro c aa ⟨rfl,cw,cc,rfl,q1,q2,q3,q4⟩
   rw[Nat.max_eq_right (Nat.zero_le n)]at q4
   dsimp only
   refine wpS_bind (wpS_forRange (I:=fun x c ag=>ag=aa∧∃lo hi,c=(none,lo,hi)∧lo≤hi∧hi≤n∧(∀i,i<lo→p i=true)∧(∀i,hi≤i→i<n→p i=false)∧hi - lo≤n - x) ?_ ?_ ⟨rfl,_,_,rfl,(by omega),(by omega),(fun i hi=>by omega),(fun i h1 h2=>down (hint - cw) i (by omega) h2 q2),by omega⟩)
   ·rintro x c ag _ hx ⟨rfl,lo,hi,rfl,h1,h2,h3,h4,h5⟩
    dsimp only
    by_cases bq:lo≥hi
    ·rw[if_pos bq]
     have e:lo=hi:=by omega
     subst e
     exact wpS_pure (wpS_pure (h lo h2 h3 h4))
    ·rw[if_neg bq]
     have hm:lo+(hi - lo)/2<hi:=by omega
     generalize em:lo+(hi - lo)/2=m at hm
     have fz:lo≤m:=by omega
     refine wpS_bind (gY (by omega) ?_)
     cases cX:p m with
     |true=>exact wpS_pure ⟨rfl,m+1,hi,rfl,by omega,h2,fun i bL=>mono i m (by omega) (by omega) cX,h4,by omega⟩
     |false=>exact wpS_pure ⟨rfl,lo,m,rfl,fz,by omega,h3,fun i h1 h2=>down m i h1 h2 cX,by omega⟩
   ·rintro c ag ⟨rfl,lo,hi,rfl,h1,h2,h3,h4,h5⟩
    rw[Nat.max_eq_right (Nat.zero_le n)]at h5
    have e:lo=hi:=by omega
    subst e
    exact wpS_pure (h lo h2 h3 h4)
  case xr=>
   rintro x c aa _ hx ⟨rfl,cw,cc,rfl,q1,q2,q3,q4⟩
   dsimp only
   by_cases bq:cc≥hint+1
   ·rw[if_pos bq]
    refine wpS_pure ?_
    dsimp only
    refine wpS_bind (wpS_forRange (I:=fun x c ag=>ag=aa∧∃lo hi,c=(none,lo,hi)∧lo≤hi∧hi≤n∧(∀i,i<lo→p i=true)∧(∀i,hi≤i→i<n→p i=false)∧hi - lo≤n - x) ?_ ?_ ⟨rfl,_,_,rfl,(by omega),(by omega),(fun i hi=>by omega),(fun i h1 h2=>down (hint - cw) i (by omega) h2 q2),by omega⟩)
    ·rintro x c ag _ hx ⟨rfl,lo,hi,rfl,h1,h2,h3,h4,h5⟩
     dsimp only
     by_cases bq:lo≥hi
     ·rw[if_pos bq]
      have e:lo=hi:=by omega
      subst e
      exact wpS_pure (wpS_pure (h lo h2 h3 h4))
     ·rw[if_neg bq]
      have hm:lo+(hi - lo)/2<hi:=by omega
      generalize em:lo+(hi - lo)/2=m at hm
      have fz:lo≤m:=by omega
      refine wpS_bind (gY (by omega) ?_)
      cases cX:p m with
      |true=>exact wpS_pure ⟨rfl,m+1,hi,rfl,by omega,h2,fun i bL=>mono i m (by omega) (by omega) cX,h4,by omega⟩
      |false=>exact wpS_pure ⟨rfl,lo,m,rfl,fz,by omega,h3,fun i h1 h2=>down m i h1 h2 cX,by omega⟩
    ·rintro c ag ⟨rfl,lo,hi,rfl,h1,h2,h3,h4,h5⟩
     rw[Nat.max_eq_right (Nat.zero_le n)]at h5
     have e:lo=hi:=by omega
     subst e
     exact wpS_pure (h lo h2 h3 h4)
   ·rw[if_neg bq]
    refine wpS_bind (gY (by omega) ?_)
    cases kK:p (hint - cc) with
    |true=>
     refine wpS_pure ?_
     dsimp only
     refine wpS_bind (wpS_forRange (I:=fun x c ag=>ag=aa∧∃lo hi,c=(none,lo,hi)∧lo≤hi∧hi≤n∧(∀i,i<lo→p i=true)∧(∀i,hi≤i→i<n→p i=false)∧hi - lo≤n - x) ?_ ?_ ⟨rfl,_,_,rfl,(by omega),(by omega),(fun i hi=>mono i (hint - cc) (by omega) (by omega) kK),(fun i h1 h2=>down (hint - cw) i (by omega) h2 q2),by omega⟩)
     ·rintro x c ag _ hx ⟨rfl,lo,hi,rfl,h1,h2,h3,h4,h5⟩
      dsimp only
      by_cases bq:lo≥hi
      ·rw[if_pos bq]
       have e:lo=hi:=by omega
       subst e
       exact wpS_pure (wpS_pure (h lo h2 h3 h4))
      ·rw[if_neg bq]
       have hm:lo+(hi - lo)/2<hi:=by omega
       generalize em:lo+(hi - lo)/2=m at hm
       have fz:lo≤m:=by omega
       refine wpS_bind (gY (by omega) ?_)
       cases cX:p m with
       |true=>exact wpS_pure ⟨rfl,m+1,hi,rfl,by omega,h2,fun i bL=>mono i m (by omega) (by omega) cX,h4,by omega⟩
       |false=>exact wpS_pure ⟨rfl,lo,m,rfl,fz,by omega,h3,fun i h1 h2=>down m i h1 h2 cX,by omega⟩
     ·rintro c ag ⟨rfl,lo,hi,rfl,h1,h2,h3,h4,h5⟩
      rw[Nat.max_eq_right (Nat.zero_le n)]at h5
      have e:lo=hi:=by omega
      subst e
      exact wpS_pure (h lo h2 h3 h4)
    |false=>exact wpS_pure ⟨rfl,cc,2*cc+1,rfl,by omega,kK,by omega,by omega⟩
end
def rD:Nat→StateT SortSt Sem Unit:=sortPriv%PySem.Builtin.setMinGallop
def yV:Array Keyed→Array Keyed→StateT SortSt Sem (Array Keyed):=sortPriv%PySem.Builtin.mergeLo
theorem YT (g:Nat):rD g=modify fun s=>SortSt.mk' (kindOf s) (arrOf s) (pendingOf s) g (failedOf s):=rfl
abbrev Pw (r:Keyed→Keyed→Bool) (l:List Keyed):Prop:=l.Pairwise fun x y=>r y x=false
def SG (st aa:SortSt):Prop:=kindOf aa=kindOf st∧arrOf aa=arrOf st∧pendingOf aa=pendingOf st∧failedOf aa=failedOf st
theorem SG.refl (st:SortSt):SG st st:=⟨rfl,rfl,rfl,rfl⟩
def Good (r:Keyed→Keyed→Bool) (a b res:Array Keyed):Prop:=res.toList.Perm (a.toList++b.toList)∧Pw r res.toList
structure JW (r:Keyed→Keyed→Bool) (a b out:Array Keyed) (ia ib:Nat):Prop where
 perm:(out.toList++(a.toList.drop ia++b.toList.drop ib)).Perm (a.toList++b.toList)
 gB:Pw r out.toList
 dS:∀x∈out.toList,∀y∈a.toList.drop ia++b.toList.drop ib,r y x=false
structure dc (r:Keyed→Keyed→Bool) (a b:Array Keyed):Prop where
 o:Ord r
 sa:Pw r a.toList
 sb:Pw r b.toList
theorem YD {α:Type}{l:List α}{i:Nat}{x:α}(h:l[i]? =some x):l.drop i=x::l.drop (i+1):=by
 obtain⟨hi,e⟩:=List.getElem?_eq_some_iff.mp h
 rw[List.drop_eq_getElem_cons hi,e]
theorem Zn {xs:Array Keyed}{i:Nat}{x:Keyed}(h:xs[i]? =some x):xs.toList[i]? =some x:=by rw[Array.getElem?_toList];exact h
theorem Zc {xs:Array Keyed}{i:Nat}(h:i<xs.size):∃x,xs[i]? =some x:=⟨xs[i],getElem?_pos xs i h⟩
theorem YM {r:Keyed→Keyed→Bool}{l:List Keyed}{i:Nat}{x:Keyed}(o:Ord r) (p:Pw r l) (h:l[i]? =some x):∀y∈l.drop i,r y x=false:=fun y hy=>by
 rw[YD h]at hy
 rcases List.mem_cons.mp hy with rfl |hy
 ·exact o.ij _
 ·have q:Pw r (l.drop i):=List.Pairwise.sublist (List.drop_sublist i l) p
  rw[YD h]at q
  exact(List.pairwise_cons.mp q).1 y hy
theorem Y5 (xs:Array Keyed) (i j:Nat):(xs.extract i j).toList=(xs.toList.drop i).take (j - i):=by
 rw[Array.toList_extract,List.extract_eq_drop_take]
theorem Jk (xs:Array Keyed) (i:Nat):(xs.extract i xs.size).toList=xs.toList.drop i:=by
 rw[Y5,List.take_of_length_le (by rw[List.length_drop,Array.length_toList];exact Nat.le_refl _)]
section
variable {r:Keyed→Keyed→Bool}{a b out:Array Keyed}{ia ib:Nat}
theorem JW.bX (C:dc r a b) (J:JW r a b out ia ib) {x:Keyed}(hx:a[ia]? =some x) (h:∀y,b[ib]? =some y→r y x=false):JW r a b (out.push x) (ia+1) ib:=by
 have gK:=Zn hx
 have hd:=YD gK
 have low:∀y∈a.toList.drop (ia+1)++b.toList.drop ib,r y x=false:=fun y hy=>by
  rcases List.mem_append.mp hy with hy |hy
  ·exact YM C.o C.sa gK y (by rw[hd];exact List.mem_cons_of_mem _ hy)
  ·cases e:b[ib]? with
   |none=>
    rw[←Array.getElem?_toList]at e
    rw[List.drop_eq_nil_of_le (by rw[List.getElem?_eq_none_iff]at e;exact e)]at hy
    cases hy
   |some z=>
    have h1:=YM C.o C.sb (Zn e) y hy
    exact C.o.cf x z y (h z e) h1
 refine⟨?_,?_,fun u hu y hy=> ?_⟩
 ·rw[Array.toList_push,List.append_assoc]
  have:=J.perm
  rw[hd]at this
  exact this
 ·rw[Array.toList_push]
  refine List.pairwise_append.mpr ⟨J.gB,List.pairwise_singleton _ _,fun u hu v hv=> ?_⟩
  rw[List.mem_singleton.mp hv]
  exact J.dS u hu x (List.mem_append_left _ (by rw[hd];exact List.mem_cons_self))
 ·rw[Array.toList_push]at hu
  rcases List.mem_append.mp hu with hu |hu
  ·refine J.dS u hu y ?_
   rcases List.mem_append.mp hy with hy |hy
   ·exact List.mem_append_left _ (by rw[hd];exact List.mem_cons_of_mem _ hy)
   ·exact List.mem_append_right _ hy
  ·rw[List.mem_singleton.mp hu]
   exact low y hy
theorem JW.dB (C:dc r a b) (J:JW r a b out ia ib) {y:Keyed}(hy:b[ib]? =some y) (h:∀x,a[ia]? =some x→r x y=false):JW r a b (out.push y) ia (ib+1):=by
 have kC:=Zn hy
 have hd:=YD kC
 have low:∀z∈a.toList.drop ia++b.toList.drop (ib+1),r z y=false:=fun z hz=>by
  rcases List.mem_append.mp hz with hz |hz
  ·cases e:a[ia]? with
   |none=>
    rw[←Array.getElem?_toList]at e
    rw[List.drop_eq_nil_of_le (by rw[List.getElem?_eq_none_iff]at e;exact e)]at hz
    cases hz
   |some x=>
    have h1:=YM C.o C.sa (Zn e) z hz
    exact C.o.cf y x z (h x e) h1
  ·exact YM C.o C.sb kC z (by rw[hd];exact List.mem_cons_of_mem _ hz)
 refine⟨?_,?_,fun u hu z hz=> ?_⟩
 ·rw[Array.toList_push,List.append_assoc]
  have:=J.perm
  rw[hd]at this
  refine List.Perm.trans (List.Perm.append_left _ ?_) this
  exact(show(y::(a.toList.drop ia++b.toList.drop (ib+1))).Perm _ from List.perm_middle.symm)
 ·rw[Array.toList_push]
  refine List.pairwise_append.mpr ⟨J.gB,List.pairwise_singleton _ _,fun u hu v hv=> ?_⟩
  rw[List.mem_singleton.mp hv]
  exact J.dS u hu y (List.mem_append_right _ (by rw[hd];exact List.mem_cons_self))
 ·rw[Array.toList_push]at hu
  rcases List.mem_append.mp hu with hu |hu
  ·refine J.dS u hu z ?_
   rcases List.mem_append.mp hz with hz |hz
   ·exact List.mem_append_left _ hz
   ·exact List.mem_append_right _ (by rw[hd];exact List.mem_cons_of_mem _ hz)
  ·rw[List.mem_singleton.mp hu]
   exact low z hz
theorem Uc {xs:Array Keyed}{i k:Nat}{x:Keyed}(hx:xs[i+k]? =some x):xs.extract i (i+(k+1))=(xs.extract i (i+k)).push x:=by
 obtain⟨h,e⟩:=Array.getElem?_eq_some_iff.mp hx
 rw[←e,←Nat.add_assoc,Array.extract_succ_right (by omega) h]
theorem JW.jt (C:dc r a b) (J:JW r a b out ia ib):∀k,ia+k≤a.size→(∀i,i<k→∀x y,a[ia+i]? =some x→b[ib]? =some y→r y x=false)→JW r a b (out++a.extract ia (ia+k)) (ia+k) ib
 |0,_,_=>by
  rw[Nat.add_zero]
  have e:a.extract ia ia= #[]:=by simp;omega
  rw[e,Array.append_empty]
  exact J
 |k+1,hk,h=>by
  obtain⟨x,hx⟩:=Zc (xs:=a) (i:=ia+k) (by omega)
  have ih:=JW.jt C J k (by omega) fun i hi=>h i (by omega)
  have:=ih.bX C hx fun y hy=>h k (by omega) x y hx hy
  rw[Uc hx,Array.append_push]
  exact this
theorem JW.h9 (C:dc r a b) (J:JW r a b out ia ib):∀k,ib+k≤b.size→(∀i,i<k→∀y x,b[ib+i]? =some y→a[ia]? =some x→r x y=false)→JW r a b (out++b.extract ib (ib+k)) ia (ib+k)
 |0,_,_=>by
  rw[Nat.add_zero]
  have e:b.extract ib ib= #[]:=by simp;omega
  rw[e,Array.append_empty]
  exact J
 |k+1,hk,h=>by
  obtain⟨y,hy⟩:=Zc (xs:=b) (i:=ib+k) (by omega)
  have ih:=JW.h9 C J k (by omega) fun i hi=>h i (by omega)
  have:=ih.dB C hy fun x hx=>h k (by omega) y x hy hx
  rw[Uc hy,Array.append_push]
  exact this
theorem JW.done (C:dc r a b) (J:JW r a b out ia ib) (h:a.size≤ia∨b.size≤ib):Good r a b (out++a.extract ia a.size++b.extract ib b.size):=by
 unfold Good
 rw[Array.toList_append,Array.toList_append,Jk,Jk]
 refine⟨by rw[List.append_assoc];exact J.perm,?_⟩
 have pa:Pw r (a.toList.drop ia):=List.Pairwise.sublist (List.drop_sublist _ _) C.sa
 have pb:Pw r (b.toList.drop ib):=List.Pairwise.sublist (List.drop_sublist _ _) C.sb
 rw[List.append_assoc]
 refine List.pairwise_append.mpr ⟨J.gB,?_,J.dS⟩
 rcases h with h |h
 ·rw[List.drop_eq_nil_of_le (by rw[Array.length_toList];exact h),List.nil_append]
  exact pb
 ·rw[List.drop_eq_nil_of_le (as:=b.toList) (by rw[Array.length_toList];exact h),List.append_nil]
  exact pa
theorem JW.last (C:dc r a b) (J:JW r a b out ia ib) (h:ia+1=a.size) (hl:∀x,a[a.size - 1]? =some x→∀y∈b.toList,r x y=false):Good r a b (out++b.extract ib b.size++a.extract ia a.size):=by
 unfold Good
 rw[Array.toList_append,Array.toList_append,Jk,Jk]
 obtain⟨x,hx⟩:=Zc (xs:=a) (i:=ia) (by omega)
 have ed:a.toList.drop ia=[x]:=by
  rw[YD (Zn hx),List.drop_eq_nil_of_le (by rw[Array.length_toList];omega)]
 have P:=J.perm
 have B:=J.dS
 rw[ed]at P B ⊢
 have pb:Pw r (b.toList.drop ib):=List.Pairwise.sublist (List.drop_sublist _ _) C.sb
 refine⟨?_,?_⟩
 ·rw[List.append_assoc]
  exact List.Perm.trans (List.Perm.append_left _ List.perm_append_comm) P
 ·rw[List.append_assoc]
  refine List.pairwise_append.mpr ⟨J.gB,List.pairwise_append.mpr ⟨pb,List.pairwise_singleton _ _,fun y hy z hz=> ?_⟩,fun u hu z hz=>B u hu z ?_⟩
  ·rw[List.mem_singleton.mp hz]
   exact hl x (by rw[show a.size - 1=ia by omega];exact hx) y (List.mem_of_mem_drop hy)
  ·rcases List.mem_append.mp hz with hz |hz
   ·exact List.mem_append_right _ hz
   ·exact List.mem_append_left _ hz
end
theorem Zm {xs:Array Keyed}{i:Nat}{x:Keyed}(h:xs[i]? =some x):x∈xs.toList:=List.mem_of_getElem? (Zn h)
theorem Z0 {r:Keyed→Keyed→Bool}{l:List Keyed}{i j:Nat}{x y:Keyed}(o:Ord r) (p:Pw r l) (hx:l[i]? =some x) (hy:l[j]? =some y) (h:i≤j):r y x=false:=by
 refine YM o p hx y ?_
 have:(l.drop i)[j - i]? =some y:=by rw[List.getElem?_drop,show i+(j - i)=j by omega];exact hy
 exact List.mem_of_getElem? this
theorem YR {r:Keyed→Keyed→Bool}{x y z:Keyed}(o:Ord r) (h:r y z=true) (h2:r y x=false):r x z=true:=by
 cases e:r x z with
 |true=>rfl
 |false=>
  have:=o.cf z x y e h2
  rw[h]at this
  cases this
section
variable {prog:Program}{w:World}{A:Around}{E:Value→Shared→Prop}{s:Shared}{κ:SortKind}{a₀:Array Keyed}{r:Keyed→Keyed→Bool}
theorem Yh {g:Nat}{Q:Unit→SortSt→Prop}{st:SortSt}(h:Q () (SortSt.mk' (kindOf st) (arrOf st) (pendingOf st) g (failedOf st))):wpS (model prog w) A E s (rD g) Q st:=by
 rw[YT]
 exact wpS_modify h
theorem WO {a b:Array Keyed}{Q:Array Keyed→SortSt→Prop}{st:SortSt}(hc:fM prog w A E s κ a₀ r) (hk:kindOf st=κ) (C:dc r a b) (ma:∀x∈a.toList,x∈a₀.toList) (mb:∀x∈b.toList,x∈a₀.toList) (na:1≤a.size) (nb:1≤b.size)
  (h0:∀y,b[0]? =some y→∀x∈a.toList,r x y=false) (hl:∀x,a[a.size - 1]? =some x→∀y∈b.toList,r x y=false)
  (h:∀res aa,SG st aa→Good r a b res→Q res aa):wpS (model prog w) A E s (yV a b) Q st:=by
 show wpS (model prog w) A E s (_ >>=_) _ _
 try dsimp only
 refine wpS_bind (wpS_lift (wpAny_rule ⟨rfl,?_⟩))
 obtain⟨y0,ik⟩:=Zc (xs:=b) (i:=0) (by omega)
 refine wpS_bind (Zj ik ?_)
 have J0:JW r a b #[y0] 0 1:=by
  have e:JW r a b #[] 0 0:=⟨by simp,.nil,fun x hx=>by cases hx⟩
  exact e.dB C ik fun x hx=>h0 y0 ik x (Zm hx)
 by_cases aY:(1==b.size)=true
 ·rw[if_pos aY]
  exact wpS_pure (h _ _ (SG.refl _) (J0.done C (.inr (by have:=beq_iff_eq.mp aY;omega))))
 rw[if_neg aY]
 by_cases bA:(0+1==a.size)=true
 ·rw[if_pos bA]
  exact wpS_pure (h _ _ (SG.refl _) (J0.last C (by have:=beq_iff_eq.mp bA;omega) hl))
 rw[if_neg bA]
 have jI:¬(1=b.size):=fun z=>aY (beq_iff_eq.mpr z)
 have l9:¬(0+1=a.size):=fun z=>bA (beq_iff_eq.mpr z)
 refine wpS_bind (wpS_get ?_)
 refine wpS_bind (wpS_mono (wpS_forRange (I:=fun x c aw=>SG st aw∧∃out ia ib g,c=(none,out,ia,ib,g)∧JW r a b out ia ib∧ia+1<a.size∧ib<b.size∧x+1≤ia+ib) (Q:=fun c aw=>SG st aw∧∃res,c.fst=some res∧Good r a b res) ?step ?fin ⟨SG.refl _,_,_,_,_,rfl,J0,by omega,by omega,by omega⟩) ?post)
 case post=>
  rintro c aw ⟨eW,res,ec,gd⟩
  rw[ec]
  exact wpS_pure (h res aw eW gd)
 case fin=>
  rintro c aw ⟨_,out,ia,ib,g,_,_,i1,i2,i3⟩
  rw[Nat.max_eq_right (Nat.zero_le _)]at i3
  omega
 case step=>
  rintro x c aw _ hx ⟨eW,out,ia,ib,g,rfl,J,i1,i2,i3⟩
  dsimp only
  have bb:kindOf aw=κ:=by rw[eW.1];exact hk
  refine wpS_bind (wpS_mono (wpS_forRange (I:=fun y c ag=>ag=aw∧∃cP cF cE ac bc,c=(none,cP,cF,cE,ac,bc)∧JW r a b cP cF cE∧cF+1<a.size∧cE<b.size∧ia+ib+y≤cF+cE)
   (Q:=fun c ag=>ag=aw∧((∃res,c.fst=some res∧Good r a b res)∨∃cP cF cE ac bc,c=(none,cP,cF,cE,ac,bc)∧JW r a b cP cF cE∧cF+1<a.size∧cE<b.size∧ia+ib+1≤cF+cE)) ?_ ?_ ⟨rfl,_,_,_,_,_,rfl,J,i1,i2,by omega⟩) ?_)
  ·rintro y c ag _ hy ⟨rfl,cP,cF,cE,ac,bc,rfl,J',j1,j2,j3⟩
   dsimp only
   obtain⟨yb,fj⟩:=Zc (xs:=b) (i:=cE) (by omega)
   obtain⟨xa,fk⟩:=Zc (xs:=a) (i:=cF) (by omega)
   refine wpS_bind (Zj fj (wpS_bind (Zj fk (wpS_bind (hc _ _ _ _ (mb _ (Zm fj)) (ma _ (Zm fk)) bb ?_)))))
   dsimp only
   cases hr:r yb xa with
   |true=>
    rw[if_pos rfl]
    refine wpS_bind (Zj fj ?_)
    have J2:=J'.dB C fj (fun x hx=>by rw[fk]at hx;cases hx;exact C.o.bt _ _ hr)
    by_cases hz:(cE+1==b.size)=true
    ·rw[if_pos hz]
     exact wpS_pure ⟨rfl,.inl ⟨_,rfl,J2.done C (.inr (by have:=beq_iff_eq.mp hz;omega))⟩⟩
    rw[if_neg hz]
    have bB:¬(cE+1=b.size):=fun z=>hz (beq_iff_eq.mpr z)
    by_cases hg:bc+1≥g
    ·rw[if_pos hg]
     exact wpS_pure ⟨rfl,.inr ⟨_,_,_,_,_,rfl,J2,by omega,by omega,by omega⟩⟩
    ·rw[if_neg hg]
     exact wpS_pure ⟨rfl,_,_,_,_,_,rfl,J2,by omega,by omega,by omega⟩
   |false=>
    rw[if_neg Bool.false_ne_true]
    refine wpS_bind (Zj fk ?_)
    have J2:=J'.bX C fk (fun x hx=>by rw[fj]at hx;cases hx;exact hr)
    by_cases hz:(cF+1+1==a.size)=true
    ·rw[if_pos hz]
     exact wpS_pure ⟨rfl,.inl ⟨_,rfl,J2.last C (by have:=beq_iff_eq.mp hz;omega) hl⟩⟩
    rw[if_neg hz]
    have bB:¬(cF+1+1=a.size):=fun z=>hz (beq_iff_eq.mpr z)
    by_cases hg:ac+1≥g
    ·rw[if_pos hg]
     exact wpS_pure ⟨rfl,.inr ⟨_,_,_,_,_,rfl,J2,by omega,by omega,by omega⟩⟩
    ·rw[if_neg hg]
     exact wpS_pure ⟨rfl,_,_,_,_,_,rfl,J2,by omega,by omega,by omega⟩
  ·rintro c ag ⟨rfl,cP,cF,cE,ac,bc,rfl,J',j1,j2,j3⟩
   rw[Nat.max_eq_right (Nat.zero_le _)]at j3
   omega
  rintro c ag ⟨rfl,⟨res,ec,gd⟩ |⟨cP,cF,cE,ac,bc,rfl,J',j1,j2,j3⟩⟩
  ·rw[ec]
   exact wpS_pure ⟨eW,res,rfl,gd⟩
  dsimp only
  refine wpS_bind (wpS_lift (wpAny_rule ⟨rfl,?_⟩))
  refine wpS_bind (wpS_mono (wpS_forRange (I:=fun y c ag=>SG st ag∧∃out ia ib g ac bc,c=(none,out,ia,ib,g,ac,bc)∧JW r a b out ia ib∧ia+1<a.size∧ib<b.size∧cF+cE+y≤ia+ib)
   (Q:=fun c ag=>SG st ag∧((∃res,c.fst=some res∧Good r a b res)∨∃out ia ib g ac bc,c=(none,out,ia,ib,g,ac,bc)∧JW r a b out ia ib∧ia+1<a.size∧ib<b.size∧cF+cE≤ia+ib)) ?_ ?_ ⟨eW,_,_,_,_,_,_,rfl,J',j1,j2,by omega⟩) ?_)
  ·clear J i1 i2 bb
   rintro y c ag _ hy ⟨dP,out,tE,tD,g,ac,bc,rfl,J,i1,i2,i4⟩
   dsimp only
   revert J i1 i2 i4
   have FE:ia+ib+1≤cF+cE:=j3
   clear j3 i3
   generalize tE=ia
   generalize tD=ib
   intro J i1 i2 i4
   by_cases kU:g>1
   ·rw[if_pos kU]
    refine wpS_bind (Yh ?_)
    generalize i6:SortSt.mk' _ _ _ _ _=aE
    have aq:SG st aE:=by rw[←i6];exact dP
    have dm:kindOf aE=κ:=by rw[aq.1];exact hk
    obtain⟨y2,aJ⟩:=Zc (xs:=b) (i:=ib) (by omega)
    refine wpS_bind (Zj aJ ?_)
    refine wpS_bind (Zs hc dm (fun i=>match a[ia+i]? with |some x=> !r y2 x |none=>false) (fun i hi=> ?_) (mb y2 (Zm aJ)) (fun i j ck hj hp=> ?_) (by omega) fun k kn cz bT=> ?_)
    ·obtain⟨x,hx⟩:=Zc (xs:=a) (i:=ia+i) (by omega)
     refine⟨x,hx,ma x (Zm hx),?_⟩
     try dsimp only
     rw[hx]
     rfl
    ·obtain⟨xj,dE⟩:=Zc (xs:=a) (i:=ia+j) (by omega)
     obtain⟨xi,dF⟩:=Zc (xs:=a) (i:=ia+i) (by omega)
     try dsimp only at hp ⊢
     rw[dE]at hp
     rw[dF]
     rw[Bool.not_eq_true']at hp ⊢
     exact C.o.cf _ _ _ (Z0 C.o C.sa (Zn dF) (Zn dE) (by omega)) hp
    try dsimp only
    by_cases fA:k>0
    ·rw[if_pos fA]
     have J1:=J.jt C k (by omega) (fun i hi x y hx hy=>by
      rw[aJ]at hy
      cases hy
      have:=cz i hi
      try dsimp only at this
      rw[hx,Bool.not_eq_true']at this
      exact this)
     by_cases aY:(ia+k+1==a.size)=true
     ·rw[if_pos aY]
      exact wpS_pure ⟨aq,.inl ⟨_,rfl,J1.last C (by have:=beq_iff_eq.mp aY;omega) hl⟩⟩
     rw[if_neg aY]
     by_cases bA:(ia+k==a.size)=true
     ·rw[if_pos bA]
      exact wpS_pure ⟨aq,.inl ⟨_,rfl,J1.done C (.inl (by have:=beq_iff_eq.mp bA;omega))⟩⟩
     rw[if_neg bA]
     have jI:¬(ia+k+1=a.size):=fun z=>aY (beq_iff_eq.mpr z)
     have l9:¬(ia+k=a.size):=fun z=>bA (beq_iff_eq.mpr z)
     refine wpS_bind (Zj aJ ?_)
     have J2:=J1.dB C aJ (fun x hx=>by
      have:=bT k (Nat.le_refl _) (by omega)
      try dsimp only at this
      rw[hx,Bool.not_eq_false']at this
      exact C.o.bt _ _ this)
     by_cases hz:(ib+1==b.size)=true
     ·rw[if_pos hz]
      exact wpS_pure ⟨aq,.inl ⟨_,rfl,J2.done C (.inr (by have:=beq_iff_eq.mp hz;omega))⟩⟩
     rw[if_neg hz]
     have bB:¬(ib+1=b.size):=fun z=>hz (beq_iff_eq.mpr z)
     obtain⟨x3,aC⟩:=Zc (xs:=a) (i:=ia+k) (by omega)
     refine wpS_bind (Zj aC ?_)
     refine wpS_bind (Zs hc dm (fun i=>match b[ib+1+i]? with |some y=>r y x3 |none=>false) (fun i hi=> ?_) (ma x3 (Zm aC)) (fun i j ck hj hp=> ?_) (by omega) fun k1 iN cz bT=> ?_)
     ·obtain⟨y,hy⟩:=Zc (xs:=b) (i:=ib+1+i) (by omega)
      refine⟨y,hy,mb y (Zm hy),?_⟩
      try dsimp only
      rw[hy]
      rfl
     ·obtain⟨yj,bE⟩:=Zc (xs:=b) (i:=ib+1+j) (by omega)
      obtain⟨yi,bF⟩:=Zc (xs:=b) (i:=ib+1+i) (by omega)
      try dsimp only at hp ⊢
      rw[bE]at hp
      rw[bF]
      exact YR C.o hp (Z0 C.o C.sb (Zn bF) (Zn bE) (by omega))
     try dsimp only
     by_cases bb:k1>0
     ·rw[if_pos bb]
      have J3:=J2.h9 C k1 (by omega) (fun i hi y x hy hx=>by
       rw[aC]at hx
       cases hx
       have:=cz i hi
       try dsimp only at this
       rw[hy]at this
       exact C.o.bt _ _ this)
      by_cases aF:(ib+1+k1==b.size)=true
      ·rw[if_pos aF]
       exact wpS_pure ⟨aq,.inl ⟨_,rfl,J3.done C (.inr (by have:=beq_iff_eq.mp aF;omega))⟩⟩
      rw[if_neg aF]
      have iR:¬(ib+1+k1=b.size):=fun z=>aF (beq_iff_eq.mpr z)
      obtain⟨x4,ar⟩:=Zc (xs:=a) (i:=ia+k) (by omega)
      refine wpS_bind (Zj ar ?_)
      have J4:=J3.bX C ar (fun y hy=>by
       have:=bT k1 (Nat.le_refl _) (by omega)
       try dsimp only at this
       rw[hy]at this
       have e:x4=x3:=by rw[aC]at ar;exact(Option.some.inj ar).symm
       rw[e]
       exact this)
      by_cases hz:(ia+k+1+1==a.size)=true
      ·rw[if_pos hz]
       exact wpS_pure ⟨aq,.inl ⟨_,rfl,J4.last C (by have:=beq_iff_eq.mp hz;omega) hl⟩⟩
      ·rw[if_neg hz]
       have bB:¬(ia+k+1+1=a.size):=fun z=>hz (beq_iff_eq.mpr z)
       by_cases h7:(decide (k<7)&&decide (k1<7))=true
       ·rw[if_pos h7]
        exact wpS_pure ⟨aq,.inr ⟨_,_,_,_,_,_,rfl,J4,by omega,by omega,by omega⟩⟩
       ·rw[if_neg h7]
        exact wpS_pure ⟨aq,_,_,_,_,_,_,rfl,J4,by omega,by omega,by omega⟩
     ·rw[if_neg bb]
      obtain rfl:k1=0:=by omega
      obtain⟨x4,ar⟩:=Zc (xs:=a) (i:=ia+k) (by omega)
      refine wpS_bind (Zj ar ?_)
      have J4:=J2.bX C ar (fun y hy=>by
       have:=bT 0 (Nat.le_refl _) (by omega)
       try dsimp only at this
       rw[Nat.add_zero,hy]at this
       have e:x4=x3:=by rw[aC]at ar;exact(Option.some.inj ar).symm
       rw[e]
       exact this)
      by_cases hz:(ia+k+1+1==a.size)=true
      ·rw[if_pos hz]
       exact wpS_pure ⟨aq,.inl ⟨_,rfl,J4.last C (by have:=beq_iff_eq.mp hz;omega) hl⟩⟩
      ·rw[if_neg hz]
       have bB:¬(ia+k+1+1=a.size):=fun z=>hz (beq_iff_eq.mpr z)
       by_cases h7:(decide (k<7)&&decide (0<7))=true
       ·rw[if_pos h7]
        exact wpS_pure ⟨aq,.inr ⟨_,_,_,_,_,_,rfl,J4,by omega,by omega,by omega⟩⟩
       ·rw[if_neg h7]
        exact wpS_pure ⟨aq,_,_,_,_,_,_,rfl,J4,by omega,by omega,by omega⟩
    ·rw[if_neg fA]
     obtain rfl:k=0:=by omega
     refine wpS_bind (Zj aJ ?_)
     have J2:=J.dB C aJ (fun x hx=>by
      have:=bT 0 (Nat.le_refl _) (by omega)
      try dsimp only at this
      rw[Nat.add_zero,hx,Bool.not_eq_false']at this
      exact C.o.bt _ _ this)
     by_cases hz:(ib+1==b.size)=true
     ·rw[if_pos hz]
      exact wpS_pure ⟨aq,.inl ⟨_,rfl,J2.done C (.inr (by have:=beq_iff_eq.mp hz;omega))⟩⟩
     rw[if_neg hz]
     have bB:¬(ib+1=b.size):=fun z=>hz (beq_iff_eq.mpr z)
     obtain⟨x3,aC⟩:=Zc (xs:=a) (i:=ia) (by omega)
     refine wpS_bind (Zj aC ?_)
     refine wpS_bind (Zs hc dm (fun i=>match b[ib+1+i]? with |some y=>r y x3 |none=>false) (fun i hi=> ?_) (ma x3 (Zm aC)) (fun i j ck hj hp=> ?_) (by omega) fun k1 iN cz bT=> ?_)
     ·obtain⟨y,hy⟩:=Zc (xs:=b) (i:=ib+1+i) (by omega)
      refine⟨y,hy,mb y (Zm hy),?_⟩
      try dsimp only
      rw[hy]
      rfl
     ·obtain⟨yj,bE⟩:=Zc (xs:=b) (i:=ib+1+j) (by omega)
      obtain⟨yi,bF⟩:=Zc (xs:=b) (i:=ib+1+i) (by omega)
      try dsimp only at hp ⊢
      rw[bE]at hp
      rw[bF]
      exact YR C.o hp (Z0 C.o C.sb (Zn bF) (Zn bE) (by omega))
     try dsimp only
     by_cases bb:k1>0
     ·rw[if_pos bb]
      have J3:=J2.h9 C k1 (by omega) (fun i hi y x hy hx=>by
       rw[aC]at hx
       cases hx
       have:=cz i hi
       try dsimp only at this
       rw[hy]at this
       exact C.o.bt _ _ this)
      by_cases aF:(ib+1+k1==b.size)=true
      ·rw[if_pos aF]
       exact wpS_pure ⟨aq,.inl ⟨_,rfl,J3.done C (.inr (by have:=beq_iff_eq.mp aF;omega))⟩⟩
      rw[if_neg aF]
      have iR:¬(ib+1+k1=b.size):=fun z=>aF (beq_iff_eq.mpr z)
      obtain⟨x4,ar⟩:=Zc (xs:=a) (i:=ia) (by omega)
      refine wpS_bind (Zj ar ?_)
      have J4:=J3.bX C ar (fun y hy=>by
       have:=bT k1 (Nat.le_refl _) (by omega)
       try dsimp only at this
       rw[hy]at this
       have e:x4=x3:=by rw[aC]at ar;exact(Option.some.inj ar).symm
       rw[e]
       exact this)
      by_cases hz:(ia+1+1==a.size)=true
      ·rw[if_pos hz]
       exact wpS_pure ⟨aq,.inl ⟨_,rfl,J4.last C (by have:=beq_iff_eq.mp hz;omega) hl⟩⟩
      ·rw[if_neg hz]
       have bB:¬(ia+1+1=a.size):=fun z=>hz (beq_iff_eq.mpr z)
       by_cases h7:(decide (0<7)&&decide (k1<7))=true
       ·rw[if_pos h7]
        exact wpS_pure ⟨aq,.inr ⟨_,_,_,_,_,_,rfl,J4,by omega,by omega,by omega⟩⟩
       ·rw[if_neg h7]
        exact wpS_pure ⟨aq,_,_,_,_,_,_,rfl,J4,by omega,by omega,by omega⟩
     ·rw[if_neg bb]
      obtain rfl:k1=0:=by omega
      obtain⟨x4,ar⟩:=Zc (xs:=a) (i:=ia) (by omega)
      refine wpS_bind (Zj ar ?_)
      have J4:=J2.bX C ar (fun y hy=>by
       have:=bT 0 (Nat.le_refl _) (by omega)
       try dsimp only at this
       rw[Nat.add_zero,hy]at this
       have e:x4=x3:=by rw[aC]at ar;exact(Option.some.inj ar).symm
       rw[e]
       exact this)
      by_cases hz:(ia+1+1==a.size)=true
      ·rw[if_pos hz]
       exact wpS_pure ⟨aq,.inl ⟨_,rfl,J4.last C (by have:=beq_iff_eq.mp hz;omega) hl⟩⟩
      ·rw[if_neg hz]
       have bB:¬(ia+1+1=a.size):=fun z=>hz (beq_iff_eq.mpr z)
       by_cases h7:(decide (0<7)&&decide (0<7))=true
       ·rw[if_pos h7]
        exact wpS_pure ⟨aq,.inr ⟨_,_,_,_,_,_,rfl,J4,by omega,by omega,by omega⟩⟩
       ·rw[if_neg h7]
        exact wpS_pure ⟨aq,_,_,_,_,_,_,rfl,J4,by omega,by omega,by omega⟩
   ·rw[if_neg kU]
    refine wpS_bind (Yh ?_)
    generalize i6:SortSt.mk' _ _ _ _ _=aE
    have aq:SG st aE:=by rw[←i6];exact dP
    have dm:kindOf aE=κ:=by rw[aq.1];exact hk
    obtain⟨y2,aJ⟩:=Zc (xs:=b) (i:=ib) (by omega)
    refine wpS_bind (Zj aJ ?_)
    refine wpS_bind (Zs hc dm (fun i=>match a[ia+i]? with |some x=> !r y2 x |none=>false) (fun i hi=> ?_) (mb y2 (Zm aJ)) (fun i j ck hj hp=> ?_) (by omega) fun k kn cz bT=> ?_)
    ·obtain⟨x,hx⟩:=Zc (xs:=a) (i:=ia+i) (by omega)
     refine⟨x,hx,ma x (Zm hx),?_⟩
     try dsimp only
     rw[hx]
     rfl
    ·obtain⟨xj,dE⟩:=Zc (xs:=a) (i:=ia+j) (by omega)
     obtain⟨xi,dF⟩:=Zc (xs:=a) (i:=ia+i) (by omega)
     try dsimp only at hp ⊢
     rw[dE]at hp
     rw[dF]
     rw[Bool.not_eq_true']at hp ⊢
     exact C.o.cf _ _ _ (Z0 C.o C.sa (Zn dF) (Zn dE) (by omega)) hp
    try dsimp only
    by_cases fA:k>0
    ·rw[if_pos fA]
     have J1:=J.jt C k (by omega) (fun i hi x y hx hy=>by
      rw[aJ]at hy
      cases hy
      have:=cz i hi
      try dsimp only at this
      rw[hx,Bool.not_eq_true']at this
      exact this)
     by_cases aY:(ia+k+1==a.size)=true
     ·rw[if_pos aY]
      exact wpS_pure ⟨aq,.inl ⟨_,rfl,J1.last C (by have:=beq_iff_eq.mp aY;omega) hl⟩⟩
     rw[if_neg aY]
     by_cases bA:(ia+k==a.size)=true
     ·rw[if_pos bA]
      exact wpS_pure ⟨aq,.inl ⟨_,rfl,J1.done C (.inl (by have:=beq_iff_eq.mp bA;omega))⟩⟩
     rw[if_neg bA]
     have jI:¬(ia+k+1=a.size):=fun z=>aY (beq_iff_eq.mpr z)
     have l9:¬(ia+k=a.size):=fun z=>bA (beq_iff_eq.mpr z)
     refine wpS_bind (Zj aJ ?_)
     have J2:=J1.dB C aJ (fun x hx=>by
      have:=bT k (Nat.le_refl _) (by omega)
      try dsimp only at this
      rw[hx,Bool.not_eq_false']at this
      exact C.o.bt _ _ this)
     by_cases hz:(ib+1==b.size)=true
     ·rw[if_pos hz]
      exact wpS_pure ⟨aq,.inl ⟨_,rfl,J2.done C (.inr (by have:=beq_iff_eq.mp hz;omega))⟩⟩
     rw[if_neg hz]
     have bB:¬(ib+1=b.size):=fun z=>hz (beq_iff_eq.mpr z)
     obtain⟨x3,aC⟩:=Zc (xs:=a) (i:=ia+k) (by omega)
     refine wpS_bind (Zj aC ?_)
     refine wpS_bind (Zs hc dm (fun i=>match b[ib+1+i]? with |some y=>r y x3 |none=>false) (fun i hi=> ?_) (ma x3 (Zm aC)) (fun i j ck hj hp=> ?_) (by omega) fun k1 iN cz bT=> ?_)
     ·obtain⟨y,hy⟩:=Zc (xs:=b) (i:=ib+1+i) (by omega)
      refine⟨y,hy,mb y (Zm hy),?_⟩
      try dsimp only
      rw[hy]
      rfl
     ·obtain⟨yj,bE⟩:=Zc (xs:=b) (i:=ib+1+j) (by omega)
      obtain⟨yi,bF⟩:=Zc (xs:=b) (i:=ib+1+i) (by omega)
      try dsimp only at hp ⊢
      rw[bE]at hp
      rw[bF]
      exact YR C.o hp (Z0 C.o C.sb (Zn bF) (Zn bE) (by omega))
     try dsimp only
     by_cases bb:k1>0
     ·rw[if_pos bb]
      have J3:=J2.h9 C k1 (by omega) (fun i hi y x hy hx=>by
       rw[aC]at hx
       cases hx
       have:=cz i hi
       try dsimp only at this
       rw[hy]at this
       exact C.o.bt _ _ this)
      by_cases aF:(ib+1+k1==b.size)=true
      ·rw[if_pos aF]
       exact wpS_pure ⟨aq,.inl ⟨_,rfl,J3.done C (.inr (by have:=beq_iff_eq.mp aF;omega))⟩⟩
      rw[if_neg aF]
      have iR:¬(ib+1+k1=b.size):=fun z=>aF (beq_iff_eq.mpr z)
      obtain⟨x4,ar⟩:=Zc (xs:=a) (i:=ia+k) (by omega)
      refine wpS_bind (Zj ar ?_)
      have J4:=J3.bX C ar (fun y hy=>by
       have:=bT k1 (Nat.le_refl _) (by omega)
       try dsimp only at this
       rw[hy]at this
       have e:x4=x3:=by rw[aC]at ar;exact(Option.some.inj ar).symm
       rw[e]
       exact this)
      by_cases hz:(ia+k+1+1==a.size)=true
      ·rw[if_pos hz]
       exact wpS_pure ⟨aq,.inl ⟨_,rfl,J4.last C (by have:=beq_iff_eq.mp hz;omega) hl⟩⟩
      ·rw[if_neg hz]
       have bB:¬(ia+k+1+1=a.size):=fun z=>hz (beq_iff_eq.mpr z)
       by_cases h7:(decide (k<7)&&decide (k1<7))=true
       ·rw[if_pos h7]
        exact wpS_pure ⟨aq,.inr ⟨_,_,_,_,_,_,rfl,J4,by omega,by omega,by omega⟩⟩
       ·rw[if_neg h7]
        exact wpS_pure ⟨aq,_,_,_,_,_,_,rfl,J4,by omega,by omega,by omega⟩
     ·rw[if_neg bb]
      obtain rfl:k1=0:=by omega
      obtain⟨x4,ar⟩:=Zc (xs:=a) (i:=ia+k) (by omega)
      refine wpS_bind (Zj ar ?_)
      have J4:=J2.bX C ar (fun y hy=>by
       have:=bT 0 (Nat.le_refl _) (by omega)
       try dsimp only at this
       rw[Nat.add_zero,hy]at this
       have e:x4=x3:=by rw[aC]at ar;exact(Option.some.inj ar).symm
       rw[e]
       exact this)
      by_cases hz:(ia+k+1+1==a.size)=true
      ·rw[if_pos hz]
       exact wpS_pure ⟨aq,.inl ⟨_,rfl,J4.last C (by have:=beq_iff_eq.mp hz;omega) hl⟩⟩
      ·rw[if_neg hz]
       have bB:¬(ia+k+1+1=a.size):=fun z=>hz (beq_iff_eq.mpr z)
       by_cases h7:(decide (k<7)&&decide (0<7))=true
       ·rw[if_pos h7]
        exact wpS_pure ⟨aq,.inr ⟨_,_,_,_,_,_,rfl,J4,by omega,by omega,by omega⟩⟩
       ·rw[if_neg h7]
        exact wpS_pure ⟨aq,_,_,_,_,_,_,rfl,J4,by omega,by omega,by omega⟩
    ·rw[if_neg fA]
     obtain rfl:k=0:=by omega
     refine wpS_bind (Zj aJ ?_)
     have J2:=J.dB C aJ (fun x hx=>by
      have:=bT 0 (Nat.le_refl _) (by omega)
      try dsimp only at this
      rw[Nat.add_zero,hx,Bool.not_eq_false']at this
      exact C.o.bt _ _ this)
     by_cases hz:(ib+1==b.size)=true
     ·rw[if_pos hz]
      exact wpS_pure ⟨aq,.inl ⟨_,rfl,J2.done C (.inr (by have:=beq_iff_eq.mp hz;omega))⟩⟩
     rw[if_neg hz]
     have bB:¬(ib+1=b.size):=fun z=>hz (beq_iff_eq.mpr z)
     obtain⟨x3,aC⟩:=Zc (xs:=a) (i:=ia) (by omega)
     refine wpS_bind (Zj aC ?_)
     refine wpS_bind (Zs hc dm (fun i=>match b[ib+1+i]? with |some y=>r y x3 |none=>false) (fun i hi=> ?_) (ma x3 (Zm aC)) (fun i j ck hj hp=> ?_) (by omega) fun k1 iN cz bT=> ?_)
     ·obtain⟨y,hy⟩:=Zc (xs:=b) (i:=ib+1+i) (by omega)
      refine⟨y,hy,mb y (Zm hy),?_⟩
      try dsimp only
      rw[hy]
      rfl
     ·obtain⟨yj,bE⟩:=Zc (xs:=b) (i:=ib+1+j) (by omega)
      obtain⟨yi,bF⟩:=Zc (xs:=b) (i:=ib+1+i) (by omega)
      try dsimp only at hp ⊢
      rw[bE]at hp
      rw[bF]
      exact YR C.o hp (Z0 C.o C.sb (Zn bF) (Zn bE) (by omega))
     try dsimp only
     by_cases bb:k1>0
     ·rw[if_pos bb]
      have J3:=J2.h9 C k1 (by omega) (fun i hi y x hy hx=>by
       rw[aC]at hx
       cases hx
       have:=cz i hi
       try dsimp only at this
       rw[hy]at this
       exact C.o.bt _ _ this)
      by_cases aF:(ib+1+k1==b.size)=true
      ·rw[if_pos aF]
       exact wpS_pure ⟨aq,.inl ⟨_,rfl,J3.done C (.inr (by have:=beq_iff_eq.mp aF;omega))⟩⟩
      rw[if_neg aF]
      have iR:¬(ib+1+k1=b.size):=fun z=>aF (beq_iff_eq.mpr z)
      obtain⟨x4,ar⟩:=Zc (xs:=a) (i:=ia) (by omega)
      refine wpS_bind (Zj ar ?_)
      have J4:=J3.bX C ar (fun y hy=>by
       have:=bT k1 (Nat.le_refl _) (by omega)
       try dsimp only at this
       rw[hy]at this
       have e:x4=x3:=by rw[aC]at ar;exact(Option.some.inj ar).symm
       rw[e]
       exact this)
      by_cases hz:(ia+1+1==a.size)=true
      ·rw[if_pos hz]
       exact wpS_pure ⟨aq,.inl ⟨_,rfl,J4.last C (by have:=beq_iff_eq.mp hz;omega) hl⟩⟩
      ·rw[if_neg hz]
       have bB:¬(ia+1+1=a.size):=fun z=>hz (beq_iff_eq.mpr z)
       by_cases h7:(decide (0<7)&&decide (k1<7))=true
       ·rw[if_pos h7]
        exact wpS_pure ⟨aq,.inr ⟨_,_,_,_,_,_,rfl,J4,by omega,by omega,by omega⟩⟩
       ·rw[if_neg h7]
        exact wpS_pure ⟨aq,_,_,_,_,_,_,rfl,J4,by omega,by omega,by omega⟩
     ·rw[if_neg bb]
      obtain rfl:k1=0:=by omega
      obtain⟨x4,ar⟩:=Zc (xs:=a) (i:=ia) (by omega)
      refine wpS_bind (Zj ar ?_)
      have J4:=J2.bX C ar (fun y hy=>by
       have:=bT 0 (Nat.le_refl _) (by omega)
       try dsimp only at this
       rw[Nat.add_zero,hy]at this
       have e:x4=x3:=by rw[aC]at ar;exact(Option.some.inj ar).symm
       rw[e]
       exact this)
      by_cases hz:(ia+1+1==a.size)=true
      ·rw[if_pos hz]
       exact wpS_pure ⟨aq,.inl ⟨_,rfl,J4.last C (by have:=beq_iff_eq.mp hz;omega) hl⟩⟩
      ·rw[if_neg hz]
       have bB:¬(ia+1+1=a.size):=fun z=>hz (beq_iff_eq.mpr z)
       by_cases h7:(decide (0<7)&&decide (0<7))=true
       ·rw[if_pos h7]
        exact wpS_pure ⟨aq,.inr ⟨_,_,_,_,_,_,rfl,J4,by omega,by omega,by omega⟩⟩
       ·rw[if_neg h7]
        exact wpS_pure ⟨aq,_,_,_,_,_,_,rfl,J4,by omega,by omega,by omega⟩
  ·rintro c ag ⟨dP,out,ia,ib,g,ac,bc,rfl,J,i1,i2,i4⟩
   rw[Nat.max_eq_right (Nat.zero_le _)]at i4
   omega
  rintro c ag ⟨dP,⟨res,ec,gd⟩ |⟨out,tE,tD,g,ac,bc,rfl,J2,k1,k2,k3⟩⟩
  ·rw[ec]
   exact wpS_pure ⟨dP,res,rfl,gd⟩
  dsimp only
  refine wpS_bind (Yh (wpS_pure ⟨dP,_,_,_,_,rfl,J2,k1,k2,by omega⟩))
end
def yW:Array Keyed→Array Keyed→StateT SortSt Sem (Array Keyed):=sortPriv%PySem.Builtin.mergeHi
structure JH (r:Keyed→Keyed→Bool) (a b out:Array Keyed) (na nb:Nat):Prop where
 la:na≤a.size
 lb:nb≤b.size
 perm:((a.toList.take na++b.toList.take nb)++out.toList.reverse).Perm (a.toList++b.toList)
 gB:Pw r out.toList.reverse
 dS:∀y∈a.toList.take na++b.toList.take nb,∀x∈out.toList,r x y=false
theorem Wq {α:Type}{l:List α}{i:Nat}{x:α}(h:l[i]? =some x):l.take (i+1)=l.take i++[x]:=by
 rw[List.take_add_one,h]
 rfl
theorem Je {r:Keyed→Keyed→Bool}{l:List Keyed}{i:Nat}{x:Keyed}(o:Ord r) (p:Pw r l) (h:l[i]? =some x):∀y∈l.take (i+1),r x y=false:=fun y hy=>by
 obtain⟨j,hj,e⟩:=List.getElem_of_mem hy
 rw[List.length_take]at hj
 rw[List.getElem_take]at e
 exact Z0 (i:=j) o p (by rw[List.getElem?_eq_getElem (by omega),e]) h (by omega)
theorem U7 (xs:Array Keyed) (j:Nat):(xs.extract 0 j).toList=xs.toList.take j:=by
 rw[Y5,List.drop_zero,Nat.sub_zero]
section
variable {r:Keyed→Keyed→Bool}{a b out:Array Keyed}{na nb:Nat}
theorem JH.bX (C:dc r a b) (J:JH r a b out na nb) {x:Keyed}(h1:1≤na) (hx:a[na - 1]? =some x) (h:1≤nb→∀y,b[nb - 1]? =some y→r x y=false):JH r a b (out.push x) (na - 1) nb:=by
 have la:=J.la
 have lb:=J.lb
 have gK:=Zn hx
 have ht:=Wq gK
 rw[Nat.sub_add_cancel h1]at ht
 have mx:x∈a.toList.take na:=by rw[ht];simp
 have low:∀y∈a.toList.take (na - 1)++b.toList.take nb,r x y=false:=fun y hy=>by
  rcases List.mem_append.mp hy with hy |hy
  ·exact Je C.o C.sa gK y (by rw[Nat.sub_add_cancel h1,ht];exact List.mem_append_left _ hy)
  ·have n1:1≤nb:=by
    rcases Nat.eq_zero_or_pos nb with z |z
    ·rw[z]at hy;cases hy
    ·exact z
   obtain⟨z,e⟩:=Zc (xs:=b) (i:=nb - 1) (by omega)
   have:=Je C.o C.sb (Zn e) y (by rw[Nat.sub_add_cancel n1];exact hy)
   exact C.o.cf y z x this (h n1 z e)
 refine⟨by omega,lb,?_,?_,fun y hy u hu=> ?_⟩
 ·rw[Array.toList_push,List.reverse_append]
  have P:=J.perm
  rw[ht]at P
  refine List.Perm.trans ?_ P
  show((a.toList.take (na - 1)++b.toList.take nb)++(x::out.toList.reverse)).Perm (((a.toList.take (na - 1)++[x])++b.toList.take nb)++out.toList.reverse)
  rw[List.append_assoc,List.append_assoc,List.append_assoc]
  refine List.Perm.append_left _ ?_
  show(b.toList.take nb++x::out.toList.reverse).Perm (x::(b.toList.take nb++out.toList.reverse))
  exact List.perm_middle
 ·rw[Array.toList_push,List.reverse_append]
  refine List.pairwise_cons.mpr ⟨fun u hu=> ?_,J.gB⟩
  exact J.dS x (List.mem_append_left _ mx) u (List.mem_reverse.mp hu)
 ·rw[Array.toList_push]at hu
  rcases List.mem_append.mp hu with hu |hu
  ·refine J.dS y ?_ u hu
   rcases List.mem_append.mp hy with hy |hy
   ·exact List.mem_append_left _ (by rw[ht];exact List.mem_append_left _ hy)
   ·exact List.mem_append_right _ hy
  ·rw[List.mem_singleton.mp hu]
   exact low y hy
theorem JH.dB (C:dc r a b) (J:JH r a b out na nb) {y:Keyed}(h1:1≤nb) (hy:b[nb - 1]? =some y) (h:1≤na→∀x,a[na - 1]? =some x→r y x=false):JH r a b (out.push y) na (nb - 1):=by
 have la:=J.la
 have lb:=J.lb
 have kC:=Zn hy
 have ht:=Wq kC
 rw[Nat.sub_add_cancel h1]at ht
 have my:y∈b.toList.take nb:=by rw[ht];simp
 have low:∀z∈a.toList.take na++b.toList.take (nb - 1),r y z=false:=fun z hz=>by
  rcases List.mem_append.mp hz with hz |hz
  ·have n1:1≤na:=by
    rcases Nat.eq_zero_or_pos na with q |q
    ·rw[q]at hz;cases hz
    ·exact q
   obtain⟨x,e⟩:=Zc (xs:=a) (i:=na - 1) (by omega)
   have:=Je C.o C.sa (Zn e) z (by rw[Nat.sub_add_cancel n1];exact hz)
   exact C.o.cf z x y this (h n1 x e)
  ·exact Je C.o C.sb kC z (by rw[Nat.sub_add_cancel h1,ht];exact List.mem_append_left _ hz)
 refine⟨la,by omega,?_,?_,fun z hz u hu=> ?_⟩
 ·rw[Array.toList_push,List.reverse_append]
  have P:=J.perm
  rw[ht]at P
  refine List.Perm.trans ?_ P
  show((a.toList.take na++b.toList.take (nb - 1))++(y::out.toList.reverse)).Perm ((a.toList.take na++(b.toList.take (nb - 1)++[y]))++out.toList.reverse)
  rw[List.append_assoc,List.append_assoc,List.append_assoc]
  exact .refl _
 ·rw[Array.toList_push,List.reverse_append]
  refine List.pairwise_cons.mpr ⟨fun u hu=> ?_,J.gB⟩
  exact J.dS y (List.mem_append_right _ my) u (List.mem_reverse.mp hu)
 ·rw[Array.toList_push]at hu
  rcases List.mem_append.mp hu with hu |hu
  ·refine J.dS z ?_ u hu
   rcases List.mem_append.mp hz with hz |hz
   ·exact List.mem_append_left _ hz
   ·exact List.mem_append_right _ (by rw[ht];exact List.mem_append_left _ hz)
  ·rw[List.mem_singleton.mp hu]
   exact low z hz
theorem U6 {xs:Array Keyed}{i n:Nat}{x:Keyed}(hx:xs[i]? =some x) (h:i<n) (hn:n≤xs.size):(xs.extract i n).reverse=(xs.extract (i+1) n).reverse.push x:=by
 apply Array.toList_inj.mp
 rw[Array.toList_reverse,Array.toList_push,Array.toList_reverse,Y5,Y5,YD (Zn hx),show n - i=(n - (i+1))+1 by omega,List.take_succ_cons,List.reverse_cons]
theorem JH.jt (C:dc r a b) (J:JH r a b out na nb):∀k,k≤na→(∀i,na - k≤i→i<na→∀x y,a[i]? =some x→b[nb - 1]? =some y→r x y=false)→JH r a b (out++(a.extract (na - k) na).reverse) (na - k) nb
 |0,_,_=>by
  have e:a.extract (na - 0) na= #[]:=by simp;omega
  rw[e]
  simpa using J
 |k+1,hk,h=>by
  have la:=J.la
  obtain⟨x,hx⟩:=Zc (xs:=a) (i:=na - (k+1)) (by omega)
  have ih:=JH.jt C J k (by omega) fun i h1 h2=>h i (by omega) h2
  have e1:na - k - 1=na - (k+1):=by omega
  have:=ih.bX C (x:=x) (by omega) (by rw[e1];exact hx) fun _ y hy=>h (na - (k+1)) (Nat.le_refl _) (by omega) x y hx hy
  rw[e1]at this
  rw[U6 hx (by omega) la,show na - (k+1)+1=na - k by omega,Array.append_push]
  exact this
theorem JH.h9 (C:dc r a b) (J:JH r a b out na nb):∀k,k≤nb→(∀i,nb - k≤i→i<nb→∀y x,b[i]? =some y→a[na - 1]? =some x→r y x=false)→JH r a b (out++(b.extract (nb - k) nb).reverse) na (nb - k)
 |0,_,_=>by
  have e:b.extract (nb - 0) nb= #[]:=by simp;omega
  rw[e]
  simpa using J
 |k+1,hk,h=>by
  have lb:=J.lb
  obtain⟨y,hy⟩:=Zc (xs:=b) (i:=nb - (k+1)) (by omega)
  have ih:=JH.h9 C J k (by omega) fun i h1 h2=>h i (by omega) h2
  have e1:nb - k - 1=nb - (k+1):=by omega
  have:=ih.dB C (y:=y) (by omega) (by rw[e1];exact hy) fun _ x hx=>h (nb - (k+1)) (Nat.le_refl _) (by omega) y x hy hx
  rw[e1]at this
  rw[U6 hy (by omega) lb,show nb - (k+1)+1=nb - k by omega,Array.append_push]
  exact this
theorem JH.rX (C:dc r a b) (J:JH r a b out na nb) {m:Nat}(hm:m≤na) (h:∀i,m≤i→i<na→∀x y,a[i]? =some x→b[nb - 1]? =some y→r x y=false):JH r a b (out++(a.extract m na).reverse) m nb:=by
 have:=J.jt C (na - m) (by omega) (fun i h1 h2=>h i (by omega) h2)
 rw[show na - (na - m)=m by omega]at this
 exact this
theorem JH.lQ (C:dc r a b) (J:JH r a b out na nb) {m:Nat}(hm:m≤nb) (h:∀i,m≤i→i<nb→∀y x,b[i]? =some y→a[na - 1]? =some x→r y x=false):JH r a b (out++(b.extract m nb).reverse) na m:=by
 have:=J.h9 C (nb - m) (by omega) (fun i h1 h2=>h i (by omega) h2)
 rw[show nb - (nb - m)=m by omega]at this
 exact this
theorem JH.done (C:dc r a b) (J:JH r a b out na nb) (h:na=0∨nb=0):Good r a b (a.extract 0 na++b.extract 0 nb++out.reverse):=by
 unfold Good
 rw[Array.toList_append,Array.toList_append,U7,U7,Array.toList_reverse]
 refine⟨J.perm,?_⟩
 have pa:Pw r (a.toList.take na):=List.Pairwise.sublist (List.take_sublist _ _) C.sa
 have pb:Pw r (b.toList.take nb):=List.Pairwise.sublist (List.take_sublist _ _) C.sb
 refine List.pairwise_append.mpr ⟨?_,J.gB,fun y hy x hx=>J.dS y hy x (List.mem_reverse.mp hx)⟩
 rcases h with h |h
 ·rw[h,List.take_zero,List.nil_append]
  exact pb
 ·rw[h,List.take_zero,List.append_nil]
  exact pa
theorem JH.first (C:dc r a b) (J:JH r a b out na nb) (h:nb=1) (h0:∀y,b[0]? =some y→∀x∈a.toList,r x y=false):Good r a b (b.extract 0 nb++a.extract 0 na++out.reverse):=by
 have lb:=J.lb
 subst h
 unfold Good
 obtain⟨y,hy⟩:=Zc (xs:=b) (i:=0) (by omega)
 have et:b.toList.take 1=[y]:=by rw[show(1:Nat)=0+1 from rfl,Wq (Zn hy)];rfl
 rw[Array.toList_append,Array.toList_append,U7,U7,Array.toList_reverse,et]
 have P:=J.perm
 have B:=J.dS
 rw[et]at P B
 have pa:Pw r (a.toList.take na):=List.Pairwise.sublist (List.take_sublist _ _) C.sa
 refine⟨List.Perm.trans (List.Perm.append_right _ List.perm_append_comm) P,?_⟩
 refine List.pairwise_append.mpr ⟨?_,J.gB,fun z hz x hx=>B z ?_ x (List.mem_reverse.mp hx)⟩
 ·refine List.pairwise_cons.mpr ⟨fun z hz=>h0 y hy z (List.mem_of_mem_take hz),pa⟩
 ·rcases List.mem_append.mp hz with hz |hz
  ·exact List.mem_append_right _ hz
  ·exact List.mem_append_left _ hz
end
section
variable {prog:Program}{w:World}{A:Around}{E:Value→Shared→Prop}{s:Shared}{κ:SortKind}{a₀:Array Keyed}{r:Keyed→Keyed→Bool}
theorem WP {a b:Array Keyed}{Q:Array Keyed→SortSt→Prop}{st:SortSt}(hc:fM prog w A E s κ a₀ r) (hk:kindOf st=κ) (C:dc r a b) (ma:∀x∈a.toList,x∈a₀.toList) (mb:∀x∈b.toList,x∈a₀.toList) (yQ:1≤a.size) (FA:1≤b.size)
  (h0:∀y,b[0]? =some y→∀x∈a.toList,r x y=false) (hl:∀x,a[a.size - 1]? =some x→∀y∈b.toList,r x y=false)
  (h:∀res aa,SG st aa→Good r a b res→Q res aa):wpS (model prog w) A E s (yW a b) Q st:=by
 show wpS (model prog w) A E s (_ >>=_) _ _
 dsimp only
 refine wpS_bind (wpS_lift (wpAny_rule ⟨rfl,?_⟩))
 obtain⟨x0,iS⟩:=Zc (xs:=a) (i:=a.size - 1) (by omega)
 refine wpS_bind (Zj iS ?_)
 have J0:JH r a b #[x0] (a.size - 1) b.size:=by
  have e:JH r a b #[] a.size b.size:=⟨Nat.le_refl _,Nat.le_refl _,by simp[←Array.length_toList],.nil,fun y hy x hx=>by cases hx⟩
  exact e.bX C yQ iS fun _ y hy=>hl x0 iS y (Zm hy)
 by_cases aY:(a.size - 1==0)=true
 ·rw[if_pos aY]
  exact wpS_pure (h _ _ (SG.refl _) (J0.done C (.inl (beq_iff_eq.mp aY))))
 rw[if_neg aY]
 by_cases bA:(b.size==1)=true
 ·rw[if_pos bA]
  exact wpS_pure (h _ _ (SG.refl _) (J0.first C (beq_iff_eq.mp bA) h0))
 rw[if_neg bA]
 have jI:¬(a.size - 1=0):=fun z=>aY (beq_iff_eq.mpr z)
 have l9:¬(b.size=1):=fun z=>bA (beq_iff_eq.mpr z)
 refine wpS_bind (wpS_get ?_)
 refine wpS_bind (wpS_mono (wpS_forRange (I:=fun x c aw=>SG st aw∧∃na nb out g,c=(none,na,nb,out,g)∧JH r a b out na nb∧1≤na∧2≤nb∧na+nb+x+1≤a.size+b.size) (Q:=fun c aw=>SG st aw∧∃res,c.fst=some res∧Good r a b res) ?step ?fin ⟨SG.refl _,_,_,_,_,rfl,J0,by omega,by omega,by omega⟩) ?post)
 case post=>
  rintro c aw ⟨eW,res,ec,gd⟩
  rw[ec]
  exact wpS_pure (h res aw eW gd)
 case fin=>
  rintro c aw ⟨_,na,nb,out,g,_,_,i1,i2,i3⟩
  rw[Nat.max_eq_right (Nat.zero_le _)]at i3
  omega
 case step=>
  rintro x c aw _ hx ⟨eW,na,nb,out,g,rfl,J,i1,i2,i3⟩
  dsimp only
  have bb:kindOf aw=κ:=by rw[eW.1];exact hk
  refine wpS_bind (wpS_mono (wpS_forRange (I:=fun y c ag=>ag=aw∧∃cT cR cP ac bc,c=(none,cT,cR,cP,ac,bc)∧JH r a b cP cT cR∧1≤cT∧2≤cR∧cT+cR+y≤na+nb)
   (Q:=fun c ag=>ag=aw∧((∃res,c.fst=some res∧Good r a b res)∨∃cT cR cP ac bc,c=(none,cT,cR,cP,ac,bc)∧JH r a b cP cT cR∧1≤cT∧2≤cR∧cT+cR+1≤na+nb)) ?_ ?_ ⟨rfl,_,_,_,_,_,rfl,J,i1,i2,by omega⟩) ?_)
  ·rintro y c ag _ hy ⟨rfl,cT,cR,cP,ac,bc,rfl,J',j1,j2,j3⟩
   dsimp only
   have la:=J'.la
   have lb:=J'.lb
   obtain⟨yb,fj⟩:=Zc (xs:=b) (i:=cR - 1) (by omega)
   obtain⟨xa,fk⟩:=Zc (xs:=a) (i:=cT - 1) (by omega)
   refine wpS_bind (Zj fj (wpS_bind (Zj fk (wpS_bind (hc _ _ _ _ (mb _ (Zm fj)) (ma _ (Zm fk)) bb ?_)))))
   dsimp only
   cases hr:r yb xa with
   |true=>
    rw[if_pos rfl]
    refine wpS_bind (Zj fk ?_)
    have J2:=J'.bX C j1 fk (fun _ y hy=>by rw[fj]at hy;cases hy;exact C.o.bt _ _ hr)
    by_cases hz:(cT - 1==0)=true
    ·rw[if_pos hz]
     exact wpS_pure ⟨rfl,.inl ⟨_,rfl,J2.done C (.inl (beq_iff_eq.mp hz))⟩⟩
    rw[if_neg hz]
    have bB:¬(cT - 1=0):=fun z=>hz (beq_iff_eq.mpr z)
    by_cases hg:ac+1≥g
    ·rw[if_pos hg]
     exact wpS_pure ⟨rfl,.inr ⟨_,_,_,_,_,rfl,J2,by omega,by omega,by omega⟩⟩
    ·rw[if_neg hg]
     exact wpS_pure ⟨rfl,_,_,_,_,_,rfl,J2,by omega,by omega,by omega⟩
   |false=>
    rw[if_neg Bool.false_ne_true]
    refine wpS_bind (Zj fj ?_)
    have J2:=J'.dB C (by omega) fj (fun _ x hx=>by rw[fk]at hx;cases hx;exact hr)
    by_cases hz:(cR - 1==1)=true
    ·rw[if_pos hz]
     exact wpS_pure ⟨rfl,.inl ⟨_,rfl,J2.first C (beq_iff_eq.mp hz) h0⟩⟩
    rw[if_neg hz]
    have bB:¬(cR - 1=1):=fun z=>hz (beq_iff_eq.mpr z)
    by_cases hg:bc+1≥g
    ·rw[if_pos hg]
     exact wpS_pure ⟨rfl,.inr ⟨_,_,_,_,_,rfl,J2,by omega,by omega,by omega⟩⟩
    ·rw[if_neg hg]
     exact wpS_pure ⟨rfl,_,_,_,_,_,rfl,J2,by omega,by omega,by omega⟩
  ·rintro c ag ⟨rfl,cT,cR,cP,ac,bc,rfl,J',j1,j2,j3⟩
   rw[Nat.max_eq_right (Nat.zero_le _)]at j3
   have la:=J.la
   have lb:=J.lb
   omega
  rintro c ag ⟨rfl,⟨res,ec,gd⟩ |⟨cT,cR,cP,ac,bc,rfl,J',j1,j2,j3⟩⟩
  ·rw[ec]
   exact wpS_pure ⟨eW,res,rfl,gd⟩
  dsimp only
  refine wpS_bind (wpS_lift (wpAny_rule ⟨rfl,?_⟩))
  refine wpS_bind (wpS_mono (wpS_forRange (I:=fun y c ag=>SG st ag∧∃na nb out g ac bc,c=(none,na,nb,out,g,ac,bc)∧JH r a b out na nb∧1≤na∧2≤nb∧na+nb+y≤cT+cR)
   (Q:=fun c ag=>SG st ag∧((∃res,c.fst=some res∧Good r a b res)∨∃na nb out g ac bc,c=(none,na,nb,out,g,ac,bc)∧JH r a b out na nb∧1≤na∧2≤nb∧na+nb≤cT+cR)) ?_ ?_ ⟨eW,_,_,_,_,_,_,rfl,J',j1,j2,by omega⟩) ?_)
  ·clear J i1 i2 bb
   rintro y c ag _ hy ⟨dP,sR,sQ,out,g,ac,bc,rfl,J,i1,i2,i4⟩
   dsimp only
   revert J i1 i2 i4
   clear j3 i3
   generalize sR=na
   generalize sQ=nb
   intro J i1 i2 i4
   have la:=J.la
   have lb:=J.lb
   by_cases kU:g>1
   ·rw[if_pos kU]
    refine wpS_bind (Yh ?_)
    generalize i6:SortSt.mk' _ _ _ _ _=aE
    have aq:SG st aE:=by rw[←i6];exact dP
    have dm:kindOf aE=κ:=by rw[aq.1];exact hk
    obtain⟨y2,aJ⟩:=Zc (xs:=b) (i:=nb - 1) (by omega)
    refine wpS_bind (Zj aJ ?_)
    refine wpS_bind (Zs hc dm (fun i=>match a[0+i]? with |some x=> !r y2 x |none=>false) (fun i hi=> ?_) (mb y2 (Zm aJ)) (fun i j ck hj hp=> ?_) (by omega) fun at_ kn cz bT=> ?_)
    ·obtain⟨x,hx⟩:=Zc (xs:=a) (i:=0+i) (by omega)
     refine⟨x,hx,ma x (Zm hx),?_⟩
     try dsimp only
     rw[hx]
     rfl
    ·obtain⟨xj,dE⟩:=Zc (xs:=a) (i:=0+j) (by omega)
     obtain⟨xi,dF⟩:=Zc (xs:=a) (i:=0+i) (by omega)
     try dsimp only at hp ⊢
     rw[dE]at hp
     rw[dF]
     rw[Bool.not_eq_true']at hp ⊢
     exact C.o.cf _ _ _ (Z0 C.o C.sa (Zn dF) (Zn dE) (by omega)) hp
    try dsimp only
    by_cases fA:na - at_>0
    ·rw[if_pos fA]
     have J1:=J.rX C (m:=at_) (by omega) (fun i fB dR x y hx hy=>by
      rw[aJ]at hy
      cases hy
      have:=bT i fB dR
      try dsimp only at this
      rw[Nat.zero_add,hx,Bool.not_eq_false']at this
      exact C.o.bt _ _ this)
     by_cases aY:(at_==0)=true
     ·rw[if_pos aY]
      exact wpS_pure ⟨aq,.inl ⟨_,rfl,J1.done C (.inl (beq_iff_eq.mp aY))⟩⟩
     rw[if_neg aY]
     have jI:¬(at_=0):=fun z=>aY (beq_iff_eq.mpr z)
     refine wpS_bind (Zj aJ ?_)
     have J2:=J1.dB C (by omega) aJ (fun _ x hx=>by
      have:=cz (at_ - 1) (by omega)
      try dsimp only at this
      rw[Nat.zero_add,hx,Bool.not_eq_true']at this
      exact this)
     by_cases hz:(nb - 1==1)=true
     ·rw[if_pos hz]
      exact wpS_pure ⟨aq,.inl ⟨_,rfl,J2.first C (beq_iff_eq.mp hz) h0⟩⟩
     rw[if_neg hz]
     have bB:¬(nb - 1=1):=fun z=>hz (beq_iff_eq.mpr z)
     obtain⟨x3,aC⟩:=Zc (xs:=a) (i:=at_ - 1) (by omega)
     refine wpS_bind (Zj aC ?_)
     refine wpS_bind (Zs hc dm (fun i=>match b[0+i]? with |some y=>r y x3 |none=>false) (fun i hi=> ?_) (ma x3 (Zm aC)) (fun i j ck hj hp=> ?_) (by omega) fun k1 iN fg iM=> ?_)
     ·obtain⟨y,hy⟩:=Zc (xs:=b) (i:=0+i) (by omega)
      refine⟨y,hy,mb y (Zm hy),?_⟩
      try dsimp only
      rw[hy]
      rfl
     ·obtain⟨yj,bE⟩:=Zc (xs:=b) (i:=0+j) (by omega)
      obtain⟨yi,bF⟩:=Zc (xs:=b) (i:=0+i) (by omega)
      try dsimp only at hp ⊢
      rw[bE]at hp
      rw[bF]
      exact YR C.o hp (Z0 C.o C.sb (Zn bF) (Zn bE) (by omega))
     try dsimp only
     by_cases bb:nb - 1 - k1>0
     ·rw[if_pos bb]
      have J3:=J2.lQ C (m:=k1) (by omega) (fun i fB dR y x hy hx=>by
       rw[aC]at hx
       cases hx
       have:=iM i fB dR
       try dsimp only at this
       rw[Nat.zero_add,hy]at this
       exact this)
      by_cases aF:(k1==1)=true
      ·rw[if_pos aF]
       exact wpS_pure ⟨aq,.inl ⟨_,rfl,J3.first C (beq_iff_eq.mp aF) h0⟩⟩
      rw[if_neg aF]
      by_cases cA:(k1==0)=true
      ·rw[if_pos cA]
       exact wpS_pure ⟨aq,.inl ⟨_,rfl,J3.done C (.inr (beq_iff_eq.mp cA))⟩⟩
      rw[if_neg cA]
      have iR:¬(k1=1):=fun z=>aF (beq_iff_eq.mpr z)
      have pG:¬(k1=0):=fun z=>cA (beq_iff_eq.mpr z)
      obtain⟨x4,ar⟩:=Zc (xs:=a) (i:=at_ - 1) (by omega)
      refine wpS_bind (Zj ar ?_)
      have J4:=J3.bX C (by omega) ar (fun _ y hy=>by
       have:=fg (k1 - 1) (by omega)
       try dsimp only at this
       rw[Nat.zero_add,hy]at this
       have e:x4=x3:=by rw[aC]at ar;exact(Option.some.inj ar).symm
       rw[e]
       exact C.o.bt _ _ this)
      by_cases hz:(at_ - 1==0)=true
      ·rw[if_pos hz]
       exact wpS_pure ⟨aq,.inl ⟨_,rfl,J4.done C (.inl (by have:=beq_iff_eq.mp hz;omega))⟩⟩
      ·rw[if_neg hz]
       have bB:¬(at_ - 1=0):=fun z=>hz (beq_iff_eq.mpr z)
       by_cases h7:(decide (na - at_<7)&&decide (nb - 1 - k1<7))=true
       ·rw[if_pos h7]
        exact wpS_pure ⟨aq,.inr ⟨_,_,_,_,_,_,rfl,J4,by omega,by omega,by omega⟩⟩
       ·rw[if_neg h7]
        exact wpS_pure ⟨aq,_,_,_,_,_,_,rfl,J4,by omega,by omega,by omega⟩
     ·rw[if_neg bb]
      obtain rfl:k1=nb - 1:=by omega
      obtain⟨x4,ar⟩:=Zc (xs:=a) (i:=at_ - 1) (by omega)
      refine wpS_bind (Zj ar ?_)
      have J4:=J2.bX C (by omega) ar (fun _ y hy=>by
       have:=fg (nb - 1 - 1) (by omega)
       try dsimp only at this
       rw[Nat.zero_add,hy]at this
       have e:x4=x3:=by rw[aC]at ar;exact(Option.some.inj ar).symm
       rw[e]
       exact C.o.bt _ _ this)
      by_cases hz:(at_ - 1==0)=true
      ·rw[if_pos hz]
       exact wpS_pure ⟨aq,.inl ⟨_,rfl,J4.done C (.inl (by have:=beq_iff_eq.mp hz;omega))⟩⟩
      ·rw[if_neg hz]
       have bB:¬(at_ - 1=0):=fun z=>hz (beq_iff_eq.mpr z)
       by_cases h7:(decide (na - at_<7)&&decide (nb - 1 - (nb - 1)<7))=true
       ·rw[if_pos h7]
        exact wpS_pure ⟨aq,.inr ⟨_,_,_,_,_,_,rfl,J4,by omega,by omega,by omega⟩⟩
       ·rw[if_neg h7]
        exact wpS_pure ⟨aq,_,_,_,_,_,_,rfl,J4,by omega,by omega,by omega⟩
    ·rw[if_neg fA]
     obtain rfl:at_=na:=by omega
     refine wpS_bind (Zj aJ ?_)
     have J2:=J.dB C (by omega) aJ (fun _ x hx=>by
      have:=cz (at_ - 1) (by omega)
      try dsimp only at this
      rw[Nat.zero_add,hx,Bool.not_eq_true']at this
      exact this)
     by_cases hz:(nb - 1==1)=true
     ·rw[if_pos hz]
      exact wpS_pure ⟨aq,.inl ⟨_,rfl,J2.first C (beq_iff_eq.mp hz) h0⟩⟩
     rw[if_neg hz]
     have bB:¬(nb - 1=1):=fun z=>hz (beq_iff_eq.mpr z)
     obtain⟨x3,aC⟩:=Zc (xs:=a) (i:=at_ - 1) (by omega)
     refine wpS_bind (Zj aC ?_)
     refine wpS_bind (Zs hc dm (fun i=>match b[0+i]? with |some y=>r y x3 |none=>false) (fun i hi=> ?_) (ma x3 (Zm aC)) (fun i j ck hj hp=> ?_) (by omega) fun k1 iN fg iM=> ?_)
     ·obtain⟨y,hy⟩:=Zc (xs:=b) (i:=0+i) (by omega)
      refine⟨y,hy,mb y (Zm hy),?_⟩
      try dsimp only
      rw[hy]
      rfl
     ·obtain⟨yj,bE⟩:=Zc (xs:=b) (i:=0+j) (by omega)
      obtain⟨yi,bF⟩:=Zc (xs:=b) (i:=0+i) (by omega)
      try dsimp only at hp ⊢
      rw[bE]at hp
      rw[bF]
      exact YR C.o hp (Z0 C.o C.sb (Zn bF) (Zn bE) (by omega))
     try dsimp only
     by_cases bb:nb - 1 - k1>0
     ·rw[if_pos bb]
      have J3:=J2.lQ C (m:=k1) (by omega) (fun i fB dR y x hy hx=>by
       rw[aC]at hx
       cases hx
       have:=iM i fB dR
       try dsimp only at this
       rw[Nat.zero_add,hy]at this
       exact this)
      by_cases aF:(k1==1)=true
      ·rw[if_pos aF]
       exact wpS_pure ⟨aq,.inl ⟨_,rfl,J3.first C (beq_iff_eq.mp aF) h0⟩⟩
      rw[if_neg aF]
      by_cases cA:(k1==0)=true
      ·rw[if_pos cA]
       exact wpS_pure ⟨aq,.inl ⟨_,rfl,J3.done C (.inr (beq_iff_eq.mp cA))⟩⟩
      rw[if_neg cA]
      have iR:¬(k1=1):=fun z=>aF (beq_iff_eq.mpr z)
      have pG:¬(k1=0):=fun z=>cA (beq_iff_eq.mpr z)
      obtain⟨x4,ar⟩:=Zc (xs:=a) (i:=at_ - 1) (by omega)
      refine wpS_bind (Zj ar ?_)
      have J4:=J3.bX C (by omega) ar (fun _ y hy=>by
       have:=fg (k1 - 1) (by omega)
       try dsimp only at this
       rw[Nat.zero_add,hy]at this
       have e:x4=x3:=by rw[aC]at ar;exact(Option.some.inj ar).symm
       rw[e]
       exact C.o.bt _ _ this)
      by_cases hz:(at_ - 1==0)=true
      ·rw[if_pos hz]
       exact wpS_pure ⟨aq,.inl ⟨_,rfl,J4.done C (.inl (by have:=beq_iff_eq.mp hz;omega))⟩⟩
      ·rw[if_neg hz]
       have bB:¬(at_ - 1=0):=fun z=>hz (beq_iff_eq.mpr z)
       by_cases h7:(decide (at_ - at_<7)&&decide (nb - 1 - k1<7))=true
       ·rw[if_pos h7]
        exact wpS_pure ⟨aq,.inr ⟨_,_,_,_,_,_,rfl,J4,by omega,by omega,by omega⟩⟩
       ·rw[if_neg h7]
        exact wpS_pure ⟨aq,_,_,_,_,_,_,rfl,J4,by omega,by omega,by omega⟩
     ·rw[if_neg bb]
      obtain rfl:k1=nb - 1:=by omega
      obtain⟨x4,ar⟩:=Zc (xs:=a) (i:=at_ - 1) (by omega)
      refine wpS_bind (Zj ar ?_)
      have J4:=J2.bX C (by omega) ar (fun _ y hy=>by
       have:=fg (nb - 1 - 1) (by omega)
       try dsimp only at this
       rw[Nat.zero_add,hy]at this
       have e:x4=x3:=by rw[aC]at ar;exact(Option.some.inj ar).symm
       rw[e]
       exact C.o.bt _ _ this)
      by_cases hz:(at_ - 1==0)=true
      ·rw[if_pos hz]
       exact wpS_pure ⟨aq,.inl ⟨_,rfl,J4.done C (.inl (by have:=beq_iff_eq.mp hz;omega))⟩⟩
      ·rw[if_neg hz]
       have bB:¬(at_ - 1=0):=fun z=>hz (beq_iff_eq.mpr z)
       by_cases h7:(decide (at_ - at_<7)&&decide (nb - 1 - (nb - 1)<7))=true
       ·rw[if_pos h7]
        exact wpS_pure ⟨aq,.inr ⟨_,_,_,_,_,_,rfl,J4,by omega,by omega,by omega⟩⟩
       ·rw[if_neg h7]
        exact wpS_pure ⟨aq,_,_,_,_,_,_,rfl,J4,by omega,by omega,by omega⟩
   ·rw[if_neg kU]
    refine wpS_bind (Yh ?_)
    generalize i6:SortSt.mk' _ _ _ _ _=aE
    have aq:SG st aE:=by rw[←i6];exact dP
    have dm:kindOf aE=κ:=by rw[aq.1];exact hk
    obtain⟨y2,aJ⟩:=Zc (xs:=b) (i:=nb - 1) (by omega)
    refine wpS_bind (Zj aJ ?_)
    refine wpS_bind (Zs hc dm (fun i=>match a[0+i]? with |some x=> !r y2 x |none=>false) (fun i hi=> ?_) (mb y2 (Zm aJ)) (fun i j ck hj hp=> ?_) (by omega) fun at_ kn cz bT=> ?_)
    ·obtain⟨x,hx⟩:=Zc (xs:=a) (i:=0+i) (by omega)
     refine⟨x,hx,ma x (Zm hx),?_⟩
     try dsimp only
     rw[hx]
     rfl
    ·obtain⟨xj,dE⟩:=Zc (xs:=a) (i:=0+j) (by omega)
     obtain⟨xi,dF⟩:=Zc (xs:=a) (i:=0+i) (by omega)
     try dsimp only at hp ⊢
     rw[dE]at hp
     rw[dF]
     rw[Bool.not_eq_true']at hp ⊢
     exact C.o.cf _ _ _ (Z0 C.o C.sa (Zn dF) (Zn dE) (by omega)) hp
    try dsimp only
    by_cases fA:na - at_>0
    ·rw[if_pos fA]
     have J1:=J.rX C (m:=at_) (by omega) (fun i fB dR x y hx hy=>by
      rw[aJ]at hy
      cases hy
      have:=bT i fB dR
      try dsimp only at this
      rw[Nat.zero_add,hx,Bool.not_eq_false']at this
      exact C.o.bt _ _ this)
     by_cases aY:(at_==0)=true
     ·rw[if_pos aY]
      exact wpS_pure ⟨aq,.inl ⟨_,rfl,J1.done C (.inl (beq_iff_eq.mp aY))⟩⟩
     rw[if_neg aY]
     have jI:¬(at_=0):=fun z=>aY (beq_iff_eq.mpr z)
     refine wpS_bind (Zj aJ ?_)
     have J2:=J1.dB C (by omega) aJ (fun _ x hx=>by
      have:=cz (at_ - 1) (by omega)
      try dsimp only at this
      rw[Nat.zero_add,hx,Bool.not_eq_true']at this
      exact this)
     by_cases hz:(nb - 1==1)=true
     ·rw[if_pos hz]
      exact wpS_pure ⟨aq,.inl ⟨_,rfl,J2.first C (beq_iff_eq.mp hz) h0⟩⟩
     rw[if_neg hz]
     have bB:¬(nb - 1=1):=fun z=>hz (beq_iff_eq.mpr z)
     obtain⟨x3,aC⟩:=Zc (xs:=a) (i:=at_ - 1) (by omega)
     refine wpS_bind (Zj aC ?_)
     refine wpS_bind (Zs hc dm (fun i=>match b[0+i]? with |some y=>r y x3 |none=>false) (fun i hi=> ?_) (ma x3 (Zm aC)) (fun i j ck hj hp=> ?_) (by omega) fun k1 iN fg iM=> ?_)
     ·obtain⟨y,hy⟩:=Zc (xs:=b) (i:=0+i) (by omega)
      refine⟨y,hy,mb y (Zm hy),?_⟩
      try dsimp only
      rw[hy]
      rfl
     ·obtain⟨yj,bE⟩:=Zc (xs:=b) (i:=0+j) (by omega)
      obtain⟨yi,bF⟩:=Zc (xs:=b) (i:=0+i) (by omega)
      try dsimp only at hp ⊢
      rw[bE]at hp
      rw[bF]
      exact YR C.o hp (Z0 C.o C.sb (Zn bF) (Zn bE) (by omega))
     try dsimp only
     by_cases bb:nb - 1 - k1>0
     ·rw[if_pos bb]
      have J3:=J2.lQ C (m:=k1) (by omega) (fun i fB dR y x hy hx=>by
       rw[aC]at hx
       cases hx
       have:=iM i fB dR
       try dsimp only at this
       rw[Nat.zero_add,hy]at this
       exact this)
      by_cases aF:(k1==1)=true
      ·rw[if_pos aF]
       exact wpS_pure ⟨aq,.inl ⟨_,rfl,J3.first C (beq_iff_eq.mp aF) h0⟩⟩
      rw[if_neg aF]
      by_cases cA:(k1==0)=true
      ·rw[if_pos cA]
       exact wpS_pure ⟨aq,.inl ⟨_,rfl,J3.done C (.inr (beq_iff_eq.mp cA))⟩⟩
      rw[if_neg cA]
      have iR:¬(k1=1):=fun z=>aF (beq_iff_eq.mpr z)
      have pG:¬(k1=0):=fun z=>cA (beq_iff_eq.mpr z)
      obtain⟨x4,ar⟩:=Zc (xs:=a) (i:=at_ - 1) (by omega)
      refine wpS_bind (Zj ar ?_)
      have J4:=J3.bX C (by omega) ar (fun _ y hy=>by
       have:=fg (k1 - 1) (by omega)
       try dsimp only at this
       rw[Nat.zero_add,hy]at this
       have e:x4=x3:=by rw[aC]at ar;exact(Option.some.inj ar).symm
       rw[e]
       exact C.o.bt _ _ this)
      by_cases hz:(at_ - 1==0)=true
      ·rw[if_pos hz]
       exact wpS_pure ⟨aq,.inl ⟨_,rfl,J4.done C (.inl (by have:=beq_iff_eq.mp hz;omega))⟩⟩
      ·rw[if_neg hz]
       have bB:¬(at_ - 1=0):=fun z=>hz (beq_iff_eq.mpr z)
       by_cases h7:(decide (na - at_<7)&&decide (nb - 1 - k1<7))=true
       ·rw[if_pos h7]
        exact wpS_pure ⟨aq,.inr ⟨_,_,_,_,_,_,rfl,J4,by omega,by omega,by omega⟩⟩
       ·rw[if_neg h7]
        exact wpS_pure ⟨aq,_,_,_,_,_,_,rfl,J4,by omega,by omega,by omega⟩
     ·rw[if_neg bb]
      obtain rfl:k1=nb - 1:=by omega
      obtain⟨x4,ar⟩:=Zc (xs:=a) (i:=at_ - 1) (by omega)
      refine wpS_bind (Zj ar ?_)
      have J4:=J2.bX C (by omega) ar (fun _ y hy=>by
       have:=fg (nb - 1 - 1) (by omega)
       try dsimp only at this
       rw[Nat.zero_add,hy]at this
       have e:x4=x3:=by rw[aC]at ar;exact(Option.some.inj ar).symm
       rw[e]
       exact C.o.bt _ _ this)
      by_cases hz:(at_ - 1==0)=true
      ·rw[if_pos hz]
       exact wpS_pure ⟨aq,.inl ⟨_,rfl,J4.done C (.inl (by have:=beq_iff_eq.mp hz;omega))⟩⟩
      ·rw[if_neg hz]
       have bB:¬(at_ - 1=0):=fun z=>hz (beq_iff_eq.mpr z)
       by_cases h7:(decide (na - at_<7)&&decide (nb - 1 - (nb - 1)<7))=true
       ·rw[if_pos h7]
        exact wpS_pure ⟨aq,.inr ⟨_,_,_,_,_,_,rfl,J4,by omega,by omega,by omega⟩⟩
       ·rw[if_neg h7]
        exact wpS_pure ⟨aq,_,_,_,_,_,_,rfl,J4,by omega,by omega,by omega⟩
    ·rw[if_neg fA]
     obtain rfl:at_=na:=by omega
     refine wpS_bind (Zj aJ ?_)
     have J2:=J.dB C (by omega) aJ (fun _ x hx=>by
      have:=cz (at_ - 1) (by omega)
      try dsimp only at this
      rw[Nat.zero_add,hx,Bool.not_eq_true']at this
      exact this)
     by_cases hz:(nb - 1==1)=true
     ·rw[if_pos hz]
      exact wpS_pure ⟨aq,.inl ⟨_,rfl,J2.first C (beq_iff_eq.mp hz) h0⟩⟩
     rw[if_neg hz]
     have bB:¬(nb - 1=1):=fun z=>hz (beq_iff_eq.mpr z)
     obtain⟨x3,aC⟩:=Zc (xs:=a) (i:=at_ - 1) (by omega)
     refine wpS_bind (Zj aC ?_)
     refine wpS_bind (Zs hc dm (fun i=>match b[0+i]? with |some y=>r y x3 |none=>false) (fun i hi=> ?_) (ma x3 (Zm aC)) (fun i j ck hj hp=> ?_) (by omega) fun k1 iN fg iM=> ?_)
     ·obtain⟨y,hy⟩:=Zc (xs:=b) (i:=0+i) (by omega)
      refine⟨y,hy,mb y (Zm hy),?_⟩
      try dsimp only
      rw[hy]
      rfl
     ·obtain⟨yj,bE⟩:=Zc (xs:=b) (i:=0+j) (by omega)
      obtain⟨yi,bF⟩:=Zc (xs:=b) (i:=0+i) (by omega)
      try dsimp only at hp ⊢
      rw[bE]at hp
      rw[bF]
      exact YR C.o hp (Z0 C.o C.sb (Zn bF) (Zn bE) (by omega))
     try dsimp only
     by_cases bb:nb - 1 - k1>0
     ·rw[if_pos bb]
      have J3:=J2.lQ C (m:=k1) (by omega) (fun i fB dR y x hy hx=>by
       rw[aC]at hx
       cases hx
       have:=iM i fB dR
       try dsimp only at this
       rw[Nat.zero_add,hy]at this
       exact this)
      by_cases aF:(k1==1)=true
      ·rw[if_pos aF]
       exact wpS_pure ⟨aq,.inl ⟨_,rfl,J3.first C (beq_iff_eq.mp aF) h0⟩⟩
      rw[if_neg aF]
      by_cases cA:(k1==0)=true
      ·rw[if_pos cA]
       exact wpS_pure ⟨aq,.inl ⟨_,rfl,J3.done C (.inr (beq_iff_eq.mp cA))⟩⟩
      rw[if_neg cA]
      have iR:¬(k1=1):=fun z=>aF (beq_iff_eq.mpr z)
      have pG:¬(k1=0):=fun z=>cA (beq_iff_eq.mpr z)
      obtain⟨x4,ar⟩:=Zc (xs:=a) (i:=at_ - 1) (by omega)
      refine wpS_bind (Zj ar ?_)
      have J4:=J3.bX C (by omega) ar (fun _ y hy=>by
       have:=fg (k1 - 1) (by omega)
       try dsimp only at this
       rw[Nat.zero_add,hy]at this
       have e:x4=x3:=by rw[aC]at ar;exact(Option.some.inj ar).symm
       rw[e]
       exact C.o.bt _ _ this)
      by_cases hz:(at_ - 1==0)=true
      ·rw[if_pos hz]
       exact wpS_pure ⟨aq,.inl ⟨_,rfl,J4.done C (.inl (by have:=beq_iff_eq.mp hz;omega))⟩⟩
      ·rw[if_neg hz]
       have bB:¬(at_ - 1=0):=fun z=>hz (beq_iff_eq.mpr z)
       by_cases h7:(decide (at_ - at_<7)&&decide (nb - 1 - k1<7))=true
       ·rw[if_pos h7]
        exact wpS_pure ⟨aq,.inr ⟨_,_,_,_,_,_,rfl,J4,by omega,by omega,by omega⟩⟩
       ·rw[if_neg h7]
        exact wpS_pure ⟨aq,_,_,_,_,_,_,rfl,J4,by omega,by omega,by omega⟩
     ·rw[if_neg bb]
      obtain rfl:k1=nb - 1:=by omega
      obtain⟨x4,ar⟩:=Zc (xs:=a) (i:=at_ - 1) (by omega)
      refine wpS_bind (Zj ar ?_)
      have J4:=J2.bX C (by omega) ar (fun _ y hy=>by
       have:=fg (nb - 1 - 1) (by omega)
       try dsimp only at this
       rw[Nat.zero_add,hy]at this
       have e:x4=x3:=by rw[aC]at ar;exact(Option.some.inj ar).symm
       rw[e]
       exact C.o.bt _ _ this)
      by_cases hz:(at_ - 1==0)=true
      ·rw[if_pos hz]
       exact wpS_pure ⟨aq,.inl ⟨_,rfl,J4.done C (.inl (by have:=beq_iff_eq.mp hz;omega))⟩⟩
      ·rw[if_neg hz]
       have bB:¬(at_ - 1=0):=fun z=>hz (beq_iff_eq.mpr z)
       by_cases h7:(decide (at_ - at_<7)&&decide (nb - 1 - (nb - 1)<7))=true
       ·rw[if_pos h7]
        exact wpS_pure ⟨aq,.inr ⟨_,_,_,_,_,_,rfl,J4,by omega,by omega,by omega⟩⟩
       ·rw[if_neg h7]
        exact wpS_pure ⟨aq,_,_,_,_,_,_,rfl,J4,by omega,by omega,by omega⟩
  ·rintro c ag ⟨dP,na,nb,out,g,ac,bc,rfl,J,i1,i2,i4⟩
   rw[Nat.max_eq_right (Nat.zero_le _)]at i4
   have la:=J'.la
   have lb:=J'.lb
   omega
  rintro c ag ⟨dP,⟨res,ec,gd⟩ |⟨sR,sQ,out,g,ac,bc,rfl,J2,k1,k2,k3⟩⟩
  ·rw[ec]
   exact wpS_pure ⟨dP,res,rfl,gd⟩
  dsimp only
  refine wpS_bind (Yh (wpS_pure ⟨dP,_,_,_,_,rfl,J2,k1,k2,by omega⟩))
end
def SI (r:Keyed→Keyed→Bool) (xs:Array Keyed) (lo hi:Nat):Prop:=∀i j x y,lo≤i→i≤j→j<hi→xs[i]? =some x→xs[j]? =some y→r y x=false
def NI (r:Keyed→Keyed→Bool) (xs:Array Keyed) (lo hi:Nat):Prop:=∀i j x y,lo≤i→i≤j→j<hi→xs[i]? =some x→xs[j]? =some y→r x y=false
def EQ (r:Keyed→Keyed→Bool) (xs:Array Keyed) (lo hi:Nat):Prop:=∀i j x y,lo≤i→i<hi→lo≤j→j<hi→xs[i]? =some x→xs[j]? =some y→r x y=false
section
variable {r:Keyed→Keyed→Bool}{xs:Array Keyed}{lo hi:Nat}
theorem SI.one (o:Ord r):SI r xs lo (lo+1):=fun i j x y h1 h2 h3 hx hy=>by
 obtain rfl:i=j:=by omega
 rw[hx]at hy;cases hy;exact o.ij _
theorem NI.one (o:Ord r):NI r xs lo (lo+1):=fun i j x y h1 h2 h3 hx hy=>by
 obtain rfl:i=j:=by omega
 rw[hx]at hy;cases hy;exact o.ij _
theorem EQ.one (o:Ord r):EQ r xs lo (lo+1):=fun i j x y h1 h2 h3 h4 hx hy=>by
 obtain rfl:i=j:=by omega
 rw[hx]at hy;cases hy;exact o.ij _
theorem SI.snoc (o:Ord r) (h:SI r xs lo hi) {p q:Keyed}(hl:lo<hi) (hp:xs[hi - 1]? =some p) (hq:xs[hi]? =some q) (hr:r q p=false):SI r xs lo (hi+1):=fun i j x y h1 h2 h3 hx hy=>by
 by_cases hj:j<hi
 ·exact h i j x y h1 h2 hj hx hy
 ·obtain rfl:j=hi:=by omega
  rw[hq]at hy;cases hy
  by_cases bL:i=j
  ·subst bL
   rw[hq]at hx;cases hx;exact o.ij _
  ·exact o.cf x p q (h i (j - 1) x p h1 (by omega) (by omega) hx hp) hr
theorem NI.snoc (o:Ord r) (h:NI r xs lo hi) {p q:Keyed}(hl:lo<hi) (hp:xs[hi - 1]? =some p) (hq:xs[hi]? =some q) (hr:r p q=false):NI r xs lo (hi+1):=fun i j x y h1 h2 h3 hx hy=>by
 by_cases hj:j<hi
 ·exact h i j x y h1 h2 hj hx hy
 ·obtain rfl:j=hi:=by omega
  rw[hq]at hy;cases hy
  by_cases bL:i=j
  ·subst bL
   rw[hq]at hx;cases hx;exact o.ij _
  ·exact o.cf q p x hr (h i (j - 1) x p h1 (by omega) (by omega) hx hp)
theorem EQ.snoc (o:Ord r) (h:EQ r xs lo hi) {p q:Keyed}(hl:lo<hi) (hp:xs[hi - 1]? =some p) (hq:xs[hi]? =some q) (hr:r p q=false) (dg:r q p=false):EQ r xs lo (hi+1):=fun i j x y h1 h2 h3 h4 hx hy=>by
 have one:∀i x,lo≤i→i<hi→xs[i]? =some x→r x q=false∧r q x=false:=fun i x h1 h2 hx=>
  ⟨o.cf q p x hr (h i (hi - 1) x p h1 h2 (by omega) (by omega) hx hp),o.cf x p q (h (hi - 1) i p x (by omega) (by omega) h1 h2 hp hx) dg⟩
 by_cases hj:j<hi
 ·by_cases bL:i<hi
  ·exact h i j x y h1 bL h3 hj hx hy
  ·obtain rfl:i=hi:=by omega
   rw[hq]at hx;cases hx
   exact(one j y h3 hj hy).2
 ·obtain rfl:j=hi:=by omega
  rw[hq]at hy;cases hy
  by_cases bL:i<j
  ·exact(one i x h1 bL hx).1
  ·obtain rfl:i=j:=by omega
   rw[hq]at hx;cases hx
   exact o.ij _
abbrev aM (xs:Array Keyed) (i j:Nat):Array Keyed:=mirror xs i j ((j - i)/2)
theorem Jw (hh:hi≤xs.size) (k:Nat):(aM xs lo hi)[k]? =if lo≤k∧k<hi then xs[lo+hi - 1 - k]? else xs[k]? :=getElem?_mirror_all hh k
theorem SI.aM (h:SI r xs lo hi) (hh:hi≤xs.size):NI r (aM xs lo hi) lo hi:=fun i j x y h1 h2 h3 hx hy=>by
 rw[Jw hh,if_pos ⟨by omega,by omega⟩]at hx hy
 exact h _ _ y x (by omega) (by omega) (by omega) hy hx
theorem NI.aM (h:NI r xs lo hi) (hh:hi≤xs.size):SI r (aM xs lo hi) lo hi:=fun i j x y h1 h2 h3 hx hy=>by
 rw[Jw hh,if_pos ⟨by omega,by omega⟩]at hx hy
 exact h _ _ y x (by omega) (by omega) (by omega) hy hx
theorem NI.l5 {m:Nat}(h:NI r xs lo hi) (e:EQ r xs m hi) (hm:lo≤m) (hh:hi≤xs.size):NI r (PyProof.Rows.dW.aM xs m hi) lo hi:=fun i j x y h1 h2 h3 hx hy=>by
 rw[Jw hh]at hx hy
 by_cases hj:m≤j
 ·rw[if_pos ⟨hj,h3⟩]at hy
  by_cases bL:m≤i
  ·rw[if_pos ⟨bL,by omega⟩]at hx
   exact e _ _ x y (by omega) (by omega) (by omega) (by omega) hx hy
  ·rw[if_neg (by omega)]at hx
   exact h i _ x y h1 (by omega) (by omega) hx hy
 ·rw[if_neg (by omega)]at hx hy
  exact h i j x y h1 h2 h3 hx hy
theorem Jv {m:Nat}(hh:hi≤xs.size) (hm:m<hi) {p:Keyed}(hp:(aM xs m hi)[hi - 1]? =some p):xs[m]? =some p:=by
 rw[Jw hh,if_pos ⟨by omega,by omega⟩,show m+hi - 1 - (hi - 1)=m by omega]at hp
 exact hp
theorem Jh (hh:hi≤xs.size) {k:Nat}(h:k<lo∨hi≤k):(aM xs lo hi)[k]? =xs[k]? :=by rw[Jw hh,if_neg (by omega)]
end
structure CB (a₀:Array Keyed) (κ:SortKind) (lo:Nat) (st aa:SortSt):Prop where
 kind:kindOf aa=κ
 pend:pendingOf aa=pendingOf st
 fail:failedOf aa=failedOf st
 perm:(arrOf aa).Perm a₀
 pre:∀k,k<lo→(arrOf aa)[k]? =(arrOf st)[k]?
theorem CB.size {a₀:Array Keyed}{κ:SortKind}{lo:Nat}{st aa:SortSt}(h:CB a₀ κ lo st aa):(arrOf aa).size=a₀.size:=h.perm.size_eq
theorem CB.mem {a₀:Array Keyed}{κ:SortKind}{lo:Nat}{st aa:SortSt}(h:CB a₀ κ lo st aa) {i:Nat}{x:Keyed}(hx:(arrOf aa)[i]? =some x):x∈a₀.toList:=(Array.perm_iff_toList_perm.mp h.perm).mem_iff.mp (Zm hx)
theorem CB.rev {a₀:Array Keyed}{κ:SortKind}{lo m hi:Nat}{st aa:SortSt}(h:CB a₀ κ lo st aa) (hm:lo≤m) (hh:hi≤a₀.size):CB a₀ κ lo st (setArr aa (aM (arrOf aa) m hi)):=
 ⟨h.kind,h.pend,h.fail,(mirror_perm _ _ _ _).trans h.perm,fun k hk=>by
  show(aM (arrOf aa) m hi)[k]? =_
  rw[Jh (by rw[h.size];exact hh) (.inl (by omega))]
  exact h.pre k hk⟩
section
variable {prog:Program}{w:World}{A:Around}{E:Value→Shared→Prop}{s:Shared}{κ:SortKind}{a₀:Array Keyed}{r:Keyed→Keyed→Bool}
theorem ZV {st aa:SortSt}{lo i j:Nat}{x y:Keyed}{Q:Option Bool→SortSt→Prop}(hc:fM prog w A E s κ a₀ r) (B:CB a₀ κ lo st aa) (hx:(arrOf aa)[i]? =some x) (hy:(arrOf aa)[j]? =some y) (h:Q (some (r x y)) aa):wpS (model prog w) A E s (ltAt' i j) Q aa:=by
 rw[ltAt'_eq]
 exact wpS_bind (wpS_get (wpS_bind (Zj hx (wpS_bind (Zj hy (hc _ _ _ _ (B.mem hx) (B.mem hy) B.kind h))))))
theorem ZU {st:SortSt}{i j:Nat}{Q:Unit→SortSt→Prop}(h:Q () (setArr st (aM (arrOf st) i j))):wpS (model prog w) A E s (reverseSlice' i j) Q st:=by
 rw[reverseSlice'_eq]
 exact wpS_modify h
theorem EQ.jA {xs:Array Keyed}{lo hi:Nat}(o:Ord r) (h:hi=lo+1):EQ r xs lo hi:=by subst h;exact EQ.one o
theorem JQ {st:SortSt}{lo bg:Nat}{Q:Option Nat→SortSt→Prop}(o:Ord r) (hc:fM prog w A E s κ a₀ r) (B0:CB a₀ κ lo st st) (h1:1≤bg) (hz:lo+bg≤a₀.size)
  (h:∀n aa,CB a₀ κ lo st aa→1≤n→n≤bg→SI r (arrOf aa) lo (lo+n)→Q (some n) aa):wpS (model prog w) A E s (countRun' lo bg) Q st:=by
 rw[countRun'_eq]
 dsimp only
 have z0:=B0.size
 refine wpS_bind (wpS_mono (wpS_forRange (I:=fun y c aa=>aa=st∧c=(none,y)∧SI r (arrOf st) lo (lo+y))
  (Q:=fun c aa=>aa=st∧∃n,c=(none,n)∧1≤n∧n≤bg∧SI r (arrOf st) lo (lo+n)∧(n=bg∨∃p q,(arrOf st)[lo+n - 1]? =some p∧(arrOf st)[lo+n]? =some q∧r q p=true)) ?_ ?_ ⟨rfl,rfl,SI.one o⟩) ?_)
 ·rintro y c aa fV aJ ⟨rfl,rfl,S⟩
  dsimp only
  obtain⟨p,hp⟩:=Zc (xs:=arrOf aa) (i:=lo+y - 1) (by omega)
  obtain⟨q,hq⟩:=Zc (xs:=arrOf aa) (i:=lo+y) (by omega)
  refine wpS_bind (ZV hc B0 hq hp ?_)
  cases hr:r q p with
  |true=>exact wpS_pure ⟨rfl,y,rfl,fV,by omega,S,.inr ⟨p,q,hp,hq,hr⟩⟩
  |false=>exact wpS_pure ⟨rfl,rfl,S.snoc (hi:=lo+y) o (by omega) hp hq hr⟩
 ·rintro c aa ⟨rfl,rfl,S⟩
  have e9:max 1 bg=bg:=Nat.max_eq_right h1
  rw[e9]at S
  exact⟨rfl,bg,by rw[e9],h1,Nat.le_refl _,S,.inl rfl⟩
 rintro c aa ⟨rfl,n,rfl,n1,n2,S,hn⟩
 dsimp only
 by_cases jJ:(n==bg)=true
 ·rw[if_pos jJ]
  exact wpS_pure (h n aa B0 n1 n2 S)
 rw[if_neg jJ]
 have zR:¬(n=bg):=fun z=>jJ (beq_iff_eq.mpr z)
 rcases hn with hn |⟨p,q,hp,hq,hr⟩
 ·exact absurd hn zR
 by_cases ub:n>1
 ·rw[if_pos ub]
  obtain⟨f,hf⟩:=Zc (xs:=arrOf aa) (i:=lo) (by omega)
  refine wpS_bind (ZV hc B0 hf hp ?_)
  cases zD:r f p with
  |true=>exact wpS_pure (h n aa B0 n1 n2 S)
  |false=>
   dsimp only
   rw[if_neg Bool.false_ne_true]
   refine wpS_bind (ZU ?_)
   have B1:=B0.rev (m:=lo) (hi:=lo+n) (Nat.le_refl _) (by omega)
   have N1:NI r (aM (arrOf aa) lo (lo+n)) lo (lo+n):=S.aM (by omega)
   obtain⟨p1,t5⟩:=Zc (xs:=aM (arrOf aa) lo (lo+n)) (i:=lo+n - 1) (by rw[mirror_size];omega)
   have tZ:=Jv (by omega) (by omega) t5
   rw[hf]at tZ
   cases tZ
   have fW:(aM (arrOf aa) lo (lo+n))[lo+n]? =some q:=by rw[Jh (by omega) (.inr (Nat.le_refl _))];exact hq
   have mZ:NI r (arrOf (setArr aa (aM (arrOf aa) lo (lo+n)))) lo (lo+(n+1)):=N1.snoc (hi:=lo+n) o (by omega) t5 fW (o.cf q p f (o.bt _ _ hr) zD)
   generalize setArr aa (aM (arrOf aa) lo (lo+n))=aw at B1 mZ
   refine wpS_bind (wpS_lift (wpAny_rule ⟨rfl,?_⟩))
   refine wpS_bind (wpS_mono (wpS_forRange (I:=fun y c stx=>CB a₀ κ lo aa stx∧∃aA,c=(none,y,aA)∧NI r (arrOf stx) lo (lo+y)∧aA+1≤y∧EQ r (arrOf stx) (lo+y - (aA+1)) (lo+y))
    (Q:=fun c stx=>CB a₀ κ lo aa stx∧∃m aA,c=(none,m,aA)∧n+1≤m∧m≤bg∧NI r (arrOf stx) lo (lo+m)∧aA+1≤m∧EQ r (arrOf stx) (lo+m - (aA+1)) (lo+m)) ?_ ?_ ⟨B1,0,rfl,mZ,by omega,EQ.jA o (by omega)⟩) ?_)
   ·rintro y c ag fV aJ ⟨B2,aA,rfl,N2,g1,e2⟩
    dsimp only
    have z2:=B2.size
    obtain⟨p2,dQ⟩:=Zc (xs:=arrOf ag) (i:=lo+y - 1) (by omega)
    obtain⟨q2,bz⟩:=Zc (xs:=arrOf ag) (i:=lo+y) (by omega)
    refine wpS_bind (ZV hc B2 bz dQ ?_)
    cases dg:r q2 p2 with
    |true=>
     dsimp only
     rw[if_pos rfl]
     by_cases ft:aA>0
     ·rw[if_pos ft]
      refine wpS_bind (ZU ?_)
      have B3:=B2.rev (m:=lo+y - (aA+1)) (hi:=lo+y) (by omega) (by omega)
      have N3:NI r (aM (arrOf ag) (lo+y - (aA+1)) (lo+y)) lo (lo+y):=N2.l5 e2 (by omega) (by omega)
      obtain⟨p3,ip⟩:=Zc (xs:=aM (arrOf ag) (lo+y - (aA+1)) (lo+y)) (i:=lo+y - 1) (by rw[mirror_size];omega)
      have pR:=Jv (by omega) (by omega) ip
      have iW:(aM (arrOf ag) (lo+y - (aA+1)) (lo+y))[lo+y]? =some q2:=by rw[Jh (by omega) (.inr (Nat.le_refl _))];exact bz
      have h3:r p3 q2=false:=o.cf q2 p2 p3 (o.bt _ _ dg) (e2 _ _ p3 p2 (Nat.le_refl _) (by omega) (by omega) (by omega) pR dQ)
      exact wpS_pure ⟨B3,0,rfl,N3.snoc (hi:=lo+y) o (by omega) ip iW h3,by omega,EQ.jA o (by omega)⟩
     ·rw[if_neg ft]
      exact wpS_pure ⟨B2,0,rfl,N2.snoc (hi:=lo+y) o (by omega) dQ bz (o.bt _ _ dg),by omega,EQ.jA o (by omega)⟩
    |false=>
     dsimp only
     rw[if_neg Bool.false_ne_true]
     refine wpS_bind (ZV hc B2 dQ bz ?_)
     cases kI:r p2 q2 with
     |true=>exact wpS_pure ⟨B2,y,aA,rfl,by omega,by omega,N2,g1,e2⟩
     |false=>
      refine wpS_pure ⟨B2,aA+1,rfl,N2.snoc (hi:=lo+y) o (by omega) dQ bz kI,by omega,?_⟩
      have:=e2.snoc (hi:=lo+y) o (by omega) dQ bz kI dg
      rw[show lo+(y+1) - (aA+1+1)=lo+y - (aA+1) by omega]
      exact this
   ·rintro c ag ⟨B2,aA,rfl,N2,g1,e2⟩
    have e9:max (n+1) bg=bg:=Nat.max_eq_right (by omega)
    rw[e9]at N2 g1 e2
    exact⟨B2,bg,aA,by rw[e9],by omega,by omega,N2,g1,e2⟩
   rintro c aE ⟨B3,m,aA,rfl,m1,m2,N3,g3,e3⟩
   dsimp only
   have z3:=B3.size
   by_cases ft:aA>0
   ·rw[if_pos ft]
    refine wpS_bind (ZU ?_)
    have B4:=B3.rev (m:=lo+m - (aA+1)) (hi:=lo+m) (by omega) (by omega)
    have N4:NI r (arrOf (setArr aE (aM (arrOf aE) (lo+m - (aA+1)) (lo+m)))) lo (lo+m):=N3.l5 e3 (by omega) (by omega)
    generalize setArr aE (aM (arrOf aE) (lo+m - (aA+1)) (lo+m))=cC at B4 N4
    refine wpS_bind (ZU ?_)
    have B9:=B4.rev (m:=lo) (hi:=lo+m) (Nat.le_refl _) (by omega)
    have S9:SI r (arrOf (setArr cC (aM (arrOf cC) lo (lo+m)))) lo (lo+m):=NI.aM N4 (by rw[B4.size];omega)
    generalize setArr cC (aM (arrOf cC) lo (lo+m))=eU at B9 S9
    have z9:=B9.size
    refine wpS_bind (wpS_forRange (I:=fun y c stx=>stx=eU∧c=(none,y)∧SI r (arrOf eU) lo (lo+y)) ?_ ?_ ⟨rfl,rfl,S9⟩)
    ·rintro y c stx fV aJ ⟨rfl,rfl,S⟩
     dsimp only
     obtain⟨p9,fu⟩:=Zc (xs:=arrOf stx) (i:=lo+y - 1) (by omega)
     obtain⟨q9,fq⟩:=Zc (xs:=arrOf stx) (i:=lo+y) (by omega)
     refine wpS_bind (ZV hc B9 fq fu ?_)
     cases iU:r q9 p9 with
     |true=>exact wpS_pure (wpS_pure (h y stx B9 (by omega) (by omega) S))
     |false=>exact wpS_pure ⟨rfl,rfl,S.snoc (hi:=lo+y) o (by omega) fu fq iU⟩
    ·rintro c stx ⟨rfl,rfl,S⟩
     rw[Nat.max_eq_right (by omega)]at S
     have e9:max m bg=bg:=Nat.max_eq_right (by omega)
     dsimp only
     rw[e9]
     exact wpS_pure (h bg stx B9 (by omega) (by omega) S)
   ·rw[if_neg ft]
    refine wpS_bind (ZU ?_)
    have B9:=B3.rev (m:=lo) (hi:=lo+m) (Nat.le_refl _) (by omega)
    have S9:SI r (arrOf (setArr aE (aM (arrOf aE) lo (lo+m)))) lo (lo+m):=NI.aM N3 (by rw[B3.size];omega)
    generalize setArr aE (aM (arrOf aE) lo (lo+m))=eU at B9 S9
    have z9:=B9.size
    refine wpS_bind (wpS_forRange (I:=fun y c stx=>stx=eU∧c=(none,y)∧SI r (arrOf eU) lo (lo+y)) ?_ ?_ ⟨rfl,rfl,S9⟩)
    ·rintro y c stx fV aJ ⟨rfl,rfl,S⟩
     dsimp only
     obtain⟨p9,fu⟩:=Zc (xs:=arrOf stx) (i:=lo+y - 1) (by omega)
     obtain⟨q9,fq⟩:=Zc (xs:=arrOf stx) (i:=lo+y) (by omega)
     refine wpS_bind (ZV hc B9 fq fu ?_)
     cases iU:r q9 p9 with
     |true=>exact wpS_pure (wpS_pure (h y stx B9 (by omega) (by omega) S))
     |false=>exact wpS_pure ⟨rfl,rfl,S.snoc (hi:=lo+y) o (by omega) fu fq iU⟩
    ·rintro c stx ⟨rfl,rfl,S⟩
     rw[Nat.max_eq_right (by omega)]at S
     have e9:max m bg=bg:=Nat.max_eq_right (by omega)
     dsimp only
     rw[e9]
     exact wpS_pure (h bg stx B9 (by omega) (by omega) S)
 ·rw[if_neg ub]
  obtain rfl:n=1:=by omega
  have mZ:NI r (arrOf aa) lo (lo+(1+1)):=(NI.one o).snoc (hi:=lo+1) o (by omega) hp hq (o.bt _ _ hr)
  refine wpS_bind (wpS_lift (wpAny_rule ⟨rfl,?_⟩))
  refine wpS_bind (wpS_mono (wpS_forRange (I:=fun y c stx=>CB a₀ κ lo aa stx∧∃aA,c=(none,y,aA)∧NI r (arrOf stx) lo (lo+y)∧aA+1≤y∧EQ r (arrOf stx) (lo+y - (aA+1)) (lo+y))
   (Q:=fun c stx=>CB a₀ κ lo aa stx∧∃m aA,c=(none,m,aA)∧1+1≤m∧m≤bg∧NI r (arrOf stx) lo (lo+m)∧aA+1≤m∧EQ r (arrOf stx) (lo+m - (aA+1)) (lo+m)) ?_ ?_ ⟨B0,0,rfl,mZ,by omega,EQ.jA o (by omega)⟩) ?_)
  ·rintro y c ag fV aJ ⟨B2,aA,rfl,N2,g1,e2⟩
   dsimp only
   have z2:=B2.size
   obtain⟨p2,dQ⟩:=Zc (xs:=arrOf ag) (i:=lo+y - 1) (by omega)
   obtain⟨q2,bz⟩:=Zc (xs:=arrOf ag) (i:=lo+y) (by omega)
   refine wpS_bind (ZV hc B2 bz dQ ?_)
   cases dg:r q2 p2 with
   |true=>
    dsimp only
    rw[if_pos rfl]
    by_cases ft:aA>0
    ·rw[if_pos ft]
     refine wpS_bind (ZU ?_)
     have B3:=B2.rev (m:=lo+y - (aA+1)) (hi:=lo+y) (by omega) (by omega)
     have N3:NI r (aM (arrOf ag) (lo+y - (aA+1)) (lo+y)) lo (lo+y):=N2.l5 e2 (by omega) (by omega)
     obtain⟨p3,ip⟩:=Zc (xs:=aM (arrOf ag) (lo+y - (aA+1)) (lo+y)) (i:=lo+y - 1) (by rw[mirror_size];omega)
     have pR:=Jv (by omega) (by omega) ip
     have iW:(aM (arrOf ag) (lo+y - (aA+1)) (lo+y))[lo+y]? =some q2:=by rw[Jh (by omega) (.inr (Nat.le_refl _))];exact bz
     have h3:r p3 q2=false:=o.cf q2 p2 p3 (o.bt _ _ dg) (e2 _ _ p3 p2 (Nat.le_refl _) (by omega) (by omega) (by omega) pR dQ)
     exact wpS_pure ⟨B3,0,rfl,N3.snoc (hi:=lo+y) o (by omega) ip iW h3,by omega,EQ.jA o (by omega)⟩
    ·rw[if_neg ft]
     exact wpS_pure ⟨B2,0,rfl,N2.snoc (hi:=lo+y) o (by omega) dQ bz (o.bt _ _ dg),by omega,EQ.jA o (by omega)⟩
   |false=>
    dsimp only
    rw[if_neg Bool.false_ne_true]
    refine wpS_bind (ZV hc B2 dQ bz ?_)
    cases kI:r p2 q2 with
    |true=>exact wpS_pure ⟨B2,y,aA,rfl,by omega,by omega,N2,g1,e2⟩
    |false=>
     refine wpS_pure ⟨B2,aA+1,rfl,N2.snoc (hi:=lo+y) o (by omega) dQ bz kI,by omega,?_⟩
     have:=e2.snoc (hi:=lo+y) o (by omega) dQ bz kI dg
     rw[show lo+(y+1) - (aA+1+1)=lo+y - (aA+1) by omega]
     exact this
  ·rintro c ag ⟨B2,aA,rfl,N2,g1,e2⟩
   have e9:max (1+1) bg=bg:=Nat.max_eq_right (by omega)
   rw[e9]at N2 g1 e2
   exact⟨B2,bg,aA,by rw[e9],by omega,by omega,N2,g1,e2⟩
  rintro c aE ⟨B3,m,aA,rfl,m1,m2,N3,g3,e3⟩
  dsimp only
  have z3:=B3.size
  by_cases ft:aA>0
  ·rw[if_pos ft]
   refine wpS_bind (ZU ?_)
   have B4:=B3.rev (m:=lo+m - (aA+1)) (hi:=lo+m) (by omega) (by omega)
   have N4:NI r (arrOf (setArr aE (aM (arrOf aE) (lo+m - (aA+1)) (lo+m)))) lo (lo+m):=N3.l5 e3 (by omega) (by omega)
   generalize setArr aE (aM (arrOf aE) (lo+m - (aA+1)) (lo+m))=cC at B4 N4
   refine wpS_bind (ZU ?_)
   have B9:=B4.rev (m:=lo) (hi:=lo+m) (Nat.le_refl _) (by omega)
   have S9:SI r (arrOf (setArr cC (aM (arrOf cC) lo (lo+m)))) lo (lo+m):=NI.aM N4 (by rw[B4.size];omega)
   generalize setArr cC (aM (arrOf cC) lo (lo+m))=eU at B9 S9
   have z9:=B9.size
   refine wpS_bind (wpS_forRange (I:=fun y c stx=>stx=eU∧c=(none,y)∧SI r (arrOf eU) lo (lo+y)) ?_ ?_ ⟨rfl,rfl,S9⟩)
   ·rintro y c stx fV aJ ⟨rfl,rfl,S⟩
    dsimp only
    obtain⟨p9,fu⟩:=Zc (xs:=arrOf stx) (i:=lo+y - 1) (by omega)
    obtain⟨q9,fq⟩:=Zc (xs:=arrOf stx) (i:=lo+y) (by omega)
    refine wpS_bind (ZV hc B9 fq fu ?_)
    cases iU:r q9 p9 with
    |true=>exact wpS_pure (wpS_pure (h y stx B9 (by omega) (by omega) S))
    |false=>exact wpS_pure ⟨rfl,rfl,S.snoc (hi:=lo+y) o (by omega) fu fq iU⟩
   ·rintro c stx ⟨rfl,rfl,S⟩
    rw[Nat.max_eq_right (by omega)]at S
    have e9:max m bg=bg:=Nat.max_eq_right (by omega)
    dsimp only
    rw[e9]
    exact wpS_pure (h bg stx B9 (by omega) (by omega) S)
  ·rw[if_neg ft]
   refine wpS_bind (ZU ?_)
   have B9:=B3.rev (m:=lo) (hi:=lo+m) (Nat.le_refl _) (by omega)
   have S9:SI r (arrOf (setArr aE (aM (arrOf aE) lo (lo+m)))) lo (lo+m):=NI.aM N3 (by rw[B3.size];omega)
   generalize setArr aE (aM (arrOf aE) lo (lo+m))=eU at B9 S9
   have z9:=B9.size
   refine wpS_bind (wpS_forRange (I:=fun y c stx=>stx=eU∧c=(none,y)∧SI r (arrOf eU) lo (lo+y)) ?_ ?_ ⟨rfl,rfl,S9⟩)
   ·rintro y c stx fV aJ ⟨rfl,rfl,S⟩
    dsimp only
    obtain⟨p9,fu⟩:=Zc (xs:=arrOf stx) (i:=lo+y - 1) (by omega)
    obtain⟨q9,fq⟩:=Zc (xs:=arrOf stx) (i:=lo+y) (by omega)
    refine wpS_bind (ZV hc B9 fq fu ?_)
    cases iU:r q9 p9 with
    |true=>exact wpS_pure (wpS_pure (h y stx B9 (by omega) (by omega) S))
    |false=>exact wpS_pure ⟨rfl,rfl,S.snoc (hi:=lo+y) o (by omega) fu fq iU⟩
   ·rintro c stx ⟨rfl,rfl,S⟩
    rw[Nat.max_eq_right (by omega)]at S
    have e9:max m bg=bg:=Nat.max_eq_right (by omega)
    dsimp only
    rw[e9]
    exact wpS_pure (h bg stx B9 (by omega) (by omega) S)
theorem Cq {x y z:Keyed}(o:Ord r) (h:r z x=true) (h2:r y x=false):r z y=true:=by
 cases e:r z y with
 |true=>rfl
 |false=>
  have:=o.cf x y z h2 e
  rw[h]at this
  cases this
theorem DU {st:SortSt}{i j:Nat}{Q:Unit→SortSt→Prop}(h:Q () (setArr st (bubble (arrOf st) i (i - j)))):wpS (model prog w) A E s (moveDown' i j) Q st:=by
 rw[moveDown'_eq]
 exact wpS_modify h
theorem SI.put {xs:Array Keyed}{lo k l:Nat}{q:Keyed}(o:Ord r) (S:SI r xs lo (lo+k)) (hq:xs[lo+k]? =some q) (hl:l≤k) (h1:∀i x,i<l→xs[lo+i]? =some x→r q x=false) (h2:∀i x,l≤i→i<k→xs[lo+i]? =some x→r q x=true):SI r (bubble xs (lo+k) (lo+k - (lo+l))) lo (lo+(k+1)):=by
 have hs:lo+k<xs.size:=(Array.getElem?_eq_some_iff.mp hq).1
 intro i j x y g1 g2 g3 hx hy
 rw[getElem?_bubble hs _ (by omega)]at hx hy
 rw[show lo+k - (lo+k - (lo+l))=lo+l by omega]at hx hy
 by_cases ei:i=lo+l
 ·rw[if_pos ei,hq]at hx
  cases hx
  by_cases ej:j=lo+l
  ·rw[if_pos ej,hq]at hy
   cases hy
   exact o.ij _
  ·rw[if_neg ej,if_pos (by omega)]at hy
   exact o.bt _ _ (h2 (j - 1 - lo) y (by omega) (by omega) (by rw[show lo+(j - 1 - lo)=j - 1 by omega];exact hy))
 ·rw[if_neg ei]at hx
  by_cases ej:j=lo+l
  ·rw[if_pos ej,hq]at hy
   cases hy
   rw[if_neg (by omega)]at hx
   exact h1 (i - lo) x (by omega) (by rw[show lo+(i - lo)=i by omega];exact hx)
  ·rw[if_neg ej]at hy
   by_cases gi:lo+l<i
   ·rw[if_pos (by omega)]at hx hy
    exact S (i - 1) (j - 1) x y (by omega) (by omega) (by omega) hx hy
   ·rw[if_neg (by omega)]at hx
    by_cases gj:lo+l<j
    ·rw[if_pos (by omega)]at hy
     exact S i (j - 1) x y (by omega) (by omega) (by omega) hx hy
    ·rw[if_neg (by omega)]at hy
     exact S i j x y (by omega) (by omega) (by omega) hx hy
theorem Ja {st cq:SortSt}{lo n ok:Nat}{Q:Bool→SortSt→Prop}(o:Ord r) (hc:fM prog w A E s κ a₀ r) (B0:CB a₀ κ lo cq st) (h1:1≤ok) (hn:ok≤n) (hz:lo+n≤a₀.size) (S0:SI r (arrOf st) lo (lo+ok))
  (h:∀aa,CB a₀ κ lo cq aa→SI r (arrOf aa) lo (lo+n)→Q true aa):wpS (model prog w) A E s (binarySort' lo n ok) Q st:=by
 rw[binarySort'_eq]
 dsimp only
 rw[Nat.max_eq_left h1]
 refine wpS_bind (wpS_forRange (I:=fun k c aa=>c=(none,())∧CB a₀ κ lo cq aa∧SI r (arrOf aa) lo (lo+k)) ?_ ?_ ⟨rfl,B0,S0⟩)
 ·rintro k c aw bb jO ⟨rfl,B1,S1⟩
  try dsimp only
  have z1:=B1.size
  obtain⟨q,hq⟩:=Zc (xs:=arrOf aw) (i:=lo+k) (by omega)
  refine wpS_bind (wpS_mono (wpS_forRange (I:=fun y c aa=>aa=aw∧∃l u,c=(none,l,u)∧l≤u∧u≤k∧(∀i x,i<l→(arrOf aw)[lo+i]? =some x→r q x=false)∧(∀i x,u≤i→i<k→(arrOf aw)[lo+i]? =some x→r q x=true)∧u - l≤k - y)
   (Q:=fun c aa=>aa=aw∧∃l u,c=(none,l,u)∧l≤k∧(∀i x,i<l→(arrOf aw)[lo+i]? =some x→r q x=false)∧(∀i x,l≤i→i<k→(arrOf aw)[lo+i]? =some x→r q x=true)) ?_ ?_ ⟨rfl,0,k,rfl,by omega,by omega,fun i x hi=>absurd hi (by omega),fun i x g1 g2=>absurd g2 (by omega),by omega⟩) ?_)
  ·rintro y c aa _ hy ⟨rfl,l,u,rfl,g1,g2,g3,g4,g5⟩
   dsimp only
   by_cases bq:l≥u
   ·rw[if_pos bq]
    exact wpS_pure ⟨rfl,l,u,rfl,by omega,g3,fun i x g6=>g4 i x (by omega)⟩
   ·rw[if_neg bq]
    have hm:(l+u)/2<u:=by omega
    have dG:l≤(l+u)/2:=by omega
    generalize (l+u)/2=m at hm dG
    obtain⟨p,hp⟩:=Zc (xs:=arrOf aa) (i:=lo+m) (by omega)
    refine wpS_bind (ZV hc B1 hq hp ?_)
    cases hr:r q p with
    |true=>
     refine wpS_pure ⟨rfl,l,m,rfl,dG,by omega,g3,fun i x g6 g7 hx=> ?_,by omega⟩
     exact Cq o hr (S1 (lo+m) (lo+i) p x (by omega) (by omega) (by omega) hp hx)
    |false=>
     refine wpS_pure ⟨rfl,m+1,u,rfl,by omega,g2,fun i x g6 hx=> ?_,g4,by omega⟩
     exact o.cf x p q (S1 (lo+i) (lo+m) x p (by omega) (by omega) (by omega) hx hp) hr
  ·rintro c aa ⟨rfl,l,u,rfl,g1,g2,g3,g4,g5⟩
   rw[Nat.max_eq_right (Nat.zero_le _)]at g5
   exact⟨rfl,l,u,rfl,by omega,g3,fun i x g6=>g4 i x (by omega)⟩
  rintro c aa ⟨rfl,l,u,rfl,g1,g3,g4⟩
  dsimp only
  refine wpS_bind (DU (wpS_pure ⟨rfl,⟨B1.kind,B1.pend,B1.fail,(bubble_perm _ _ _).trans B1.perm,fun i hi=> ?_⟩,S1.put o hq g1 g3 g4⟩))
  show(bubble (arrOf aa) (lo+k) (lo+k - (lo+l)))[i]? =_
  rw[getElem?_bubble (by omega) _ (by omega),if_neg (by omega),if_neg (by omega)]
  exact B1.pre i hi
 ·rintro c aw ⟨rfl,B1,S1⟩
  rw[Nat.max_eq_right hn]at S1
  exact wpS_pure (h aw B1 S1)
end
def seg (L:List Keyed) (s n:Nat):List Keyed:=(L.drop s).take n
theorem Yo {L:List Keyed}{s n i:Nat}(h:i<n):(seg L s n)[i]? =L[s+i]? :=by
 unfold seg
 rw[List.getElem?_take_of_lt h,List.getElem?_drop]
theorem UQ {L:List Keyed}{s n:Nat}(h:s+n≤L.length):(seg L s n).length=n:=by
 unfold seg
 rw[List.length_take,List.length_drop];omega
theorem SI.pw {r:Keyed→Keyed→Bool}{xs:Array Keyed}{lo n:Nat}(h:SI r xs lo (lo+n)):Pw r (seg xs.toList lo n):=by
 unfold Pw
 rw[List.pairwise_iff_getElem]
 intro i j hi hj ck
 have hn:j<n:=by unfold seg at hj;rw[List.length_take]at hj;omega
 have e1:(seg xs.toList lo n)[i]? =some (seg xs.toList lo n)[i]:=List.getElem?_eq_getElem hi
 have e2:(seg xs.toList lo n)[j]? =some (seg xs.toList lo n)[j]:=List.getElem?_eq_getElem hj
 rw[Yo (by omega),Array.getElem?_toList]at e1
 rw[Yo hn,Array.getElem?_toList]at e2
 exact h (lo+i) (lo+j) _ _ (by omega) (by omega) (by omega) e1 e2
def Runs (r:Keyed→Keyed→Bool) (L:List Keyed):List (Nat×Nat×Nat)→Nat→Nat→Prop
 | [],p,q=>p=q
 |x::rest,p,q=>x.1=p∧1≤x.2.1∧Pw r (seg L x.1 x.2.1)∧Runs r L rest (p+x.2.1) q
section
variable {r:Keyed→Keyed→Bool}{L L':List Keyed}
theorem Runs.le:∀{ps:List (Nat×Nat×Nat)}{p q:Nat},Runs r L ps p q→p+ps.length≤q
 | [],_,_,h=>by cases h;exact Nat.le_refl _
 |x::ps,p,q,h=>by
  have:=Runs.le h.2.2.2
  have:=h.2.1
  rw[List.length_cons]
  omega
theorem Runs.app:∀{l1 l2:List (Nat×Nat×Nat)}{p q:Nat},Runs r L (l1++l2) p q↔∃m,Runs r L l1 p m∧Runs r L l2 m q
 | [],l2,p,q=> ⟨fun h=> ⟨p,rfl,h⟩,fun⟨m,h1,h2⟩=>by cases h1;exact h2⟩
 |x::l1,l2,p,q=>by
  constructor
  ·rintro⟨h1,h2,h3,h4⟩
   obtain⟨m,g1,g2⟩:=Runs.app.mp h4
   exact⟨m,⟨h1,h2,h3,g1⟩,g2⟩
  ·rintro⟨m,⟨h1,h2,h3,g1⟩,g2⟩
   exact⟨h1,h2,h3,Runs.app.mpr ⟨m,g1,g2⟩⟩
theorem Runs.congr:∀{ps:List (Nat×Nat×Nat)}{p q:Nat},Runs r L ps p q→(∀s n,p≤s→s+n≤q→seg L s n=seg L' s n)→Runs r L' ps p q
 | [],_,_,h,_=>h
 |x::ps,p,q,⟨h1,h2,h3,h4⟩,e=>by
  have:=Runs.le h4
  refine⟨h1,h2,?_,Runs.congr h4 fun s n g1 g2=>e s n (by omega) g2⟩
  rw[←e x.1 x.2.1 (by omega) (by omega)]
  exact h3
theorem UP {m s n:Nat}(h:L.take m=L'.take m) (hs:s+n≤m):seg L s n=seg L' s n:=by
 have key:∀M:List Keyed,seg M s n=seg (M.take m) s n:=fun M=>by
  unfold seg
  rw[List.drop_take,List.take_take,Nat.min_eq_left (by omega)]
 rw[key L,key L',h]
theorem Jn {m s n:Nat}(h:L.drop m=L'.drop m) (hs:m≤s):seg L s n=seg L' s n:=by
 have key:∀M:List Keyed,seg M s n=((M.drop m).drop (s - m)).take n:=fun M=>by
  unfold seg
  rw[List.drop_drop,show m+(s - m)=s by omega]
 rw[key L,key L',h]
theorem El {A B M:List Keyed}{k n:Nat}(o:Ord r) (sA:Pw r A) (sB:Pw r B) (hM:M.Perm (A.drop k++B.take n)) (sM:Pw r M) (h1:∀x∈A.take k,∀y∈B,r y x=false) (h2:∀z∈A,∀w∈B.drop n,r w z=false):Pw r (A.take k++(M++B.drop n)):=by
 have pa:Pw r (A.take k):=List.Pairwise.sublist (List.take_sublist _ _) sA
 have pb:Pw r (B.drop n):=List.Pairwise.sublist (List.drop_sublist _ _) sB
 have yc:Pw r (A.take k++A.drop k):=by rw[List.take_append_drop];exact sA
 have ya:Pw r (B.take n++B.drop n):=by rw[List.take_append_drop];exact sB
 refine List.pairwise_append.mpr ⟨pa,List.pairwise_append.mpr ⟨sM,pb,fun z hz w hw=> ?_⟩,fun x hx z hz=> ?_⟩
 ·rcases List.mem_append.mp (hM.mem_iff.mp hz) with hz |hz
  ·exact h2 z (List.mem_of_mem_drop hz) w hw
  ·exact(List.pairwise_append.mp ya).2.2 z hz w hw
 ·rcases List.mem_append.mp hz with hz |hz
  ·rcases List.mem_append.mp (hM.mem_iff.mp hz) with hz |hz
   ·exact(List.pairwise_append.mp yc).2.2 x hx z hz
   ·exact h1 x hx z (List.mem_of_mem_take hz)
  ·exact h1 x hx z (List.mem_of_mem_drop hz)
theorem UV (off:Nat):∀(M:List Keyed) (j:Nat) (xs:Array Keyed),off+j+M.length≤xs.size→((M.zipIdx j).foldl (fun a x=>a.setIfInBounds (off+x.snd) x.fst) xs).toList=xs.toList.take (off+j)++(M++xs.toList.drop (off+j+M.length))
 | [],j,xs,_=>by
  show xs.toList=_
  rw[List.nil_append,List.length_nil,Nat.add_zero,List.take_append_drop]
 |m::M,j,xs,h=>by
  rw[List.length_cons]at h
  rw[List.zipIdx_cons,List.foldl_cons,UV off M (j+1) _ (by rw[Array.size_setIfInBounds];omega),Array.toList_setIfInBounds]
  have hl:off+j<xs.toList.length:=by rw[Array.length_toList];omega
  rw[List.drop_set_of_lt (by omega),←Nat.add_assoc,List.take_add_one,List.take_set_of_le (Nat.le_refl _),List.getElem?_set_self hl]
  rw[List.append_assoc,List.length_cons,show off+j+1+M.length=off+j+(M.length+1) by omega]
  rfl
end
section
variable {prog:Program}{w:World}{A:Around}{E:Value→Shared→Prop}{s:Shared}{κ:SortKind}{a₀:Array Keyed}{r:Keyed→Keyed→Bool}
theorem Dh {st aa:SortSt}{Q:PUnit→SortSt→Prop}(h:Q ⟨⟩ aa):wpS (model prog w) A E s (set aa:StateT SortSt Sem PUnit) Q st:=by
 unfold wpS
 exact wpAny_pure ⟨rfl,h⟩
theorem Dg {α:Type}{m:StateT SortSt Sem α}{Q:α→SortSt→Prop}{st:SortSt}(P:SortSt→Prop) (hp:P st) (h:∀cq,P cq→wpS (model prog w) A E s m Q cq):wpS (model prog w) A E s m Q st:=h st hp
theorem WQ {st:SortSt}{i:Nat}{Q:Bool→SortSt→Prop}(o:Ord r) (hc:fM prog w A E s κ a₀ r) (hk:kindOf st=κ) (hP:(arrOf st).Perm a₀) (hF:failedOf st=none) {pre post:List (Nat×Nat×Nat)}{sa na pw sb nb lT:Nat}
  (hp:(pendingOf st).toList=pre++(sa,na,pw)::(sb,nb,lT)::post) (hi:pre.length=i) (xV:sb=sa+na) (n1:1≤na) (n2:1≤nb) (hz:sb+nb≤a₀.size) (SA:Pw r (seg (arrOf st).toList sa na)) (SB:Pw r (seg (arrOf st).toList sb nb))
  (h:∀aa,kindOf aa=κ→(arrOf aa).Perm a₀→failedOf aa=none→(pendingOf aa).toList=pre++(sa,na+nb,pw)::post→(arrOf aa).toList.take sa=(arrOf st).toList.take sa→(arrOf aa).toList.drop (sb+nb)=(arrOf st).toList.drop (sb+nb)→Pw r (seg (arrOf aa).toList sa (na+nb))→Q true aa):
  wpS (model prog w) A E s (mergeAt' i) Q st:=by
 have hsz:(arrOf st).size=a₀.size:=hP.size_eq
 have e1:(pendingOf st)[i]? =some (sa,na,pw):=by
  rw[←Array.getElem?_toList,hp,←hi]
  simp
 have e2:(pendingOf st)[i+1]? =some (sb,nb,lT):=by
  rw[←Array.getElem?_toList,hp,←hi,List.getElem?_append_right (by omega),show pre.length+1 - pre.length=1 by omega]
  rfl
 have tW:(((pendingOf st).setIfInBounds i (sa,na+nb,pw)).eraseIdxIfInBounds (i+1)).toList=pre++(sa,na+nb,pw)::post:=by
  rw[Array.toList_eraseIdxIfInBounds,Array.toList_setIfInBounds,hp,←hi,List.set_append_right _ _ (Nat.le_refl _),Nat.sub_self,List.set_cons_zero,List.eraseIdx_append_of_length_le (by omega),show pre.length+1 - pre.length=1 by omega]
  rfl
 show wpS (model prog w) A E s (_ >>=_) _ _
 obtain⟨kd,xs,pd,ga,fl⟩:=st
 refine wpS_bind (wpS_get ?_)
 replace e1:pd[i]? =some (sa,na,pw):=e1
 replace e2:pd[i+1]? =some (sb,nb,lT):=e2
 dsimp only
 rw[e1,e2]
 dsimp only
 refine wpS_bind (Dh ?_)
 refine Dg (fun cq=>kindOf cq=κ∧arrOf cq=xs∧(pendingOf cq).toList=pre++(sa,na+nb,pw)::post∧failedOf cq=none) ⟨hk,rfl,tW,hF⟩ ?_
 rintro cq ⟨g1,g2,g3,g4⟩
 clear tW e1 e2
 replace hP:xs.Perm a₀:=hP
 replace hsz:xs.size=a₀.size:=hsz
 replace SA:Pw r (seg xs.toList sa na):=SA
 replace SB:Pw r (seg xs.toList sb nb):=SB
 have mm:∀{j:Nat}{x:Keyed},xs[j]? =some x→x∈a₀.toList:=fun hx=> (Array.perm_iff_toList_perm.mp hP).mem_iff.mp (Zm hx)
 have lA:(seg xs.toList sa na).length=na:=UQ (by rw[Array.length_toList];omega)
 have lB:(seg xs.toList sb nb).length=nb:=UQ (by rw[Array.length_toList];omega)
 have qD:∀{j:Nat}{x:Keyed},j<na→xs[sa+j]? =some x→(seg xs.toList sa na)[j]? =some x:=fun hj hx=>by rw[Yo hj,Array.getElem?_toList];exact hx
 have qC:∀{j:Nat}{x:Keyed},j<nb→xs[sb+j]? =some x→(seg xs.toList sb nb)[j]? =some x:=fun hj hx=>by rw[Yo hj,Array.getElem?_toList];exact hx
 have mR:∀{j:Nat}{x:Keyed},(seg xs.toList sa na)[j]? =some x→j<na∧xs[sa+j]? =some x:=fun {j x} hx=>by
  have hj:j<na:=by have:=(List.getElem?_eq_some_iff.mp hx).1;omega
  exact⟨hj,by rw[Yo hj,Array.getElem?_toList]at hx;exact hx⟩
 have qB:∀{j:Nat}{x:Keyed},(seg xs.toList sb nb)[j]? =some x→j<nb∧xs[sb+j]? =some x:=fun {j x} hx=>by
  have hj:j<nb:=by have:=(List.getElem?_eq_some_iff.mp hx).1;omega
  exact⟨hj,by rw[Yo hj,Array.getElem?_toList]at hx;exact hx⟩
 have fin:∀(k n:Nat) (M:List Keyed) (aa:SortSt),k≤na→n≤nb→kindOf aa=κ→failedOf aa=none→(pendingOf aa).toList=pre++(sa,na+nb,pw)::post→M.Perm ((seg xs.toList sa na).drop k++(seg xs.toList sb nb).take n)→Pw r M→
   (∀x∈(seg xs.toList sa na).take k,∀y∈seg xs.toList sb nb,r y x=false)→(∀z∈seg xs.toList sa na,∀w∈(seg xs.toList sb nb).drop n,r w z=false)→
   (arrOf aa).toList=xs.toList.take (sa+k)++(M++xs.toList.drop (sa+k+M.length))→Q true aa:=fun k n M aa z7 jJ f1 f2 f3 f4 f5 f6 f7 f8=>by
  have lM:M.length=(na - k)+n:=by
   rw[f4.length_eq,List.length_append,List.length_drop,List.length_take,lA,lB,Nat.min_eq_left jJ]
  have hL:xs.toList.length=a₀.size:=by rw[Array.length_toList];exact hsz
  have eA:xs.toList.take (sa+k)=xs.toList.take sa++(seg xs.toList sa na).take k:=by
   rw[List.take_add]
   unfold seg
   rw[List.take_take,Nat.min_eq_left z7]
  have eB:xs.toList.drop (sa+k+M.length)=(seg xs.toList sb nb).drop n++xs.toList.drop (sb+nb):=by
   rw[lM,show sa+k+(na - k+n)=sb+n by omega,←List.drop_drop]
   have:xs.toList.drop sb=seg xs.toList sb nb++xs.toList.drop (sb+nb):=by
    unfold seg
    rw[←List.drop_drop,List.take_append_drop]
   rw[this,List.drop_append_of_le_length (by rw[lB];exact jJ)]
  have Ba:xs.toList=xs.toList.take sa++((seg xs.toList sa na++seg xs.toList sb nb)++xs.toList.drop (sb+nb)):=by
   have a1:xs.toList.drop sa=seg xs.toList sa na++xs.toList.drop sb:=by
    unfold seg
    rw[xV,←List.drop_drop,List.take_append_drop]
   have a2:xs.toList.drop sb=seg xs.toList sb nb++xs.toList.drop (sb+nb):=by
    unfold seg
    rw[←List.drop_drop,List.take_append_drop]
   rw[List.append_assoc,←a2,←a1,List.take_append_drop]
  have eN:(arrOf aa).toList=xs.toList.take sa++(((seg xs.toList sa na).take k++(M++(seg xs.toList sb nb).drop n))++xs.toList.drop (sb+nb)):=by
   rw[f8,eA,eB]
   simp only[List.append_assoc]
  have lX:(xs.toList.take sa).length=sa:=by rw[List.length_take];omega
  have lY:((seg xs.toList sa na).take k++(M++(seg xs.toList sb nb).drop n)).length=na+nb:=by
   rw[List.length_append,List.length_append,List.length_take,List.length_drop,lA,lB,lM];omega
  have pY:((seg xs.toList sa na).take k++(M++(seg xs.toList sb nb).drop n)).Perm (seg xs.toList sa na++seg xs.toList sb nb):=by
   refine List.Perm.trans (List.Perm.append_left _ (List.Perm.append_right _ f4)) ?_
   rw[List.append_assoc,List.take_append_drop,←List.append_assoc,List.take_append_drop]
  refine h aa f1 ?_ f2 f3 ?_ ?_ ?_
  ·refine Array.perm_iff_toList_perm.mpr (List.Perm.trans ?_ (Array.perm_iff_toList_perm.mp hP))
   rw[eN]
   refine List.Perm.trans (List.Perm.append_left _ (List.Perm.append_right _ pY)) ?_
   rw[←Ba]
  ·rw[eN,List.take_left' lX]
  ·rw[eN,←List.append_assoc,List.drop_left' (by rw[List.length_append,lX,lY];omega)]
  ·have:seg (arrOf aa).toList sa (na+nb)=(seg xs.toList sa na).take k++(M++(seg xs.toList sb nb).drop n):=by
    rw[eN]
    show List.take (na+nb) (List.drop sa (xs.toList.take sa++(((seg xs.toList sa na).take k++(M++(seg xs.toList sb nb).drop n))++xs.toList.drop (sb+nb))))=_
    rw[List.drop_left' lX,List.take_left' lY]
   rw[this]
   exact El o SA SB f4 f5 f6 f7
 obtain⟨y0,ik⟩:=Zc (xs:=xs) (i:=sb) (by omega)
 refine wpS_bind (Zj ik ?_)
 have AW:∀y∈seg xs.toList sb nb,r y y0=false:=fun y hy=>by
  obtain⟨j,hj⟩:=List.getElem?_of_mem hy
  exact Z0 o SB (qC (j:=0) (by omega) ik) hj (Nat.zero_le _)
 refine wpS_bind (Zs hc g1 (fun i=>match xs[sa+i]? with |some x=> !r y0 x |none=>false) (fun i hi=> ?_) (mm ik) (fun i j ck hj hp=> ?_) (by omega) fun k kn cz bT=> ?_)
 ·obtain⟨x,hx⟩:=Zc (xs:=xs) (i:=sa+i) (by omega)
  refine⟨x,hx,mm hx,?_⟩
  try dsimp only
  rw[hx]
  rfl
 ·obtain⟨xj,dE⟩:=Zc (xs:=xs) (i:=sa+j) (by omega)
  obtain⟨xi,dF⟩:=Zc (xs:=xs) (i:=sa+i) (by omega)
  try dsimp only at hp ⊢
  rw[dE]at hp
  rw[dF]
  rw[Bool.not_eq_true']at hp ⊢
  exact o.cf _ _ _ (Z0 o SA (qD (by omega) dF) (qD (by omega) dE) ck) hp
 dsimp only
 have low:∀x∈(seg xs.toList sa na).take k,∀y∈seg xs.toList sb nb,r y x=false:=fun x hx y hy=>by
  obtain⟨j,hj⟩:=List.getElem?_of_mem hx
  have uh:j<k:=by have:=(List.getElem?_eq_some_iff.mp hj).1;rw[List.length_take]at this;omega
  rw[List.getElem?_take_of_lt uh]at hj
  obtain⟨kS,i5⟩:=mR hj
  have:=cz j uh
  try dsimp only at this
  rw[i5,Bool.not_eq_true']at this
  exact o.cf x y0 y this (AW y hy)
 by_cases aY:(na - k==0)=true
 ·rw[if_pos aY]
  have ek:k=na:=by have:=beq_iff_eq.mp aY;omega
  subst ek
  refine wpS_pure (fin k 0 [] cq (Nat.le_refl _) (Nat.zero_le _) g1 g4 g3 (by rw[List.drop_eq_nil_of_le (by omega)];exact .refl _) .nil low (fun z hz w hw=> ?_) ?_)
  ·exact low z (by rw[List.take_of_length_le (by omega)];exact hz) w (List.mem_of_mem_drop hw)
  ·rw[g2,List.nil_append,List.length_nil,Nat.add_zero,List.take_append_drop]
 rw[if_neg aY]
 have jI:¬(na - k=0):=fun z=>aY (beq_iff_eq.mpr z)
 obtain⟨x0,iS⟩:=Zc (xs:=xs) (i:=sa+k+(na - k) - 1) (by omega)
 refine wpS_bind (Zj iS ?_)
 have tI:xs[sa+(na - 1)]? =some x0:=by rw[←iS];congr 1;omega
 have AX:∀x∈seg xs.toList sa na,r x0 x=false:=fun x hx=>by
  obtain⟨j,hj⟩:=List.getElem?_of_mem hx
  exact Z0 o SA hj (qD (j:=na - 1) (by omega) tI) (by have:=(mR hj).1;omega)
 refine wpS_bind (Zs hc g1 (fun i=>match xs[sb+i]? with |some y=>r y x0 |none=>false) (fun i hi=> ?_) (mm iS) (fun i j ck hj hp=> ?_) (by omega) fun n nn yM yO=> ?_)
 ·obtain⟨y,hy⟩:=Zc (xs:=xs) (i:=sb+i) (by omega)
  refine⟨y,hy,mm hy,?_⟩
  try dsimp only
  rw[hy]
  rfl
 ·obtain⟨yj,bE⟩:=Zc (xs:=xs) (i:=sb+j) (by omega)
  obtain⟨yi,bF⟩:=Zc (xs:=xs) (i:=sb+i) (by omega)
  try dsimp only at hp ⊢
  rw[bE]at hp
  rw[bF]
  exact YR o hp (Z0 o SB (qC (by omega) bF) (qC (by omega) bE) ck)
 dsimp only
 have high:∀z∈seg xs.toList sa na,∀w∈(seg xs.toList sb nb).drop n,r w z=false:=fun z hz w hw=>by
  obtain⟨j,hj⟩:=List.getElem?_of_mem hw
  rw[List.getElem?_drop]at hj
  obtain⟨kS,i5⟩:=qB hj
  have:=yO (n+j) (by omega) kS
  try dsimp only at this
  rw[i5]at this
  exact o.cf z x0 w (AX z hz) this
 by_cases bA:(n==0)=true
 ·rw[if_pos bA]
  have en:n=0:=beq_iff_eq.mp bA
  subst en
  refine wpS_pure (fin na 0 [] cq (Nat.le_refl _) (Nat.zero_le _) g1 g4 g3 (by rw[List.drop_eq_nil_of_le (by omega)];exact .refl _) .nil (fun x hx y hy=> ?_) high ?_)
  ·exact high x (List.mem_of_mem_take hx) y (by rw[List.drop_zero];exact hy)
  ·rw[g2,List.nil_append,List.length_nil,Nat.add_zero,List.take_append_drop]
 rw[if_neg bA]
 have l9:¬(n=0):=fun z=>bA (beq_iff_eq.mpr z)
 have xA:(xs.extract (sa+k) sb).toList=(seg xs.toList sa na).drop k:=by
  rw[Y5]
  unfold seg
  rw[List.drop_take,List.drop_drop,show sb - (sa+k)=na - k by omega]
 have xB:(xs.extract sb (sb+n)).toList=(seg xs.toList sb nb).take n:=by
  rw[Y5,show sb+n - sb=n by omega]
  unfold seg
  rw[List.take_take,Nat.min_eq_left nn]
 have xx:(xs.extract (sa+k) sb).size=na - k:=by rw[←Array.length_toList,xA,List.length_drop,lA]
 have Fm:(xs.extract sb (sb+n)).size=n:=by rw[←Array.length_toList,xB,List.length_take,lB];omega
 have C:dc r (xs.extract (sa+k) sb) (xs.extract sb (sb+n)):=⟨o,by rw[xA];exact List.Pairwise.sublist (List.drop_sublist _ _) SA,by rw[xB];exact List.Pairwise.sublist (List.take_sublist _ _) SB⟩
 have mA:∀x∈(xs.extract (sa+k) sb).toList,x∈a₀.toList:=fun x hx=>by
  rw[xA]at hx
  obtain⟨j,hj⟩:=List.getElem?_of_mem (List.mem_of_mem_drop hx)
  exact mm (mR hj).2
 have mB:∀x∈(xs.extract sb (sb+n)).toList,x∈a₀.toList:=fun x hx=>by
  rw[xB]at hx
  obtain⟨j,hj⟩:=List.getElem?_of_mem (List.mem_of_mem_take hx)
  exact mm (qB hj).2
 have m0:∀y,(xs.extract sb (sb+n))[0]? =some y→∀x∈(xs.extract (sa+k) sb).toList,r x y=false:=fun y hy x hx=>by
  have fV:=Zn hy
  rw[xB,List.getElem?_take_of_lt (by omega),Yo (by omega),Nat.add_zero,Array.getElem?_toList,ik]at fV
  cases fV
  rw[xA]at hx
  obtain⟨j,hj⟩:=List.getElem?_of_mem hx
  rw[List.getElem?_drop]at hj
  obtain⟨kS,i5⟩:=mR hj
  have:=bT (k+j) (by omega) kS
  try dsimp only at this
  rw[i5,Bool.not_eq_false']at this
  exact o.bt _ _ this
 have ml:∀x,(xs.extract (sa+k) sb)[(xs.extract (sa+k) sb).size - 1]? =some x→∀y∈(xs.extract sb (sb+n)).toList,r x y=false:=fun x hx y hy=>by
  have tH:=Zn hx
  rw[xx,xA,List.getElem?_drop,Yo (by omega),Array.getElem?_toList,show sa+(k+(na - k - 1))=sa+(na - 1) by omega,tI]at tH
  cases tH
  rw[xB]at hy
  obtain⟨j,hj⟩:=List.getElem?_of_mem hy
  have ug:j<n:=by have:=(List.getElem?_eq_some_iff.mp hj).1;rw[List.length_take]at this;omega
  rw[List.getElem?_take_of_lt ug]at hj
  obtain⟨kS,i5⟩:=qB hj
  have:=yM j ug
  try dsimp only at this
  rw[i5]at this
  exact o.bt _ _ this
 have done:∀(res:Array Keyed) (aw:SortSt),SG cq aw→Good r (xs.extract (sa+k) sb) (xs.extract sb (sb+n)) res→Q true (setArr aw (List.foldl (fun a x=>a.setIfInBounds (sa+k+x.snd) x.fst) (arrOf aw) res.toList.zipIdx)):=fun res aw sg gd=>by
  have p1:=gd.1
  rw[xA,xB]at p1
  have lR:res.toList.length=na - k+n:=by rw[p1.length_eq,List.length_append,List.length_drop,List.length_take,lA,lB];omega
  refine fin k n res.toList _ kn nn (by show kindOf aw=κ;rw[sg.1];exact g1) (by show failedOf aw=none;rw[sg.2.2.2];exact g4) (by show(pendingOf aw).toList=_;rw[sg.2.2.1];exact g3) p1 gd.2 low high ?_
  show(List.foldl (fun a x=>a.setIfInBounds (sa+k+x.snd) x.fst) (arrOf aw) res.toList.zipIdx).toList=_
  rw[sg.2.1,g2]
  exact UV (sa+k) res.toList 0 xs (by rw[lR];omega)
 by_cases hle:na - k≤n
 ·rw[if_pos hle]
  refine wpS_bind (WO hc g1 C mA mB (by omega) (by omega) m0 ml fun res aw sg gd=> ?_)
  refine wpS_bind (wpS_modify (wpS_bind (wpS_get ?_)))
  have ef:(failedOf (setArr aw (List.foldl (fun a x=>a.setIfInBounds (sa+k+x.snd) x.fst) (arrOf aw) res.toList.zipIdx))).isNone=true:=by
   show(failedOf aw).isNone=true
   rw[sg.2.2.2,g4]
   rfl
  rw[ef]
  exact wpS_pure (done res aw sg gd)
 ·rw[if_neg hle]
  refine wpS_bind (WP hc g1 C mA mB (by omega) (by omega) m0 ml fun res aw sg gd=> ?_)
  refine wpS_bind (wpS_modify (wpS_bind (wpS_get ?_)))
  have ef:(failedOf (setArr aw (List.foldl (fun a x=>a.setIfInBounds (sa+k+x.snd) x.fst) (arrOf aw) res.toList.zipIdx))).isNone=true:=by
   show(failedOf aw).isNone=true
   rw[sg.2.2.2,g4]
   rfl
  rw[ef]
  exact wpS_pure (done res aw sg gd)
structure RS (a₀:Array Keyed) (κ:SortKind) (r:Keyed→Keyed→Bool) (st:SortSt) (lo:Nat):Prop where
 kind:kindOf st=κ
 perm:(arrOf st).Perm a₀
 fail:failedOf st=none
 runs:Runs r (arrOf st).toList (pendingOf st).toList 0 lo
 le:lo≤a₀.size
theorem Bu {α:Type}{l:List α}{i:Nat}(h:i+1<l.length):∃pre a b post,l=pre++a::b::post∧pre.length=i:=by
 refine⟨l.take i,l[i],l[i+1],l.drop (i+2),?_,by rw[List.length_take];omega⟩
 rw[←List.drop_eq_getElem_cons h,←List.drop_eq_getElem_cons (by omega),List.take_append_drop]
theorem RS.merge {st:SortSt}{lo i:Nat}{Q:Bool→SortSt→Prop}(o:Ord r) (hc:fM prog w A E s κ a₀ r) (R:RS a₀ κ r st lo) (hi:i+1< (pendingOf st).size)
  (h:∀aa,RS a₀ κ r aa lo→(pendingOf aa).size+1=(pendingOf st).size→(arrOf aa).toList.drop lo=(arrOf st).toList.drop lo→Q true aa):wpS (model prog w) A E s (mergeAt' i) Q st:=by
 obtain⟨pre,⟨sa,na,pw⟩,⟨sb,nb,lT⟩,post,hp,hl⟩:=Bu (l:=(pendingOf st).toList) (i:=i) (by rw[Array.length_toList];exact hi)
 have hr:=R.runs
 rw[hp]at hr
 obtain⟨m,h1,h2⟩:=Runs.app.mp hr
 obtain⟨a1,a2,a3,h3⟩:=h2
 obtain⟨b1,b2,b3,h4⟩:=h3
 dsimp only at a1 a2 a3 b1 b2 b3 h4
 subst a1
 have l4:=h4.le
 have l1:=h1.le
 have le:=R.le
 refine WQ o hc R.kind R.perm R.fail hp hl b1 a2 b2 (by omega) a3 b3 fun aa g1 g2 g3 g4 g5 g6 g7=> ?_
 refine h aa ⟨g1,g2,g3,?_,le⟩ ?_ ?_
 ·rw[g4]
  refine Runs.app.mpr ⟨sa,h1.congr fun s n q1 q2=>UP g5.symm q2,rfl,(show 1≤na+nb by omega),g7,?_⟩
  show Runs r (arrOf aa).toList post (sa+(na+nb)) lo
  rw[←Nat.add_assoc]
  exact h4.congr fun s n q1 q2=>Jn (m:=sb+nb) g6.symm (by omega)
 ·rw[←Array.length_toList,←Array.length_toList,g4,hp]
  simp only[List.length_append,List.length_cons]
  omega
 ·have key:∀M:List Keyed,M.drop lo=(M.drop (sb+nb)).drop (lo - (sb+nb)):=fun M=>by
   rw[List.drop_drop]
   congr 1
   omega
  rw[key,key (arrOf st).toList,g6]
theorem RS.push {st:SortSt}{lo n:Nat}(R:RS a₀ κ r st lo) (n1:1≤n) (hz:lo+n≤a₀.size) (S:Pw r (seg (arrOf st).toList lo n)):RS a₀ κ r (setPending st ((pendingOf st).push (lo,n,0))) (lo+n):=by
 refine⟨R.kind,R.perm,R.fail,?_,hz⟩
 show Runs r (arrOf st).toList ((pendingOf st).push (lo,n,0)).toList 0 (lo+n)
 rw[Array.toList_push]
 exact Runs.app.mpr ⟨lo,R.runs,rfl,n1,S,rfl⟩
theorem WX {L:List Keyed}{pw:Nat} :∀{ps:List (Nat×Nat×Nat)}{i p q:Nat},Runs r L ps p q→Runs r L (ps.modify i fun x=> (x.fst,x.2.fst,pw)) p q
 | [],i,p,q,h=>by rw[List.modify_nil];exact h
 |x::ps,0,p,q,h=>by
  rw[List.modify_zero_cons]
  exact h
 |x::ps,i+1,p,q,⟨h1,h2,h3,h4⟩=>by
  rw[List.modify_succ_cons]
  exact⟨h1,h2,h3,WX h4⟩
theorem RS.pow {st:SortSt}{lo i pw:Nat}(R:RS a₀ κ r st lo):RS a₀ κ r (setPending st ((pendingOf st).modify i fun x=> (x.fst,x.2.fst,pw))) lo:=by
 refine⟨R.kind,R.perm,R.fail,?_,R.le⟩
 show Runs r (arrOf st).toList ((pendingOf st).modify i fun x=> (x.fst,x.2.fst,pw)).toList 0 lo
 rw[Array.toList_modify]
 exact WX R.runs
theorem DW {xs ys:Array Keyed}{lo:Nat}(h:∀k,k<lo→xs[k]? =ys[k]?):xs.toList.take lo=ys.toList.take lo:=by
 refine List.ext_getElem? fun k=> ?_
 by_cases hk:k<lo
 ·rw[List.getElem?_take_of_lt hk,List.getElem?_take_of_lt hk,Array.getElem?_toList,Array.getElem?_toList]
  exact h k hk
 ·rw[List.getElem?_eq_none (by rw[List.length_take];omega),List.getElem?_eq_none (by rw[List.length_take];omega)]
theorem CB.rs {st aa:SortSt}{lo:Nat}(R:RS a₀ κ r st lo) (B:CB a₀ κ lo st aa):RS a₀ κ r aa lo:=by
 refine⟨B.kind,B.perm,B.fail.trans R.fail,?_,R.le⟩
 rw[B.pend]
 exact R.runs.congr fun s n q1 q2=>UP (DW fun k hk=> (B.pre k hk).symm) q2
theorem JP {st:SortSt}{Q:Unit→SortSt→Prop}(o:Ord r) (hc:fM prog w A E s κ a₀ r) (h2:2≤a₀.size) (k0:kindOf st=κ) (p0:(arrOf st).Perm a₀) (f0:failedOf st=none) (e0:pendingOf st= #[])
  (h:∀aa,(arrOf aa).Perm a₀→failedOf aa=none→Pw r (arrOf aa).toList→Q () aa):wpS (model prog w) A E s sortRuns' Q st:=by
 rw[sortRuns'_eq]
 dsimp only
 refine wpS_bind (wpS_get ?_)
 have z0:(arrOf st).size=a₀.size:=p0.size_eq
 rw[z0]
 generalize minRun' a₀.size a₀.size 0=mr
 refine wpS_bind (wpS_mono (wpS_forRange (I:=fun x c aw=> ∃lo,c=(none,lo)∧RS a₀ κ r aw lo∧x≤lo) (Q:=fun c aw=>c=(none,a₀.size)∧RS a₀ κ r aw a₀.size) ?step ?fin ⟨0,rfl,⟨k0,p0,f0,by rw[e0];exact rfl,Nat.zero_le _⟩,Nat.le_refl _⟩) ?post)
 case fin=>
  rintro c aw ⟨lo,rfl,R,hx⟩
  rw[Nat.max_eq_right (Nat.zero_le _)]at hx
  have:=R.le
  obtain rfl:lo=a₀.size:=by omega
  exact⟨rfl,R⟩
 case step=>
  rintro x c aw _ hx ⟨lo,rfl,R1,FF⟩
  dsimp only
  by_cases bq:lo≥a₀.size
  ·rw[if_pos bq]
   have:=R1.le
   obtain rfl:lo=a₀.size:=by omega
   exact wpS_pure ⟨rfl,R1⟩
  rw[if_neg bq]
  refine wpS_bind (JQ o hc (st:=aw) ⟨R1.kind,rfl,rfl,R1.perm,fun _ _=>rfl⟩ (by omega) (by omega) fun found ag B2 f1 f2 S=> ?_)
  dsimp only
  by_cases aK:found<mr
  ·rw[if_pos aK]
   refine wpS_bind (wpS_lift (wpAny_rule ⟨rfl,?_⟩))
   have fE:found≤min (a₀.size - lo) mr:=by omega
   have Ah:min (a₀.size - lo) mr≤a₀.size - lo:=by omega
   generalize min (a₀.size - lo) mr=n at fE Ah
   refine wpS_bind (Ja o hc B2 f1 fE (by omega) S fun aE B3 S3=> ?_)
   rw[if_neg (by decide)]
   have R2:=CB.rs R1 B3
   have S2:=S3.pw
   have n1:1≤n:=by omega
   clear S3 B3 B2 S
   clear ag
   revert R2 S2
   generalize aE=ag
   intro R2 S2
   refine wpS_bind (wpS_get ?_)
   cases hb:(pendingOf ag).back? with
   |none=>
    try dsimp only
    exact wpS_bind (wpS_modify (wpS_pure ⟨_,rfl,R2.push n1 (by omega) S2,by omega⟩))
   |some z=>
    obtain⟨s1,m1,p1⟩:=z
    try dsimp only
    refine wpS_bind (wpS_mono (wpS_forRange (I:=fun _ c aa=>c=(none,())∧RS a₀ κ r aa lo∧(arrOf aa).toList.drop lo=(arrOf ag).toList.drop lo) (Q:=fun c aa=>c=(none,())∧RS a₀ κ r aa lo∧(arrOf aa).toList.drop lo=(arrOf ag).toList.drop lo) ?_ (fun c aa hh=>hh) ⟨rfl,R2,rfl⟩) ?_)
    ·rintro y c aa _ _ ⟨rfl,R,hd⟩
     refine wpS_bind (wpS_get ?_)
     by_cases hs:(pendingOf aa).size>1
     ·rw[if_pos hs]
      cases hq:(pendingOf aa)[(pendingOf aa).size - 2]? with
      |none=>exact wpS_pure ⟨rfl,R,hd⟩
      |some z=>
       obtain⟨z1,z2,yE⟩:=z
       dsimp only
       split
       ·exact wpS_pure ⟨rfl,R,hd⟩
       ·refine wpS_bind (R.merge o hc (by omega) fun eV lh _ qd=> ?_)
        rw[if_neg (by decide)]
        exact wpS_pure ⟨rfl,lh,qd.trans hd⟩
     ·rw[if_neg hs]
      exact wpS_pure ⟨rfl,R,hd⟩
    rintro c aa ⟨rfl,R,hd⟩
    dsimp only
    refine wpS_bind (wpS_modify (wpS_bind (wpS_modify (wpS_pure ⟨_,rfl,R.pow.push n1 (by omega) ?_,by omega⟩))))
    show Pw r (seg (arrOf aa).toList lo _)
    rw[Jn (L':=(arrOf ag).toList) hd (Nat.le_refl _)]
    exact S2
  ·rw[if_neg aK]
   have R2:=CB.rs R1 B2
   have S2:=S.pw
   have n1:=f1
   clear S B2
   clear R1
   refine wpS_bind (wpS_get ?_)
   cases hb:(pendingOf ag).back? with
   |none=>
    try dsimp only
    exact wpS_bind (wpS_modify (wpS_pure ⟨_,rfl,R2.push n1 (by omega) S2,by omega⟩))
   |some z=>
    obtain⟨s1,m1,p1⟩:=z
    try dsimp only
    refine wpS_bind (wpS_mono (wpS_forRange (I:=fun _ c aa=>c=(none,())∧RS a₀ κ r aa lo∧(arrOf aa).toList.drop lo=(arrOf ag).toList.drop lo) (Q:=fun c aa=>c=(none,())∧RS a₀ κ r aa lo∧(arrOf aa).toList.drop lo=(arrOf ag).toList.drop lo) ?_ (fun c aa hh=>hh) ⟨rfl,R2,rfl⟩) ?_)
    ·rintro y c aa _ _ ⟨rfl,R,hd⟩
     refine wpS_bind (wpS_get ?_)
     by_cases hs:(pendingOf aa).size>1
     ·rw[if_pos hs]
      cases hq:(pendingOf aa)[(pendingOf aa).size - 2]? with
      |none=>exact wpS_pure ⟨rfl,R,hd⟩
      |some z=>
       obtain⟨z1,z2,yE⟩:=z
       dsimp only
       split
       ·exact wpS_pure ⟨rfl,R,hd⟩
       ·refine wpS_bind (R.merge o hc (by omega) fun eV lh _ qd=> ?_)
        rw[if_neg (by decide)]
        exact wpS_pure ⟨rfl,lh,qd.trans hd⟩
     ·rw[if_neg hs]
      exact wpS_pure ⟨rfl,R,hd⟩
    rintro c aa ⟨rfl,R,hd⟩
    dsimp only
    refine wpS_bind (wpS_modify (wpS_bind (wpS_modify (wpS_pure ⟨_,rfl,R.pow.push n1 (by omega) ?_,by omega⟩))))
    show Pw r (seg (arrOf aa).toList lo _)
    rw[Jn (L':=(arrOf ag).toList) hd (Nat.le_refl _)]
    exact S2
 case post=>
  rintro c aw ⟨rfl,R1⟩
  dsimp only
  refine wpS_bind (wpS_mono (wpS_forRange (I:=fun x c aa=>c=(none,())∧RS a₀ κ r aa a₀.size∧(pendingOf aa).size+x≤a₀.size) (Q:=fun c aa=>c=(none,())∧RS a₀ κ r aa a₀.size∧(pendingOf aa).size≤1) ?_ ?_ ⟨rfl,R1,by have:=R1.runs.le;rw[Array.length_toList]at this;omega⟩) ?_)
  ·rintro x c aa _ _ ⟨rfl,R,hx⟩
   refine wpS_bind (wpS_get ?_)
   by_cases hs:(pendingOf aa).size≤1
   ·rw[if_pos hs]
    exact wpS_pure ⟨rfl,R,hs⟩
   rw[if_neg hs]
   have idx:∀c:Prop,∀_:Decidable c,(if c then (pendingOf aa).size - 2 - 1 else (pendingOf aa).size - 2)+1< (pendingOf aa).size:=fun c _=>by split<;>omega
   refine wpS_bind (R.merge o hc (idx _ _) fun eV lh Fg _=> ?_)
   rw[if_neg (by decide)]
   exact wpS_pure ⟨rfl,lh,by omega⟩
  ·rintro c aa ⟨rfl,R,hx⟩
   rw[Nat.max_eq_right (Nat.zero_le _)]at hx
   exact⟨rfl,R,by omega⟩
  rintro c aa ⟨rfl,R,hs⟩
  refine wpS_pure (h aa R.perm R.fail ?_)
  have hr:=R.runs
  have hl:(pendingOf aa).toList.length≤1:=by rw[Array.length_toList];exact hs
  match hp:(pendingOf aa).toList,hl with
  | [],_=>
   rw[hp]at hr
   have:0=a₀.size:=hr
   omega
  | [x],_=>
   rw[hp]at hr
   obtain⟨q1,q2,q3,q4⟩:=hr
   have Fv:0+x.2.1=a₀.size:=q4
   rw[q1]at q3
   have:seg (arrOf aa).toList 0 x.2.1=(arrOf aa).toList:=by
    unfold seg
    rw[List.drop_zero,List.take_of_length_le (by rw[Array.length_toList,R.perm.size_eq];omega)]
   rw[this]at q3
   exact q3
  |_::_::_,h=>simp at h
end
end PyProof.Rows.dW
namespace PyProof.Rows.dW
open PySem PySem.W
section
variable {prog:Program}{w:World}{A:Around}{E:Value→Shared→Prop}{s:Shared}{κ:SortKind}{r:Keyed→Keyed→Bool}
def qW (prog:Program) (w:World) (A:Around) (E:Value→Shared→Prop) (κ:SortKind) (r:Keyed→Keyed→Bool) (a:Addr) (h:Heap) (vs:List Value):Prop:=
 ∀s6:Shared,(∀b o,b≠a→h.get? b=some o→s6.heap.get? b=some o)→(2≤vs.length→∀Q:SortKind→Shared→Prop,Q κ s6→wpAny (model prog w) A (keyKind' vs.toArray) Q E s6)∧fM prog w A E s6 κ (pairsOf vs) r
theorem W6 (o:Ord r) {a:Addr}{vs:List Value}{n:Nat}{P:PySem.Fin→Shared→Prop}(ho:s.heap.get? a=some (seqObj "list" vs.toArray n)) (hc:qW prog w A E κ r a s.heap vs) (hz:vs.length≤1000)
  (h:∀xs:Array Keyed,xs.Perm (pairsOf vs)→Pw r xs.toList→P (.done (.ret .none)) {s with heap:=sortedHeap s.heap a vs (xs.map (·.2))}):
  wpAny (model prog w) A (Builtin.«list.sort» ⟨[.ref a],[]⟩) P E s:=by
 rw[list_sort_plain]
 have ha:a<s.heap.objs.size:=Heap.lt_size ho
 have kH:vs.toArray.size≤sizeLine:=by rw[List.size_toArray,sizeLine_eq];omega
 refine wpAny_bind (listItems_at ho rfl ?_)
 refine wpAny_bind (listUpdate_at ho rfl ?_ kH)
 obtain⟨e1,ua⟩:∃e1,(s.heap.update a (Obj.mapSeq fun _=> #[])).get? a=some (seqObj "list" #[] e1):=⟨_,get?_update_seq ho (fun _=> #[])⟩
 refine wpAny_bind (seqEpoch_at ua rfl ?_)
 refine wpAny_bind (wpAny_newTuple ?_ (by simpa using kH))
 refine wpAny_bind (wpAny_newList ?_)
 refine wpAny_holding ?_
 have mn:(((s.heap.update a (Obj.mapSeq fun _=> #[])).push (seqObj "tuple" vs.toArray 0)).push (seqObj "list" #[] 0)).get? a=some (seqObj "list" #[] e1):=by
  rw[Heap.get?_push_ne _ _ _ (by rw[size_push',Heap.size_update];exact Nat.ne_of_lt (Nat.lt_succ_of_lt ha)),Heap.get?_push_ne _ _ _ (by rw[Heap.size_update];exact Nat.ne_of_lt ha)]
  exact ua
 show wpAny (model prog w) A _ P E {s with heap:=((s.heap.update a (Obj.mapSeq fun _=> #[])).push (seqObj "tuple" vs.toArray 0)).push (seqObj "list" #[] 0)}
 dsimp only
 have keep:∀b o,b≠a→s.heap.get? b=some o→((((s.heap.update a (Obj.mapSeq fun _=> #[])).push (seqObj "tuple" vs.toArray 0)).push (seqObj "list" #[] 0))).get? b=some o:=fun b ob hb e=>
  Heap.get?_push_of_some _ (Heap.get?_push_of_some _ (by rw[Heap.get?_update_ne _ _ _ _ hb];exact e))
 obtain⟨hk,Aq⟩:=hc {s with heap:=((s.heap.update a (Obj.mapSeq fun _=> #[])).push (seqObj "tuple" vs.toArray 0)).push (seqObj "list" #[] 0)} keep
 have hsz:vs.toArray.size=vs.length:=by simp
 by_cases h2:vs.toArray.size<2
 ·rw[if_pos h2,if_pos h2]
  refine wpAny_bind (wpAny_pure ?_)
  rw[StateT.run_pure]
  refine wpAny_bind (wpAny_pure ?_)
  dsimp only
  refine wpAny_bind (seqEpoch_at mn rfl ?_)
  refine wpAny_bind (listUpdate_at mn rfl ?_ (hsz2:=by rw[Array.size_map];show(pairsOf vs).size≤_;rw[pairsOf_size,sizeLine_eq];omega))
  simp only[bne_self_eq_false,Bool.false_eq_true,if_false]
  refine wpAny_pure (h (pairsOf vs) (Array.Perm.refl _) ?_)
  have hl:(pairsOf vs).toList.length<2:=by rw[Array.length_toList,pairsOf_size];omega
  match (pairsOf vs).toList,hl with
  | [],_=>exact .nil
  | [x],_=>exact List.pairwise_singleton _ _
  |_::_::_,h=>exact absurd h (by simp)
 ·rw[if_neg h2,if_neg h2]
  refine wpAny_bind (hk (by omega) _ ?_)
  refine wpAny_bind (wpAny_mono (JP (κ:=κ) (r:=r) (a₀:=pairsOf vs) (st:=SortSt.mk' κ (vs.toArray.zip vs.toArray) #[] 7 none)
   (Q:=fun _ aa=> (arrOf aa).Perm (pairsOf vs)∧failedOf aa=none∧Pw r (arrOf aa).toList) o Aq (by rw[pairsOf_size];omega) rfl (Array.Perm.refl _) rfl rfl fun aa a1 a2 a3=> ⟨a1,a2,a3⟩) ?_ fun _ _ e=>e)
  rintro⟨⟨⟩,aa⟩ s' ⟨rfl,hp,hf,hs⟩
  dsimp only
  refine wpAny_bind (seqEpoch_at mn rfl ?_)
  refine wpAny_bind (listUpdate_at mn rfl ?_ (hsz2:=by refine Nat.le_trans (Nat.le_of_eq ((Array.size_map ..).trans (hp.size_eq.trans (pairsOf_size _)))) ?_;rw[sizeLine_eq];omega))
  rw[hf]
  simp only[bne_self_eq_false,Bool.false_eq_true,if_false]
  exact wpAny_pure (h _ hp hs)
theorem WV (o:Ord r) {l:Addr}{vs:List Value}{Q:Value→Shared→Prop}(hl:s.heap.IsList l vs.toArray) (hc:∀h' a,(∀b ob,s.heap.get? b=some ob→h'.get? b=some ob)→(∀b ob,s.heap.get? b=some ob→b≠a)→qW prog w A.in1.in1 (fun _ _=>False) κ r a h' vs) (hz:vs.length≤1000)
  (h:∀xs:Array Keyed,xs.Perm (pairsOf vs)→Pw r xs.toList→Q (.ref (s.heap.objs.size+1)) {s with heap:=sortedAll s.heap vs (xs.map (·.2))}):
  wpAny (model prog w) A (call (.builtin "sorted") [.ref l]) Q E s:=by
 have kH:vs.length≤sizeLine:=by rw[sizeLine_eq];omega
 refine Calls.call_function_entry kind_sorted plain_sorted entry_sorted (args_sorted1 _) ?_
 unfold Builtin.«sorted»
 refine wpAny_bind (m:=checkCount "sorted" 1 1 _) (wpAny_pure ?_)
 refine wpAny_bind (collect_list hl ?_ kH)
 refine wpAny_bind (wpAny_newList ?_ kH)
 have hsz:((s.heap.push (seqObj "list" #[] 0)).update s.heap.objs.size (Obj.mapSeq (· ++vs.toArray))).objs.size=s.heap.objs.size+1:=by
  rw[Heap.size_update,size_push']
 have mj:(((s.heap.push (seqObj "list" #[] 0)).update s.heap.objs.size (Obj.mapSeq (· ++vs.toArray))).push (seqObj "list" vs.toArray 0)).get? (s.heap.objs.size+1)=some (seqObj "list" vs.toArray 0):=by
  rw[←hsz];exact Heap.get?_push_size _ rfl
 show wpAny _ _ _ _ _ {s with heap:=((s.heap.push (seqObj "list" #[] 0)).update s.heap.objs.size (Obj.mapSeq (· ++vs.toArray))).push (seqObj "list" vs.toArray 0)}
 rw[hsz]
 have asks:=hc (((s.heap.push (seqObj "list" #[] 0)).update s.heap.objs.size (Obj.mapSeq (· ++vs.toArray))).push (seqObj "list" vs.toArray 0)) (s.heap.objs.size+1)
  (fun b ob e=>Heap.get?_push_of_some _ (by rw[Heap.get?_update_ne _ _ _ _ (Nat.ne_of_lt (Heap.lt_size e))];exact Heap.get?_push_of_some _ e)) (fun b ob e=>Nat.ne_of_lt (Nat.lt_succ_of_lt (Heap.lt_size e)))
 have BA:qW prog w A.in1.in1 E κ r (s.heap.objs.size+1) (((s.heap.push (seqObj "list" #[] 0)).update s.heap.objs.size (Obj.mapSeq (· ++vs.toArray))).push (seqObj "list" vs.toArray 0)) vs:=fun s6 h6=>by
  obtain⟨q1,q2⟩:=asks s6 h6
  refine⟨fun g Q hq=>wpAny_mono (q1 g Q hq) (fun _ _ x=>x) fun _ _ x=>x.elim,fun x y st Q m1 m2 hk hq=> ?_⟩
  exact wpAny_mono (q2 x y st Q m1 m2 hk hq) (fun _ _ x=>x) fun _ _ x=>x.elim
 refine wpAny_bind (wpAny_holding (wpAny_call_entry slot_list_sort ⟨_,mj,rfl⟩ entry_list_sort (W6 o mj BA hz fun xs a1 a2=> ⟨_,rfl,?_⟩) (args_list_sort _)))
 exact wpAny_pure ⟨_,rfl,h xs a1 a2⟩
end
def ax:List Int→List Int→Bool
 | [],[]=>false
 | [],_::_=>true
 |_::_,[]=>false
 |a::l,b::m=>if a=b then ax l m else decide (a<b)
theorem Z1:∀x y,ax x y=true→ax y x=false
 | [],[],h=>by cases h
 | [],_::_,_=>rfl
 |_::_,[],h=>by cases h
 |a::l,b::m,h=>by
  unfold ax at h ⊢
  by_cases e:a=b
  ·rw[if_pos e]at h
   rw[if_pos e.symm]
   exact Z1 l m h
  ·rw[if_neg e]at h
   rw[if_neg (Ne.symm e)]
   have:=of_decide_eq_true h
   exact decide_eq_false (by omega)
theorem Ys:∀x y z,ax y x=false→ax z y=false→ax z x=false
 | [],[],[],_,_=>rfl
 | [],[],_::_,_,_=>rfl
 | [],_::_,[],_,h=>by cases h
 | [],_::_,_::_,_,_=>rfl
 |_::_,[],_,h,_=>by cases h
 |_::_,_::_,[],_,h=>by cases h
 |a::l,b::m,c::n,h1,h2=>by
  unfold ax at h1 h2 ⊢
  by_cases e1:b=a
  ·rw[if_pos e1]at h1
   by_cases e2:c=b
   ·rw[if_pos e2]at h2
    rw[if_pos (e2.trans e1)]
    exact Ys l m n h1 h2
   ·rw[if_neg e2]at h2
    have:=of_decide_eq_false h2
    rw[if_neg (by omega)]
    exact decide_eq_false (by omega)
  ·rw[if_neg e1]at h1
   have q1:=of_decide_eq_false h1
   by_cases e2:c=b
   ·rw[if_neg (by omega)]
    exact decide_eq_false (by omega)
   ·rw[if_neg e2]at h2
    have q2:=of_decide_eq_false h2
    rw[if_neg (by omega)]
    exact decide_eq_false (by omega)
theorem WE:∀x y,ax x y=false→ax y x=false→x=y
 | [],[],_,_=>rfl
 | [],_::_,h,_=>by cases h
 |_::_,[],_,h=>by cases h
 |a::l,b::m,h1,h2=>by
  unfold ax at h1 h2
  by_cases e:a=b
  ·rw[if_pos e]at h1
   rw[if_pos e.symm]at h2
   rw[e,WE l m h1 h2]
  ·rw[if_neg e]at h1
   rw[if_neg (Ne.symm e)]at h2
   have q1:=of_decide_eq_false h1
   have q2:=of_decide_eq_false h2
   omega
theorem U0 (key:Value→List Int):Ord fun x y:Keyed=>ax (key x.1) (key y.1):=⟨fun _ _=>Z1 _ _,fun _ _ _=>Ys _ _ _⟩
section
variable {prog:Program}{w:World}{A:Around}{s:Shared}{b:Bool}{Q:Bool→Shared→Prop}
theorem BZ {c:Bool}{x y:Int}{t u:Tok}(h:Q (decide (x<y)) s):wpAny (model prog w) A (oneLt' c (.int x t) (.int y u)) Q (fun _ _=>False) s:=by
 cases c with
 |true=>exact oneLt_int h
 |false=>exact kat_one _ _ (lt_int (Q:=PySem.W.BoolBack Q) h)
theorem JE {fin:Bool} :∀{us vs:List Value}{xs ys:List Int}{i:Nat},IntsAre us xs→IntsAre vs ys→fin=decide (xs.length<ys.length)→Q (ax xs ys) s→KatLex prog w A b fin Q (us.zip vs) i s
 |_,_,_,_,i,.nil,.nil,hf,h=>by
  subst hf
  exact h
 |_,_,_,_,i,.nil,.cons _ _ _,hf,h=>by
  subst hf
  exact h
 |_,_,_,_,i,.cons _ _ _,.nil,hf,h=>by
  subst hf
  exact h
 |_,_,_,_,i,.cons x t ix,.cons y u iy,hf,h=>by
  rw[List.zip_cons_cons]
  refine kat_cons (SeqAt.EqAt.int_int (A:=A) (s:=s) x t y u _ _ _ _ ?_)
  unfold ax at h
  by_cases e:x=y
  ·rw[if_pos e]at h
   rw[beq_iff_eq.mpr e]
   exact kat_yes (JE ix iy (by rw[hf];exact decide_eq_decide.mpr (by simp only[List.length_cons];omega)) h)
  ·rw[if_neg e]at h
   rw[beq_eq_false_iff_ne.mpr e]
   exact kat_no (BZ h)
end
end PyProof.Rows.dW
namespace L2
open PySem PySem.Spec PyProof.Rows PyProof.Rows.dW
def bY (H:Hp) (v:V) (k:List Int):Prop:=∃t:Addr,v=.ref t∧H t=some (.tup (k.map V.int))
def bP (h:Heap):Value→List Int
 | .ref t=>match h.get? t with
  |some o=>match o.data with
   | .seq its _=>its.toList.map numOf
   |_=> []
  |none=> []
 |_=> []
theorem ZX {h:Heap}{t:Addr}{o:Obj}{its:Array Value}{n:Nat}{k:List Int}(e:h.get? t=some o) (d:o.data=.seq its n) (i:IntsAre its.toList k):bP h (.ref t)=k:=by
 unfold bP
 dsimp only
 rw[e]
 dsimp only
 rw[d]
 dsimp only
 clear d e
 generalize its.toList=us at i
 induction i with
 |nil=>rfl
 |cons x t _ ih=>rw[List.map_cons,ih];rfl
def toV:Value→V
 | .ref t=> .ref t
 |_=> .ai
def iF (h:Heap) (u:Value) (k:List Int):Prop:=∃(t:Addr) (o:Obj) (its:Array Value) (n:Nat),u=.ref t∧h.get? t=some o∧o.cls=.type "tuple" ∧o.data=.seq its n∧IntsAre its.toList k
theorem iF.keep {h h':Heap}{u:Value}{k:List Int}{a:Addr}(x:iF h u k) (kp:∀b o,b≠a→h.get? b=some o→h'.get? b=some o) (na:∀b o,h.get? b=some o→b≠a):iF h' u k:=by
 obtain⟨t,o,its,n,e,g,c,d,i⟩:=x
 exact⟨t,o,its,n,e,kp t o (na t o g) g,c,d,i⟩
theorem J9 {h:Heap} :∀{us:List Value}{ks:List (List Int)},Paired (iF h) us ks→(∀k∈ks,k≠[])→∃fs,PySem.W.KatTups h us fs∧fs.length=us.length∧∀f∈fs,∃n t,f=.int n t
 |_,_,.nil,_=> ⟨[],.nil,rfl,fun f hf=>by cases hf⟩
 |_,_,.cons (a:=u) (b:=k) ⟨t,o,its,n,e,g,c,d,i⟩ r,hk=>by
  obtain⟨fs,h1,h2,h3⟩:=J9 r fun k bo=>hk k (List.mem_cons_of_mem _ bo)
  subst e
  cases k with
  |nil=>exact absurd rfl (hk _ List.mem_cons_self)
  |cons x xs=>
   have:∃tk us,its.toList=.int x tk::us:=by
    cases hh:its.toList with
    |nil=>rw[hh]at i;cases i
    |cons a b=>rw[hh]at i;cases i with |cons x t r=>exact⟨_,_,rfl⟩
   obtain⟨tk,us,eq⟩:=this
   refine⟨.int x tk::fs,.cons g c d (by rw[←Array.getElem?_toList,eq];rfl) h1,by rw[List.length_cons,List.length_cons,h2],fun f hf=> ?_⟩
   rcases List.mem_cons.mp hf with rfl |hf
   ·exact⟨_,_,rfl⟩
   ·exact h3 f hf
theorem ZR {α β:Type}{R:α→β→Prop} :∀{xs:List α}{ys:List β}{x:α},Paired R xs ys→x∈xs→∃y∈ys,R x y
 |_,_,_,.cons h r,m=>by
  rcases List.mem_cons.mp m with rfl |m
  ·exact⟨_,List.mem_cons_self,h⟩
  ·obtain⟨y,hy,q⟩:=ZR r m
   exact⟨y,List.mem_cons_of_mem _ hy,q⟩
theorem Yg {α β:Type}{R:α→β→Prop}{f:α→β} :∀{xs:List α}{ys:List β},Paired R xs ys→(∀x y,R x y→f x=y)→xs.map f=ys
 |_,_,.nil,_=>rfl
 |_,_,.cons h r,e=>by rw[List.map_cons,e _ _ h,Yg r e]
theorem Z7 {vs:List Value}{p:Keyed}(h:p∈(pairsOf vs).toList):p.1∈vs∧p.2=p.1:=by
 unfold pairsOf at h
 rw[Array.toList_zip,List.toList_toArray]at h
 have:∀(l:List Value),p∈l.zip l→p.1∈l∧p.2=p.1:=fun l=>by
  induction l with
  |nil=>intro h;cases h
  |cons a l ih=>
   intro h
   rw[List.zip_cons_cons]at h
   rcases List.mem_cons.mp h with rfl |h
   ·exact⟨List.mem_cons_self,rfl⟩
   ·exact⟨List.mem_cons_of_mem _ (ih h).1,(ih h).2⟩
 exact this vs h
section
variable {X:Cx}
theorem WL:di X (.builtin "sorted") (fun xs H Q=> ∃(p:Addr) (vs:List V) (ks:List (List Int)),xs=[.ref p]∧ae X.K H p vs∧Paired (bY H) vs ks∧(∀k∈ks,k≠[])∧vs.length≤1000∧
  ∀(q:Addr) (eR:List V) (fU:List (List Int)),H q=none→fU.Perm ks→fU.Pairwise (fun a b=>ax b a=false)→Paired (bY H) eR fU→Q (.ref q) (upd H q (.lst eR))):=by
 intro pins s σ H xs us Q I r h
 obtain⟨p,vs,ks,rfl,hp,pr,cj,hz,q⟩:=h
 obtain⟨u,rfl,ru⟩:=vals1 r
 cases ru
 obtain⟨its,rv,pl,_⟩:=I.list hp
 have hl:=rv.length
 have key:∀{vs:List V}{ks:List (List Int)}{its:List Value},Paired (bY H) vs ks→Vals vs its→Paired (fun u k=>iF s.heap u k∧bY H (toV u) k) its ks:=by
  intro vs ks its pr
  induction pr generalizing its with
  |nil=>intro rv;cases rv;exact .nil
  |cons hh _ ih=>
   intro rv
   cases rv with
   |cons r1 r2=>
    refine .cons ?_ (ih r2)
    obtain⟨t,rfl,ht⟩:=hh
    cases r1
    obtain⟨items,ri,⟨o,go,oc,n,od⟩,_⟩:=I.tuple (ak.of ht)
    exact⟨⟨t,o,_,n,rfl,go,oc,od,by simpa using Yd ri⟩,t,rfl,ht⟩
 have tp:=key pr rv
 have tu:Paired (iF s.heap) its ks:=Paired.bO tp fun _ _ h=>h.1
 have ek:its.map (bP s.heap)=ks:=Yg tu fun u k ⟨t,o,it,n,e,g,_,d,i⟩=>by rw[e];exact ZX g d i
 refine WV (κ:=tuples' true) (r:=fun x y=>ax (bP s.heap x.1) (bP s.heap y.1)) (U0 _) pl.isList (fun h' a kp na s6 h6=> ?_) (by omega) fun xs kD pH=> ?_
 ·have nr:Paired (iF s6.heap) its ks:=Paired.bO tu fun u k x=>x.keep (a:=a) (fun b o hb e=>h6 b o hb (kp b o e)) na
  refine⟨fun h2 Q' hq=> ?_,fun x y st Q' mx my hk hq=> ?_⟩
  ·obtain⟨fs,kt,kl,kf⟩:=J9 nr cj
   refine PySem.W.kat_kind (T:=.type "int") kt (by omega) (fun v hv=> ?_) (by rfl) hq
   obtain⟨n,t,rfl⟩:=kf v hv
   exact PySem.W.Looks.of_pure rfl
  ·rw[lt'_eq]
   refine wpS_bind (wpS_get ?_)
   rw[hk]
   obtain⟨pA,_⟩:=Z7 mx
   obtain⟨pj,_⟩:=Z7 my
   obtain⟨kx,_,tx,ox,ix,nx,ex,gx,cx,dx,jx⟩:=ZR tu pA
   obtain⟨ky,_,ty,oy,iy,ny,ey,gy,cy,dy,jy⟩:=ZR tu pj
   have e1:bP s.heap x.1=kx:=by rw[ex];exact ZX gx dx jx
   have e2:bP s.heap y.1=ky:=by rw[ey];exact ZX gy dy jy
   dsimp only at hq
   rw[e1,e2]at hq
   rw[ex,ey]
   refine wpS_bind (wpS_lift (wpAny_attempt (PySem.W.kat_lt (h6 _ _ (na _ _ gx) (kp _ _ gx)) dx (h6 _ _ (na _ _ gy) (kp _ _ gy)) dy (JE jx jy ?_ ⟨rfl,?_⟩))))
   ·have l1:=jx.length
    have l2:=jy.length
    rw[Array.length_toList]at l1 l2
    rw[l1,l2]
   ·exact wpS_pure hq
 ·have fY:∀pq∈xs.toList,pq.1∈its∧pq.2=pq.1:=fun pq iX=>Z7 ((Array.perm_iff_toList_perm.mp kD).mem_iff.mp iX)
  have eo:(xs.map (·.2)).toList=xs.toList.map (·.1):=by
   rw[Array.toList_map]
   exact List.map_congr_left fun pq iX=> (fY pq iX).2
  have po:(xs.toList.map (·.1)).Perm its:=by
   refine List.Perm.trans ((Array.perm_iff_toList_perm.mp kD).map _) ?_
   unfold pairsOf
   rw[Array.toList_zip,List.toList_toArray]
   have:∀l:List Value,(l.zip l).map (·.1)=l:=fun l=>by
    induction l with
    |nil=>rfl
    |cons a l ih=>rw[List.zip_cons_cons,List.map_cons,ih]
   rw[this]
  generalize zN:xs.map (·.2)=out at eo
  have rel:∀u∈out.toList,∃k,bY H (toV u) k∧bP s.heap u=k∧RelV (toV u) u:=fun u hu=>by
   rw[eo]at hu
   obtain⟨k,_,⟨t,o,it,n,e,g,_,d,i⟩,hT⟩:=ZR tp (po.mem_iff.mp hu)
   subst e
   exact⟨k,hT,ZX g d i,rfl⟩
  have vals:∀l:List Value,(∀u∈l,∃k,bY H (toV u) k∧bP s.heap u=k∧RelV (toV u) u)→Vals (l.map toV) l∧Paired (bY H) (l.map toV) (l.map (bP s.heap)):=fun l=>by
   induction l with
   |nil=>intro _;exact⟨.nil,.nil⟩
   |cons u l ih=>
    intro hl
    obtain⟨i1,i2⟩:=ih fun v hv=>hl v (List.mem_cons_of_mem _ hv)
    obtain⟨k,a1,a2,a3⟩:=hl u List.mem_cons_self
    exact⟨.cons a3 i1,.cons (by rw[a2];exact a1) i2⟩
  obtain⟨v1,v2⟩:=vals out.toList rel
  obtain⟨e,he⟩:=sortedAll_at s.heap its out
  have lo:out.toList.length=its.length:=by rw[eo];exact po.length_eq
  have hlen:(out.toList.map toV).length≤sizeLine:=by rw[List.length_map,lo,sizeLine_eq];omega
  refine⟨.ref (s.heap.objs.size+1),_,I.laid (t':=s.toks) (a:=s.heap.objs.size+1) (o:=.lst (out.toList.map toV)) (fun b o=>sortedAll_old) (Nat.le_succ _) ⟨hlen,out.toList,e,v1,by simpa using he⟩,rfl,q _ _ (out.toList.map (bP s.heap)) (I.af.fresh (Nat.le_succ _)) ?_ ?_ v2⟩
  ·rw[←ek,eo]
   exact po.map _
  ·rw[eo,List.map_map,List.pairwise_map]
   exact pH
end
abbrev I4:=Int×Int×Int×Int
def aN (q:I4):List Int:=[q.1,q.2.1,q.2.2.1,q.2.2.2]
theorem Ds {a b:I4}(h:aN a=aN b):a=b:=by
 obtain⟨a1,a2,a3,a4⟩:=a
 obtain⟨b1,b2,b3,b4⟩:=b
 simp only[aN,List.cons.injEq,and_true]at h
 obtain⟨h1,h2,h3,h4⟩:=h
 subst h1 h2 h3 h4
 rfl
def jh (H:Hp) (v:V) (q:I4):Prop:=∃t t':Addr,v=.ref t∧H t=some (.tup [.ref t',.int q.2.2.1,.int q.2.2.2])∧H t'=some (.tup [.int q.1,.int q.2.1])
def gZ (h:Heap) (u:Value) (k:I4):Prop:=∃(t:Addr) (o:Obj) (n:Nat) (t':Addr) (o':Obj) (n':Nat) (k1 k2 k3 k4:Tok),u=.ref t∧h.get? t=some o∧o.cls=.type "tuple" ∧o.data=.seq #[.ref t',.int k.2.2.1 k3,.int k.2.2.2 k4] n∧
 h.get? t'=some o'∧o'.cls=.type "tuple" ∧o'.data=.seq #[.int k.1 k1,.int k.2.1 k2] n'
theorem gZ.keep {h h':Heap}{u:Value}{k:I4}{a:Addr}(x:gZ h u k) (kp:∀b o,b≠a→h.get? b=some o→h'.get? b=some o) (na:∀b o,h.get? b=some o→b≠a):gZ h' u k:=by
 obtain⟨t,o,n,t',o',n',k1,k2,k3,k4,e,g,c,d,g',c',d'⟩:=x
 exact⟨t,o,n,t',o',n',k1,k2,k3,k4,e,kp t o (na t o g) g,c,d,kp t' o' (na t' o' g') g',c',d'⟩
def gH (h:Heap):Value→List Int
 | .ref t=>match h.get? t with
  |some o=>match o.data with
   | .seq its _=>bP h (its.toList.getD 0 .none)++(its.toList.drop 1).map numOf
   |_=> []
  |none=> []
 |_=> []
theorem Jj {h:Heap}{u:Value}{k:I4}(x:gZ h u k):gH h u=aN k:=by
 obtain⟨t,o,n,t',o',n',k1,k2,k3,k4,rfl,g,c,d,g',c',d'⟩:=x
 have e:=ZX g' d' (k:=[k.1,k.2.1]) (.cons _ _ (.cons _ _ .nil))
 unfold gH
 dsimp only
 rw[g]
 dsimp only
 rw[d]
 dsimp only
 show bP h (.ref t')++_=_
 rw[e]
 rfl
theorem J8 {h:Heap} :∀{us:List Value}{ks:List I4},Paired (gZ h) us ks→∃fs,PySem.W.KatTups h us fs∧fs.length=us.length∧∀f∈fs,∃t o,f=.ref t∧h.get? t=some o∧o.cls=.type "tuple"
 |_,_,.nil=> ⟨[],.nil,rfl,fun f hf=>by cases hf⟩
 |_,_,.cons (a:=u) (b:=k) ⟨t,o,n,t',o',n',k1,k2,k3,k4,e,g,c,d,g',c',d'⟩ r=>by
  obtain⟨fs,h1,h2,h3⟩:=J8 r
  subst e
  refine⟨.ref t'::fs,.cons g c d rfl h1,by rw[List.length_cons,List.length_cons,h2],fun f hf=> ?_⟩
  rcases List.mem_cons.mp hf with rfl |hf
  ·exact⟨_,_,rfl,g',c'⟩
  ·exact h3 f hf
theorem Du (a b a' b':Int) (l m:List Int):ax (a::b::l) (a'::b'::m)=if [a,b]=[a',b'] then ax l m else HT.lexLt [a,b] [a',b']:=by
 by_cases e1:a=a'
 ·subst e1
  by_cases e2:b=b'
  ·subst e2
   simp[ax]
  ·simp[ax,e2,HT.lexLt]
 ·simp[ax,e1,HT.lexLt]
theorem Dn {A:Around}{s:Shared}{t t':Addr}{o o':Obj}{n n':Nat}{a b a' b':Int}{k1 k2 k3 k4:Tok}(hu:A.units<cLine) (g:s.heap.get? t=some o) (c:o.cls=.type "tuple") (d:o.data=.seq #[.int a k1,.int b k2] n)
  (g':s.heap.get? t'=some o') (c':o'.cls=.type "tuple") (d':o'.data=.seq #[.int a' k3,.int b' k4] n'):SeqAt.EqAt A s (.ref t) (.ref t') (decide ([a,b]=[a',b'])):=by
 by_cases h:t=t'
 ·subst h
  rw[g]at g'
  cases g'
  rw[d]at d'
  have e:a=a'∧b=b':=by
   injection d' with e1 e2
   simp at e1
   exact⟨e1.1.1,e1.2.1⟩
  rw[e.1,e.2]
  have:=SeqAt.EqAt.same (A:=A) (s:=s) (.ref t)
  simpa using this
 ·refine SeqAt.EqAt.of_refs h ?_
  have z:=SeqAt.RcAt.tuples (A:=A) (s:=s) (l:=t) (b:=t') (items:= #[.int a k1,.int b k2]) (items2:= #[.int a' k3,.int b' k4]) (e:=fun j=>if j=0 then a==a' else b==b') ⟨o,g,c,n,d⟩ ⟨o',g',c',n',d'⟩ hu (fun j h1 h2=>by
   have jR:j<2:=h1
   match j,jR with
   |0,_=>exact SeqAt.EqAt.int_int _ _ _ _
   |1,_=>exact SeqAt.EqAt.int_int _ _ _ _)
  have e:((List.range (min (#[Value.int a k1,Value.int b k2]:Array Value).size (#[Value.int a' k3,Value.int b' k4]:Array Value).size)).all (fun j=>if j=0 then a==a' else b==b')&&(#[Value.int a k1,Value.int b k2]:Array Value).size==(#[Value.int a' k3,Value.int b' k4]:Array Value).size)=decide ([a,b]=[a',b']):=by
   show((List.range 2).all (fun j=>if j=0 then a==a' else b==b')&&2==2)=_
   rw[Bool.eq_iff_iff]
   simp[List.range_succ]
  rw[e]at z
  exact z
section
variable {X:Cx}
theorem WM (hu:X.A.units+2<cLine):di X (.builtin "sorted") (fun xs H Q=> ∃(p:Addr) (vs:List V) (ks:List I4),xs=[.ref p]∧ae X.K H p vs∧Paired (jh H) vs ks∧vs.length≤1000∧
  ∀(q:Addr) (eR:List V) (fU:List I4),H q=none→fU.Perm ks→(fU.map aN).Pairwise (fun a b=>ax b a=false)→Paired (jh H) eR fU→Q (.ref q) (upd H q (.lst eR))):=by
 intro pins s σ H xs us Q I r h
 obtain⟨p,vs,ks,rfl,hp,pr,hz,q⟩:=h
 obtain⟨u,rfl,ru⟩:=vals1 r
 cases ru
 obtain⟨its,rv,pl,_⟩:=I.list hp
 have hl:=rv.length
 have key:∀{vs:List V}{ks:List I4}{its:List Value},Paired (jh H) vs ks→Vals vs its→Paired (fun u k=>gZ s.heap u k∧jh H (toV u) k) its ks:=by
  intro vs ks its pr
  induction pr generalizing its with
  |nil=>intro rv;cases rv;exact .nil
  |cons hh _ ih=>
   intro rv
   cases rv with
   |cons r1 r2=>
    refine .cons ?_ (ih r2)
    obtain⟨t,t',rfl,ht,fm⟩:=hh
    cases r1
    obtain⟨i1,ri,⟨o,go,oc,n,od⟩,_⟩:=I.tuple (ak.of ht)
    obtain⟨i2,yn,⟨o',go',yH,n',yF⟩,_⟩:=I.tuple (ak.of fm)
    refine⟨?_,t,t',rfl,ht,fm⟩
    cases ri with
    |cons a1 a2=>
     cases a2 with
     |cons a3 a4=>
      cases a4 with
      |cons a5 a6=>
       cases a6
       cases yn with
       |cons b1 b2=>
        cases b2 with
        |cons b3 b4=>
         cases b4
         cases a1
         obtain⟨k3,rfl⟩:=a3
         obtain⟨k4,rfl⟩:=a5
         obtain⟨k1,rfl⟩:=b1
         obtain⟨k2,rfl⟩:=b3
         exact⟨t,o,n,t',o',n',k1,k2,k3,k4,rfl,go,oc,od,go',yH,yF⟩
 have tp:=key pr rv
 have tu:Paired (gZ s.heap) its ks:=Paired.bO tp fun _ _ h=>h.1
 refine WV (κ:=tuples' false) (r:=fun x y=>ax (gH s.heap x.1) (gH s.heap y.1)) (U0 _) pl.isList (fun h' a kp na s6 h6=> ?_) (by omega) fun xs kD pH=> ?_
 ·have nr:Paired (gZ s6.heap) its ks:=Paired.bO tu fun u k x=>x.keep (a:=a) (fun b o hb e=>h6 b o hb (kp b o e)) na
  refine⟨fun h2 Q' hq=> ?_,fun x y st Q' mx my hk hq=> ?_⟩
  ·obtain⟨fs,kt,kl,kf⟩:=J8 nr
   refine PySem.W.kat_kind (T:=.type "tuple") kt (by omega) (fun v hv=> ?_) (by rfl) hq
   obtain⟨t,o,rfl,g,c⟩:=kf v hv
   rw[←c]
   exact(PySem.W.Looks.ld g).andThen .now
  ·rw[lt'_eq]
   refine wpS_bind (wpS_get ?_)
   rw[hk]
   obtain⟨pA,_⟩:=Z7 mx
   obtain⟨pj,_⟩:=Z7 my
   obtain⟨kx,_,nx⟩:=ZR tu pA
   obtain⟨ky,_,ny⟩:=ZR tu pj
   dsimp only at hq
   rw[Jj nx,Jj ny]at hq
   obtain⟨tx,ox,n1,wA,Fx,yU,c1,c2,c3,c4,ex,gx,cx,dx,uF,uT,uQ⟩:=nx.keep (h':=s6.heap) (a:=a) (fun b o hb e=>h6 b o hb (kp b o e)) na
   obtain⟨ty,oy,n2,wz,Fw,yT,d1,d2,d3,d4,ey,gy,cy,dy,uE,uS,uP⟩:=ny.keep (h':=s6.heap) (a:=a) (fun b o hb e=>h6 b o hb (kp b o e)) na
   rw[ex,ey]
   refine wpS_bind (wpS_lift (wpAny_attempt (PySem.W.kat_lt gx dx gy dy ?_)))
   show PySem.W.KatLex _ _ _ false (decide (3<3)) _ ((Value.ref wA,Value.ref wz)::([Value.int kx.2.2.1 c3,Value.int kx.2.2.2 c4].zip [Value.int ky.2.2.1 d3,Value.int ky.2.2.2 d4])) 0 _
   refine PySem.W.kat_cons (Dn (A:=X.A.in1.in1) hu uF uT uQ uE uS uP _ _ _ _ ?_)
   have pZ:ax (aN kx) (aN ky)=if [kx.1,kx.2.1]=[ky.1,ky.2.1] then ax [kx.2.2.1,kx.2.2.2] [ky.2.2.1,ky.2.2.2] else HT.lexLt [kx.1,kx.2.1] [ky.1,ky.2.1]:=Du ..
   rw[pZ]at hq
   by_cases e:[kx.1,kx.2.1]=[ky.1,ky.2.1]
   ·rw[if_pos e]at hq
    rw[decide_eq_true e]
    exact PySem.W.kat_yes (JE (xs:=[kx.2.2.1,kx.2.2.2]) (ys:=[ky.2.2.1,ky.2.2.2]) (.cons _ _ (.cons _ _ .nil)) (.cons _ _ (.cons _ _ .nil)) rfl ⟨rfl,wpS_pure hq⟩)
   ·rw[if_neg e]at hq
    rw[decide_eq_false e]
    exact PySem.W.kat_no (PySem.W.kat_one _ _ (HT.sW ⟨_,uF,uT,yU,uQ⟩ ⟨_,uE,uS,yT,uP⟩ (ns:=[kx.1,kx.2.1]) (ms:=[ky.1,ky.2.1]) (.cons _ _ (.cons _ _ .nil)) (.cons _ _ (.cons _ _ .nil)) hu ⟨rfl,wpS_pure hq⟩))
 ·have fY:∀pq∈xs.toList,pq.1∈its∧pq.2=pq.1:=fun pq iX=>Z7 ((Array.perm_iff_toList_perm.mp kD).mem_iff.mp iX)
  have eo:(xs.map (·.2)).toList=xs.toList.map (·.1):=by
   rw[Array.toList_map]
   exact List.map_congr_left fun pq iX=> (fY pq iX).2
  have po:(xs.toList.map (·.1)).Perm its:=by
   refine List.Perm.trans ((Array.perm_iff_toList_perm.mp kD).map _) ?_
   unfold pairsOf
   rw[Array.toList_zip,List.toList_toArray]
   have:∀l:List Value,(l.zip l).map (·.1)=l:=fun l=>by
    induction l with
    |nil=>rfl
    |cons a l ih=>rw[List.zip_cons_cons,List.map_cons,ih]
   rw[this]
  generalize zN:xs.map (·.2)=out at eo
  let kk:Value→I4:=fun u=>match gH s.heap u with
   | [a,b,c,d]=> (a,b,c,d)
   |_=> (0,0,0,0)
  have uf:∀u k,gZ s.heap u k→kk u=k:=fun u k x=>by
   show(match gH s.heap u with
    | [a,b,c,d]=> (a,b,c,d)
    |_=> (0,0,0,0))=k
   rw[Jj x]
   rfl
  have ek:its.map kk=ks:=Yg tu uf
  have rel:∀u∈out.toList,jh H (toV u) (kk u)∧aN (kk u)=gH s.heap u∧RelV (toV u) u:=fun u hu=>by
   rw[eo]at hu
   obtain⟨k,_,hT,hS⟩:=ZR tp (po.mem_iff.mp hu)
   have e:=uf u k hT
   rw[e]
   refine⟨hS,(Jj hT).symm,?_⟩
   obtain⟨t,t',e2,_⟩:=hS
   obtain⟨t2,_,_,_,_,_,_,_,_,_,e3,_⟩:=hT
   subst e3
   rfl
  have vals:∀l:List Value,(∀u∈l,jh H (toV u) (kk u)∧aN (kk u)=gH s.heap u∧RelV (toV u) u)→Vals (l.map toV) l∧Paired (jh H) (l.map toV) (l.map kk)∧(l.map kk).map aN=l.map (gH s.heap):=fun l=>by
   induction l with
   |nil=>intro _;exact⟨.nil,.nil,rfl⟩
   |cons u l ih=>
    intro hl
    obtain⟨i1,i2,i3⟩:=ih fun v hv=>hl v (List.mem_cons_of_mem _ hv)
    obtain⟨a1,a2,a3⟩:=hl u List.mem_cons_self
    exact⟨.cons a3 i1,.cons a1 i2,by rw[List.map_cons,List.map_cons,List.map_cons,i3,a2]⟩
  obtain⟨v1,v2,v3⟩:=vals out.toList rel
  obtain⟨e,he⟩:=sortedAll_at s.heap its out
  have lo:out.toList.length=its.length:=by rw[eo];exact po.length_eq
  have hlen:(out.toList.map toV).length≤sizeLine:=by rw[List.length_map,lo,sizeLine_eq];omega
  refine⟨.ref (s.heap.objs.size+1),_,I.laid (t':=s.toks) (a:=s.heap.objs.size+1) (o:=.lst (out.toList.map toV)) (fun b o=>sortedAll_old) (Nat.le_succ _) ⟨hlen,out.toList,e,v1,by simpa using he⟩,rfl,q _ _ (out.toList.map kk) (I.af.fresh (Nat.le_succ _)) ?_ ?_ v2⟩
  ·rw[←ek,eo]
   exact po.map _
  ·rw[v3,eo,List.map_map,List.pairwise_map]
   exact pH
end
end L2
namespace PyProof.Rows.dW
open PySem
def cH (lt:Value→Value→Bool):Value→List Value→Value
 |b,[]=>b
 |b,v::r=>cH lt (if lt v b=true then v else b) r
section
variable {prog:Program}{w:World}{A:Around}{R:Result→Shared→Prop}{lt:Value→Value→Bool}{vs:List Value}{h0:Heap}{kw:List (Str×Value)}
def Kp (h0 h:Heap):Prop:=∀b o,h0.get? b=some o→h.get? b=some o
theorem CQ (hh:A.in1.handled=none) {I l S:Addr}(gL:l≠I) (dw:S≠I) (gP:S≠l) (zI:h0.get? I=none) (zS:h0.get? S=none)
  (i7:∀(s':Shared) u v (Q:Value→Shared→Prop) (E:Value→Shared→Prop),Kp h0 s'.heap→u∈vs→v∈vs→Q (.bool (lt u v)) s'→wpAny (model prog w) A.in1 (richCompare .Lt u v) Q E s'):
  ∀(k j:Nat) (s:Shared) (vb:Value) (c:Nat),vs.length - j=k→j≤vs.length→s.heap.IsListIter I l j→s.heap.IsList l vs.toArray→vb∈vs→Kp h0 s.heap→
  s.heap.get? S=some {cls:=.type "list",dict:=none,data:=.seq #[vb,vb] c,slots:= #[]}→
  (∀h' tk,Kp h0 h'→R (.ok (.ret (cH lt vb (vs.drop j)))) {s with heap:=h',toks:=tk})→
  codeAny (model prog w) A (.builtin "min.loop" ⟨[.ref I,.none,.ref S],kw⟩) R s:=by
 have fw:(toString "min" ++toString ".loop" :String)= "min.loop" :=by decide
 have W:=Walks.list (prog:=prog) (w:=w) (A:=A.in1) hh I l gL vs.toArray
 have hsz:vs.toArray.size=vs.length:=List.size_toArray ..
 have ne:∀b o,h0.get? b=some o→b∉[I]∧b≠S:=fun b o e=> ⟨fun m=> (by rw[List.mem_singleton.mp m,zI]at e;cases e),fun m=> (by rw[m,zS]at e;cases e)⟩
 intro k
 induction k with
 |zero=>
  intro j s vb c hk hj hit iZ hb i0 hS hR
  have p5:j=vs.toArray.size:=by omega
  refine codeAny_builtin F.entry_min_loop ?_
  rw[Around.under_plainId F.plain_min_loop _]
  show wpAny _ A.in1 (seqItems? (.ref S) >>=_) _ _ s
  refine wpAny_bind (wpAny_seqItems hS rfl ?_)
  show wpAny _ A.in1 (tryCatch (pyNext (.ref I)) _ >>=_) _ _ s
  refine wpAny_bind (wpAny_tryCatch (W.done s _ _ (p5▸⟨hit,iZ⟩) fun h' tk bo=> ?_))
  have fH:=bo S _ (by simpa using dw) hS
  show wpAny _ A.in1 (updateSeq S (fun _=> #[]) >>=_) _ _ _
  refine wpAny_bind ?_
  refine wpAny_updateSeq fH rfl (wpAny_bind (wpAny_letGo (wpAny_pure ?_)))
  have e:vs.drop j=[]:=List.drop_eq_nil_of_le (by omega)
  rw[e]at hR
  exact hR _ tk fun b o q=> (Heap.get?_update_other _ _ (Ne.symm (ne b o q).2)).trans (bo b o (ne b o q).1 (i0 b o q))
 |succ k ih=>
  intro j s vb c hk hj hit iZ hb i0 hS hR
  have aK:j<vs.length:=by omega
  refine codeAny_builtin F.entry_min_loop ?_
  rw[Around.under_plainId F.plain_min_loop _]
  show wpAny _ A.in1 (seqItems? (.ref S) >>=_) _ _ s
  refine wpAny_bind (wpAny_seqItems hS rfl ?_)
  show wpAny _ A.in1 (tryCatch (pyNext (.ref I)) _ >>=_) _ _ s
  refine wpAny_bind (wpAny_tryCatch (W.item j s _ _ (by omega) ⟨hit,iZ⟩ fun v h' tk hP fo bo=> ?_))
  have hv:vs[j]? =some v:=by simpa using hP
  have kF:v∈vs:=List.mem_of_getElem? hv
  have fH:=bo S _ (by simpa using dw) hS
  have ff:Kp h0 h':=fun b o q=>bo b o (ne b o q).1 (i0 b o q)
  have ed:vs.drop j=v::vs.drop (j+1):=by
   have e2:vs[j]=v:=(List.getElem?_eq_some_iff.mp hv).2
   rw[List.drop_eq_getElem_cons aK,e2]
  rw[ed]at hR
  show wpAny _ A.in1 (tryCatch (holding [v,v] (richCompare .Lt v vb >>=_)) _ >>=_) _ _ _
  refine wpAny_bind (wpAny_tryCatch (wpAny_holding (wpAny_bind (i7 _ v vb _ _ ff kF hb ?_))))
  refine wpAny_bind (wpAny_holding (wpAny_truthy_bool ?_))
  refine wpAny_bind (wpAny_letGo (wpAny_pure ?_))
  cases cG:lt v vb with
  |true=>
   simp only[if_true]
   refine wpAny_bind ?_
   refine wpAny_updateSeq fH rfl (wpAny_bind (wpAny_letGo ?_))
   rw[fw]
   have fr:=W.frame (j+1) _ (h'.update S (Obj.mapSeq fun _=> #[v,v])) fo fun b fG o e=> (Heap.get?_update_other _ _ (fun h:S=b=>by
    simp only[List.mem_cons,List.not_mem_nil,or_false]at fG
    rcases fG with q |q
    ·exact dw (h.trans q)
    ·exact gP (h.trans q))).trans e
   refine wpAny_pure ⟨plainId_quiet F.plain_min_loop _,ih (j+1) _ v _ (by omega) aK fr.1 fr.2 kF (fun b o q=> (Heap.get?_update_other _ _ (Ne.symm (ne b o q).2)).trans (ff b o q)) (Heap.get?_update_self _ fH rfl) fun bH eS cY=> ?_⟩
   have z:=hR bH eS cY
   unfold cH at z
   rw[if_pos cG]at z
   exact z
  |false=>
   simp only[Bool.false_eq_true,if_false]
   refine wpAny_bind (wpAny_letGo ?_)
   rw[fw]
   refine wpAny_pure ⟨plainId_quiet F.plain_min_loop _,ih (j+1) _ vb c (by omega) aK fo.1 fo.2 hb ff fH fun bH eS cY=> ?_⟩
   have z:=hR bH eS cY
   unfold cH at z
   rw[if_neg (by rw[cG];exact Bool.false_ne_true)]at z
   exact z
theorem Y7 (a v:Value):argsOk "min" ⟨[a],[(Str.ofString "default",v)]⟩:=by unfold argsOk;kernel_rfl
theorem D9 {E:Value→Shared→Prop}{s:Shared}{Q:Value→Shared→Prop}{l:Addr}(hh:A.in1.handled=none) (f9:s.heap.IsList l vs.toArray)
  (i7:∀(s':Shared) u v (Q:Value→Shared→Prop) (E:Value→Shared→Prop),Kp s.heap s'.heap→u∈vs→v∈vs→Q (.bool (lt u v)) s'→wpAny (model prog w) A.in1 (richCompare .Lt u v) Q E s')
  (h1:∀h' tk,vs=[]→Kp s.heap h'→Q .none {s with heap:=h',toks:=tk}) (h2:∀v r h' tk,vs=v::r→Kp s.heap h'→Q (cH lt v r) {s with heap:=h',toks:=tk}):
  wpAny (model prog w) A (call (.builtin "min") [.ref l] [(Str.ofString "default",.none)]) Q E s:=by
 have fw:(toString "min" ++toString ".loop" :String)= "min.loop" :=by decide
 obtain⟨ol,pU,_⟩:=id f9
 have kP:l<s.heap.objs.size:=Heap.lt_size pU
 refine kmk_tree PySem.F.kind_min PySem.F.plain_min PySem.F.entry_min (Y7 _ _) ?_
 show wpAny _ A.in1 (Builtin.Builtins.bindParams "min" ["key", "default"] 0 ⟨[],[(Str.ofString "default",.none)]⟩ >>=_) _ _ s
 refine wpAny_bind (wpAny_of_eq (show Builtin.Builtins.bindParams "min" ["key", "default"] 0 ⟨[],[(Str.ofString "default",.none)]⟩=pure [none,some .none] from rfl) ?_)
 refine wpAny_bind (wpAny_pure ?_)
 refine wpAny_bind (wpAny_pyIter_list f9 ?_)
 refine wpAny_bind (wpAny_newList ?_ (Nat.zero_le _))
 rw[fw]
 have hS:(s.heap.push {cls:=.type "list_iterator",data:=.fields #[.ref l,.int 0 0]}).objs.size=s.heap.objs.size+1:=size_push' ..
 have gL:l≠s.heap.objs.size:=Nat.ne_of_lt kP
 have dw:(s.heap.push {cls:=.type "list_iterator",data:=.fields #[.ref l,.int 0 0]}).objs.size≠s.heap.objs.size:=by rw[hS];exact Nat.ne_of_gt (Nat.lt_succ_self _)
 have gP:(s.heap.push {cls:=.type "list_iterator",data:=.fields #[.ref l,.int 0 0]}).objs.size≠l:=by rw[hS];exact Nat.ne_of_gt (Nat.lt_succ_of_lt kP)
 have zI:s.heap.get? s.heap.objs.size=none:=Heap.get?_none_of_le (Nat.le_refl _)
 have zS:s.heap.get? (s.heap.push {cls:=.type "list_iterator",data:=.fields #[.ref l,.int 0 0]}).objs.size=none:=Heap.get?_none_of_le (by rw[hS];exact Nat.le_succ _)
 refine wpAny_pure ⟨plainId_quiet PySem.F.plain_min_loop _,?_⟩
 have iL:Kp s.heap ((s.heap.push {cls:=.type "list_iterator",data:=.fields #[.ref l,.int 0 0]}).push (seqObj "list" #[] 0)):=fun b o e=>Heap.get?_push_of_some _ (Heap.get?_push_of_some _ e)
 have gI:((s.heap.push {cls:=.type "list_iterator",data:=.fields #[.ref l,.int 0 0]}).push (seqObj "list" #[] 0)).get? s.heap.objs.size=some {cls:=.type "list_iterator",data:=.fields #[.ref l,.int 0 0]} :=
  Heap.get?_push_of_some _ (Heap.get?_push_size _ rfl)
 have gS:((s.heap.push {cls:=.type "list_iterator",data:=.fields #[.ref l,.int 0 0]}).push (seqObj "list" #[] 0)).get? (s.heap.push {cls:=.type "list_iterator",data:=.fields #[.ref l,.int 0 0]}).objs.size=some (seqObj "list" #[] 0):=Heap.get?_push_size _ rfl
 have lH:((s.heap.push {cls:=.type "list_iterator",data:=.fields #[.ref l,.int 0 0]}).push (seqObj "list" #[] 0)).IsList l vs.toArray:=f9.at fun o e=>iL _ _ e
 have W:=Walks.list (prog:=prog) (w:=w) (A:=A.in1) hh s.heap.objs.size l gL vs.toArray
 have hsz:vs.toArray.size=vs.length:=List.size_toArray ..
 have ne:∀b o,s.heap.get? b=some o→b∉[s.heap.objs.size]∧b≠(s.heap.push {cls:=.type "list_iterator",data:=.fields #[.ref l,.int 0 0]}).objs.size:=fun b o e=> ⟨fun m=> (by rw[List.mem_singleton.mp m,zI]at e;cases e),fun m=> (by rw[m,zS]at e;cases e)⟩
 refine codeAny_builtin PySem.F.entry_min_loop ?_
 rw[Around.under_plainId PySem.F.plain_min_loop _]
 show wpAny _ A.in1 (seqItems? (.ref _) >>=_) _ _ _
 refine wpAny_bind (wpAny_seqItems gS rfl ?_)
 show wpAny _ A.in1 (tryCatch (pyNext (.ref s.heap.objs.size)) _ >>=_) _ _ _
 cases cW:vs with
 |nil=>
  refine wpAny_bind (wpAny_tryCatch (W.done _ _ _ ⟨⟨_,gI,rfl,by rw[hsz,cW];rfl⟩,lH⟩ fun h' tk bo=> ?_))
  refine wpAny_bind (wpAny_rule ?_)
  exact wpAny_pure (h1 h' tk cW fun b o q=>bo b o (ne b o q).1 (iL b o q))
 |cons v0 r0=>
  refine wpAny_bind (wpAny_tryCatch (W.item 0 _ _ _ (by rw[hsz,cW];exact Nat.succ_pos _) ⟨⟨_,gI,rfl,rfl⟩,lH⟩ fun v h' wB hP fo bo=> ?_))
  have hv:v0=v:=by
   rw[cW]at hP
   simpa using hP
  subst hv
  have k7:=bo _ _ (by simpa using dw) gS
  have ff:Kp s.heap h':=fun b o q=>bo b o (ne b o q).1 (iL b o q)
  show wpAny _ A.in1 (updateSeq (s.heap.push {cls:=.type "list_iterator",data:=.fields #[.ref l,.int 0 0]}).objs.size (fun _=> #[v0,v0]) >>=_) _ _ _
  refine wpAny_bind ?_
  refine wpAny_updateSeq k7 rfl ?_
  rw[fw]
  have fr:=W.frame (0+1) _ (h'.update (s.heap.push {cls:=.type "list_iterator",data:=.fields #[.ref l,.int 0 0]}).objs.size (Obj.mapSeq fun _=> #[v0,v0])) fo fun b fG o e=> (Heap.get?_update_other _ _ (fun h=>by
    simp only[List.mem_cons,List.not_mem_nil,or_false]at fG
    rcases fG with q |q
    ·exact dw (h.trans q)
    ·exact gP (h.trans q))).trans e
  refine wpAny_pure ⟨plainId_quiet PySem.F.plain_min_loop _,CQ (lt:=lt) (vs:=vs) (h0:=s.heap) hh gL dw gP zI zS i7 _ 1 _ v0 _ rfl (by rw[cW];exact Nat.succ_le_succ (Nat.zero_le _)) fr.1 fr.2 (by rw[cW];exact List.mem_cons_self) (fun b o q=> (Heap.get?_update_other _ _ (Ne.symm (ne b o q).2)).trans (ff b o q)) (Heap.get?_update_self _ k7 rfl) fun bH eS cY=> ?_⟩
  have z:=h2 v0 r0 bH eS cW cY
  rw[cW]
  exact z
end
theorem Yv {lt:Value→Value→Bool} :∀{r:List Value}{b:Value},cH lt b r∈b::r
 | [],b=>List.mem_cons_self
 |v::r,b=>by
  unfold cH
  rcases List.mem_cons.mp (Yv (lt:=lt) (r:=r) (b:=if lt v b=true then v else b)) with h |h
  ·rw[h]
   by_cases e:lt v b=true
   ·rw[if_pos e];exact List.mem_cons_of_mem _ List.mem_cons_self
   ·rw[if_neg e];exact List.mem_cons_self
  ·exact List.mem_cons_of_mem _ (List.mem_cons_of_mem _ h)
theorem JJ (key:Value→List Int):∀{r:List Value}{b:Value},∀v∈b::r,ax (key v) (key (cH (fun a b=>ax (key a) (key b)) b r))=false
 | [],b,v,hv=>by
  rw[List.mem_singleton.mp hv]
  cases h:ax (key b) (key (cH (fun a b=>ax (key a) (key b)) b [])) with
  |false=>rfl
  |true=>
   have:=Z1 _ _ h
   exact absurd (h.symm.trans this) (by decide)
 |w::r,b,v,hv=>by
  have ih:=fun v hv=>JJ key (r:=r) (b:=if ax (key w) (key b)=true then w else b) v hv
  show ax (key v) (key (cH (fun a b=>ax (key a) (key b)) (if ax (key w) (key b)=true then w else b) r))=false
  have hd:=ih _ List.mem_cons_self
  by_cases e:ax (key w) (key b)=true
  ·rw[if_pos e]at hd ih ⊢
   rcases List.mem_cons.mp hv with rfl |hv
   ·exact Ys _ _ _ hd (Z1 _ _ e)
   ·exact ih v hv
  ·rw[if_neg e]at hd ih ⊢
   rcases List.mem_cons.mp hv with rfl |hv
   ·exact hd
   ·rcases List.mem_cons.mp hv with rfl |hv
    ·exact Ys _ _ _ hd (by simpa using e)
    ·exact ih v (List.mem_cons_of_mem _ hv)
end PyProof.Rows.dW
namespace L2
open PySem PySem.Spec PyProof.Rows PyProof.Rows.dW
theorem JA:∀a b:List Int,HT.lexLt a b=ax a b
 | [],[]=>rfl
 | [],_::_=>rfl
 |_::_,[]=>rfl
 |x::a,y::b=>by
  unfold ax
  rw[HT.tf,JA a b]
section
variable {X:Cx}
def wY (K:PySem.W.Frag) (te:TE):TE:=fun σ H Q=>te σ H fun v H1=> ∃(a:Addr) (vs:List V) (ks:List (List Int)),v=.ref a∧ae K H1 a vs∧Paired (bY H1) vs ks∧(vs=[]→Q .ai H1)∧
 ∀v k,v∈vs→k∈ks→bY H1 v k→(∀k'∈ks,ax k' k=false)→Q v H1
theorem Dy {x:Str}{te:TE}{p px kp gG pos:Pos}(hc:X.calm=true) (hu:X.A.units+1<cLine) (hg:Gl X "min") (hm:X.mg "min" =none) (he:PE X (.Name x px) te)
  (gN:(backToKw pos (keywordEach [⟨some "default",.Constant .none 0 kp,gG⟩] X.env)).filterMap (·.1)=[Str.ofString "default"]:=by rfl):
  PE X (.Call (.Name "min" p) [.Name x px] [⟨some "default",.Constant .none 0 kp,gG⟩] pos) (wY X.K te):=by
 intro pins s σ H Q I h
 refine wpAny_Call_Name_kw (Yu I hg hm PyProof.Rows.Boot.«min» ?_ (by decide) (by decide))
 have pa:PA X [.Name x px] (gz te gw):=Za he Zd
 have pk:PK X [⟨some "default",.Constant .none 0 kp,gG⟩] (gz (tC .ai) gw):=UY Uv vF
 refine PyProof.Rows.callWith_kw (ao (pa pos pins s σ H (fun us H1=>match us with
  | [v]=> ∃(a:Addr) (vs:List V) (ks:List (List Int)),v=.ref a∧ae X.K H1 a vs∧Paired (bY H1) vs ks∧(vs=[]→Q .ai H1)∧∀v k,v∈vs→k∈ks→bY H1 v k→(∀k'∈ks,ax k' k=false)→Q v H1
  |_=>False) I h) fun us s1 ⟨ng,H1,I1,r1,q1⟩=> ?_)
 match ng,q1 with
 | [v],q1=>
  obtain⟨a,vs,ks,rfl,hq,pr,q1,q2⟩:=q1
  refine ao (pk pos pins s1 σ H1 (fun zs H2=>zs=[.ai]∧H2=H1) I1 ⟨rfl,rfl⟩) fun ws s2 ⟨zs,H2,I2,rz,e1,e2⟩=> ?_
  subst e1 e2
  obtain⟨u,rfl,ru⟩:=vals1 r1
  obtain⟨z,rfl,oX⟩:=vals1 rz
  cases ru
  have ez:z=.none:=oX
  subst ez
  rw[gN]
  show wpAny _ _ (call (.builtin "min") [.ref a] [(Str.ofString "default",.none)]) _ _ _
  obtain⟨its,rv,pl,_⟩:=I2.list hq
  have key:∀{vs:List V}{ks:List (List Int)}{its:List Value},Paired (bY H2) vs ks→Vals vs its→∀u∈its,∃v∈vs,∃k∈ks,RelV v u∧bY H2 v k∧iF s2.heap u k:=by
   intro vs ks its pr
   induction pr generalizing its with
   |nil=>intro rv;cases rv;intro u hu;cases hu
   |cons hh _ ih=>
    intro rv
    cases rv with
    |cons r1 r2=>
     intro u hu
     rcases List.mem_cons.mp hu with rfl |hu
     ·obtain⟨t,e,ht⟩:=id hh
      obtain⟨items,ri,⟨o,go,oc,n,od⟩,_⟩:=I2.tuple (ak.of ht)
      refine⟨_,List.mem_cons_self,_,List.mem_cons_self,r1,hh,?_⟩
      subst e
      cases r1
      exact⟨t,o,_,n,rfl,go,oc,od,by simpa using Yd ri⟩
     ·obtain⟨v,hv,k,hk,w⟩:=ih r2 u hu
      exact⟨v,List.mem_cons_of_mem _ hv,k,List.mem_cons_of_mem _ hk,w⟩
  have za:∀{vs:List V}{ks:List (List Int)}{its:List Value},Paired (bY H2) vs ks→Vals vs its→∀k∈ks,∃u∈its,bP s2.heap u=k:=by
   intro vs ks its pr
   induction pr generalizing its with
   |nil=>intro rv k hk;cases hk
   |cons hh _ ih=>
    intro rv
    cases rv with
    |cons r1 r2=>
     intro k hk
     rcases List.mem_cons.mp hk with rfl |hk
     ·obtain⟨t,e,ht⟩:=id hh
      obtain⟨items,ri,⟨o,go,oc,n,od⟩,_⟩:=I2.tuple (ak.of ht)
      refine⟨_,List.mem_cons_self,?_⟩
      subst e
      cases r1
      exact ZX go od (by simpa using Yd ri)
     ·obtain⟨u,hu,e⟩:=ih r2 k hk
      exact⟨u,List.mem_cons_of_mem _ hu,e⟩
  refine D9 (lt:=fun u v=>ax (bP s2.heap u) (bP s2.heap v)) (I2.ok.hd hc) pl.isList (fun s' u v Q' E' kp kG pL bK=> ?_) (fun h' tk e kp=> ?_) (fun v0 r h' tk e kp=> ?_)
  ·obtain⟨_,_,ku,_,_,_,tu,ou,iu,nu,rfl,gu,cu,du,ju⟩:=key pr rv u kG
   obtain⟨_,_,kv,_,_,_,tv,ov,iv,nv,rfl,gv,cv,dv,jv⟩:=key pr rv v pL
   have e1:bP s2.heap (.ref tu)=ku:=ZX gu du ju
   have e2:bP s2.heap (.ref tv)=kv:=ZX gv dv jv
   try dsimp only at bK
   rw[e1,e2,←JA]at bK
   exact HT.sW ⟨_,kp _ _ gu,cu,nu,du⟩ ⟨_,kp _ _ gv,cv,nv,dv⟩ ju jv hu bK
  ·subst e
   cases rv
   exact⟨.ai,H2,I2.kept kp,rfl,q1 rfl⟩
  ·have hm:=Yv (lt:=fun u v=>ax (bP s2.heap u) (bP s2.heap v)) (r:=r) (b:=v0)
   have hle:=JJ (bP s2.heap) (r:=r) (b:=v0)
   generalize cH (fun u v=>ax (bP s2.heap u) (bP s2.heap v)) v0 r=m at hm hle
   rw[←e]at hm hle
   obtain⟨v,hv,k,hk,ym,pO,tu,ou,iu,nu,e3,gu,cu,du,ju⟩:=key pr rv m hm
   have e1:bP s2.heap m=k:=by rw[e3];exact ZX gu du ju
   refine⟨v,H2,I2.kept kp,ym,q2 v k hv hk pO fun k' bo=> ?_⟩
   obtain⟨u',pN,e4⟩:=za pr rv k' bo
   have:=hle u' pN
   rw[e1,e4]at this
   exact this
end
end L2
namespace L2
open PySem PySem.Spec PyProof.Rows
def qJ (K:PySem.W.Frag) (l1 l2:Addr):It:=
 ⟨fun i H=> ∃xs ys x y,ae K H l1 xs∧ae K H l2 ys∧xs[i]? =some x∧ys[i]? =some y,
  fun i H v H'=> ∃(T:Addr) (x y:V),v=.ref T∧H T=none∧H'=upd H T (.par [x,y])∧∀xs ys,ae K H l1 xs→ae K H l2 ys→xs[i]? =some x∧ys[i]? =some y,
  fun i H=> ∃xs ys,ae K H l1 xs∧ae K H l2 ys∧min xs.length ys.length=i⟩
theorem DS {P:Program}{w:World}{K:PySem.W.Frag}{elts:List Expr}{kk:Nat}{pos:Pos}(z TI TO i1 i2 l1 l2:Addr) (D:ZipApart z TI TO i1 i2 l1 l2):
  Turn P w K (.Tuple elts kk pos) (qJ K l1 l2) [z,TI,TO,i1,i2] z (fun i h=>IsZip h z TI TO .none∧IsPair h TI (.ref i1) (.ref i2)∧(∃a b,IsPair h TO a b)∧h.IsListIter i1 l1 i∧h.IsListIter i2 l2 i) where
 mem:=by simp
 obj:=fun i h st b hb=>by
  obtain⟨a1,a2,⟨u,v,a3⟩,⟨o4,h4,_,d4⟩,⟨o5,h5,_,d5⟩⟩:=st
  simp only[List.mem_cons,List.not_mem_nil,or_false]at hb
  rcases hb with rfl |rfl |rfl |rfl |rfl
  ·exact⟨_,a1,fun v z=>by cases z⟩
  ·exact⟨_,a2,fun v z=>by cases z⟩
  ·exact⟨_,a3,fun v z=>by cases z⟩
  ·exact⟨_,h4,fun v z=>by rw[d4]at z;cases z⟩
  ·exact⟨_,h5,fun v z=>by rw[d5]at z;cases z⟩
 keep:=fun i h h' st k=>by
  obtain⟨a1,a2,⟨u,v,a3⟩,a4,a5⟩:=st
  exact⟨k z (by simp) _ a1,k TI (by simp) _ a2,⟨u,v,k TO (by simp) _ a3⟩,a4.at fun o q=>k i1 (by simp) o q,a5.at fun o q=>k i2 (by simp) o q⟩
 item:=by
  intro X hP hw hK hc i pins s σ H E I hf st hg
  subst hP hw hK
  obtain⟨xs,ys,x,y,fW,bz,hx,hy⟩:=hg
  obtain⟨iQ,lP,jz,bA⟩:=I.list fW
  obtain⟨iP,gD,dC,aF⟩:=I.list bz
  obtain⟨u,hu,ru⟩:=lP.get hx
  obtain⟨v,hv,rv⟩:=gD.get hy
  have p6:i<min iQ.toArray.size iP.toArray.size:=by
   have e1:=(List.getElem?_eq_some_iff.mp hu).1
   have e2:=(List.getElem?_eq_some_iff.mp hv).1
   simp only[List.size_toArray]
   omega
  have W:=WalksT.zip2 (prog:=X.prog) (w:=X.w) (A:=X.A) (I.ok.hd hc) z TI TO i1 i2 l1 l2 D iQ.toArray iP.toArray
  obtain⟨a1,a2,a3,a4,a5⟩:=st
  refine W.item i s _ _ p6 ⟨a1,a2,a3,a4,a5,jz.isList,dC.isList⟩ fun T vals h' tk hP ir qj kM hk=> ⟨_,rfl,W.go elts kk pos i T _ _ _ kM fun bH eV cY=> ?_⟩
  obtain⟨x2,y2,pI,aJ,rfl⟩:=hP
  have kE:iQ[i]? =some x2:=by simpa using pI
  have tG:iP[i]? =some y2:=by simpa using aJ
  rw[hu]at kE
  rw[hv]at tG
  cases kE
  cases tG
  have iw:H T=none:=I.af.fresh ir
  have both:∀b o,b∉[z,TO,i1,i2]→s.heap.get? b=some o→bH.get? b=some o:=fun b o hb q=>cY b o hb (hk b o hb q)
  have sub:∀b,b∉[z,TI,TO,i1,i2]→b∉[z,TO,i1,i2]:=fun b hb hm=>hb (by
   simp only[List.mem_cons,List.not_mem_nil,or_false]at hm ⊢
   rcases hm with h |h |h |h
   ·exact .inl h
   ·exact .inr (.inr (.inl h))
   ·exact .inr (.inr (.inr (.inl h)))
   ·exact .inr (.inr (.inr (.inr h))))
  have mG:T∉[z,TO,i1,i2]:=W.apart _ _ _ kM
  have qk:bH.IsTuple T #[u,v]:=qj.at fun o q=>cY T o mG q
  have neT:∀b o,s.heap.get? b=some o→b≠T:=fun b o q=>Nat.ne_of_lt (Nat.lt_of_lt_of_le (Heap.lt_size q) ir)
  have cQ:∀b o,H b=some o→b≠T:=fun b o q=>Zb q iw
  have bW:∀b o,H b=some o→b∉[z,TI,TO,i1,i2]:=fun b o q hm=>by
   have:=(hf b hm).1
   rw[this]at q;cases q
  refine⟨.ref T,upd H T (.par [x,y]),?_,rfl,⟨T,x,y,rfl,iw,rfl,fun as bs ha hb=>by rw[I.pB ha fW,I.pB hb bz];exact⟨hx,hy⟩⟩,⟨eV.1,eV.2.1,eV.2.2.1,eV.2.2.2.1,eV.2.2.2.2.1⟩,fun b hb=> ?_⟩
  ·refine(show Inv X pins σ (upd H T (.par [x,y])) {s with heap:=bH,toks:=tk} from ?_)
   refine I.call (g':=s.gens) (d':=s.drawn) (t':=tk) (h':=bH) (ch:=[z,TI,TO,i1,i2]) ⟨fun b o q _ _ hx=>both b o (sub b hx) q,fun b o q _ _ hx=> ⟨o.slots,both b o (sub b hx) q⟩,fun b o q n hx=>by rw[Zf (neT b o q)];exact n,fun b o q hx=> ⟨o,both b o (sub b hx) q⟩,
    fun b ys q=>by rw[Zf (cQ b _ q)];exact q,fun b o u q=>by rw[Zf (cQ b _ q)];exact q,fun b ps q=> ⟨#[],by rw[Zf (cQ b _ q),q];simp⟩⟩ (fun b o q=> ?_) I.bare fun b hb=> ?_
   ·by_cases hb:b=T
    ·subst hb
     rw[Ze]at q
     cases q
     exact⟨by show 2≤sizeLine;decide,[u,v],.cons ru (.cons rv .nil),qk⟩
    ·rw[Zf hb]at q
     refine(I.af b o q).dA (fun c ob bG q'=>both c ob ?_ q') (fun c q'=>by rw[Zf (cQ c _ q')];exact q') fun c ys q'=>by rw[Zf (cQ c _ q')];exact q'
     rcases bG with z' |z'
     ·rw[z'];exact sub _ (bW b o q)
     ·exact sub _ (bW c _ z')
   ·obtain⟨f0,f1,f2,f3,f4,f5⟩:=hf b hb
    exact⟨f3,f1,f4,f5⟩
  ·have cj:b≠T:=by
    obtain⟨f0,_⟩:=hf b hb
    have:∃o,s.heap.get? b=some o:=by
     obtain⟨u',v',BE⟩:=a3
     obtain⟨o4,h4,_⟩:=a4
     obtain⟨o5,h5,_⟩:=a5
     simp only[List.mem_cons,List.not_mem_nil,or_false]at hb
     rcases hb with rfl |rfl |rfl |rfl |rfl
     ·exact⟨_,a1⟩
     ·exact⟨_,a2⟩
     ·exact⟨_,BE⟩
     ·exact⟨_,h4⟩
     ·exact⟨_,h5⟩
    obtain⟨o,ho⟩:=this
    exact neT b o ho
   rw[Zf cj]
   exact(hf b hb).1
 done:=by
  intro X hP hw hK hc i pins s σ H E I hf st hg
  subst hP hw hK
  obtain⟨xs,ys,fW,bz,hx⟩:=hg
  obtain⟨iQ,lP,jz,bA⟩:=I.list fW
  obtain⟨iP,gD,dC,aF⟩:=I.list bz
  have e1:=lP.length
  have e2:=gD.length
  have W:=WalksT.zip2 (prog:=X.prog) (w:=X.w) (A:=X.A) (I.ok.hd hc) z TI TO i1 i2 l1 l2 D iQ.toArray iP.toArray
  have hn:i=min iQ.toArray.size iP.toArray.size:=by simp only[List.size_toArray];omega
  obtain⟨a1,a2,a3,a4,a5⟩:=st
  rw[hn]at a4 a5
  have sub:∀b,b∉[z,TI,TO,i1,i2]→b∉[z,TO,i1,i2]:=fun b hb hm=>hb (by
   simp only[List.mem_cons,List.not_mem_nil,or_false]at hm ⊢
   rcases hm with h |h |h |h
   ·exact .inl h
   ·exact .inr (.inr (.inl h))
   ·exact .inr (.inr (.inr (.inl h)))
   ·exact .inr (.inr (.inr (.inr h))))
  refine W.done s _ _ ⟨a1,a2,a3,a4,a5,jz.isList,dC.isList⟩ fun h' tk hk=> ⟨rfl,?_⟩
  have bW:∀b o,H b=some o→b∉[z,TI,TO,i1,i2]:=fun b o q hm=>by
   have:=(hf b hm).1
   rw[this]at q;cases q
  refine I.call (g':=s.gens) (d':=s.drawn) (t':=tk) (h':=h') (ch:=[z,TI,TO,i1,i2]) ⟨fun b o q _ _ hx=>hk b o (sub b hx) q,fun b o q _ _ hx=> ⟨o.slots,hk b o (sub b hx) q⟩,fun b o q n hx=>n,fun b o q hx=> ⟨o,hk b o (sub b hx) q⟩,fun b ys q=>q,fun b o u q=>q,fun b ps q=> ⟨#[],by rw[q];simp⟩⟩ (fun b o q=> ?_) I.bare fun b hb=> ?_
  ·refine(I.af b o q).dA (fun c ob bG q'=>hk c ob ?_ q') (fun _ q'=>q') fun _ _ q'=>q'
   rcases bG with z' |z'
   ·rw[z'];exact sub _ (bW b o q)
   ·exact sub _ (bW c _ z')
  ·obtain⟨f0,f1,f2,f3,f4,f5⟩:=hf b hb
   exact⟨f3,f1,f4,f5⟩
 self:=fun A i s Q E st h=>wpAny_pyIter_zip st.1 h
section
variable {X:Cx}{elts:List Expr}{kk:Nat}{tp:Pos}
def zb (K:PySem.W.Frag) (ta:TA):TI:=fun σ H R=>ta σ H fun vs H1=> ∃l1 l2,vs=[.ref l1,.ref l2]∧(∃xs ys,ae K H1 l1 xs∧ae K H1 l2 ys)∧R (qJ K l1 l2) H1
theorem DA {a b:Expr}{ta:TA}{p pos:Pos}(hg:Gl X "zip") (hm:X.mg "zip" =none) (ha:PA X [a,b] ta) (hs:starEach [a,b] X.env=[(false,eval a X.env),(false,eval b X.env)]:=by rfl) (mh:starEach [b] X.env=[(false,eval b X.env)]:=by rfl):
  PI X (.Tuple elts kk tp) (.Call (.Name "zip" p) [a,b] [] pos) (zb X.K ta):=by
 intro pins s σ H R I h
 refine Call_ (Yu I hg hm PyProof.Rows.Boot.«zip» (PyProof.Rows.callWith_type1 (ao (ha pos pins s σ H _ I h) fun us s1 ⟨vs,H1,I1,r1,q1⟩=> ?_) (by rw[hs,mh]) (by rw[mh];rfl)))
 obtain⟨l1,l2,e,⟨xs,ys,fW,bz⟩,q⟩:=q1
 subst e
 obtain⟨u,v,rfl,ru,rv⟩:=vals2 r1
 cases ru
 cases rv
 obtain⟨iQ,lP,jz,bA⟩:=I1.list fW
 obtain⟨iP,gD,dC,aF⟩:=I1.list bz
 have t1:l1<s1.heap.objs.size:=by obtain⟨o,ho,_⟩:=jz.isList;exact Heap.lt_size ho
 have t2:l2<s1.heap.objs.size:=by obtain⟨o,ho,_⟩:=dC.isList;exact Heap.lt_size ho
 have D:=DV s1.heap.objs.size l1 l2 t1 t2
 refine call_zip_2 jz.isList dC.isList fun h' b1 b2 b3 b4 b5 b6 hk=>wpAny_pyIter_zip b1 ?_
 have I2:Inv X pins σ H1 {s1 with heap:=h'} :=I1.kept (t':=s1.toks) hk
 refine⟨s1.heap.objs.size+4,[s1.heap.objs.size+4,s1.heap.objs.size+2,s1.heap.objs.size+3,s1.heap.objs.size,s1.heap.objs.size+1],_,_,H1,rfl,I2,
  DS _ _ _ _ _ l1 l2 D,⟨b1,b2,⟨_,_,b3⟩,b4,b5⟩,fun b hb=> ?_,q⟩
 have kX:s1.heap.objs.size≤b:=by
  simp only[List.mem_cons,List.not_mem_nil,or_false]at hb
  rcases hb with z |z |z |z |z<;>rw[z]<;>first |exact Nat.le_refl _ |exact Nat.le_add_right _ _
 exact I1.ja kX (I1.af.fresh kX)
end
theorem En {K:PySem.W.Frag}{l1 l2:Addr}{xs zs:List V}{g:TG}{tt:TT}{ti:TC}{ys:List V}{σ:St}{H:Hp}{Q:List V→St→Hp→Prop}(Pv:Nat→List V→St→Hp→Prop) (h0:Pv 0 ys σ H)
  (hl:∀i ys σ H,i≤min xs.length zs.length→Pv i ys σ H→ae K H l1 xs∧ae K H l2 zs)
  (hs:∀i x y T ys σ H,xs[i]? =some x→zs[i]? =some y→H T=none→Pv i ys σ H→g (.ref T) σ (upd H T (.par [x,y])) fun aR H2=>tt aR H2 fun b H3=>if b=true then ti ys aR H3 (Pv (i+1)) else Pv (i+1) ys aR H3)
  (hd:∀ys σ H,Pv (min xs.length zs.length) ys σ H→Q ys σ H):fQ g tt ti (qJ K l1 l2) ys σ H Q:=by
 refine⟨fun i m ys σ H=>m=min xs.length zs.length - i∧i≤min xs.length zs.length∧Pv i ys σ H,⟨min xs.length zs.length,by simp,Nat.zero_le _,h0⟩,?_⟩
 rintro i m ys σ H ⟨rfl,hi,p⟩
 obtain⟨q1,q2⟩:=hl i ys σ H hi p
 by_cases aK:i<min xs.length zs.length
 ·have h1:i<xs.length:=by omega
  have h2:i<zs.length:=by omega
  refine .inr ⟨⟨xs,zs,xs[i],zs[i],q1,q2,by simp[h1],by simp[h2]⟩,Pv (i+1),fun aU ah H' p'=> ⟨min xs.length zs.length - (i+1),by omega,rfl,aK,p'⟩,fun x H' y=> ?_⟩
  obtain⟨T,a,b,e1,e2,e3,e4⟩:=y
  subst e1 e3
  obtain⟨f1,f2⟩:=e4 xs zs q1 q2
  exact hs i a b T ys σ H f1 f2 e2 p
 ·have e:i=min xs.length zs.length:=by omega
  subst e
  exact .inl ⟨⟨xs,zs,q1,q2,rfl⟩,hd ys σ H p⟩
mutual
inductive Sh (H:Hp):V→PyData→Prop
 |ai:Sh H .ai .none
 |bl (b:Bool):Sh H (.bl b) (.bool b)
 |int (i:Int):Sh H (.int i) (.int i)
 |str (x:Str):Sh H (.str x) (.str x)
 |tup {a:Addr}{xs:List V}{ds:List PyData} :H a=some (.tup xs)→jW H xs ds→Sh H (.ref a) (.tuple ds)
 |lst {a:Addr}{xs:List V}{ds:List PyData} :H a=some (.lst xs)→jW H xs ds→Sh H (.ref a) (.list ds)
 |jU {a:Addr} :H a=some (.dK [])→Sh H (.ref a) (.dict [])
inductive jW (H:Hp):List V→List PyData→Prop
 |nil:jW H [] []
 |cons {v:V}{vs:List V}{d:PyData}{ds:List PyData} :Sh H v d→jW H vs ds→jW H (v::vs) (d::ds)
end
section
variable {X:Cx}{pins:List (Addr×Obj)}{σ:St}{H:Hp}{s:Shared}
mutual
theorem Eu (I:Inv X pins σ H s):∀{v:V}{d:PyData}{u:Value},Sh H v d→RelV v u→∃as,Reads s.heap u d as∧((∃a,v=.ref a∧H a=some (.dK []))→sysModules∉as)
 |_,_,u,.ai,r=>by
  have e:u=.none:=r
  subst e
  exact⟨[],.none,fun _ h=>nomatch h⟩
 |_,_,u,.bl b,r=>by
  have e:u=.bool b:=r
  subst e
  exact⟨[],.bool b,fun _ h=>nomatch h⟩
 |_,_,u,.int i,r=>by
  obtain⟨t,rfl⟩:=r
  exact⟨[],.int i t,fun _ h=>nomatch h⟩
 |_,_,u,.str x,r=>by
  obtain⟨t,rfl⟩:=r
  exact⟨[],.str x t,fun _ h=>nomatch h⟩
 |_,_,u,.tup (a:=a) h rs,r=>by
  have e:u=.ref a:=r
  subst e
  obtain⟨its,rv,⟨o,ho,hc,n,hd⟩,_⟩:=I.tuple (ak.of h)
  obtain⟨as,q⟩:=o6 I rs rv
  exact⟨as,.tuple ho hc hd (by simpa using q),fun⟨b,e,hb⟩=>by cases e;rw[h]at hb;cases hb⟩
 |_,_,u,.lst (a:=a) h rs,r=>by
  have e:u=.ref a:=r
  subst e
  obtain⟨_,its,n,rv,ho⟩:=(show aI X.prog X.w H s.heap a (.lst _) from I.af a _ h)
  obtain⟨as,q⟩:=o6 I rs rv
  exact⟨a::as,.list ho rfl rfl (by simpa using q),fun⟨b,e,hb⟩=>by cases e;rw[h]at hb;cases hb⟩
 |_,_,u,.jU (a:=a) h,r=>by
  have e:u=.ref a:=r
  subst e
  obtain⟨_,hs,vs,kv,hm⟩:=(show aI X.prog X.w H s.heap a (.dK []) from I.af a _ h)
  cases kv
  obtain⟨o,es,ep,ho,hc,hd,hk,hp,hn⟩:=hm
  have hz:es.toList=[]:=by
   have:=hp.length
   simp at this
   simpa using this
  refine⟨a::[]++[],.dict (kvs:=[]) ho hc.1 hd (by rw[hz];exact .nil) (by rw[hz];exact .nil),fun _ hm=> ?_⟩
  simp only[List.append_nil,List.mem_singleton]at hm
  rw[hm]at hs
  simp at hs
theorem o6 (I:Inv X pins σ H s):∀{vs:List V}{ds:List PyData}{us:List Value},jW H vs ds→Vals vs us→∃as,ReadsAll s.heap us ds as
 |_,_,_,.nil,.nil=> ⟨[],.nil⟩
 |_,_,_,.cons h t,.cons r rs=>by
  obtain⟨as,q,_⟩:=Eu I h r
  obtain⟨bs,qs⟩:=o6 I t rs
  exact⟨as++bs,.cons q qs⟩
end
end
end L2
namespace L2
open PySem PySem.Spec PyProof.Rows
end L2
namespace L2
open PySem PySem.Spec PyProof.Rows SeqAt
section
variable {X:Cx}
def jD:V→Bool
 | .ai=>true
 | .int _=>true
 |_=>false
theorem CI {A:Around}{s:Shared}{x y:V}{u v:Value}(hx:jD x=true) (hy:jD y=true) (ru:RelV x u) (rv:RelV y v):EqAt A s u v (decide (x=y)):=by
 cases x with
 |ai=>
  cases ru
  cases y with
  |ai=>cases rv;exact EqAt.same _
  |int j=>obtain⟨t,rfl⟩:=rv;exact EqAt.none_int j t
  |_=>cases hy
 |int i=>
  obtain⟨t,rfl⟩:=ru
  cases y with
  |ai=>cases rv;exact EqAt.int_none i t
  |int j=>
   obtain⟨t',rfl⟩:=rv
   rw[WK]
   exact EqAt.int_int i t j t'
  |_=>cases hy
 |_=>cases hx
theorem Cr {A:Around}{s:Shared}{xs ys:List V}{us vs:List Value}(hx:xs.all jD=true) (hy:ys.all jD=true) (r1:Vals xs us) (r2:Vals ys vs):
  ∀j (h1:j<us.toArray.size) (h2:j<vs.toArray.size),EqAt A s us.toArray[j] vs.toArray[j] (decide (xs.getD j .ai=ys.getD j .ai)):=fun j h1 h2=>by
 have l1:=r1.length
 have l2:=r2.length
 have k1:j<xs.length:=by simp at h1;omega
 have k2:j<ys.length:=by simp at h2;omega
 obtain⟨u,hu,ru⟩:=r1.get (List.getElem?_eq_getElem k1)
 obtain⟨v,hv,rv⟩:=r2.get (List.getElem?_eq_getElem k2)
 have e1:us.toArray[j]=u:=by simpa using (List.getElem?_eq_some_iff.mp hu).2
 have e2:vs.toArray[j]=v:=by simpa using (List.getElem?_eq_some_iff.mp hv).2
 rw[e1,e2,List.getD_eq_getElem?_getD,List.getD_eq_getElem?_getD,List.getElem?_eq_getElem k1,List.getElem?_eq_getElem k2]
 exact CI (List.all_eq_true.mp hx _ (List.getElem_mem k1)) (List.all_eq_true.mp hy _ (List.getElem_mem k2)) ru rv
theorem CJ {xs ys:List V}{us vs:List Value}(r1:Vals xs us) (r2:Vals ys vs):((List.range (min us.toArray.size vs.toArray.size)).all (fun j=>decide (xs.getD j .ai=ys.getD j .ai))&&us.toArray.size==vs.toArray.size)=decide (xs=ys):=by
 have l1:=r1.length
 have l2:=r2.length
 rw[Bool.eq_iff_iff,Bool.and_eq_true,List.all_eq_true,decide_eq_true_eq,beq_iff_eq,List.size_toArray,List.size_toArray]
 constructor
 ·rintro⟨h,hl⟩
  refine List.ext_getElem (by omega) fun i h1 h2=> ?_
  have:=h i (by rw[List.mem_range];omega)
  simpa[h1,h2] using this
 ·rintro rfl
  exact⟨fun j _=>by simp,by omega⟩
def rZ (K:PySem.W.Frag) (r:Bool):R2:=fun x y H Q=> ∃(a b:Addr) (xs ys:List V),x=.ref a∧y=.ref b∧H a=some (.tup xs)∧H b=some (.tup ys)∧xs.all jD=true∧ys.all jD=true∧Q (.bl (xor r (decide (xs=ys)))) H
theorem B7 (hu:X.A.units<cLine):aW X (compareOp .NotEq) (rZ X.K true):=by
 intro pins s σ H x y u v Q I rx ry h
 obtain⟨a,b,xs,ys,rfl,rfl,ha,hb,hx,hy,q⟩:=h
 cases rx
 cases ry
 obtain⟨us,r1,p1,_⟩:=I.tuple (ak.of ha)
 obtain⟨vs,r2,p2,_⟩:=I.tuple (ak.of hb)
 refine RcNeAt.tuples p1 p2 hu (Cr hx hy r1 r2) _ _ _ _ ?_
 rw[CJ r1 r2]
 exact⟨.bl _,H,I,rfl,by rw[Bool.true_xor]at q;exact q⟩
end
end L2
namespace U
open PySem L2 PyProof.Rows
def dz (K:PySem.W.Frag) (H:Hp) (a:Addr) (ns:List Int):Prop:=(∃o,H a=some (.aZ o (.lst (ns.map V.int))))∨∃(o:Obj) (its:Array Value) (n:Nat),K.lookup a=some o∧o.cls=.type "list" ∧o.dict=none∧o.data=.seq its n∧its.size≤sizeLine∧Vals (ns.map V.int) its.toList
theorem dz.sq {K:PySem.W.Frag}{H:Hp}{a:Addr}{ns:List Int}(h:dz K H a ns):ae K H a (ns.map V.int):=by
 rcases h with ⟨o,h⟩ |h
 ·exact .inl (.inr ⟨o,h⟩)
 ·exact .inr h
theorem dz.same {K:PySem.W.Frag}{H H':Hp}{a:Addr}{ns:List Int}(h:dz K H a ns) (s:ab H H'):dz K H' a ns:=by
 rcases h with ⟨o,h⟩ |h
 ·exact .inl ⟨o,s _ _ h⟩
 ·exact .inr h
theorem dz.x {K:PySem.W.Frag}{H H':Hp}{a p:Addr}{ns:List Int}{o:HO}(h:dz K H a ns) (s:az p H H') (hp:H p=some o) (hn:∀ob u,o≠.aZ ob u):dz K H' a ns:=by
 rcases h with ⟨ob,h⟩ |h
 ·exact .inl ⟨ob,s _ _ h fun z=>by rw[z,hp]at h;cases h;exact hn _ _ rfl⟩
 ·exact .inr h
end U
namespace U
open PySem L2 PyProof.Rows PySem.Spec
def j0 (mg:Str→Option Value) (h:Heap):Prop:=∃bm ob,mg "__builtins__" =some (.ref bm)∧bm≠builtinsNs∧h.get? bm=some ob∧ob.cls=.type "module" ∧ob.dict=some builtinsNs∧ob.data=.plain
theorem UF {P:Program}{w:World}{K:PySem.W.Frag}{mg mb:Str→Option Value}{k:Nat}{fa a:Addr}{Pts:List Addr}{fd:FuncData}{x:Str}{sp:Sp}{aB:Shared}{vs:List Value}{ns:List Int}
  (KX:K.In aB.heap) (pX:aB.heap.Ns mainGlobals mg) (hb:aB.heap.Ns builtinsNs mb) (Ay:∀x:Str,x≠ "__name__" →mb x=bootBuiltins x) (zY:aB.heap.NoLimit) (hg:aB.gens= #[])
  (ha:aB.heap.get? a=some {cls:=.type "list",data:=.seq vs.toArray}) (hi:IntsAre vs ns) (hl:ns.length≤sizeLine) (hr:cg k callerA)
  (ir:∀Pt∈Pts,aB.heap.get? Pt=some (PySem.W.tabObj #[])) (AU:∀Pt∈Pts,∃c,PySem.W.CodeHd aB.heap c Pt) (AQ:∀Pt∈Pts,K.lookup Pt=none) (Aw:j0 mg aB.heap)
  (F:∀base:Heap,K.In base→base.Ns mainGlobals mg→j0 mg base→aL P w K mg base aP k fa fd [x] sp) (Ax:∀(s:Shared) (u:Value),BindsTo s fd ⟨[u],[]⟩ [(x,u)])
  (il:∀H:Hp,dz K H a ns→(∀Pt∈Pts,H Pt=some (.dZ #[]))→sp [.ref a] H (fun v _=>v=.bl true) fun _ _ _=>False):
  codeAny (model P w) callerA (.call (.ref fa) ⟨[.ref a],[]⟩) (fun r s'=>r=.ok (.ret (.bool true))∧OldK aB.heap s'.heap∧s'.os=aB.os∧AllBare s'.gens) aB:=by
 have rv:=J6 hi
 have y4:=hi.length
 have k5:∀{Pt:Addr},Pt∈Pts→aB.heap.get? Pt=some {cls:=.none,data:=.fields #[]} :=fun h=>ir _ h
 have ux:a∉Pts:=fun z=>by have h:=k5 z;rw[ha]at h;cases h
 have core:∀H:Hp,(∀b,b∉Pts→H b=none∨∃o xs,H b=some (.aZ o (.lst xs)))→dz K H a ns→(∀Pt∈Pts,H Pt=some (.dZ #[]))→bh P w H aB.heap→(∀b,H b≠none→b=a∨b∈Pts)→(H a≠none→K.lookup a=none)→
   codeAny (model P w) callerA (.call (.ref fa) ⟨[.ref a],[]⟩) (fun r s'=>r=.ok (.ret (.bool true))∧OldK aB.heap s'.heap∧s'.os=aB.os∧AllBare s'.gens) aB:=by
  intro H hO hS hP af hA hK
  have qA:∀{b:Addr}{o:Obj},aB.heap.get? b=some o→H b=none→(gb aB.heap H).get? b=some o:=fun e n=>Dp e n
  have jC:∀{b:Addr}{o:Obj},aB.heap.get? b=some o→(∀vs n,o.data≠.seq vs n)→(∀ps,o.data≠.fields ps)→H b=none:=fun {b o} e d1 d2=>by
   cases q:H b with
   |none=>rfl
   |some u=>
    rcases hA b (by rw[q];simp) with e' |e'
    ·subst e'
     rw[ha]at e;cases e
     exact absurd rfl (d1 _ _)
    ·rw[k5 e']at e;cases e
     exact absurd rfl (d2 _)
  have lZ:∀{b:Addr}{m:Str→Option Value},aB.heap.Ns b m→(gb aB.heap H).Ns b m:=fun {b m} ⟨o,es,ep,e,d,r⟩=> ⟨o,es,ep,qA e (jC e (fun _ _ z=>by rw[d]at z;cases z) fun _ z=>by rw[d]at z;cases z),d,r⟩
  have uA:K.In (gb aB.heap H):=fun b o e=>qA (KX b o e) (by
   cases q:H b with
   |none=>rfl
   |some u=>
    rcases hA b (by rw[q];simp) with e' |e'
    ·subst e'
     rw[hK (by rw[q];simp)]at e;cases e
    ·rw[AQ _ e']at e;cases e)
  have hM:Mod K mg (gb aB.heap H):=⟨uA,lZ pX,⟨mb,lZ hb,Ay⟩,let ⟨mc,h1,h2⟩:=zY;⟨mc,lZ h1,h2⟩⟩
  have Av:j0 mg (gb aB.heap H):=let ⟨bm,ob,b1,b2,b3,b4,b5,b6⟩:=Aw;⟨bm,ob,b1,b2,qA b3 (jC b3 (fun _ _ z=>by rw[b6]at z;cases z) fun _ z=>by rw[b6]at z;cases z),b4,b5,b6⟩
  have e0:m8 P w K mg (gb aB.heap H) callerA [] aB H:=⟨rfl,hM,fun b o e=>BW e,Nat.le_of_eq (Ec _ _),trivial,fun b hb=>absurd (show b∈([]:List Addr) from hb) (by simp),af,.of_eq hg⟩
  refine codeAny_mono ((F _ uA (lZ pX) Av).run callerA [] aB H ⟨[.ref a],[]⟩ [.ref a] [.ref a] _ _ hr e0 (Ax aB (.ref a)) (.cons rfl .nil) (il H hS hP)) fun r s' h=> ?_
  cases r with
  |error e=>exact False.elim h
  |ok fl=>
   cases fl with
   |next=>exact False.elim h
   |brk=>exact False.elim h
   |cont=>exact False.elim h
   |ret u=>
    obtain⟨v,H',os,bare,un,t8,r',q⟩:=h
    have q':v=.bl true:=q
    subst q'
    obtain rfl:u=Value.bool true:=r'
    have old:∀b o,aB.heap.get? b=some o→asItWas aB.heap s'.heap b o:=fun b o e=>by
     cases q:H b with
     |none=>exact .inl (un.keep b o e q (by intro z;exact absurd (show b∈([]:List Addr) from z) (by simp)) (by simp))
     |some u=>
      by_cases kZ:b∈Pts
      ·obtain⟨more,z⟩:=un.fP b _ (hP b kZ)
       have e2:s'.heap.get? b=some {cls:=.none,data:=.fields (#[]++more)} :=t8 b _ z
       rw[k5 kZ]at e
       cases e
       obtain⟨c,hC⟩:=AU b kZ
       exact .inr (.inl ⟨(hC.tab (ir b kZ)).isCodeTable,rfl, #[],more,rfl,e2⟩)
      ·rcases hO b kZ with z |⟨ob,xs,z⟩
       ·rw[q]at z;cases z
       ·have z2:=un.gk b ob _ z
        obtain⟨e1,_⟩:=af b _ z
        obtain⟨e2,_⟩:=t8 b _ z2
        rw[e]at e1;cases e1
        exact .inl e2
    exact⟨rfl,⟨old,fun b o e=>un.there b o e (by simp)⟩,os,bare⟩
 cases hk:K.lookup a with
 |some o=>
  have e:=KX a o hk
  rw[ha]at e
  cases e
  refine core (fun b=>if b∈Pts then some (.dZ #[]) else none) (fun b n=> .inl (if_neg n)) (.inr ⟨_,vs.toArray,_,hk,rfl,rfl,rfl,by rw[List.size_toArray,y4];exact hl,by simpa using rv⟩) (fun Pt h=>if_pos h) (fun b u z=> ?_) (fun b z=> ?_) fun z=>absurd (if_neg ux) z
  ·by_cases hb:b∈Pts
   ·have z':=(if_pos hb).symm.trans z
    cases z'
    exact k5 hb
   ·have z':=(if_neg hb).symm.trans z
    cases z'
  ·by_cases hb:b∈Pts
   ·exact .inr hb
   ·exact absurd (if_neg hb) z
 |none=>
  refine core (fun b=>if b∈Pts then some (.dZ #[]) else if b=a then some (.aZ {cls:=.type "list",data:=.seq vs.toArray} (.lst (ns.map V.int))) else none) (fun b n=> ?_) (.inl ⟨{cls:=.type "list",data:=.seq vs.toArray},(if_neg ux).trans (if_pos rfl)⟩) (fun Pt h=>if_pos h) (fun b u z=> ?_) (fun b z=> ?_) fun _=>hk
  ·by_cases hb:b=a
   ·exact .inr ⟨_,_,(if_neg n).trans (if_pos hb)⟩
   ·exact .inl ((if_neg n).trans (if_neg hb))
  ·by_cases hP:b∈Pts
   ·have z':=(if_pos hP).symm.trans z
    cases z'
    exact k5 hP
   ·by_cases hb:b=a
    ·have z':=((if_neg hP).trans (if_pos hb)).symm.trans z
     cases z'
     subst hb
     exact⟨ha,by rw[List.length_map];exact hl,vs,_,rv,ha⟩
    ·have z':=((if_neg hP).trans (if_neg hb)).symm.trans z
     cases z'
  ·by_cases hP:b∈Pts
   ·exact .inr hP
   ·by_cases hb:b=a
    ·exact .inl hb
    ·exact absurd ((if_neg hP).trans (if_neg hb)) z
theorem wq {l:PySem.W.OpenLaw}{n k:Nat}{q:Program}{loose:List Str}{XP:(Str→Option Value)→Heap→Prop}{YP:World→Heap→Prop}{d:DefRec}{K:Params→PySem.W.Frag}{sp:PySem.W.Frag→Sp}{x:Str}{Pts:List Addr}
    (hn:l.most=some n) (jK:n≤sizeLine) (qc:d.params.defaults=[]) (hr:cg k callerA)
    (hY:∀(w:World) (h:Heap),YP w h→(K w.params).In h) (AB:∀(w:World) (h:Heap),YP w h→∀Pt∈Pts,h.get? Pt=some (PySem.W.tabObj #[]))
    (hC:∀(w:World) (h:Heap),(K w.params).In h→∀Pt∈Pts,∃c,PySem.W.CodeHd h c Pt) (AR:∀w:World,∀Pt∈Pts,(K w.params).lookup Pt=none)
    (F:∀(w:World) (mg:Str→Option Value) (fa:Addr) (h:Heap),(K w.params).In h→h.Ns mainGlobals mg→mg d.name=some (.ref fa)→
      ∃fd:FuncData,(∀(s:Shared) (u:Value),BindsTo s fd ⟨[u],[]⟩ [(x,u)])∧
       ∀base:Heap,(K w.params).In base→base.Ns mainGlobals mg→j0 mg base→aL l.prog w (K w.params) mg base aP k fa fd [x] (sp (K w.params)))
    (il:∀(K:PySem.W.Frag) (H:Hp) (a:Addr) (ns:List Int),ns.length≤n→dz K H a ns→(∀Pt∈Pts,H Pt=some (.dZ #[]))→sp K [.ref a] H (fun v _=>v=.bl true) fun _ _ _=>False):
    PySem.W.WalkO q loose XP YP l.row.toRowW d [] (fun f vs=>PySem.call f vs):=by
  refine we.Bz hn qc fun w bR aB mg mb fa o pm cd doc a vs ns G Y ho hd eK hmg pV hints hlen hg=> ?_
  have KX:=hY w _ Y
  obtain⟨fd,hb,hF⟩:=F w mg fa _ KX G.T.g hmg
  exact UF KX G.T.g G.T.b G.T.builtins G.T.nolimit hg pV hints (Nat.le_trans hlen jK) hr (AB w _ Y) (hC w _ KX) (AR w) G.T.bmain hF hb (fun H hS hP=>il (K w.params) H a ns hlen hS hP)
def ba (K:PySem.W.Frag) (x:Str) (st:Stmt):Prop:=∃f fd,PySem.W.nsIn K mainGlobals x=some (some (.ref f))∧aT K x x st f fd
theorem bu {K:PySem.W.Frag}{x:Str}{st:Stmt}{f:Addr}{oc:Value}{od an:Option Addr}{fb:Array (Option Value)}{kV doc pm au ct:Value}(e1:PySem.W.nsIn K mainGlobals x=some (some (.ref f)))
  (e2:K.lookup f=some ⟨oc,od,.func (PySem.W.fnOf x x (fK st) (eO st) (aG st) .none kV doc pm an au ct),fb⟩) (e3:PySem.W.codeIn K au x=true) (e4:PySem.W.keepIn K (.ref f)=true):ba K x st:=⟨f,_,e1,Cj e2 e3 e4⟩
section
variable {P:Program}{w:World}{K:PySem.W.Frag}{mg:Str→Option Value}{base:Heap}
abbrev j4 (x:Str) (st:Stmt) (ps:List Str):Prop:=∀(kV doc pm:Value) (an:Option Addr) (au ct:Value) (us:List Value),us.length=ps.length→bindArgs (PySem.W.fnOf x x (fK st) (eO st) (aG st) .none kV doc pm an au ct) ⟨us,[]⟩=pure (ps.zip us)
theorem ba.to {h:Heap}{x:Str}{st:Stmt}{ps:List Str}{k:Nat}{sp:Sp}(d:ba K x st) (KX:K.In h) (G:h.Ns mainGlobals mg) (hb:j4 x st ps) (ok:∀f fd,aT K x x st f fd→aL P w K mg base aP k f fd ps sp):Def P w K mg base k x ps sp:=by
 obtain⟨f,fd,e,F⟩:=d
 exact⟨f,fd,ok f fd F,PySem.W.mg_of KX G e,F.kp,F.binds hb⟩
def l3 (K:PySem.W.Frag) (x:Str):Bool:=match PySem.W.nsIn K mainGlobals x with |some none=>true |_=>false
theorem DH {h:Heap}{x:Str}(KX:K.In h) (G:h.Ns mainGlobals mg) (e:l3 K x=true):mg x=none:=by
 unfold l3 at e
 split at e
 ·rename_i q
  exact PySem.W.mg_none_of KX G q
 ·cases e
abbrev wc (x a:Str) (st:Stmt):Prop:=∀(kV doc pm:Value) (an:Option Addr) (au ct u:Value),bindArgs (PySem.W.fnOf x x (fK st) (eO st) (aG st) .none kV doc pm an au ct) ⟨[u],[]⟩=pure [(a,u)]
theorem b1 {x a:Str}{st:Stmt}(h:wc x a st):j4 x st [a]:=fun kV doc pm an au ct us hl=>match us,hl with | [u],_=>h kV doc pm an au ct u
theorem b2 {x a b:Str}{st:Stmt}(h:∀(kV doc pm:Value) (an:Option Addr) (au ct u v:Value),bindArgs (PySem.W.fnOf x x (fK st) (eO st) (aG st) .none kV doc pm an au ct) ⟨[u,v],[]⟩=pure [(a,u),(b,v)]):j4 x st [a,b]:=fun kV doc pm an au ct us hl=>match us,hl with | [u,v],_=>h kV doc pm an au ct u v
theorem b3 {x a b c:Str}{st:Stmt}(h:∀(kV doc pm:Value) (an:Option Addr) (au ct u v w:Value),bindArgs (PySem.W.fnOf x x (fK st) (eO st) (aG st) .none kV doc pm an au ct) ⟨[u,v,w],[]⟩=pure [(a,u),(b,v),(c,w)]):j4 x st [a,b,c]:=fun kV doc pm an au ct us hl=>match us,hl with | [u,v,w],_=>h kV doc pm an au ct u v w
theorem b4 {x a b c d:Str}{st:Stmt}(h:∀(kV doc pm:Value) (an:Option Addr) (au ct u v w z:Value),bindArgs (PySem.W.fnOf x x (fK st) (eO st) (aG st) .none kV doc pm an au ct) ⟨[u,v,w,z],[]⟩=pure [(a,u),(b,v),(c,w),(d,z)]):j4 x st [a,b,c,d]:=fun kV doc pm an au ct us hl=>match us,hl with | [u,v,w,z],_=>h kV doc pm an au ct u v w z
theorem BS {h:Heap}{fa:Addr}{st:Stmt}{k:Nat}{sp:Sp}(d:ba K "law" st) (KX:K.In h) (G:h.Ns mainGlobals mg) (hmg:mg "law" =some (.ref fa)) (hb:wc "law" "_law_script" st)
  (ok:∀(base:Heap) f fd,aT K "law" "law" st f fd→aL P w K mg base aP k f fd ["_law_script"] sp):
  ∃fd:FuncData,(∀(s:Shared) (u:Value),BindsTo s fd ⟨[u],[]⟩ [("_law_script",u)])∧∀base:Heap,K.In base→base.Ns mainGlobals mg→j0 mg base→aL P w K mg base aP k fa fd ["_law_script"] sp:=by
 obtain⟨f,fd,e,F⟩:=d
 have e0:=hmg.symm.trans (PySem.W.mg_of KX G e)
 cases e0
 obtain⟨oc,od,kV,doc,pm,an,au,ct,fb,rfl,lk,eK⟩:=id F.ex
 exact⟨_,fun s u=> .of_eq (hb _ _ _ _ _ _ u),fun base _ _ _=>ok base _ _ F⟩
end
end U
namespace HS
open PySem PySem.SetTable
abbrev Ey (l:List Nat):Prop:=l.Pairwise (· < ·)
abbrev tb (m:Nat):SetTable:= {mask:=m,place:= #[],dummies:= #[],finger:=0,led:=false,moves:=0,plain:=false}
def BC (m:Nat) (p:Probe):Probe:=(tb m).advance p
def it (m:Nat) (p:Probe):Nat→Probe
 |0=>p
 |k+1=>BC m (it m p k)
abbrev fr (m i pt:Nat):Probe:= {j:=i,more:=runEnd m i - i,i,perturb:=pt,dummy:=none}
abbrev st (m:Nat) (h:Int):Probe:=fr m (bits h%(m+1)) (bits h)
def lp (m:Nat) (x:Nat×Nat):Nat×Nat:=leap m x.1 x.2
def nx (m i:Nat):Nat:=(i*5+1)%(m+1)
def vM (m:Nat) (yG:Nat→Prop) (p:Probe) (j:Nat):Prop:=∃n,(it m p n).j=j∧∀k<n,yG (it m p k).j
structure T0 (t:SetTable) (es:Array (Int×Value)):Prop where
 sz:t.place.size=es.size
 Fn:Ey t.place.toList
 F0:t.dummies= #[]
 le:∀j∈t.place.toList,j<t.mask+1
 ld:∀z∈t.place.toList.zip es.toList,vM t.mask (·∈t.place.toList) (st t.mask z.2.1) z.1
def Ex (m n:Nat):Prop:=(m=7∧n≤4)∨(m=31∧n≤18)∨(m=127∧n≤76)∨(m=511∧n≤306)
structure F5 (m:Nat) (hs:List Int) (owner:Array (Option Nat)):Prop where
 sz:owner.size=m+1
 lt:∀(j k:Nat),owner[j]? =some (some k)→k<hs.length
 at_:∀(k:Nat) (h:Int),hs[k]? =some h→∃j:Nat,owner[j]? =some (some k)∧vM m (fun x=> ∃k,owner[x]? =some (some k)) (st m h) j
 inj:∀(j j' k:Nat),owner[j]? =some (some k)→owner[j']? =some (some k)→j=j'
def live (m:Nat) (owner:Array (Option Nat)):List (Nat×Nat):=(List.range (m+1)).filterMap fun j=> (owner.getD j none).map (j, ·)
section
variable {prog:Program}{w:World}{K:Type} [DecidableEq K]
structure HK (knd:HeapKind prog w K):Prop where
 F1:∀{A:Around}{E:Value→Shared→Prop}{s:Shared}{k:K}{a:Addr}{Q:Bool→Shared→Prop},knd.is s.heap k a→(∀b,Q b s)→wpAny (model prog w) A (hashByValue 8 (.ref a)) Q E s
 notCls:∀{A:Around}{E:Value→Shared→Prop}{s:Shared}{k:K}{a:Addr}{Q:Bool→Shared→Prop},knd.is s.heap k a→Q false s→wpAny (model prog w) A (ofAClassStatement 8 (.ref a)) Q E s
 FD:∀{h h':Heap}{k:K}{a d:Addr}{o:Obj}{es ep t},knd.is h k a→h.get? d=some o→o.data=.set es ep t→Heap.SameBut d h h'→knd.is h' k a
variable {knd:HeapKind prog w K}{A:Around}{E:Value→Shared→Prop}{s:Shared}
def vT (knd:HeapKind prog w K) (h:Heap) (k:K) (e:Int×Value):Prop:=∃a,e.2=.ref a∧knd.is h k a∧e.1=knd.hash k
end
section
variable {prog:Program}{w:World}{K:Type} [DecidableEq K] {knd:HeapKind prog w K}{A:Around}{E:Value→Shared→Prop}{s:Shared}
structure F3 (knd:HeapKind prog w K) (h:Heap) (S:Addr) (ks:List K) (o:Obj) (es:Array (Int×Value)) (ep:Nat) (t:SetTable):Prop where
 ho:h.get? S=some o
 ex:o.ExactSet
 hd:o.data=.set es ep t
 T:T0 t es
 room:Ex t.mask es.size
 el:∀e∈es.toList,∃k∈ks,vT knd h k e
 all:∀k∈ks,∃e∈es.toList,vT knd h k e
 sz:es.size=ks.length
end
end HS
namespace HS
open PySem PySem.SetTable PySem.Spec
section
variable {K:Type} [DecidableEq K]
def met (val:Nat→K):Nat→List K
 |0=> []
 |n+1=>if val n∈met val n then met val n else met val n++[val n]
variable {prog:Program}{w:World}{kk:KeyKind prog w K}{A:Around}{E:Value→Shared→Prop}{s:Shared}{R:Result→Shared→Prop}{I:Addr}{fp wr:List Addr}{G:Array GenState→Array GenState→Prop}{n:Nat}{P:Nat→Value→Prop}{St:Nat→Shared→Prop}
end
end HS
namespace L2
open PySem PySem.Spec PyProof.Rows
end L2
namespace L2
open PySem PySem.Spec PyProof.Rows SeqAt
section
variable {X:Cx}
theorem JN (hc:X.calm=true:=by rfl):di X (.builtin "sum") (fun xs H Q=> ∃(p:Addr) (ns:List Int),xs=[.ref p]∧ae X.K H p (ns.map V.int)∧Q (.int ns.sum) H):=by
 intro pins s σ H xs us Q I r h
 obtain⟨p,ns,rfl,hp,q⟩:=h
 obtain⟨u,rfl,ru⟩:=vals1 r
 cases ru
 obtain⟨its,rv,pl,_⟩:=I.list hp
 have hi:=Yd rv
 obtain⟨xs,hx⟩:=hi.allInts.items
 have z5:s.heap.IsList p (intItems xs):=hx▸pl.isList
 refine sum_intListG (I.ok.hd hc) z5 fun h' tk t' hk=> ?_
 have e1:ns=xs.toList.map (·.1):=by
  rw[←nums_intItems,←hx]
  exact(show numsOf its.toArray.toList=ns from hi.numsOf).symm
 have e2:preSum (numAt xs) xs.size=ns.sum:=by rw[preSum_eq,List.take_of_length_le (by simp),e1]
 rw[e2]
 exact⟨.int ns.sum,H,I.kept hk,⟨_,rfl⟩,q⟩
end
end L2
namespace L2
open PySem PySem.Spec PyProof.Rows
end L2
namespace L2
open PySem PySem.Spec PyProof.Rows SeqAt
end L2
namespace L2
open PySem PySem.Spec PyProof.Rows
section
variable {prog:Program}{w:World}{A:Around}{E:Value→Shared→Prop}{s:Shared}{it d:Addr}{i n ep:Nat}{ok ov:Value}{od:Obj}{es:Array DictEntry}
theorem CU {en:DictEntry}{Q:Option Value→Shared→Prop}(gi:IsItemIter s.heap it d i n ep ok ov) (go:s.heap.get? d=some od) (gd:od.data=.dict es ep) (gn:es.size=n) (gx:es[i]? =some en)
    (q:∀h',IsItemIterOut h' it d (i+1) n ep en.key en.val s.heap.objs.size→h'.get? s.heap.objs.size=some {cls:=.type "tuple",data:=.seq #[en.key,en.val]}→h'.objs.size=s.heap.objs.size+1→
      (∀b o,b≠it→s.heap.get? b=some o→h'.get? b=some o)→Q (some (.ref s.heap.objs.size)) {s with heap:=h'}):wpAny (model prog w) A (pyNext (.ref it)) Q E s:=by
  obtain⟨hp,g,dr,tk,os⟩:=s
  have ty:Shared.TypeIs ⟨hp,g,dr,tk,os⟩ (.ref it) "dict_itemiterator" :=⟨_,gi,rfl⟩
  unfold pyNext
  refine wpAny_bind (wpAny_attempt (wpAny_callSpecial?_slot (name:=Str.ofString "__next__") ty F.slot_dict_itemiterator_next (wpAny_call_entry F.slot_dict_itemiterator_next ty F.entry_dict_itemiterator_next ?_ (F.args_dict_itemiterator_next_1 _))))
  refine wpAny_bind (wpAny_pure (wpAny_bind (wpAny_bind ?_)))
  first |refine wpAny_bind (wpAny_typeNameOfWhole_itemiter ty (wpAny_pure ?_)) |refine wpAny_bind (wpAny_typeNameOf_itemiter ty (wpAny_pure ?_))
  refine wpAny_bind (wpAny_fieldsOf gi rfl ?_)
  have own:Builtin.Dict_items.ownsTuple "dict_itemiterator" =true:=by decide
  simp only[own,if_true]
  show wpAny _ _ (if (Value.ref d==Value.none)=true then _ else _) _ _ _
  rw[if_neg (show ¬((Value.ref d==Value.none)=true) from Bool.false_ne_true)]
  refine wpAny_bind (wpAny_pure (wpAny_bind (wpAny_dictEntries go gd ?_)))
  rw[if_neg (by rw[gn];simp)]
  refine wpAny_bind (wpAny_pure (wpAny_bind (wpAny_dictEpoch go gd ?_)))
  rw[if_neg (by simp)]
  refine wpAny_pure ?_
  simp only[show ¬((i:Int)<0) from by omega,if_false,Int.toNat_natCast,gx]
  refine wpAny_bind ?_
  first |refine wpAny_bind (wpAny_typeNameOfWhole_itemiter ty (wpAny_pure ?_)) |refine wpAny_bind (wpAny_typeNameOf_itemiter ty (wpAny_pure ?_))
  refine wpAny_bind (wpAny_isOneOf_itemiter ty ?_)
  show wpAny _ _ (setField (.ref it) 3 (rawInt ((i:Int)+1)) >>=_) _ _ ⟨hp,g,dr,tk,os⟩
  refine wpAny_bind (wpAny_setField_rec gi (by simp) fun h1 g1 c1=> ?_)
  have c1:Heap.SameBut it hp h1:=c1
  have g1:IsItemIter h1 it d (i+1) n ep ok ov:=by
    have e:((i+1:Nat):Int)=(i:Int)+1:=by omega
    unfold IsItemIter;rw[e];simpa[rawInt] using g1
  have qZ:Shared.TypeIs ⟨h1,g,dr,tk,os⟩ (.ref it) "dict_itemiterator" :=⟨_,g1,rfl⟩
  refine wpAny_bind (wpAny_holding (wpAny_bind (wpAny_isOneOf_itemiter qZ (wpAny_bind (wpAny_isOneOf_itemiter qZ ?_)))))
  show wpAny _ _ (Builtin.Dict_items.pairFromOwner (.ref it) 6 en.key en.val) _ _ ⟨h1,g,dr,tk,os⟩
  unfold Builtin.Dict_items.pairFromOwner
  refine wpAny_bind (wpAny_newTuple ?_)
  have z1:h1.objs.size=hp.objs.size:=c1.1
  have lt:it<hp.objs.size:=Heap.lt_size gi
  have g2:IsItemIter (h1.push {cls:=.type "tuple",data:=.seq #[en.key,en.val]}) it d (i+1) n ep ok ov:=Heap.get?_push_of_some _ g1
  have t2:(h1.push {cls:=.type "tuple",data:=.seq #[en.key,en.val]}).get? hp.objs.size=some {cls:=.type "tuple",data:=.seq #[en.key,en.val]} :=by rw[←z1];exact Heap.get?_push_size _ rfl
  have z2:(h1.push {cls:=.type "tuple",data:=.seq #[en.key,en.val]}).objs.size=hp.objs.size+1:=by rw[Heap.size_push,z1]
  have k2:∀b o,b≠it→hp.get? b=some o→(h1.push {cls:=.type "tuple",data:=.seq #[en.key,en.val]}).get? b=some o:=fun b o hb e=>Heap.get?_push_of_some _ (c1.extBut b o hb e)
  show wpAny _ _ (Builtin.Dict_items.ownedTupleIsFree (.ref it) >>=_) _ _ ⟨h1.push {cls:=.type "tuple",data:=.seq #[en.key,en.val]},g,dr,tk,os⟩
  rw[z1]
  generalize h1.push {cls:=.type "tuple",data:=.seq #[en.key,en.val]} =h2 at g2 t2 z2 k2
  refine wpAny_bind ?_
  unfold Builtin.Dict_items.ownedTupleIsFree
  refine wpAny_bind (wpAny_field g2 rfl (x:=.none) rfl (wpAny_pure ?_))
  simp only[if_true]
  refine wpAny_bind (wpAny_field g2 rfl (x:=ok) rfl (wpAny_bind (wpAny_field g2 rfl (x:=ov) rfl ?_)))
  refine wpAny_bind (wpAny_setField_rec g2 (by simp) fun h3 g3 c3=> ?_)
  have c3:Heap.SameBut it h2 h3:=c3
  have g3:IsItemIter h3 it d (i+1) n ep en.key ov:=g3
  refine wpAny_bind (wpAny_setField_rec g3 (by simp) fun h4 g4 c4=> ?_)
  have c4:Heap.SameBut it h3 h4:=c4
  have g4:IsItemIter h4 it d (i+1) n ep en.key en.val:=g4
  refine wpAny_bind (wpAny_setField_rec g4 (by simp) fun h5 g5 c5=> ?_)
  have c5:Heap.SameBut it h4 h5:=c5
  have g5:IsItemIterOut h5 it d (i+1) n ep en.key en.val hp.objs.size:=g5
  refine wpAny_bind (wpAny_setField_rec g5 (by simp) fun h6 g6 c6=> ?_)
  have c6:Heap.SameBut it h5 h6:=c6
  have g6:IsItemIterOut h6 it d (i+1) n ep en.key en.val hp.objs.size:=g6
  have c:=c3.trans (c4.trans (c5.trans c6))
  exact wpAny_bind (wpAny_letGo (wpAny_pure (wpAny_pure ⟨_,rfl,wpAny_pure (q h6 g6 (c.extBut _ _ (Nat.ne_of_gt lt) t2) (c.1.trans z2) fun b o hb e=>c.extBut b o hb (k2 b o hb e))⟩)))
theorem DF {Q:Option Value→Shared→Prop}(hh:A.handled=none) (gi:IsItemIter s.heap it d i n ep ok ov) (go:s.heap.get? d=some od) (gd:od.data=.dict es ep) (gn:es.size=n) (ge:n≤i)
  (q:∀h',Heap.ExtBut it s.heap h'→Q none {s with heap:=h'}):wpAny (model prog w) A (pyNext (.ref it)) Q E s:=by
 have ty:s.TypeIs (.ref it) "dict_itemiterator" :=⟨_,gi,rfl⟩
 unfold pyNext
 refine wpAny_bind (wpAny_attempt (wpAny_callSpecial?_slot (name:=Str.ofString "__next__") ty F.slot_dict_itemiterator_next (wpAny_call_entry F.slot_dict_itemiterator_next ty F.entry_dict_itemiterator_next ?_ (F.args_dict_itemiterator_next_1 _))))
 refine wpAny_bind (wpAny_pure (wpAny_bind (wpAny_bind ?_)))
 first |refine wpAny_bind (wpAny_typeNameOfWhole_itemiter ty (wpAny_pure ?_)) |refine wpAny_bind (wpAny_typeNameOf_itemiter ty (wpAny_pure ?_))
 refine wpAny_bind (wpAny_fieldsOf gi rfl ?_)
 have own:Builtin.Dict_items.ownsTuple "dict_itemiterator" =true:=by decide
 simp only[own,if_true]
 show wpAny _ _ (if (Value.ref d==Value.none)=true then _ else _) _ _ s
 rw[if_neg (show ¬((Value.ref d==Value.none)=true) from Bool.false_ne_true)]
 refine wpAny_bind (wpAny_pure (wpAny_bind (wpAny_dictEntries go gd ?_)))
 rw[if_neg (by rw[gn];simp)]
 refine wpAny_bind (wpAny_pure (wpAny_bind (wpAny_dictEpoch go gd ?_)))
 rw[if_neg (by simp)]
 refine wpAny_pure ?_
 simp only[show ¬((i:Int)<0) from by omega,if_false,Int.toNat_natCast,Array.getElem?_eq_none (show es.size≤i by omega)]
 refine wpAny_bind ?_
 first |refine wpAny_bind (wpAny_typeNameOfWhole_itemiter ty (wpAny_pure ?_)) |refine wpAny_bind (wpAny_typeNameOf_itemiter ty (wpAny_pure ?_))
 show wpAny _ _ (setField (.ref it) 2 .none >>=_) _ _ s
 refine wpAny_bind (wpAny_setField gi rfl (by simp) ?_)
 show wpAny _ _ (newExc (.type "StopIteration") [] >>=_) _ _ _
 refine wpAny_bind ?_
 simp only[newExc,newTuple]
 refine wpAny_bind (wpAny_newObj_type ?_ (by size_fits))
 refine wpAny_bind (m:=firstArgMember _ _) (wpAny_of_eq (a:=Value.none) (by first |rfl |(simp only[firstArgMember];rfl)) ?_)
 refine wpAny_newObj_type ?_ (by size_fits)
 simp only[raiseNew]
 refine wpAny_bind (wpAny_handled ?_)
 rw[show A.in1.handled=none from hh]
 refine wpAny_bind (wpAny_pure (wpAny_throw ?_))
 exact wpAny_bind (wpAny_isInstance (T:= "StopIteration") (b:=true) ⟨_,Heap.get?_push_size _ rfl,rfl⟩ isSubtype_stop (wpAny_pure (q _ (((Heap.SameBut.update ..).extBut.push _).push _))))
end
section
variable {X:Cx}{pins:List (Addr×Obj)}{σ:St}{H:Hp}{s:Shared}{d:Addr}{kvs:List (List Key×V)}{o:Obj}
theorem Inv.freeze (I:Inv X pins σ H s) (e:H d=some (.dT kvs)) (g:s.heap.get? d=some o):Inv X pins σ (upd H d (.aZ o (.dT kvs))) s:=by
 have ne:∀b u,H b=some u→(∀k,u≠.dT k)→b≠d:=fun b u q n z=>by rw[z,e]at q;cases q;exact n _ rfl
 have nn:∀b,H b=none→b≠d:=fun b q z=>by rw[z,e]at q;cases q
 have J:=I.call (g':=s.gens) (d':=s.drawn) (t':=s.toks) (h':=s.heap) (ch:=[]) (H':=upd H d (.aZ o (.dT kvs)))
  ⟨fun b o q _ _ _=>q,fun b o q _ _ _=> ⟨o.slots,q⟩,fun b o q n _=>by rw[Zf (nn b n)];exact n,fun b o q _=> ⟨o,q⟩,fun b xs q=>by rw[Zf (ne b _ q fun k z=>by cases z)];exact q,
   fun b o u q=>by rw[Zf (ne b _ q fun k z=>by cases z)];exact q,fun b ps q=> ⟨#[],by rw[Zf (ne b _ q fun k z=>by cases z),q];simp⟩⟩ (fun b u q=> ?_) I.bare (fun b hb=>absurd hb (by simp))
 ·exact J
 ·have st:∀{b u},aI X.prog X.w H s.heap b u→aI X.prog X.w (upd H d (.aZ o (.dT kvs))) s.heap b u:=fun x=>x.dA (fun _ _ _ q=>q) (fun b q=>by rw[Zf (ne b _ q fun k z=>by cases z)];exact q) fun b xs q=>by rw[Zf (ne b _ q fun k z=>by cases z)];exact q
  by_cases hb:b=d
  ·subst hb
   rw[Ze]at q
   cases q
   exact⟨g,st (I.af b _ e)⟩
  ·rw[Zf hb]at q
   exact st (I.af b u q)
end
theorem Dl:entryFor table "dict_itemiterator.__iter__" =some Builtin.«dict_keyiterator.__iter__» :=entryFor_alias (id':= "dict_keyiterator.__iter__") (by kernel_rfl) (by decide+kernel) (by decide+kernel) (by kernel_rfl)
theorem BQ {prog:Program}{w:World}{A:Around}{E:Value→Shared→Prop}{s:Shared}{it d:Addr}{i n ep:Nat}{ok ov:Value}{Q:Value→Shared→Prop}(g:IsItemIter s.heap it d i n ep ok ov) (h:Q (.ref it) s):wpAny (model prog w) A (pyIter (.ref it)) Q E s:=by
 have ty:s.TypeIs (.ref it) "dict_itemiterator" :=⟨_,g,rfl⟩
 refine wpAny_pyIter_slot ty F.slot_dict_itemiterator_iter (wpAny_call_entry F.slot_dict_itemiterator_iter ty Dl ?_ (F.args_dict_itemiterator_iter_1 _))
 show wpAny _ _ (ret (.ref it)) _ _ s
 exact wpAny_pure ⟨_,rfl, "dict_itemiterator",_,ty,F.slot_dict_itemiterator_next.lookup,h⟩
def qM (o:Obj) (d:Addr) (kvs:List (List Key×V)):It:=
 ⟨fun i H=>H d=some (.aZ o (.dT kvs))∧i<kvs.length,
  fun i H v H'=> ∃(T a:Addr) (k:List Key) (y:V),v=.ref T∧H T=none∧kvs[i]? =some (k,y)∧H a=some (.tup (k.map kV))∧H'=upd H T (.par [.ref a,y]),
  fun i H=>H d=some (.aZ o (.dT kvs))∧kvs.length≤i⟩
theorem Us {P:Program}{w:World}{K:PySem.W.Frag}{elts:List Expr}{kk:Nat}{pos:Pos}{o:Obj}{es:Array DictEntry}{ep:Nat}(it d:Addr) (kvs:List (List Key×V)) (gd:o.data=.dict es ep) (gn:es.size=kvs.length) (nd:it≠d):
  Turn P w K (.Tuple elts kk pos) (qM o d kvs) [it] it (fun i h=> ∃ok ov,IsItemIter h it d i kvs.length ep ok ov) where
 mem:=by simp
 obj:=fun i h ⟨ok,ov,st⟩ b hb=>by
  have e:b=it:=by simpa using hb
  subst e
  exact⟨_,st,fun v z=>by cases z⟩
 keep:=fun i h h' ⟨ok,ov,st⟩ k=> ⟨ok,ov,k it (by simp) _ st⟩
 item:=by
  intro X hP hw hK hc i pins s σ H E I hf st hg
  subst hP hw hK
  obtain⟨ok,ov,st⟩:=st
  obtain⟨hd,hi⟩:=hg
  obtain⟨gh,z,sm,xs,pr,o',mL,mM,g1,g2,g3,g4,g5⟩:=(show aI X.prog X.w H s.heap d (.aZ o (.dT kvs)) from I.af d _ hd)
  rw[gh]at g1
  cases g1
  rw[gd]at g3
  cases g3
  have eJ:=List.getElem?_eq_getElem hi
  have hx:i<xs.length:=by rw[←Paired.length pr];exact hi
  have An:es[i]? =some (entryOfKey (tupleKind (cU X.prog X.w)) xs[i]):=by rw[←Array.getElem?_toList,g4,List.getElem?_map,List.getElem?_eq_getElem hx];rfl
  obtain⟨q',bK,p1,p2,p3⟩:=Jr pr eJ
  rw[List.getElem?_eq_getElem hx]at bK
  cases bK
  refine CU st gh gd gn An fun h' b1 b2 b3 b4=> ⟨_,rfl,?_⟩
  refine wpAny_letOwnedTupleGo_items b1 fun bH c1 c2=> ?_
  have iw:H s.heap.objs.size=none:=I.af.fresh (Nat.le_refl _)
  have sV:=Heap.lt_size st
  have both:∀b u,b≠it→s.heap.get? b=some u→bH.get? b=some u:=fun b u hb q=> (c2.2 b hb).trans (b4 b u hb q)
  have neT:∀b u,s.heap.get? b=some u→b≠s.heap.objs.size:=fun b u q=>Nat.ne_of_lt (Heap.lt_size q)
  have cQ:∀b u,H b=some u→b≠s.heap.objs.size:=fun b u q=>Zb q iw
  have bW:∀b u,H b=some u→b≠it:=fun b u q z=>by
   have:=(hf it (by simp)).1
   rw[z,this]at q;cases q
  have tT:bH.get? s.heap.objs.size=some {cls:=.type "tuple",data:=.seq #[Value.ref (xs[i]).2.1,(xs[i]).2.2]} :=(c2.2 _ (Nat.ne_of_gt sV)).trans b2
  refine⟨.ref s.heap.objs.size,upd H s.heap.objs.size (.par [.ref (xs[i]).2.1,(kvs[i]).2]),?_,rfl,⟨_,(xs[i]).2.1,(kvs[i]).1,(kvs[i]).2,rfl,iw,eJ,p2,rfl⟩,⟨_,_,c1⟩,fun b hb=> ?_⟩
  ·refine(show Inv X pins σ _ {s with heap:=bH} from ?_)
   refine I.call (g':=s.gens) (d':=s.drawn) (t':=s.toks) (h':=bH) (ch:=[it]) ⟨fun b u q _ _ hx=>both b u (by simpa using hx) q,fun b u q _ _ hx=> ⟨u.slots,both b u (by simpa using hx) q⟩,fun b u q n hx=>by rw[Zf (neT b u q)];exact n,fun b u q hx=> ⟨u,both b u (by simpa using hx) q⟩,
    fun b ys q=>by rw[Zf (cQ b _ q)];exact q,fun b u v q=>by rw[Zf (cQ b _ q)];exact q,fun b ps q=> ⟨#[],by rw[Zf (cQ b _ q),q];simp⟩⟩ (fun b u q=> ?_) I.bare fun b hb=> ?_
   ·by_cases hb:b=s.heap.objs.size
    ·subst hb
     rw[Ze]at q
     cases q
     exact⟨by show 2≤sizeLine;decide,[.ref (xs[i]).2.1,(xs[i]).2.2],.cons rfl (.cons p3 .nil),⟨_,tT,rfl,0,rfl⟩⟩
    ·rw[Zf hb]at q
     refine(I.af b u q).dA (fun c ob bG q'=>both c ob ?_ q') (fun c q'=>by rw[Zf (cQ c _ q')];exact q') fun c ys q'=>by rw[Zf (cQ c _ q')];exact q'
     rcases bG with z' |z'
     ·rw[z'];exact bW b u q
     ·exact bW c _ z'
   ·have e:b=it:=by simpa using hb
    subst e
    obtain⟨f0,f1,f2,f3,f4,f5⟩:=hf b (by simp)
    exact⟨f3,f1,f4,f5⟩
  ·have e:b=it:=by simpa using hb
   subst e
   rw[Zf (Nat.ne_of_lt sV)]
   exact(hf b (by simp)).1
 done:=by
  intro X hP hw hK hc i pins s σ H E I hf st hg
  subst hP hw hK
  obtain⟨ok,ov,st⟩:=st
  obtain⟨hd,hi⟩:=hg
  have gh:=(show aI X.prog X.w H s.heap d (.aZ o (.dT kvs)) from I.af d _ hd).1
  refine DF (I.ok.hd hc) st gh gd gn hi fun h' k=> ⟨rfl,?_⟩
  have bW:∀b u,H b=some u→b≠it:=fun b u q z=>by
   have:=(hf it (by simp)).1
   rw[z,this]at q;cases q
  refine I.call (g':=s.gens) (d':=s.drawn) (t':=s.toks) (h':=h') (ch:=[it]) ⟨fun b u q _ _ hx=>k b u (by simpa using hx) q,fun b u q _ _ hx=> ⟨u.slots,k b u (by simpa using hx) q⟩,fun b u q n hx=>n,fun b u q hx=> ⟨u,k b u (by simpa using hx) q⟩,fun b ys q=>q,fun b u v q=>q,fun b ps q=> ⟨#[],by rw[q];simp⟩⟩ (fun b u q=> ?_) I.bare fun b hb=> ?_
  ·refine(I.af b u q).dA (fun c ob bG q'=>k c ob ?_ q') (fun _ q'=>q') fun _ _ q'=>q'
   rcases bG with z' |z'
   ·rw[z'];exact bW b u q
   ·exact bW c _ z'
  ·have e:b=it:=by simpa using hb
   subst e
   obtain⟨f0,f1,f2,f3,f4,f5⟩:=hf b (by simp)
   exact⟨f3,f1,f4,f5⟩
 self:=fun A i s Q E ⟨ok,ov,st⟩ h=>BQ st h
section
variable {X:Cx}{elts:List Expr}{kk:Nat}{tp:Pos}
theorem UH {A:Around}{E:Value→Shared→Prop}{s:Shared}{d:Addr}{Q:Value→Shared→Prop}(ty:s.TypeIs (.ref d) "dict") (sm:(d==sysModules)=false) (q:Q (.ref s.heap.objs.size) {s with heap:=s.heap.push {cls:=.type "dict_items",data:=.fields #[.ref d]} }):wpAny (model X.prog X.w) A (call (.builtin "dict.items") [.ref d]) Q E s:=by
 refine wpAny_call_entry F.slot_dict_items ty F.entry_dict_items ?_ (F.args_dict_items_1 _)
 unfold Builtin.«dict.items» Builtin.Dict.noArgs
 refine wpAny_bind (wpAny_bind (wpAny_notOrdered_dict ty ?_))
 show wpAny _ _ (pure d) _ _ s
 refine wpAny_pure ?_
 show wpAny _ _ (Builtin.Dict.showsAll d >>=_) _ _ s
 unfold Builtin.Dict.showsAll
 rw[if_neg (by rw[sm];exact Bool.false_ne_true)]
 exact wpAny_bind (wpAny_pure (wpAny_bind (wpAny_newObj_type (wpAny_pure ⟨_,rfl,q⟩))))
theorem Ef {A:Around}{E:Value→Shared→Prop}{s:Shared}{v d:Addr}{o:Obj}{es:Array DictEntry}{ep:Nat}{Q:Value→Shared→Prop}(gv:s.heap.IsItemsView v d) (g:s.heap.get? d=some o) (gd:o.data=.dict es ep) (hs:es.size≤sizeLine)
  (q:Q (.ref s.heap.objs.size) {s with heap:=s.heap.push {cls:=.type "dict_itemiterator",data:=.fields #[.none,.bool false,.ref d,.int 0 0,.int es.size 0,.int ep 0,.none,.none]} }):wpAny (model X.prog X.w) A (pyIter (.ref v)) Q E s:=by
 obtain⟨ov,pT,Ap,qb⟩:=id gv
 refine wpAny_pyIter_slot gv.typeIs F.slot_dict_items_iter (wpAny_call_entry F.slot_dict_items_iter gv.typeIs F.entry_dict_items_iter ?_ (F.args_dict_items_iter_1 _))
 unfold Builtin.«dict_items.__iter__»
 refine wpAny_bind (wpAny_pure (wpAny_bind ?_))
 unfold Builtin.Dict_items.dictOf
 refine wpAny_bind (wpAny_field pT qb (x:=.ref d) rfl (wpAny_pure (wpAny_bind ?_)))
 unfold Builtin.Dict_items.newIterator
 refine wpAny_bind (wpAny_dictEntries g gd (wpAny_bind (wpAny_dictEpoch g gd ?_)))
 have own:Builtin.Dict_items.ownsTuple "dict_itemiterator" =true:=by decide
 simp only[own,if_true]
 refine wpAny_newObj_type (wpAny_pure ⟨_,rfl, "dict_itemiterator",_,⟨_,Heap.get?_push_size _ rfl,rfl⟩,F.slot_dict_itemiterator_next.lookup,?_⟩)
  (by simp only[sizeOk,Builtin.Dict_items.ownedTupleFields,List.size_toArray,List.length_append,List.length_cons,List.length_nil,sizeLine_eq];omega)
 simpa[rawInt,Builtin.Dict_items.ownedTupleFields] using q
def ze (to:TE):TI:=fun σ H R=>to σ H fun x H1=> ∃(d:Addr) (kvs:List (List Key×V)),x=.ref d∧H1 d=some (.dT kvs)∧∀o,R (qM o d kvs) (upd H1 d (.aZ o (.dT kvs)))
theorem De {o:Expr}{to:TE}{apos bI:Pos}(ho:PE X o to) (kY:attributeBase o "items" X.env (eval o X.env)=eval o X.env:=by rfl) (kQ:(apos.endLine==bI.line)=true:=by rfl):
  PI X (.Tuple elts kk tp) (.Call (.Attribute o "items" apos) [] [] bI) (ze to):=by
 intro pins s σ H R I h
 refine wpAny_Call_method0_late kY kQ (ao (ho pins s σ H _ I h) fun v s1 ⟨x,H1,I1,r1,d,kvs,ex,hd,q⟩=> ?_)
 subst ex
 cases r1
 obtain⟨z,sm,xs,pr,od,es,ep,g1,g2,g3,g4,g5⟩:=(show aI X.prog X.w H1 s1.heap d (.dT kvs) from I1.af d _ hd)
 have ty:s1.TypeIs (.ref d) "dict" :=⟨_,g1,g2.1⟩
 refine⟨"dict", "dict.items",PySem.F.plainAttrs_dict,PySem.F.slot_dict_items,PySem.F.type_dict_items,ty,fun a e=>by cases e;exact⟨_,g1,g2.2.1⟩,Calls.callWith_builtin rfl (PySem.evalArgs_none ?_)⟩
 refine UH ty sm ?_
 have gn:es.size=kvs.length:=by rw[Paired.length pr,←Array.length_toList,g4,List.length_map]
 have I2:Inv X pins σ H1 {s1 with heap:=s1.heap.push {cls:=.type "dict_items",data:=.fields #[.ref d]} } :=I1.kept (t':=s1.toks) fun b o q=>Heap.get?_push_of_some _ q
 have gv:(s1.heap.push {cls:=.type "dict_items",data:=.fields #[.ref d]}).IsItemsView s1.heap.objs.size d:=⟨_,Heap.get?_push_size _ rfl,rfl,rfl⟩
 have mI:(s1.heap.push {cls:=.type "dict_items",data:=.fields #[.ref d]}).get? d=some od:=Heap.get?_push_of_some _ g1
 generalize s1.heap.push {cls:=.type "dict_items",data:=.fields #[.ref d]} =h2 at I2 gv mI
 refine Ef (s:= {s1 with heap:=h2}) gv mI g3 (by omega) ?_
 have I3:Inv X pins σ H1 {s1 with heap:=h2.push {cls:=.type "dict_itemiterator",data:=.fields #[.none,.bool false,.ref d,.int 0 0,.int es.size 0,.int ep 0,.none,.none]} } :=I2.kept (t':=s1.toks) fun b o q=>Heap.get?_push_of_some _ q
 have A0:(h2.push {cls:=.type "dict_itemiterator",data:=.fields #[.none,.bool false,.ref d,.int 0 0,.int es.size 0,.int ep 0,.none,.none]}).get? d=some od:=Heap.get?_push_of_some _ mI
 have nd:h2.objs.size≠d:=Nat.ne_of_gt (Heap.lt_size mI)
 refine⟨h2.objs.size,[h2.objs.size],_,_,_,rfl,I3.freeze hd A0,Us h2.objs.size d kvs g3 gn nd,⟨.none,.none,?_⟩,fun b hb=> ?_,q od⟩
 ·show(h2.push _).get? h2.objs.size=_
  rw[gn]
  exact Heap.get?_push_size _ rfl
 ·have e:b=h2.objs.size:=by simpa using hb
  subst e
  have nn:H1 h2.objs.size=none:=I2.af.fresh (Nat.le_refl _)
  exact I2.ja (Nat.le_refl _) (by rw[Zf nd];exact nn)
end
theorem UC {o:Obj}{d:Addr}{kvs:List (List Key×V)}{g:TG}{tt:TT}{ti:TC}{ys:List V}{σ:St}{H:Hp}{Q:List V→St→Hp→Prop}(Pv:Nat→List V→St→Hp→Prop) (h0:Pv 0 ys σ H)
  (hl:∀i ys σ H,Pv i ys σ H→H d=some (.aZ o (.dT kvs)))
  (hs:∀i k y (T a:Addr) ys σ H,kvs[i]? =some (k,y)→H T=none→H a=some (.tup (k.map kV))→Pv i ys σ H→g (.ref T) σ (upd H T (.par [.ref a,y])) fun aR H2=>tt aR H2 fun b H3=>if b=true then ti ys aR H3 (Pv (i+1)) else Pv (i+1) ys aR H3)
  (hd:∀ys σ H,Pv kvs.length ys σ H→Q ys σ H):fQ g tt ti (qM o d kvs) ys σ H Q:=by
 refine⟨fun i m ys σ H=>m=kvs.length - i∧i≤kvs.length∧Pv i ys σ H,⟨kvs.length,by simp,Nat.zero_le _,h0⟩,?_⟩
 rintro i m ys σ H ⟨rfl,hi,p⟩
 have e:=hl i ys σ H p
 by_cases aK:i<kvs.length
 ·refine .inr ⟨⟨e,aK⟩,Pv (i+1),fun aU ah H' p'=> ⟨kvs.length - (i+1),by omega,rfl,aK,p'⟩,fun x H' y=> ?_⟩
  obtain⟨T,a,k,v,e1,e2,e3,e4,e5⟩:=y
  subst e1 e5
  exact hs i k v T a ys σ H e3 e2 e4 p
 ·have e':i=kvs.length:=by omega
  subst e'
  exact .inl ⟨⟨e,Nat.le_refl _⟩,hd ys σ H p⟩
end L2
namespace PyProof.Rows.dW
open PySem
section
variable {prog:Program}{w:World}{A:Around}{R:Result→Shared→Prop}{lt:Value→Value→Bool}{vs:List Value}{h0:Heap}{kw:List (Str×Value)}
theorem Ek (hh:A.in1.handled=none) {I l S:Addr}(gL:l≠I) (dw:S≠I) (gP:S≠l) (zI:h0.get? I=none) (zS:h0.get? S=none)
  (i7:∀(s':Shared) u v (Q:Value→Shared→Prop) (E:Value→Shared→Prop),Kp h0 s'.heap→u∈vs→v∈vs→Q (.bool (lt u v)) s'→wpAny (model prog w) A.in1 (richCompare .Gt u v) Q E s'):
  ∀(k j:Nat) (s:Shared) (vb:Value) (c:Nat),vs.length - j=k→j≤vs.length→s.heap.IsListIter I l j→s.heap.IsList l vs.toArray→vb∈vs→Kp h0 s.heap→
  s.heap.get? S=some {cls:=.type "list",dict:=none,data:=.seq #[vb,vb] c,slots:= #[]}→
  (∀h' tk,Kp h0 h'→R (.ok (.ret (cH lt vb (vs.drop j)))) {s with heap:=h',toks:=tk})→
  codeAny (model prog w) A (.builtin "max.loop" ⟨[.ref I,.none,.ref S],kw⟩) R s:=by
 have fw:(toString "max" ++toString ".loop" :String)= "max.loop" :=by decide
 have W:=Walks.list (prog:=prog) (w:=w) (A:=A.in1) hh I l gL vs.toArray
 have hsz:vs.toArray.size=vs.length:=List.size_toArray ..
 have ne:∀b o,h0.get? b=some o→b∉[I]∧b≠S:=fun b o e=> ⟨fun m=> (by rw[List.mem_singleton.mp m,zI]at e;cases e),fun m=> (by rw[m,zS]at e;cases e)⟩
 intro k
 induction k with
 |zero=>
  intro j s vb c hk hj hit iZ hb i0 hS hR
  have p5:j=vs.toArray.size:=by omega
  refine codeAny_builtin F.entry_max_loop ?_
  rw[Around.under_plainId F.plain_max_loop _]
  show wpAny _ A.in1 (seqItems? (.ref S) >>=_) _ _ s
  refine wpAny_bind (wpAny_seqItems hS rfl ?_)
  show wpAny _ A.in1 (tryCatch (pyNext (.ref I)) _ >>=_) _ _ s
  refine wpAny_bind (wpAny_tryCatch (W.done s _ _ (p5▸⟨hit,iZ⟩) fun h' tk bo=> ?_))
  have fH:=bo S _ (by simpa using dw) hS
  show wpAny _ A.in1 (updateSeq S (fun _=> #[]) >>=_) _ _ _
  refine wpAny_bind ?_
  refine wpAny_updateSeq fH rfl (wpAny_bind (wpAny_letGo (wpAny_pure ?_)))
  have e:vs.drop j=[]:=List.drop_eq_nil_of_le (by omega)
  rw[e]at hR
  exact hR _ tk fun b o q=> (Heap.get?_update_other _ _ (Ne.symm (ne b o q).2)).trans (bo b o (ne b o q).1 (i0 b o q))
 |succ k ih=>
  intro j s vb c hk hj hit iZ hb i0 hS hR
  have aK:j<vs.length:=by omega
  refine codeAny_builtin F.entry_max_loop ?_
  rw[Around.under_plainId F.plain_max_loop _]
  show wpAny _ A.in1 (seqItems? (.ref S) >>=_) _ _ s
  refine wpAny_bind (wpAny_seqItems hS rfl ?_)
  show wpAny _ A.in1 (tryCatch (pyNext (.ref I)) _ >>=_) _ _ s
  refine wpAny_bind (wpAny_tryCatch (W.item j s _ _ (by omega) ⟨hit,iZ⟩ fun v h' tk hP fo bo=> ?_))
  have hv:vs[j]? =some v:=by simpa using hP
  have kF:v∈vs:=List.mem_of_getElem? hv
  have fH:=bo S _ (by simpa using dw) hS
  have ff:Kp h0 h':=fun b o q=>bo b o (ne b o q).1 (i0 b o q)
  have ed:vs.drop j=v::vs.drop (j+1):=by
   have e2:vs[j]=v:=(List.getElem?_eq_some_iff.mp hv).2
   rw[List.drop_eq_getElem_cons aK,e2]
  rw[ed]at hR
  show wpAny _ A.in1 (tryCatch (holding [v,v] (richCompare .Gt v vb >>=_)) _ >>=_) _ _ _
  refine wpAny_bind (wpAny_tryCatch (wpAny_holding (wpAny_bind (i7 _ v vb _ _ ff kF hb ?_))))
  refine wpAny_bind (wpAny_holding (wpAny_truthy_bool ?_))
  refine wpAny_bind (wpAny_letGo (wpAny_pure ?_))
  cases cG:lt v vb with
  |true=>
   simp only[if_true]
   refine wpAny_bind ?_
   refine wpAny_updateSeq fH rfl (wpAny_bind (wpAny_letGo ?_))
   rw[fw]
   have fr:=W.frame (j+1) _ (h'.update S (Obj.mapSeq fun _=> #[v,v])) fo fun b fG o e=> (Heap.get?_update_other _ _ (fun h:S=b=>by
    simp only[List.mem_cons,List.not_mem_nil,or_false]at fG
    rcases fG with q |q
    ·exact dw (h.trans q)
    ·exact gP (h.trans q))).trans e
   refine wpAny_pure ⟨plainId_quiet F.plain_max_loop _,ih (j+1) _ v _ (by omega) aK fr.1 fr.2 kF (fun b o q=> (Heap.get?_update_other _ _ (Ne.symm (ne b o q).2)).trans (ff b o q)) (Heap.get?_update_self _ fH rfl) fun bH eS cY=> ?_⟩
   have z:=hR bH eS cY
   unfold cH at z
   rw[if_pos cG]at z
   exact z
  |false=>
   simp only[Bool.false_eq_true,if_false]
   refine wpAny_bind (wpAny_letGo ?_)
   rw[fw]
   refine wpAny_pure ⟨plainId_quiet F.plain_max_loop _,ih (j+1) _ vb c (by omega) aK fo.1 fo.2 hb ff fH fun bH eS cY=> ?_⟩
   have z:=hR bH eS cY
   unfold cH at z
   rw[if_neg (by rw[cG];exact Bool.false_ne_true)]at z
   exact z
theorem Y8 (a v:Value):argsOk "max" ⟨[a],[(Str.ofString "default",v)]⟩:=by unfold argsOk;kernel_rfl
theorem D7 {dv:Value}{E:Value→Shared→Prop}{s:Shared}{Q:Value→Shared→Prop}{l:Addr}(hh:A.in1.handled=none) (f9:s.heap.IsList l vs.toArray)
  (i7:∀(s':Shared) u v (Q:Value→Shared→Prop) (E:Value→Shared→Prop),Kp s.heap s'.heap→u∈vs→v∈vs→Q (.bool (lt u v)) s'→wpAny (model prog w) A.in1 (richCompare .Gt u v) Q E s')
  (h1:∀h' tk,vs=[]→Kp s.heap h'→Q dv {s with heap:=h',toks:=tk}) (h2:∀v r h' tk,vs=v::r→Kp s.heap h'→Q (cH lt v r) {s with heap:=h',toks:=tk}):
  wpAny (model prog w) A (call (.builtin "max") [.ref l] [(Str.ofString "default",dv)]) Q E s:=by
 have fw:(toString "max" ++toString ".loop" :String)= "max.loop" :=by decide
 obtain⟨ol,pU,_⟩:=id f9
 have kP:l<s.heap.objs.size:=Heap.lt_size pU
 refine kmk_tree PySem.F.kind_max PySem.F.plain_max PySem.F.entry_max (Y8 _ _) ?_
 show wpAny _ A.in1 (Builtin.Builtins.bindParams "max" ["key", "default"] 0 ⟨[],[(Str.ofString "default",dv)]⟩ >>=_) _ _ s
 refine wpAny_bind (wpAny_of_eq (show Builtin.Builtins.bindParams "max" ["key", "default"] 0 ⟨[],[(Str.ofString "default",dv)]⟩=pure [none,some dv] from rfl) ?_)
 refine wpAny_bind (wpAny_pure ?_)
 refine wpAny_bind (wpAny_pyIter_list f9 ?_)
 refine wpAny_bind (wpAny_newList ?_ (Nat.zero_le _))
 rw[fw]
 have hS:(s.heap.push {cls:=.type "list_iterator",data:=.fields #[.ref l,.int 0 0]}).objs.size=s.heap.objs.size+1:=size_push' ..
 have gL:l≠s.heap.objs.size:=Nat.ne_of_lt kP
 have dw:(s.heap.push {cls:=.type "list_iterator",data:=.fields #[.ref l,.int 0 0]}).objs.size≠s.heap.objs.size:=by rw[hS];exact Nat.ne_of_gt (Nat.lt_succ_self _)
 have gP:(s.heap.push {cls:=.type "list_iterator",data:=.fields #[.ref l,.int 0 0]}).objs.size≠l:=by rw[hS];exact Nat.ne_of_gt (Nat.lt_succ_of_lt kP)
 have zI:s.heap.get? s.heap.objs.size=none:=Heap.get?_none_of_le (Nat.le_refl _)
 have zS:s.heap.get? (s.heap.push {cls:=.type "list_iterator",data:=.fields #[.ref l,.int 0 0]}).objs.size=none:=Heap.get?_none_of_le (by rw[hS];exact Nat.le_succ _)
 refine wpAny_pure ⟨plainId_quiet PySem.F.plain_max_loop _,?_⟩
 have iL:Kp s.heap ((s.heap.push {cls:=.type "list_iterator",data:=.fields #[.ref l,.int 0 0]}).push (seqObj "list" #[] 0)):=fun b o e=>Heap.get?_push_of_some _ (Heap.get?_push_of_some _ e)
 have gI:((s.heap.push {cls:=.type "list_iterator",data:=.fields #[.ref l,.int 0 0]}).push (seqObj "list" #[] 0)).get? s.heap.objs.size=some {cls:=.type "list_iterator",data:=.fields #[.ref l,.int 0 0]} :=
  Heap.get?_push_of_some _ (Heap.get?_push_size _ rfl)
 have gS:((s.heap.push {cls:=.type "list_iterator",data:=.fields #[.ref l,.int 0 0]}).push (seqObj "list" #[] 0)).get? (s.heap.push {cls:=.type "list_iterator",data:=.fields #[.ref l,.int 0 0]}).objs.size=some (seqObj "list" #[] 0):=Heap.get?_push_size _ rfl
 have lH:((s.heap.push {cls:=.type "list_iterator",data:=.fields #[.ref l,.int 0 0]}).push (seqObj "list" #[] 0)).IsList l vs.toArray:=f9.at fun o e=>iL _ _ e
 have W:=Walks.list (prog:=prog) (w:=w) (A:=A.in1) hh s.heap.objs.size l gL vs.toArray
 have hsz:vs.toArray.size=vs.length:=List.size_toArray ..
 have ne:∀b o,s.heap.get? b=some o→b∉[s.heap.objs.size]∧b≠(s.heap.push {cls:=.type "list_iterator",data:=.fields #[.ref l,.int 0 0]}).objs.size:=fun b o e=> ⟨fun m=> (by rw[List.mem_singleton.mp m,zI]at e;cases e),fun m=> (by rw[m,zS]at e;cases e)⟩
 refine codeAny_builtin PySem.F.entry_max_loop ?_
 rw[Around.under_plainId PySem.F.plain_max_loop _]
 show wpAny _ A.in1 (seqItems? (.ref _) >>=_) _ _ _
 refine wpAny_bind (wpAny_seqItems gS rfl ?_)
 show wpAny _ A.in1 (tryCatch (pyNext (.ref s.heap.objs.size)) _ >>=_) _ _ _
 cases cW:vs with
 |nil=>
  refine wpAny_bind (wpAny_tryCatch (W.done _ _ _ ⟨⟨_,gI,rfl,by rw[hsz,cW];rfl⟩,lH⟩ fun h' tk bo=> ?_))
  refine wpAny_bind (wpAny_rule ?_)
  exact wpAny_pure (h1 h' tk cW fun b o q=>bo b o (ne b o q).1 (iL b o q))
 |cons v0 r0=>
  refine wpAny_bind (wpAny_tryCatch (W.item 0 _ _ _ (by rw[hsz,cW];exact Nat.succ_pos _) ⟨⟨_,gI,rfl,rfl⟩,lH⟩ fun v h' wB hP fo bo=> ?_))
  have hv:v0=v:=by
   rw[cW]at hP
   simpa using hP
  subst hv
  have k7:=bo _ _ (by simpa using dw) gS
  have ff:Kp s.heap h':=fun b o q=>bo b o (ne b o q).1 (iL b o q)
  show wpAny _ A.in1 (updateSeq (s.heap.push {cls:=.type "list_iterator",data:=.fields #[.ref l,.int 0 0]}).objs.size (fun _=> #[v0,v0]) >>=_) _ _ _
  refine wpAny_bind ?_
  refine wpAny_updateSeq k7 rfl ?_
  rw[fw]
  have fr:=W.frame (0+1) _ (h'.update (s.heap.push {cls:=.type "list_iterator",data:=.fields #[.ref l,.int 0 0]}).objs.size (Obj.mapSeq fun _=> #[v0,v0])) fo fun b fG o e=> (Heap.get?_update_other _ _ (fun h=>by
    simp only[List.mem_cons,List.not_mem_nil,or_false]at fG
    rcases fG with q |q
    ·exact dw (h.trans q)
    ·exact gP (h.trans q))).trans e
  refine wpAny_pure ⟨plainId_quiet PySem.F.plain_max_loop _,Ek (lt:=lt) (vs:=vs) (h0:=s.heap) hh gL dw gP zI zS i7 _ 1 _ v0 _ rfl (by rw[cW];exact Nat.succ_le_succ (Nat.zero_le _)) fr.1 fr.2 (by rw[cW];exact List.mem_cons_self) (fun b o q=> (Heap.get?_update_other _ _ (Ne.symm (ne b o q).2)).trans (ff b o q)) (Heap.get?_update_self _ k7 rfl) fun bH eS cY=> ?_⟩
  have z:=h2 v0 r0 bH eS cW cY
  rw[cW]
  exact z
end
end PyProof.Rows.dW
namespace L2
open PySem PySem.Spec PyProof.Rows PyProof.Rows.dW
section
variable {prog:Program}{w:World}{A:Around}{E:Value→Shared→Prop}{s:Shared}{it d:Addr}{i n ep:Nat}{od:Obj}{es:Array DictEntry}
theorem DG {en:DictEntry}{Q:Option Value→Shared→Prop}(hit:s.heap.IsValIter it d i n ep) (go:s.heap.get? d=some od) (gd:od.data=.dict es ep) (gn:es.size=n) (gx:es[i]? =some en)
  (hQ:∀h',h'.IsValIter it d (i+1) n ep→Heap.SameBut it s.heap h'→Q (some en.val) {s with heap:=h'}):wpAny (model prog w) A (pyNext (.ref it)) Q E s:=by
 obtain⟨o,ho,hc,hd⟩:=id hit
 unfold pyNext
 refine wpAny_bind (wpAny_attempt (wpAny_callSpecial?_slot (name:=Str.ofString "__next__") hit.typeIs F.slot_dict_valueiterator_next (wpAny_call_entry F.slot_dict_valueiterator_next hit.typeIs F.entry_dict_valueiterator_next ?_ (F.args_dict_valueiterator_next_1 _))))
 refine wpAny_bind (wpAny_pure (wpAny_bind (wpAny_bind ?_)))
 first |refine wpAny_bind (wpAny_typeNameOfWhole_valiter hit.typeIs (wpAny_pure ?_)) |refine wpAny_bind (wpAny_typeNameOf_valiter hit.typeIs (wpAny_pure ?_))
 refine wpAny_bind (wpAny_fieldsOf ho hd ?_)
 have kL:Builtin.Dict_items.ownsTuple "dict_valueiterator" =false:=by decide
 simp only[kL,Bool.false_eq_true,if_false]
 show wpAny _ _ (if (Value.ref d==Value.none)=true then _ else _) _ _ s
 rw[if_neg (show ¬((Value.ref d==Value.none)=true) from Bool.false_ne_true)]
 refine wpAny_bind (wpAny_pure (wpAny_bind (wpAny_dictEntries go gd ?_)))
 rw[if_neg (by rw[gn];simp)]
 refine wpAny_bind (wpAny_pure (wpAny_bind (wpAny_dictEpoch go gd ?_)))
 rw[if_neg (by simp)]
 refine wpAny_pure ?_
 simp only[show ¬((i:Int)<0) from by omega,if_false,Int.toNat_natCast,gx]
 refine wpAny_bind ?_
 first |refine wpAny_bind (wpAny_typeNameOfWhole_valiter hit.typeIs (wpAny_pure ?_)) |refine wpAny_bind (wpAny_typeNameOf_valiter hit.typeIs (wpAny_pure ?_))
 refine wpAny_bind (wpAny_isOneOf_valiter hit.typeIs ?_)
 show wpAny _ _ (setField (.ref it) 1 (rawInt ((i:Int)+1)) >>=_) _ _ s
 refine wpAny_bind (wpAny_setField ho hd (by simp) ?_)
 have kT:(s.heap.update it (Obj.mapFields (·.setIfInBounds 1 (rawInt ((i:Int)+1))))).IsValIter it d (i+1) n ep:=
  ⟨_,Heap.get?_update_self _ ho (Obj.isFreed_of_fields (Obj.data_mapFields hd _)),(Obj.cls_mapFields ..).trans hc,by rw[Obj.data_mapFields hd];simp[rawInt]⟩
 refine wpAny_bind (wpAny_holding ?_)
 refine wpAny_bind (wpAny_isOneOf_valiter (s:= {s with heap:=s.heap.update it (Obj.mapFields (·.setIfInBounds 1 (rawInt ((i:Int)+1))))}) kT.typeIs ?_)
 refine wpAny_bind (wpAny_isOneOf_valiter (s:= {s with heap:=s.heap.update it (Obj.mapFields (·.setIfInBounds 1 (rawInt ((i:Int)+1))))}) kT.typeIs ?_)
 show wpAny _ _ (pure en.val) _ _ _
 exact wpAny_pure (wpAny_pure ⟨_,rfl,wpAny_pure (hQ _ kT (Heap.SameBut.update ..))⟩)
theorem Uz {Q:Option Value→Shared→Prop}(hh:A.handled=none) (hit:s.heap.IsValIter it d i n ep) (go:s.heap.get? d=some od) (gd:od.data=.dict es ep) (gn:es.size=n) (bq:n≤i)
  (hQ:∀h',Heap.ExtBut it s.heap h'→Q none {s with heap:=h'}):wpAny (model prog w) A (pyNext (.ref it)) Q E s:=by
 obtain⟨o,ho,hc,hd⟩:=id hit
 unfold pyNext
 refine wpAny_bind (wpAny_attempt (wpAny_callSpecial?_slot (name:=Str.ofString "__next__") hit.typeIs F.slot_dict_valueiterator_next (wpAny_call_entry F.slot_dict_valueiterator_next hit.typeIs F.entry_dict_valueiterator_next ?_ (F.args_dict_valueiterator_next_1 _))))
 refine wpAny_bind (wpAny_pure (wpAny_bind (wpAny_bind ?_)))
 first |refine wpAny_bind (wpAny_typeNameOfWhole_valiter hit.typeIs (wpAny_pure ?_)) |refine wpAny_bind (wpAny_typeNameOf_valiter hit.typeIs (wpAny_pure ?_))
 refine wpAny_bind (wpAny_fieldsOf ho hd ?_)
 have kL:Builtin.Dict_items.ownsTuple "dict_valueiterator" =false:=by decide
 simp only[kL,Bool.false_eq_true,if_false]
 show wpAny _ _ (if (Value.ref d==Value.none)=true then _ else _) _ _ s
 rw[if_neg (show ¬((Value.ref d==Value.none)=true) from Bool.false_ne_true)]
 refine wpAny_bind (wpAny_pure (wpAny_bind (wpAny_dictEntries go gd ?_)))
 rw[if_neg (by rw[gn];simp)]
 refine wpAny_bind (wpAny_pure (wpAny_bind (wpAny_dictEpoch go gd ?_)))
 rw[if_neg (by simp)]
 refine wpAny_pure ?_
 simp only[show ¬((i:Int)<0) from by omega,if_false,Int.toNat_natCast,Array.getElem?_eq_none (show es.size≤i by omega)]
 refine wpAny_bind ?_
 first |refine wpAny_bind (wpAny_typeNameOfWhole_valiter hit.typeIs (wpAny_pure ?_)) |refine wpAny_bind (wpAny_typeNameOf_valiter hit.typeIs (wpAny_pure ?_))
 show wpAny _ _ (setField (.ref it) 0 .none >>=_) _ _ s
 refine wpAny_bind (wpAny_setField ho hd (by simp) ?_)
 show wpAny _ _ (newExc (.type "StopIteration") [] >>=_) _ _ _
 refine wpAny_bind ?_
 simp only[newExc,newTuple]
 refine wpAny_bind (wpAny_newObj_type ?_ (by size_fits))
 refine wpAny_bind (m:=firstArgMember _ _) (wpAny_of_eq (a:=Value.none) (by first |rfl |(simp only[firstArgMember];rfl)) ?_)
 refine wpAny_newObj_type ?_ (by size_fits)
 simp only[raiseNew]
 refine wpAny_bind (wpAny_handled ?_)
 rw[show A.in1.handled=none from hh]
 refine wpAny_bind (wpAny_pure (wpAny_throw ?_))
 refine wpAny_bind (wpAny_isInstance (T:= "StopIteration") (b:=true) ⟨_,Heap.get?_push_size _ rfl,rfl⟩ isSubtype_stop ?_)
 exact wpAny_pure (hQ _ (((Heap.SameBut.update ..).extBut.push _).push _))
theorem UG {v:Addr}{Q:Value→Shared→Prop}(gv:s.heap.IsValuesView v d) (g:s.heap.get? d=some od) (gd:od.data=.dict es ep)
  (q:Q (.ref s.heap.objs.size) {s with heap:=s.heap.push {cls:=.type "dict_valueiterator",data:=.fields #[.ref d,.int 0 0,.int es.size 0,.int ep 0]} }):wpAny (model prog w) A (pyIter (.ref v)) Q E s:=by
 obtain⟨ov,pT,Ap,qb⟩:=id gv
 refine wpAny_pyIter_slot gv.typeIs F.slot_dict_values_iter (wpAny_call_entry F.slot_dict_values_iter gv.typeIs F.entry_dict_values_iter ?_ (F.args_dict_values_iter_1 _))
 unfold Builtin.«dict_values.__iter__»
 refine wpAny_bind (wpAny_pure (wpAny_bind ?_))
 unfold Builtin.Dict_items.dictOf
 refine wpAny_bind (wpAny_field pT qb (x:=.ref d) rfl (wpAny_pure (wpAny_bind ?_)))
 unfold Builtin.Dict_items.newIterator
 refine wpAny_bind (wpAny_dictEntries g gd (wpAny_bind (wpAny_dictEpoch g gd ?_)))
 have kL:Builtin.Dict_items.ownsTuple "dict_valueiterator" =false:=by decide
 simp only[kL,Bool.false_eq_true,if_false]
 refine wpAny_newObj_type (wpAny_pure ⟨_,rfl, "dict_valueiterator",_,⟨_,Heap.get?_push_size _ rfl,rfl⟩,F.slot_dict_valueiterator_next.lookup,?_⟩)
 simpa[rawInt] using q
theorem Up (hh:A.handled=none) (I d:Addr) (cj:d≠I) (gd:od.data=.dict es ep):
  Walks prog w A I [I,d] [I] es.size (fun i v=> ∃en,es[i]? =some en∧en.val=v) (fun i h=>h.IsValIter I d i es.size ep∧h.get? d=some od) where
 sub:=fun b hb=>by simp at hb;simp[hb]
 frame:=fun _ _ _ st hk=> ⟨st.1.at fun o e=>hk I (by simp) o e,hk d (by simp) _ st.2⟩
 item:=fun i s Q E hi st hQ=>by
  refine DG st.1 st.2 gd rfl (Array.getElem?_eq_getElem hi) fun h' kT tQ=> ?_
  exact hQ _ h' s.toks ⟨_,Array.getElem?_eq_getElem hi,rfl⟩ ⟨kT,tQ.extBut d _ cj st.2⟩ fun b o hb e=>tQ.extBut b o (fun h=>hb (by simp[h])) e
 done:=fun s Q E st hQ=>Uz hh st.1 st.2 gd rfl (Nat.le_refl _) fun h' qa=>hQ h' s.toks fun b o hb e=>qa b o (fun h=>hb (by simp[h])) e
 self:=fun _ _ _ _ st hQ=>wpAny_pyIter_valiter st.1 hQ
theorem D4 {r:Addr}(gd:od.data=.dict es ep):PySem.W.KdlSrc prog w "dict_values" r d es.size (fun i v=> ∃en,es[i]? =some en∧en.val=v) (fun h=>h.IsValuesView r d∧h.get? d=some od) where
 type:=fun _ hm=>hm.1.typeIs
 there:=fun _ hm=> ⟨let ⟨_,ho,_⟩:=hm.1;Heap.lt_size ho,Heap.lt_size hm.2⟩
 keep:=fun _ _ hm hk=> ⟨let ⟨o,ho,x⟩:=hm.1;⟨o,hk r (.inl rfl) o ho,x⟩,hk d (.inr rfl) _ hm.2⟩
 notList:=by decide
 notTuple:=by decide
 hint:=fun _ _ _ _ hm hq=>PySem.W.kdl_hint_values hm.1.typeIs hq
 iter:=fun _ _ hh hm=> ⟨_,_,(fun _ _ hq=>UG hm.1 hm.2 gd hq),Up hh _ d (Nat.ne_of_lt (Heap.lt_size hm.2)) gd,⟨⟨_,Heap.get?_push_size _ rfl,rfl,rfl⟩,Heap.get?_push_of_some _ hm.2⟩⟩
theorem WR {Q:Value→Shared→Prop}(ty:s.TypeIs (.ref d) "dict") (sm:(d==sysModules)=false) (q:Q (.ref s.heap.objs.size) {s with heap:=s.heap.push {cls:=.type "dict_values",data:=.fields #[.ref d]} }):wpAny (model prog w) A (call (.builtin "dict.values") [.ref d]) Q E s:=by
 refine wpAny_call_entry F.slot_dict_values ty F.entry_dict_values ?_ (F.args_dict_values_1 _)
 refine wpAny_bind ?_
 unfold Builtin.Dict.noArgs
 refine wpAny_bind (wpAny_notOrdered_dict ty ?_)
 show wpAny _ _ (pure d) _ _ s
 refine wpAny_pure ?_
 show wpAny _ _ (Builtin.Dict.showsAll d >>=_) _ _ s
 unfold Builtin.Dict.showsAll
 rw[if_neg (by rw[sm];exact Bool.false_ne_true)]
 exact wpAny_bind (wpAny_pure (wpAny_bind (wpAny_newObj_type (wpAny_pure ⟨_,rfl,q⟩))))
end
theorem Ju {α β:Type}{R:α→β→Prop} :∀{xs:List α}{ys:List β},xs.length=ys.length→(∀(j:Nat) x y,xs[j]? =some x→ys[j]? =some y→R x y)→Paired R xs ys
 | [],[],_,_=> .nil
 |x::xs,y::ys,hl,h=> .cons (h 0 x y rfl rfl) (Ju (by simpa using hl) fun j a b ha hb=>h (j+1) a b ha hb)
section
variable {X:Cx}
def hU (v d:Addr):HO:=.ext fun h=>h.IsValuesView v d
def wG (to:TE):TE:=fun σ H Q=>to σ H fun x H1=> ∃(d:Addr) (kvs:List (List Key×V)),x=.ref d∧H1 d=some (.dT kvs)∧∀v,H1 v=none→Q (.ref v) (upd H1 v (hU v d))
theorem DM {o:Expr}{to:TE}{apos bI:Pos}(ho:PE X o to) (kY:attributeBase o "values" X.env (eval o X.env)=eval o X.env:=by rfl) (kQ:(apos.endLine==bI.line)=true:=by rfl):
  PE X (.Call (.Attribute o "values" apos) [] [] bI) (wG to):=by
 intro pins s σ H Q I h
 refine wpAny_Call_method0_late kY kQ (ao (ho pins s σ H _ I h) fun v s1 ⟨x,H1,I1,r1,d,kvs,ex,hd,q⟩=> ?_)
 subst ex
 cases r1
 obtain⟨z,sm,xs,pr,od,es,ep,g1,g2,g3,g4,g5⟩:=(show aI X.prog X.w H1 s1.heap d (.dT kvs) from I1.af d _ hd)
 have ty:s1.TypeIs (.ref d) "dict" :=⟨_,g1,g2.1⟩
 refine⟨"dict", "dict.values",PySem.F.plainAttrs_dict,PySem.F.slot_dict_values,PySem.F.type_dict_values,ty,fun a e=>by cases e;exact⟨_,g1,g2.2.1⟩,Calls.callWith_builtin rfl (PySem.evalArgs_none ?_)⟩
 refine WR ty sm ?_
 have gv:(s1.heap.push {cls:=.type "dict_values",data:=.fields #[.ref d]}).IsValuesView s1.heap.objs.size d:=⟨_,Heap.get?_push_size _ rfl,rfl,rfl⟩
 refine⟨.ref s1.heap.objs.size,_,I1.laid (t':=s1.toks) (fun b o q=>Heap.get?_push_of_some _ q) (Nat.le_refl _) (show aI X.prog X.w _ _ _ (hU s1.heap.objs.size d) from ⟨gv,⟨_,Heap.get?_push_size _ rfl⟩,fun h1 h2 a k=> ?_⟩),rfl,q _ (I1.af.fresh (Nat.le_refl _))⟩
 obtain⟨o,e1,e2⟩:=a
 exact⟨o,k o e1,e2⟩
theorem JO (hc:X.calm=true:=by rfl):di X (.type "list") (fun xs H Q=> ∃(v d:Addr) (kvs:List (List Key×V)),xs=[.ref v]∧H v=some (hU v d)∧H d=some (.dT kvs)∧∀l,H l=none→Q (.ref l) (upd H l (.lst (kvs.map (·.2))))):=by
 intro pins s σ H xs us Q I r h
 obtain⟨v,d,kvs,rfl,hv,hd,q⟩:=h
 obtain⟨u,rfl,rx⟩:=vals1 r
 cases rx
 obtain⟨z,sm,xs,pr,od,es,ep,g1,g2,g3,g4,g5⟩:=(show aI X.prog X.w H s.heap d (.dT kvs) from I.af d _ hd)
 obtain⟨gv,_,_⟩:=(show aI X.prog X.w H s.heap v (hU v d) from I.af v _ hv)
 have gn:es.size=kvs.length:=by rw[Paired.length pr,←Array.length_toList,g4,List.length_map]
 refine PySem.W.kdl_call (D4 g3) (I.ok.hd hc) ⟨gv,g1⟩ (by omega) fun h' tk mS c' kp e it=> ?_
 have vals:Vals (kvs.map (·.2)) mS.toList:=by
  refine Ju ?_ ?_
  ·have z1:=it.1
   have z2:mS.toList.length=mS.size:=Array.length_toList
   rw[List.length_map];omega
  ·intro j x y hx hy
   rw[List.getElem?_map]at hx
   obtain⟨kv,eJ,rfl⟩:=Option.map_eq_some_iff.mp hx
   obtain⟨q',bK,p1,p2,p3⟩:=Jr pr eJ
   obtain⟨en,he,ev⟩:=it.2 j y (by rw[←Array.getElem?_toList];exact hy)
   have qa:es[j]? =some (entryOfKey (tupleKind (cU X.prog X.w)) q'):=by rw[←Array.getElem?_toList,g4,List.getElem?_map,bK];rfl
   rw[qa]at he
   cases he
   rw[←ev]
   exact p3
 exact⟨.ref s.heap.objs.size,_,I.laid (t':=tk) kp (Nat.le_refl _) (show aI X.prog X.w _ h' _ (.lst (kvs.map (·.2))) from ⟨by rw[List.length_map];exact z,mS.toList,c',vals,by simpa using e⟩),rfl,q _ (I.af.fresh (Nat.le_refl _))⟩
def bU:Value→Int
 | .int a _=>a
 |_=>0
theorem JK:∀{r:List Value}{b:Value},∀v∈b::r,bU v≤bU (cH (fun u v=>decide (bU v<bU u)) b r)
 | [],b,v,h=>by rw[List.mem_singleton.mp h];exact Int.le_refl _
 |x::r,b,v,h=>by
  unfold cH
  have ih:=fun w hw=>JK (r:=r) (b:=if (fun u v=>decide (bU v<bU u)) x b=true then x else b) w hw
  have h0:=ih _ List.mem_cons_self
  have le:bU b≤bU (if (fun u v=>decide (bU v<bU u)) x b=true then x else b)∧bU x≤bU (if (fun u v=>decide (bU v<bU u)) x b=true then x else b):=by
   by_cases z:bU b<bU x
   ·rw[if_pos (by simpa using z)];omega
   ·rw[if_neg (by simpa using z)];omega
  rcases List.mem_cons.mp h with rfl |h
  ·exact Int.le_trans le.1 h0
  ·rcases List.mem_cons.mp h with rfl |h
   ·exact Int.le_trans le.2 h0
   ·exact ih v (List.mem_cons_of_mem _ h)
theorem J5:∀{ns:List Int}{its:List Value},Vals (ns.map V.int) its→(∀u∈its,∃a t,u=.int a t∧a∈ns)∧its.map bU=ns
 | [],its,r=>by cases r;exact⟨(fun u hu=>by cases hu),rfl⟩
 |n::ns,its,r=>by
  cases r with
  |cons r1 r2=>
   obtain⟨t,rfl⟩:=r1
   obtain⟨h1,h2⟩:=J5 r2
   refine⟨fun u hu=> ?_,by rw[List.map_cons,h2];rfl⟩
   rcases List.mem_cons.mp hu with rfl |hu
   ·exact⟨n,t,rfl,List.mem_cons_self⟩
   ·obtain⟨a,t',e,m⟩:=h1 u hu
    exact⟨a,t',e,List.mem_cons_of_mem _ m⟩
def wZ (K:PySem.W.Frag) (d:Int) (te:TE):TE:=fun σ H Q=>te σ H fun v H1=> ∃(a:Addr) (ns:List Int),v=.ref a∧ae K H1 a (ns.map V.int)∧(ns=[]→Q (.int d) H1)∧∀M,M∈ns→(∀a∈ns,a≤M)→Q (.int M) H1
theorem Dx {ef:Expr}{qx:List Expr}{qu:List Keyword}{qw:Pos}{te:TE}{d:Int}{p kp gG pos:Pos}(hc:X.calm=true) (hg:Gl X "max") (hm:X.mg "max" =none) (he:PE X (.Call ef qx qu qw) te)
  (gN:(backToKw pos (keywordEach [⟨some "default",.Constant (.int d) 0 kp,gG⟩] X.env)).filterMap (·.1)=[Str.ofString "default"]:=by rfl):
  PE X (.Call (.Name "max" p) [.Call ef qx qu qw] [⟨some "default",.Constant (.int d) 0 kp,gG⟩] pos) (wZ X.K d te):=by
 intro pins s σ H Q I h
 refine wpAny_Call_Name_kw (Yu I hg hm PyProof.Rows.Boot.«max» ?_ (by decide) (by decide))
 have pa:PA X [.Call ef qx qu qw] (gz te gw):=Za he Zd
 have pk:PK X [⟨some "default",.Constant (.int d) 0 kp,gG⟩] (gz (tC (.int d)) gw):=UY Zi vF
 refine PyProof.Rows.callWith_kw (ao (pa pos pins s σ H (fun us H1=>match us with
  | [v]=> ∃(a:Addr) (ns:List Int),v=.ref a∧ae X.K H1 a (ns.map V.int)∧(ns=[]→Q (.int d) H1)∧∀M,M∈ns→(∀a∈ns,a≤M)→Q (.int M) H1
  |_=>False) I h) fun us s1 ⟨ng,H1,I1,r1,q1⟩=> ?_)
 match ng,q1 with
 | [v],q1=>
  obtain⟨a,ns,rfl,hq,q1,q2⟩:=q1
  refine ao (pk pos pins s1 σ H1 (fun zs H2=>zs=[.int d]∧H2=H1) I1 ⟨rfl,rfl⟩) fun ws s2 ⟨zs,H2,I2,rz,e1,e2⟩=> ?_
  subst e1 e2
  obtain⟨u,rfl,ru⟩:=vals1 r1
  obtain⟨z,rfl,oX⟩:=vals1 rz
  cases ru
  rw[gN]
  show wpAny _ _ (call (.builtin "max") [.ref a] [(Str.ofString "default",z)]) _ _ _
  obtain⟨its,rv,pl,_⟩:=I2.list hq
  obtain⟨hi,uc⟩:=J5 rv
  refine D7 (lt:=fun u v=>decide (bU v<bU u)) (I2.ok.hd hc) pl.isList (fun s' u v Q' E' kp kG pL bK=> ?_) (fun h' tk e kp=> ?_) (fun v0 r h' tk e kp=> ?_)
  ·obtain⟨x,t,rfl,_⟩:=hi u kG
   obtain⟨y,t',rfl,_⟩:=hi v pL
   exact(show wpAny _ _ (compareOp .Gt (.int x t) (.int y t')) Q' E' s' from gt_int bK)
  ·subst e
   cases ns with
   |nil=>exact⟨.int d,H2,I2.kept kp,oX,q1 rfl⟩
   |cons n ns=>cases uc
  ·have kO:=Yv (lt:=fun u v=>decide (bU v<bU u)) (r:=r) (b:=v0)
   have hle:=fun w hw=>JK (r:=r) (b:=v0) w hw
   rw[←e]at kO hle
   generalize cH (fun u v=>decide (bU v<bU u)) v0 r=M at kO hle
   obtain⟨x,t,rfl,hx⟩:=hi _ kO
   refine⟨.int x,H2,I2.kept kp,⟨t,rfl⟩,q2 x hx fun y hy=> ?_⟩
   rw[←uc]at hy
   obtain⟨w,hw,rfl⟩:=List.mem_map.mp hy
   exact hle w hw
end
end L2
namespace U
open PySem L2 PyProof.Rows
def top (i:Nat):Stmt:=PySem.Challenge.pw_unlikesteps_k13_whole_hits.main.body.getD i (.Pass ⟨0,0,0,0⟩)
structure Gs (mg:Str→Option Value):Prop where
 isinstance:mg "isinstance" =none
 int:mg "int" =none
 bool:mg "bool" =none
 tuple:mg "tuple" =none
 list:mg "list" =none
 len:mg "len" =none
 all:mg "all" =none
 set:mg "set" =none
 range:mg "range" =none
 max:mg "max" =none
 min:mg "min" =none
 enumerate:mg "enumerate" =none
 zip:mg "zip" =none
 sorted:mg "sorted" =none
 sum:mg "sum" =none
 longest:∃t,mg "LONGEST_SIDE" =some (.int 12 t)
section
variable {P:Program}{w:World}{K:PySem.W.Frag}{mg:Str→Option Value}{base:Heap}
abbrev n0:Stmt:=top 7
def lD (K:PySem.W.Frag):Sp:=fun vs H Q _=> ∃x,vs=[x]∧iG K H x∧Q (.bl (whole x)) H
theorem xC:bf ["thing"] ["thing"] (aG n0):=⟨rfl,rfl,rfl,by decide+kernel,rfl,by decide+kernel,by decide+kernel⟩
theorem C6 {f:Addr}{fd:FuncData}(F:aT K "is_whole" "is_whole" n0 f fd) (G:Gs mg):aL P w K mg base aP 1 f fd ["thing"] (lD K):=by
 refine F.ok xC (fun vs H Q E h=> ?_) (fun au A outer s H vs Q E hr h=> ?_)
 ·obtain⟨x,rfl,_⟩:=h
  rfl
 ·obtain⟨x,rfl,⟨T,t⟩,q⟩:=h
  refine⟨_,Zl (Zq (YY (Zp (Yx (c:= "int")) rfl G.isinstance boot_isinstance (Za (pv 0) (Za (Wx (v:=.ty "int") rfl G.int boot_int rfl) Zd)))
   (YX (CA (Zp (Yx (c:= "bool")) rfl G.isinstance boot_isinstance (Za (pv 0) (Za (Wx (v:=.ty "bool") rfl G.bool boot_bool rfl) Zd))))))),?_⟩
  refine⟨x,rfl,x,_,_,rfl,t,BR t,_,rfl,?_⟩
  rw[W7]at q
  cases e:pF x with
  |false=>rw[e]at q;exact aO q
  |true=>rw[e]at q;exact bD ⟨x,rfl,x,_,_,rfl,t,Dt t,_,rfl,q⟩
abbrev nZ:Stmt:=top 8
def lC (K:PySem.W.Frag):Sp:=fun vs H Q _=> ∃x a b,vs=[x,.int a,.int b]∧iG K H x∧Q (.bl (bQ x a b)) H
theorem xy:bf ["thing", "least", "most"] ["thing", "least", "most"] (aG nZ):=⟨rfl,rfl,rfl,by decide+kernel,rfl,by decide+kernel,by decide+kernel⟩
theorem DK {f:Addr}{fd:FuncData}(F:aT K "is_whole_within" "is_whole_within" nZ f fd) (D1:Def P w K mg base 1 "is_whole" ["thing"] (lD K)):aL P w K mg base aP 2 f fd ["thing", "least", "most"] (lC K):=by
 refine F.ok xy (fun vs H Q E h=> ?_) (fun au A outer s H vs Q E hr h=> ?_)
 ·obtain⟨x,a,b,rfl,_⟩:=h
  rfl
 ·obtain⟨x,a,b,rfl,t,q⟩:=h
  refine⟨_,Zl (Zq (YY (Zh D1 hr (Za (pv 0) Zd)) (YX (C8 uY uY (pv 1) (pv 0) (pv 2))))),?_⟩
  refine⟨x,rfl,x,rfl,t,_,rfl,?_⟩
  cases x with
  |int i=>
   refine bD ⟨_,rfl,_,rfl,_,_,rfl,rfl,_,rfl,?_⟩
   have e:bQ (.int i) a b=(decide (a≤i)&&decide (i≤b)):=rfl
   rw[e]at q
   cases e1:decide (a≤i) with
   |false=>rw[e1]at q;exact aO q
   |true=>rw[e1]at q;exact bD ⟨_,rfl,_,_,rfl,rfl,q⟩
  |_=>exact aO q
abbrev n8:Stmt:=top 10
def lE (K:PySem.W.Frag):Sp:=fun vs H Q _=> ∃x n,vs=[x,.int n]∧iG K H x∧Q (.bl (match bV H x with |some xs=>decide ((xs.length:Int)=n) |none=>false)) H
theorem xE:bf ["thing", "many"] ["thing", "many"] (aG n8):=⟨rfl,rfl,rfl,by decide+kernel,rfl,by decide+kernel,by decide+kernel⟩
theorem C5 {f:Addr}{fd:FuncData}(F:aT K "is_tuple_of" "is_tuple_of" n8 f fd) (G:Gs mg):aL P w K mg base aP 1 f fd ["thing", "many"] (lE K):=by
 refine F.ok xE (fun vs H Q E h=> ?_) (fun au A outer s H vs Q E hr h=> ?_)
 ·obtain⟨x,n,rfl,_⟩:=h
  rfl
 ·obtain⟨x,n,rfl,⟨T,t⟩,q⟩:=h
  refine⟨_,Zl (Zq (YY (Zp (Yx (c:= "tuple")) rfl G.isinstance boot_isinstance (Za (pv 0) (Za (Wx (v:=.ty "tuple") rfl G.tuple boot_tuple rfl) Zd)))
   (YX (YO W1 (Zp ZC rfl G.len boot_len (Za (pv 0) Zd)) (pv 1) (bJ _))))),?_⟩
  refine⟨x,rfl,x,_,_,rfl,t,Ei t,_,rfl,?_⟩
  cases e:bV H x with
  |none=>rw[e]at q;exact aO q
  |some xs=>
   rw[e]at q
   obtain⟨a,rfl,ha⟩:=Zw e
   refine bD ⟨_,rfl,a,xs,rfl,.inr (ak.of ha),_,rfl,rfl,?_⟩
   have z:decide (V.int (xs.length:Int)=V.int n)=decide ((xs.length:Int)=n):=by simp
   rw[z]
   exact q
abbrev oP:Stmt:=top 11
def kA:Option (List V)→Bool
 |some [a,b]=>bQ a 1 12&&bQ b 1 12
 |_=>false
def mW (K:PySem.W.Frag) (H:Hp) (x:V):Prop:=iG K H x∧∀xs,bV H x=some xs→∀y∈xs,iG K H y
def nX (K:PySem.W.Frag):Sp:=fun vs H Q _=> ∃x,vs=[x]∧mW K H x∧∀H',ab H H'→Q (.bl (kA (bV H x))) H'
theorem xP:bf ["thing"] ["thing"] (aG oP):=⟨rfl,rfl,rfl,by decide+kernel,rfl,by decide+kernel,by decide+kernel⟩
theorem CW {f:Addr}{fd:FuncData}(F:aT K "is_board" "is_board" oP f fd) (G:Gs mg) (D1:Def P w K mg base 1 "is_tuple_of" ["thing", "many"] (lE K)) (D2:Def P w K mg base 2 "is_whole_within" ["thing", "least", "most"] (lC K)):
  aL P w K mg base aP 3 f fd ["thing"] (nX K):=by
 obtain⟨tk,hL⟩:=G.longest
 refine F.ok xP (fun vs H Q E h=> ?_) (fun au A outer s H vs Q E hr h=> ?_)
 ·obtain⟨x,rfl,_⟩:=h
  rfl
 ·obtain⟨x,rfl,⟨t,hi⟩,q⟩:=h
  refine⟨_,Zl (Zq (YY (Zh D1 (hr.mono (by decide)) (Za (pv 0) (Za Zi Zd)))
   (YX (Zp Ul rfl G.all boot_all (Za (ZW ["side"] 1 [] (vE (pv 0)) (fun C s H fp=>pb 0) (fun C s H fp=>Yl)
    (fun C s H fp D=>Zv rfl (Zh D2 (hr.mono (by decide)) (Za (pv 0) (Za Zi (Za (Dw (v:=.int 12) rfl hL ⟨_,rfl⟩) Zd)))))) Zd))))),?_⟩
  refine⟨x,rfl,x,2,rfl,t,_,rfl,?_⟩
  cases e:bV H x with
  |none=>rw[e]at q;exact aO (q H (ab.refl H))
  |some xs=>
   rw[e]at q
   obtain⟨a,rfl,ha⟩:=Zw e
   show if decide ((xs.length:Int)=2)=true then _ else _
   by_cases h2:xs.length=2
   ·rw[decide_eq_true (show(xs.length:Int)=2 by omega)]
    refine bD ⟨_,rfl,a,rfl,⟨xs,ak.of ha⟩,?_⟩
    refine W3 (xs:=xs) (fun i ys σ H2=>ys=(xs.take i).map (fun y=>V.bl (bQ y 1 12))∧H2=H∧∃v,σ=[v]) ⟨rfl,rfl,none,rfl⟩ (fun i ys σ H2 _ ⟨_,e2,_⟩=>by rw[e2];exact ak.of ha) ?_ ?_
    ·rintro i y ys σ H2 hy ⟨rfl,rfl,v,rfl⟩
     have my:y∈xs:=List.mem_of_getElem? hy
     refine⟨y,rfl,y,1,12,rfl,hi xs e y my,?_,?_⟩
     ·rw[List.length_map,sizeLine_eq,List.length_take];omega
     ·refine⟨?_,rfl,_,rfl⟩
      rw[List.take_add_one,hy,List.map_append]
      rfl
    ·rintro ys σ H2 ⟨rfl,rfl,v,rfl⟩ p hp
     rw[List.take_length]
     refine⟨p,xs.map (fun y=>bQ y 1 12),rfl,?_,?_⟩
     ·rw[List.map_map];exact ae.of Ze
     ·have e3:kA (some xs)=(xs.map (fun y=>bQ y 1 12)).all id:=by
       match xs,h2 with
       | [a,b],_=>simp[kA]
      rw[←e3]
      exact q _ fun b o hb=>by rw[Zf (Zb hb hp)];exact hb
   ·rw[decide_eq_false (show ¬(xs.length:Int)=2 by omega)]
    have e3:kA (some xs)=false:=by
     match xs,h2 with
     | [],_=>rfl
     | [a],_=>rfl
     | [a,b],h=>exact absurd rfl h
     |a::b::c::r,_=>rfl
    rw[e3]at q
    exact aO (q H (ab.refl H))
end
section
theorem Yw (val:Nat→Int):∀n,((PyProof.Rows.firstMet val n).length=n↔((List.range n).map val).Nodup)
 |0=>by simp[PyProof.Rows.firstMet_zero]
 |n+1=>by
  have ih:=Yw val n
  have le:=PyProof.Rows.firstMet_length_le val n
  rw[PyProof.Rows.firstMet_succ,PyProof.Rows.step_length,PyProof.Rows.firstMet_any,List.range_succ,List.map_append]
  have e:(((List.range n).map val).any (· ==val n))=true↔val n∈(List.range n).map val:=by
   rw[List.any_eq_true]
   constructor
   ·rintro⟨x,hx,q⟩
    have:x=val n:=by simpa using q
    rw[←this];exact hx
   ·intro h;exact⟨_,h,by simp⟩
  have nd:((List.range n).map val++List.map val [n]).Nodup↔((List.range n).map val).Nodup∧¬val n∈(List.range n).map val:=by
   rw[List.nodup_append]
   constructor
   ·rintro⟨h1,_,h3⟩
    exact⟨h1,fun m=>h3 _ m (val n) (by simp) rfl⟩
   ·rintro⟨h1,h2⟩
    refine⟨h1,by simp,fun a ha b hb q=>h2 ?_⟩
    have cG:b=val n:=by simpa using hb
    rw[←cG,←q];exact ha
  rw[nd,←ih]
  by_cases m:val n∈(List.range n).map val
  ·rw[if_pos (e.mpr m)]
   constructor
   ·intro h;omega
   ·rintro⟨_,h⟩;exact absurd m h
  ·rw[if_neg (fun z=>m (e.mp z))]
   constructor
   ·intro h;exact⟨by omega,m⟩
   ·rintro⟨h,_⟩;omega
theorem Ut (ns:List Int):jq ns=ns.length↔ns.Nodup:=by
 unfold jq
 rw[Yw]
 have e:(List.range ns.length).map (fun i=>ns.getD i 0)=ns:=by
  refine List.ext_getElem (by simp) fun i h1 h2=> ?_
  rw[List.getElem_map,List.getElem_range,List.getD_eq_getElem?_getD,List.getElem?_eq_getElem h2,Option.getD_some]
 rw[e]
def rowsOf (xs:List V):List V:=xs.filter fun x=> !decide (x=.ai)
def l8 (wd hg:Int):Option (List V)→Bool
 |some xs=>decide ((xs.length:Int)=wd)&&((rowsOf xs).all fun r=>bQ r 0 (hg - 1))&&decide (rowsOf xs).Nodup
 |none=>false
def dN (H:Hp) (x:V) (wd hg:Int):Prop:=bV H x=some [.int wd,.int hg]∧1≤wd∧wd≤12∧1≤hg∧hg≤12
theorem dN.same {H H':Hp}{x:V}{wd hg:Int}(b:dN H x wd hg) (s:ab H H'):dN H' x wd hg:=⟨s.bV b.1,b.2⟩
theorem dN.is {H:Hp}{x:V}{wd hg:Int}(b:dN H x wd hg):kA (bV H x)=true:=by
 obtain⟨h,h1,h2,h3,h4⟩:=b
 rw[h]
 show(decide (1≤wd)&&decide (wd≤12)&&(decide (1≤hg)&&decide (hg≤12)))=true
 simp[h1,h2,h3,h4]
theorem dN.pl {K:PySem.W.Frag}{H:Hp}{x:V}{wd hg:Int}(b:dN H x wd hg):mW K H x:=by
 obtain⟨a,rfl,ha⟩:=Zw b.1
 refine⟨⟨_,.tup ha⟩,fun xs e y hy=> ?_⟩
 rw[b.1]at e
 cases e
 rcases List.mem_cons.mp hy with z |hy
 ·rw[z];exact⟨_,.int wd⟩
 ·rw[List.mem_singleton.mp hy];exact⟨_,.int hg⟩
theorem W8 {xs:List V}{lo hi:Int}(h:(xs.all fun r=>bQ r lo hi)=true):∃ns:List Int,xs=ns.map V.int:=by
 induction xs with
 |nil=>exact⟨[],rfl⟩
 |cons x xs ih=>
  rw[List.all_cons,Bool.and_eq_true]at h
  obtain⟨ns,e⟩:=ih h.2
  cases x with
  |int i=>exact⟨i::ns,by rw[e];rfl⟩
  |_=>cases h.1
theorem Wd (ns:List Int):(ns.map V.int).Nodup↔ns.Nodup:=by
 induction ns with
 |nil=>simp
 |cons n ns ih=>rw[List.map_cons,List.nodup_cons,List.nodup_cons,ih];simp
end
section
variable {P:Program}{w:World}{K:PySem.W.Frag}{mg:Str→Option Value}{base:Heap}
abbrev oo:Stmt:=top 12
def nJ (K:PySem.W.Frag):Sp:=fun vs H Q _=> ∃x wd hg,vs=[x]∧dN H x wd hg∧∀H',ab H H'→Q .ai H'
theorem xI:bf ["board"] ["board"] (aG oo):=⟨rfl,rfl,rfl,by decide+kernel,rfl,by decide+kernel,by decide+kernel⟩
theorem WB {f:Addr}{fd:FuncData}(F:aT K "need_board" "need_board" oo f fd) (D1:Def P w K mg base 3 "is_board" ["thing"] (nX K)):aL P w K mg base aP 4 f fd ["board"] (nJ K):=by
 refine F.ok xI (fun vs H Q E h=> ?_) (fun au A outer s H vs Q E hr h=> ?_)
 ·obtain⟨x,wd,hg,rfl,_⟩:=h
  rfl
 ·obtain⟨x,wd,hg,rfl,b,q⟩:=h
  refine⟨_,Zl (Z3 (YW (YI (Zh D1 hr (Za (pv 0) Zd)))) ZO ZF),?_⟩
  refine⟨x,rfl,x,rfl,b.pl,fun H' sm=> ⟨_,rfl,?_⟩⟩
  rw[b.is]
  exact aO (q H' sm)
abbrev oz:Stmt:=top 13
def nM (K:PySem.W.Frag):Sp:=fun vs H Q _=> ∃x y wd hg,vs=[x,y]∧dN H x wd hg∧mW K H y∧∀H',ab H H'→Q (.bl (l8 wd hg (bV H y))) H'
theorem lJ:bf ["board", "thing", "wide", "high", "rows"] ["board", "thing"] (aG oz):=⟨rfl,rfl,rfl,by decide+kernel,rfl,by decide+kernel,by decide+kernel⟩
theorem Ct {f:Addr}{fd:FuncData}(F:aT K "is_lay" "is_lay" oz f fd) (G:Gs mg) (D1:Def P w K mg base 4 "need_board" ["board"] (nJ K)) (D2:Def P w K mg base 1 "is_tuple_of" ["thing", "many"] (lE K))
  (D3:Def P w K mg base 2 "is_whole_within" ["thing", "least", "most"] (lC K)):aL P w K mg base aP 5 f fd ["board", "thing"] (nM K):=by
 refine F.ok lJ (fun vs H Q E h=> ?_) (fun au A outer s H vs Q E hr h=> ?_)
 ·obtain⟨x,y,wd,hg,rfl,_⟩:=h
  rfl
 ·obtain⟨x,y,wd,hg,rfl,b,⟨ty,hy⟩,q⟩:=h
  refine⟨_,Zg (Ym (Zh D1 hr (Za (pv 0) Zd)))
   (Zg (Ww (pv 0) (ZJ rfl (Zk (ZA (i:=2) lJ.nd rfl (Or.inl rfl)) (Zk (ZA (i:=3) lJ.nd rfl (Or.inr rfl)) Zy))))
   (Zg (Z3 (YW (YI (Zh D2 (hr.mono (by decide)) (Za (pv 1) (Za (pv 2) Zd))))) (Zl (Zq W0)) ZF)
   (Zg (YN ["row"] 1 [] (i:=4) lJ.nd rfl (Or.inl rfl) (vE (pv 1)) (fun C s H fp=>pb 0) (fun C s H fp=>ZZ (Jq (Jf (pv 0)))) (fun C s H fp D=>Zv rfl (pv 0)))
   (Zl (Zq (YY (Zp Ul rfl G.all boot_all (Za (ZW ["row", "high"] 1 [3] (ZK (pv 4)) (fun C s H fp=>pb 0) (fun C s H fp=>Yl)
     (fun C s H fp D=>Zv rfl (Zh D3 (hr.mono (by decide)) (Za (pv 0) (Za Zi (Za (Zo ZP (pv 1) Zi) Zd)))))) Zd))
    (YX (YO W1 (Zp JZ rfl G.len boot_len (Za (Yi JX rfl G.set boot_set (Za (pv 4) Zd)) Zd)) (Zp ZC rfl G.len boot_len (Za (pv 4) Zd)) (bJ _))))))))),?_⟩
  refine⟨x,rfl,x,wd,hg,rfl,b,fun H1 s1=> ?_⟩
  have b1:=b.same s1
  obtain⟨a,rfl,ha⟩:=Zw b1.1
  refine⟨_,rfl,a,_,rfl,ak.of ha,rfl,_,_,rfl,_,_,rfl,rfl,?_⟩
  refine⟨y,rfl,_,rfl,y,wd,rfl,s1.se ty,_,rfl,?_⟩
  cases e:bV H y with
  |none=>
   have e1:bV H1 y=none:=by
    obtain⟨T,t⟩:=ty
    cases t with
    |tup e2=>rw[ZS e2]at e;cases e
    |lst e2=>rw[Z4,s1 _ _ e2];rfl
    |aZ e2=>rw[Z4,s1 _ _ e2];rfl
    |dK e2=>rw[Z4,s1 _ _ e2];rfl
    |dT e2=>rw[Z4,s1 _ _ e2];rfl
    |_=>rfl
   rw[e1]
   rw[e]at q
   exact bD (q H1 s1)
  |some xs=>
   have e1:=s1.bV e
   rw[e1]
   rw[e]at q
   obtain⟨l,rfl,hl⟩:=Zw e1
   by_cases hw:(xs.length:Int)=wd
   ·refine(show if (!decide ((xs.length:Int)=wd))=true then _ else _ from ?_)
    rw[decide_eq_true hw]
    refine aO ?_
    have FG:=b.2.2.1
    have hlen:xs.length≤12:=by omega
    refine⟨_,rfl,l,rfl,⟨xs,ak.of hl⟩,?_⟩
    refine W3 (xs:=xs) (fun i ys σ H2=>ys=rowsOf (xs.take i)∧H2=H1∧∃v,σ=[v]) ⟨rfl,rfl,none,rfl⟩ (fun i ys σ H2 _ ⟨_,e2,_⟩=>by rw[e2];exact ak.of hl) ?_ ?_
    ·rintro i r ys σ H2 bC ⟨rfl,rfl,v,rfl⟩
     have et:rowsOf (xs.take (i+1))=rowsOf (xs.take i)++(if (!decide (r=V.ai))=true then [r] else []):=by
      unfold rowsOf
      rw[List.take_add_one,bC,List.filter_append]
      cases hh:(!decide (r=V.ai)) with
      |true=>simp[hh]
      |false=>simp[hh]
     refine⟨r,rfl,_,rfl,?_⟩
     cases hh:(!decide (r=V.ai)) with
     |true=>
      rw[hh]at et
      refine bD ?_
      refine⟨r,rfl,?_,?_⟩
      ·have:=List.length_filter_le (fun x=> !decide (x=V.ai)) (xs.take i)
       unfold rowsOf
       rw[sizeLine_eq]
       rw[List.length_take]at this
       omega
      ·exact⟨by rw[et,if_pos rfl],rfl,_,rfl⟩
     |false=>
      rw[hh]at et
      exact aO ⟨by rw[et,if_neg Bool.false_ne_true,List.append_nil],rfl,_,rfl⟩
    ·rintro ys σ H2 ⟨rfl,rfl,v,rfl⟩ p hp
     rw[List.take_length]
     have FI:(rowsOf xs).length≤12:=Nat.le_trans (List.length_filter_le _ _) hlen
     have s2:ab H2 (upd H2 p (.lst (rowsOf xs))):=fun b o hb=>by rw[Zf (Zb hb hp)];exact hb
     refine⟨_,rfl,p,rfl,⟨rowsOf xs,ae.of Ze⟩,?_⟩
     generalize uC:upd H2 p (HO.lst (rowsOf xs))=H3 at s2
     have ip:H3 p=some (.lst (rowsOf xs)):=by rw[←uC];exact Ze
     refine ZE (xs:=rowsOf xs) (fun i ys σ H4=>ys=((rowsOf xs).take i).map (fun r=>V.bl (bQ r 0 (hg - 1)))∧H4=H3∧∃v,σ=[v,some (.int hg)]) ⟨rfl,rfl,none,rfl⟩ (fun i ys σ H4 _ ⟨_,e2,_⟩=>by rw[e2];exact ae.of ip) ?_ ?_
     ·rintro i r ys σ H4 bC ⟨rfl,rfl,v,rfl⟩
      have mr:r∈xs:=(List.mem_filter.mp (List.mem_of_getElem? bC)).1
      refine⟨r,rfl,_,rfl,_,_,rfl,rfl,r,0,hg - 1,rfl,(s1.trans s2).se (hy xs e r mr),?_,?_⟩
      ·rw[List.length_map,sizeLine_eq,List.length_take];omega
      ·refine⟨?_,rfl,_,rfl⟩
       rw[List.take_add_one,bC,List.map_append]
       rfl
     ·rintro ys σ H4 ⟨rfl,rfl,v,rfl⟩ p' pS
      rw[List.take_length]
      have s3:∀o,ab H4 (upd H4 p' o):=fun o b u hb=>by rw[Zf (Zb hb pS)];exact hb
      refine⟨p',(rowsOf xs).map (fun r=>bQ r 0 (hg - 1)),rfl,?_,?_⟩
      ·rw[List.map_map];exact ae.of Ze
      ·have A9:((rowsOf xs).map (fun r=>bQ r 0 (hg - 1))).all id=(rowsOf xs).all fun r=>bQ r 0 (hg - 1):=by rw[List.all_map];rfl
       rw[A9]
       have A8:l8 wd hg (some xs)=(((rowsOf xs).all fun r=>bQ r 0 (hg - 1))&&decide (rowsOf xs).Nodup):=by
        show(decide ((xs.length:Int)=wd)&&_&&_)=_
        rw[decide_eq_true hw,Bool.true_and]
       rw[A8]at q
       refine⟨_,rfl,?_⟩
       cases gN:((rowsOf xs).all fun r=>bQ r 0 (hg - 1)) with
       |false=>
        rw[gN]at q
        exact aO (q _ (s1.trans (s2.trans (s3 _))))
       |true=>
        rw[gN,Bool.true_and]at q
        obtain⟨ns,en⟩:=W8 gN
        have dk:(upd H4 p' (.lst (((rowsOf xs).map (fun r=>V.bl (bQ r 0 (hg - 1))))))) p=some (.lst (rowsOf xs)):=s3 _ _ _ ip
        refine bD ?_
        have FN:ns.length=(rowsOf xs).length:=by rw[en,List.length_map]
        refine⟨_,rfl,p,ns,rfl,by rw[←en];exact ae.of dk,by omega,fun q2 S bz=> ⟨q2,S,jq ns,rfl,Ze,_,rfl,p,rowsOf xs,rfl,.inl (ae.of ?_),rfl,?_⟩⟩
        ·rw[Zf (Zb dk bz)];exact dk
        ·have ed:decide (V.int (jq ns:Int)=V.int ((rowsOf xs).length:Int))=decide (rowsOf xs).Nodup:=by
          rw[decide_eq_decide]
          rw[en,Wd,←Ut,List.length_map]
          constructor
          ·intro h;injection h with h;omega
          ·intro h;rw[h]
         rw[ed]
         exact q _ (s1.trans (s2.trans ((s3 _).trans fun b o hb=>by rw[Zf (Zb hb bz)];exact hb)))
   ·refine(show if (!decide ((xs.length:Int)=wd))=true then _ else _ from ?_)
    rw[decide_eq_false hw]
    have e3:l8 wd hg (some xs)=false:=by
     show(decide ((xs.length:Int)=wd)&&_&&_)=false
     rw[decide_eq_false hw,Bool.false_and,Bool.false_and]
    rw[e3]at q
    exact bD (q H1 s1)
abbrev oO:Stmt:=top 29
def nW (K:PySem.W.Frag):Sp:=fun vs H Q _=> ∃(a:Addr) (ns:List Int) (k:Nat),vs=[.ref a,.int k]∧ae K H a (ns.map V.int)∧∀n:Int,Q (.int n) H
theorem xO:bf ["_law_script", "_law_k"] ["_law_script", "_law_k"] (aG oO):=⟨rfl,rfl,rfl,by decide+kernel,rfl,by decide+kernel,by decide+kernel⟩
theorem BX {f:Addr}{fd:FuncData}(F:aT K "_law_cell_at" "_law_cell_at" oO f fd) (G:Gs mg):aL P w K mg base aP 1 f fd ["_law_script", "_law_k"] (nW K):=by
 refine F.ok xO (fun vs H Q E h=> ?_) (fun au A outer s H vs Q E hr h=> ?_)
 ·obtain⟨a,ns,k,rfl,_⟩:=h
  rfl
 ·obtain⟨a,ns,k,rfl,hs,q⟩:=h
  refine⟨_,Zg (Z3 (Zu uZ (pv 1) (Zp ZC rfl G.len boot_len (Za (pv 0) Zd)) (bJ _)) (Zl (Zq (ZN ZY (pv 0) (pv 1) (fun _ _=>rfl)))) ZF) (Zl (Zq Zi)),?_⟩
  refine⟨_,rfl,_,rfl,a,ns.map V.int,rfl,.inl hs,_,_,rfl,rfl,_,rfl,?_⟩
  by_cases hk:k<ns.length
  ·rw[decide_eq_true (by rw[List.length_map];omega)]
   refine bD ⟨_,rfl,_,rfl,a,ns.map V.int,k,V.int ns[k],rfl,rfl,hs,Jl ?_,q _⟩
   rw[List.getElem?_map,List.getElem?_eq_getElem hk]
   rfl
  ·rw[decide_eq_false (by rw[List.length_map];omega)]
   exact aO (q 0)
def bZ (H:Hp) (p:Addr):Prop:=∃u v:Int,H p=some (.lst [.int u,.int v])∧0≤u∧0≤v∧v<2147483647
abbrev og:Stmt:=top 30
def nF (K:PySem.W.Frag):Sp:=fun vs H Q _=> ∃(a:Addr) (ns:List Int) (k:Nat),vs=[.ref a,.int k]∧ae K H a (ns.map V.int)∧∀p H',H p=none→ab H H'→bZ H' p→Q (.ref p) H'
theorem rG:bf ["_law_script", "_law_k", "_law_cell"] ["_law_script", "_law_k"] (aG og):=⟨rfl,rfl,rfl,by decide+kernel,rfl,by decide+kernel,by decide+kernel⟩
theorem C3 {f:Addr}{fd:FuncData}(F:aT K "_law_state" "_law_state" og f fd) (G:Gs mg) (D1:Def P w K mg base 1 "_law_cell_at" ["_law_script", "_law_k"] (nW K)):aL P w K mg base aP 2 f fd ["_law_script", "_law_k"] (nF K):=by
 refine F.ok rG (fun vs H Q E h=> ?_) (fun au A outer s H vs Q E hr h=> ?_)
 ·obtain⟨a,ns,k,rfl,_⟩:=h
  rfl
 ·obtain⟨a,ns,k,rfl,hs,q⟩:=h
  refine⟨_,Zg (Zz (i:=2) rG.nd rfl (Or.inl rfl) (Zh D1 hr (Za (pv 0) (Za (pv 1) Zd))))
   (Zl (Zq (Yn (Za (Zp (Wj rfl) rfl G.max boot_max (Za Zi (Za (Zo ZP (pv 2) (Zo Cv Zi Zi)) Zd))) (Za (Zo Yq (pv 2) Zi) Zd))))),?_⟩
  refine⟨_,rfl,_,rfl,a,ns,k,rfl,hs,fun n=> ?_⟩
  refine⟨_,rfl,_,_,rfl,rfl,⟨by decide,by decide,by decide⟩,_,_,rfl,rfl,_,_,rfl,?_⟩
  refine⟨_,rfl,_,_,rfl,rfl,(by show(0:Int)<2147483647;decide),(by show 2≤sizeLine;decide),fun p hp=>q p _ hp (fun b o hb=>by rw[Zf (Zb hb hp)];exact hb) ?_⟩
  refine⟨_,_,Ze,?_,Int.emod_nonneg _ (by decide),Int.emod_lt_of_pos _ (by decide)⟩
  split<;>omega
abbrev n9:Stmt:=top 31
def jo:Sp:=fun vs H Q _=> ∃(p:Addr) (m:Int),vs=[.ref p,.int m]∧bZ H p∧0<m∧m<1073741824∧∀r o,0≤r→r<m→bZ (upd H p o) p→Q (.int r) (upd H p o)
theorem lI:bf ["_law_state_here", "_law_many", "_law_found", "_law_stirred"] ["_law_state_here", "_law_many"] (aG n9):=⟨rfl,rfl,rfl,by decide+kernel,rfl,by decide+kernel,by decide+kernel⟩
theorem jf {x y:V} :dU [x,y] 0=some x:=rfl
theorem iD {x y:V} :dU [x,y] 1=some y:=rfl
theorem BY {f:Addr}{fd:FuncData}(F:aT K "_law_take" "_law_take" n9 f fd):aL P w K mg base aP 1 f fd ["_law_state_here", "_law_many"] jo:=by
 refine F.ok lI (fun vs H Q E h=> ?_) (fun au A outer s H vs Q E hr h=> ?_)
 ·obtain⟨p,m,rfl,_⟩:=h
  rfl
 ·obtain⟨p,m,rfl,⟨u,v,hp,hu,hv,zl⟩,hm,dG,q⟩:=h
  refine⟨_,Zg (Z3 (Zu U1 (ZN ZY (pv 0) Zi (fun _ _=>rfl)) Zi (bJ _))
    (Zg (Zz (i:=2) lI.nd rfl (Or.inl rfl) (Zo Yq (ZN ZY (pv 0) Zi (fun _ _=>rfl)) (pv 1)))
    (Zg (Ww (Zo Jg (ZN ZY (pv 0) Zi (fun _ _=>rfl)) (pv 1)) (vc (pv 0) Zi WW)) (Zl (Zq (pv 2))))) ZF)
   (Zg (Ww (Zo Yq (Zo YJ (Zo Yb (ZN ZY (pv 0) Zi (fun _ _=>rfl)) Zi) Zi) Zi) (vc (pv 0) Zi WW))
   (Zg (Zz (i:=3) lI.nd rfl (Or.inl rfl) (Zo Yq (Zo YJ (Zo YJ (Zo Yb (ZN ZY (pv 0) Zi (fun _ _=>rfl)) (ZN ZY (pv 0) Zi (fun _ _=>rfl))) (Zo Yb Zi (ZN ZY (pv 0) Zi (fun _ _=>rfl)))) Zi) Zi))
   (Zg (Zz (i:=3) lI.nd rfl (Or.inl rfl) (Zo Yq (Zo YJ (Zo Yb (pv 3) (pv 3)) (Zo Yb Zi (pv 3))) Zi))
   (Zl (Zq (Zo Yq (Zo Jg (pv 3) Zi) (pv 1))))))),?_⟩
  have s0:=ae.of (K:=K) hp
  refine⟨_,rfl,p,_,_,_,rfl,rfl,s0,jf,_,_,rfl,rfl,_,rfl,?_⟩
  by_cases h0:0<u
  ·rw[decide_eq_true h0]
   refine bD ?_
   refine⟨_,rfl,p,_,_,_,rfl,rfl,s0,jf,_,rfl,_,_,rfl,rfl,hm,?_⟩
   refine⟨_,rfl,p,_,_,_,rfl,rfl,s0,jf,_,rfl,_,_,rfl,rfl,⟨hm,by omega⟩,?_⟩
   refine⟨_,rfl,p,_,0,0,rfl,rfl,hp,rfl,?_⟩
   refine⟨_,rfl,q _ _ (Int.emod_nonneg _ (by omega)) (Int.emod_lt_of_pos _ hm) ?_⟩
   exact⟨u/m,v,Ze,Int.ediv_nonneg hu (by omega),hv,zl⟩
  ·rw[decide_eq_false h0]
   refine aO ?_
   refine⟨_,rfl,p,_,_,_,rfl,rfl,s0,iD,_,_,rfl,rfl,.inr ⟨by decide,by decide⟩,_,_,rfl,rfl,_,_,rfl,rfl,(by show(0:Int)<2147483647;decide),?_⟩
   refine⟨_,rfl,p,_,1,1,rfl,rfl,hp,rfl,?_⟩
   have b1:0≤((v*48271+29)%2147483647):=Int.emod_nonneg _ (by decide)
   have b2:((v*48271+29)%2147483647)<2147483647:=Int.emod_lt_of_pos _ (by decide)
   have s1:ae K (upd H p (.lst (([V.int u,V.int v]:List V).set 1 (V.int ((v*48271+29)%2147483647))))) p [.int u,.int ((v*48271+29)%2147483647)]:=ae.of Ze
   have lo:∀{t:Int},0≤t→ -(2^64)<t:=fun h=>Int.lt_of_lt_of_le (by decide) h
   have hi:∀{t:Int},t<2147483647→t<2^64:=fun h=>Int.lt_trans h (by decide)
   refine⟨_,rfl,p,_,_,_,rfl,rfl,s1,iD,_,rfl,p,_,_,_,rfl,rfl,s1,iD,_,_,rfl,rfl,.inl ⟨lo b1,hi b2⟩,?_⟩
   refine⟨_,rfl,p,_,_,_,rfl,rfl,s1,iD,_,_,rfl,rfl,.inl ⟨by decide,by decide⟩,_,_,rfl,rfl,_,_,rfl,rfl,_,_,rfl,rfl,(by show(0:Int)<2147483629;decide),?_⟩
   have c1:0≤((((v*48271+29)%2147483647)*((v*48271+29)%2147483647)+39373*((v*48271+29)%2147483647)+7)%2147483629):=Int.emod_nonneg _ (by decide)
   have c2:((((v*48271+29)%2147483647)*((v*48271+29)%2147483647)+39373*((v*48271+29)%2147483647)+7)%2147483629)<2147483647:=Int.lt_trans (Int.emod_lt_of_pos _ (by decide)) (by decide)
   refine⟨_,rfl,_,rfl,_,_,rfl,rfl,.inl ⟨lo c1,hi c2⟩,_,rfl,_,_,rfl,rfl,.inl ⟨by decide,by decide⟩,_,_,rfl,rfl,_,_,rfl,rfl,(by show(0:Int)<2147483587;decide),?_⟩
   refine⟨_,rfl,_,_,rfl,rfl,⟨by decide,by decide⟩,_,rfl,_,_,rfl,rfl,hm,?_⟩
   refine q _ _ (Int.emod_nonneg _ (by omega)) (Int.emod_lt_of_pos _ hm) ?_
   exact⟨u,_,Ze,hu,b1,b2⟩
abbrev oN:Stmt:=top 32
def nV:Sp:=fun vs H Q _=> ∃(p:Addr) (m:Int),vs=[.ref p,.int m]∧bZ H p∧0<m∧m<1073741824∧
 ∀(b:Addr) (H':Hp) (wd hg:Int),1≤wd→wd≤m→1≤hg→hg≤m→az p H H'→bZ H' p→H' b=some (.tup [.int wd,.int hg])→b≠p→Q (.ref b) H'
theorem rK:bf ["_law_state_here", "_law_upto", "_law_way", "_law_wide", "_law_high"] ["_law_state_here", "_law_upto"] (aG oN):=⟨rfl,rfl,rfl,by decide+kernel,rfl,by decide+kernel,by decide+kernel⟩
theorem CY {f:Addr}{fd:FuncData}(F:aT K "_law_board" "_law_board" oN f fd) (D1:Def P w K mg base 1 "_law_take" ["_law_state_here", "_law_many"] jo):aL P w K mg base aP 2 f fd ["_law_state_here", "_law_upto"] nV:=by
 refine F.ok rK (fun vs H Q E h=> ?_) (fun au A outer s H vs Q E hr h=> ?_)
 ·obtain⟨p,m,rfl,_⟩:=h
  rfl
 ·obtain⟨p,m,rfl,st,hm,dG,q⟩:=h
  refine⟨_,Zg (UW (i:=2) (j:=3) (k:=4) rfl rK.nd rfl rfl rfl rfl rfl rfl
    (Za (Zh D1 hr (Za (pv 0) (Za Zi Zd))) (Za (Zo YJ Zi (Zh D1 hr (Za (pv 0) (Za (pv 1) Zd)))) (Za (Zo YJ Zi (Zh D1 hr (Za (pv 0) (Za (pv 1) Zd)))) Zd))))
   (Zl (Zq (C9 (Zu W1 (pv 2) Zi (bJ _)) (ZG (Za (pv 3) (Za (pv 3) Zd))) (ZG (Za (pv 3) (Za (pv 4) Zd)))))),?_⟩
  refine⟨_,rfl,p,3,rfl,st,by decide,by decide,fun r1 o1 h1 jR aw=> ?_⟩
  refine⟨_,rfl,_,rfl,p,m,rfl,aw,hm,dG,fun r2 o2 h2 mH ag=> ⟨_,_,rfl,rfl,?_⟩⟩
  refine⟨_,rfl,_,rfl,p,m,rfl,ag,hm,dG,fun r3 o3 h3 FX aE=> ⟨_,_,rfl,rfl,_,_,_,rfl,?_⟩⟩
  have sx:az p H (upd (upd (upd H p o1) p o2) p o3):=(az.upd.trans az.upd).trans az.upd
  have fin:∀wd hg:Int,1≤wd→wd≤m→1≤hg→hg≤m→∀b,upd (upd (upd H p o1) p o2) p o3 b=none→Q (.ref b) (upd (upd (upd (upd H p o1) p o2) p o3) b (.tup [.int wd,.int hg])):=fun wd hg a1 a2 a3 a4 b hb=>by
   obtain⟨u,v,e,x1,x2,x3⟩:=aE
   have tX:p≠b:=Zb e hb
   exact q b _ wd hg a1 a2 a3 a4 (fun c o hc hn=>by rw[Zf (Zb (sx c o hc hn) hb)];exact sx c o hc hn) ⟨u,v,by rw[Zf tX];exact e,x1,x2,x3⟩ Ze tX.symm
  refine⟨_,rfl,rfl,_,rfl,?_⟩
  refine pD (fun _=> ?_) (fun _=> ?_)
  ·exact⟨_,rfl,_,rfl,(by show 2≤sizeLine;decide),fun b hb=>fin (1+r2) (1+r2) (by omega) (by omega) (by omega) (by omega) b hb⟩
  ·exact⟨_,rfl,_,rfl,(by show 2≤sizeLine;decide),fun b hb=>fin (1+r2) (1+r3) (by omega) (by omega) (by omega) (by omega) b hb⟩
structure cI (wd hg:Int) (xs:List V):Prop where
 len:(xs.length:Int)=wd
 row:∀r∈rowsOf xs,bQ r 0 (hg - 1)=true
 nd:(rowsOf xs).Nodup
theorem cI.is {wd hg:Int}{xs:List V}(h:cI wd hg xs):l8 wd hg (some xs)=true:=by
 show(decide ((xs.length:Int)=wd)&&((rowsOf xs).all fun r=>bQ r 0 (hg - 1))&&decide (rowsOf xs).Nodup)=true
 rw[decide_eq_true h.len,decide_eq_true h.nd,List.all_eq_true.mpr h.row]
 rfl
abbrev oM:Stmt:=top 33
def nU (K:PySem.W.Frag):Sp:=fun vs H Q _=> ∃(p b:Addr) (wd hg:Int),vs=[.ref p,.ref b]∧bZ H p∧dN H (.ref b) wd hg∧
 ∀(l:Addr) (H':Hp) (xs:List V),az p H H'→bZ H' p→H' l=some (.tup xs)→l≠p→cI wd hg xs→Q (.ref l) H'
theorem lL:bf ["_law_state_here", "_law_board_here", "_law_way", "_law_left", "_law_found", "_law_line", "_law_share", "_law_spot"] ["_law_state_here", "_law_board_here"] (aG oM):=⟨rfl,rfl,rfl,by decide+kernel,rfl,by decide+kernel,by decide+kernel⟩
theorem A3 {v:Int}(h:0≤v) (h':v<5):∃c:Int,dU ([V.int 4,.int 4,.int 3,.int 1,.int 0]:List V) v=some (.int c):=by
 have:v=0∨v=1∨v=2∨v=3∨v=4:=by omega
 rcases this with rfl |rfl |rfl |rfl |rfl<;>exact⟨_,rfl⟩
theorem CH {n:Nat}{i:Int}(h:0≤i) (h':i<n):seqIndex? i n=some i.toNat:=by
 have e:gJ n i=some i.toNat:=by unfold gJ;rw[if_pos h,if_pos h']
 exact(WG e).1
theorem ZT (xs:List V) (y:V):rowsOf (xs++[y])=rowsOf xs++(if (!decide (y=V.ai))=true then [y] else []):=by
 unfold rowsOf
 rw[List.filter_append]
 cases hh:(!decide (y=V.ai))<;>simp[hh]
theorem Jt:∀(l:List V) (k:Nat) (h:k<l.length),(l[k]::l.eraseIdx k).Perm l
 |x::l,0,_=> .refl _
 |x::l,k+1,h=>by
  have h':k<l.length:=by simpa using h
  show(l[k]::x::l.eraseIdx k).Perm (x::l)
  exact(List.Perm.swap x l[k] _).trans (List.Perm.cons x (Jt l k h'))
theorem CZ {f:Addr}{fd:FuncData}(F:aT K "_law_lay" "_law_lay" oM f fd) (G:Gs mg) (D1:Def P w K mg base 1 "_law_take" ["_law_state_here", "_law_many"] jo):aL P w K mg base aP 2 f fd ["_law_state_here", "_law_board_here"] (nU K):=by
 refine F.ok lL (fun vs H Q E h=> ?_) (fun au A outer s H vs Q E hr h=> ?_)
 ·obtain⟨p,b,wd,hg,rfl,_⟩:=h
  rfl
 ·obtain⟨p,b,wd,hg,rfl,st,bd,q⟩:=h
  refine⟨_,Zg (UW (i:=2) (j:=3) (k:=4) rfl lL.nd rfl rfl rfl rfl rfl rfl
    (Za (Zh D1 hr (Za (pv 0) (Za Zi Zd))) (Za (Yi JY rfl G.list boot_list (Za (Yi Uk rfl G.range boot_range (Za (ZN Z2 (pv 1) Zi (fun _ _=>rfl)) Zd)) Zd)) (Za (Yn Zd) Zd))))
   (Zg (Yp PassesOwn.never rfl (Z6 rfl G.range (Za (ZN Z2 (pv 1) Zi (fun _ _=>rfl)) Zd)) (ZA (i:=5) lL.nd rfl (Or.inl rfl))
    (Zg (Wv (i:=6) (j:=7) rfl lL.nd rfl rfl (by decide) rfl rfl (Za (Zh D1 hr (Za (pv 0) (Za Zi Zd))) (Za (Zh D1 hr (Za (pv 0) (Za Zi Zd))) Zd)) rfl)
    (Zl (Z3 (PW.pt (UT (Zu (u6 hr.nh) (pv 3) (Yn Zd) (bJ _)) (Wu (Zu uX (pv 6) (ZN ZY (Yn (Za Zi (Za Zi (Za Zi (Za Zi (Za Zi Zd)))))) (pv 2) (fun _ _=>rfl)) (bJ _)))))
     (Zl (Ym (UZ PySem.F.plainAttrs_list PySem.F.slot_list_append PySem.F.type_list_append Y1 (pv 4) (Za Uv Zd))))
     (Zl (Ym (UZ PySem.F.plainAttrs_list PySem.F.slot_list_append PySem.F.type_list_append Y1 (pv 4)
      (Za (UZ PySem.F.plainAttrs_list PySem.F.slot_list_pop PySem.F.type_list_pop CS (pv 3) (Za (Zo Yq (pv 7) (Zp ZC rfl G.len boot_len (Za (pv 3) Zd))) Zd)) Zd))))))))
   (Zl (Zq (Yi JV rfl G.tuple boot_tuple (Za (pv 4) Zd))))),?_⟩
  obtain⟨a,e,hb⟩:=Zw bd.1
  cases e
  obtain⟨_,w1,w2,g1,g2⟩:=id bd
  obtain⟨u0,v0,e0,_⟩:=id st
  have mE:b≠p:=Yc hb e0 (by intro z;cases z)
  refine⟨_,rfl,p,5,rfl,st,by decide,by decide,fun way o1 h1 jR aw=> ?_⟩
  have x1:az p H (upd H p o1):=az.upd
  have ur:=x1 _ _ hb mE
  refine⟨_,rfl,b,_,_,_,rfl,rfl,ak.of ur,iD,hg,rfl,fun q1 fW=> ⟨q1,hg,rfl,Ze,by omega,by omega,fun L hL=> ⟨Nat.zero_le _,fun M hM=> ⟨_,_,_,rfl,?_⟩⟩⟩⟩
  generalize qm:upd (upd (upd (upd H p o1) q1 (.eh 0 hg)) L (.lst (L2.upTo hg.toNat))) M (.lst [])=H0
  have sA:ab (upd H p o1) (upd (upd H p o1) q1 (.eh 0 hg)):=fun c o hc=>by rw[Zf (Zb hc fW)];exact hc
  have sB:ab (upd (upd H p o1) q1 (.eh 0 hg)) (upd (upd (upd H p o1) q1 (.eh 0 hg)) L (.lst (L2.upTo hg.toNat))):=fun c o hc=>by rw[Zf (Zb hc hL)];exact hc
  have sC:ab (upd (upd (upd H p o1) q1 (.eh 0 hg)) L (.lst (L2.upTo hg.toNat))) H0:=fun c o hc=>by rw[←qm,Zf (Zb hc hM)];exact hc
  have s0:ab (upd H p o1) H0:=sA.trans (sB.trans sC)
  have AE:H0 M=some (.lst []):=by rw[←qm];exact Ze
  have AM:H0 L=some (.lst (L2.upTo hg.toNat)):=sC _ _ Ze
  obtain⟨u1,v1,e1,y1,y2,y3⟩:=id aw
  have cq:bZ H0 p:=⟨u1,v1,s0 _ _ e1,y1,y2,y3⟩
  have jb:=s0 _ _ e1
  have ql:L≠M:=Zb (by exact Ze) hM
  have tY:p≠L:=Zb (sA _ _ e1) hL
  have pQ:p≠M:=Zb (sB _ _ (sA _ _ e1)) hM
  have qh:H0 b=some (.tup [.int wd,.int hg]):=s0 _ _ ur
  have xt:∀H2,(∀c o,H0 c=some o→c≠p→c≠L→c≠M→H2 c=some o)→az p H H2:=fun H2 k c o hc hn=>by
   have c1:=x1 c o hc hn
   exact k c o (s0 _ _ c1) hn (Zb (sA _ _ c1) hL) (Zb (sB _ _ (sA _ _ c1)) hM)
  refine⟨_,rfl,b,_,_,_,rfl,rfl,ak.of qh,jf,wd,rfl,by omega,by omega,?_⟩
  refine Yj (n:=wd.toNat) (fun i σ H2=> ∃(ls fs:List V) (x5 x6 x7:Option V),σ=[some (.ref p),some (.ref b),some (.int way),some (.ref L),some (.ref M),x5,x6,x7]∧
    (∀c o,H0 c=some o→c≠p→c≠L→c≠M→H2 c=some o)∧bZ H2 p∧H2 L=some (.lst ls)∧H2 M=some (.lst fs)∧fs.length=i∧(∀r∈rowsOf fs++ls,bQ r 0 (hg - 1)=true)∧(rowsOf fs++ls).Nodup)
   ⟨L2.upTo hg.toNat,[],none,none,none,rfl,fun c o hc _ _ _=>hc,cq,AM,AE,rfl,?_,?_⟩ ?_ ?_
  ·intro r bC
   have dg:r∈L2.upTo hg.toNat:=bC
   unfold L2.upTo at dg
   obtain⟨j,hj,rfl⟩:=List.mem_map.mp dg
   have:=List.mem_range.mp hj
   show(decide ((0:Int)≤(j:Int))&&decide ((j:Int)≤hg - 1))=true
   rw[decide_eq_true (by omega),decide_eq_true (by omega)]
   rfl
  ·show(L2.upTo hg.toNat).Nodup
   unfold L2.upTo
   have e:((List.range hg.toNat).map fun(i:Nat)=>V.int (i:Int))=(((List.range hg.toNat).map fun(i:Nat)=> (i:Int))).map V.int:=by rw[List.map_map];rfl
   rw[e,Wd]
   exact List.Pairwise.map _ (fun x y h z=>h (by omega)) List.nodup_range
  ·rintro i σ H2 hi ⟨ls,fs,x5,x6,x7,rfl,k2,ag,eI,dG,p7,df,eF⟩
   refine⟨_,rfl,p,4,rfl,ag,by decide,by decide,fun sh o3 _ _ aE=> ?_⟩
   refine⟨_,rfl,p,12,rfl,aE,by decide,by decide,fun sp o4 tP mh cC=> ⟨_,_,rfl,?_⟩⟩
   generalize gg:upd (upd H2 p o3) p o4=H4 at cC
   have x4:az p H2 H4:=by rw[←gg];exact az.upd.trans az.upd
   have mq:=x4 _ _ eI tY.symm
   have iY:=x4 _ _ dG pQ.symm
   have k4:∀c o,H0 c=some o→c≠p→c≠L→c≠M→H4 c=some o:=fun c o hc a1 a2 a3=>x4 c o (k2 c o hc a1 a2 a3) a1
   have hlen:fs.length<sizeLine:=by rw[sizeLine_eq];omega
   refine⟨_,rfl,Nat.zero_le _,fun q2 bz=> ⟨L,q2,ls,rfl,rfl,?_,ae.of Ze,_,rfl,?_⟩⟩
   ·exact ae.of (by rw[Zf (Zb mq bz)];exact mq)
   have sD:ab H4 (upd H4 q2 (.lst [])):=fun c o hc=>by rw[Zf (Zb hc bz)];exact hc
   generalize fI:upd H4 q2 (HO.lst [])=H5 at sD
   obtain⟨u4,v4,e4,z1,z2,z3⟩:=id cC
   have keep:∀H6,ab H4 H6→(∀c o,H0 c=some o→c≠p→c≠L→c≠M→H6 c=some o)∧bZ H6 p:=fun H6 s6=> ⟨fun c o hc a1 a2 a3=>s6 _ _ (k4 c o hc a1 a2 a3),u4,v4,s6 _ _ e4,z1,z2,z3⟩
   have uW:∀H6,ab H4 H6→rn K "list" r9 (hW 4) (gz (tC .ai) gw) [some (.ref p),some (.ref b),some (.int way),some (.ref L),some (.ref M),some (.int (0+(i:Int))),some (.int sh),some (.int sp)] H6 (fun _ H7=> ∃(ls fs:List V) (x5 x6 x7:Option V),([some (.ref p),some (.ref b),some (.int way),some (.ref L),some (.ref M),some (.int (0+(i:Int))),some (.int sh),some (.int sp)]:L2.St)=[some (.ref p),some (.ref b),some (.int way),some (.ref L),some (.ref M),x5,x6,x7]∧
     (∀c o,H0 c=some o→c≠p→c≠L→c≠M→H7 c=some o)∧bZ H7 p∧H7 L=some (.lst ls)∧H7 M=some (.lst fs)∧fs.length=i+1∧(∀r∈rowsOf fs++ls,bQ r 0 (hg - 1)=true)∧(rowsOf fs++ls).Nodup):=fun H6 s6=>by
    obtain⟨k6,t6⟩:=keep H6 s6
    have kN:=s6 _ _ iY
    have kR:=s6 _ _ mq
    refine⟨_,rfl,.inl ⟨rfl,_,ae.of kN⟩,M,fs,.ai,rfl,rfl,kN,hlen,ls,fs++[.ai],_,_,_,rfl,fun c o hc a1 a2 a3=>by rw[Zf a3];exact k6 c o hc a1 a2 a3,?_,by rw[Zf ql];exact kR,Ze,by rw[List.length_append,p7];rfl,?_,?_⟩
    ·obtain⟨u,v,e,r⟩:=t6
     exact⟨u,v,by rw[Zf pQ];exact e,r⟩
    ·rw[ZT];simpa using df
    ·rw[ZT];simpa using eF
   cases kW:ls.isEmpty with
   |true=>exact bD (bD (uW H5 sD))
   |false=>
    refine aO ?_
    have cj:ls≠[]:=fun z=>by rw[z]at kW;cases kW
    have zK:0<ls.length:=List.length_pos_iff.mpr cj
    refine⟨_,rfl,(by show 5≤sizeLine;decide),fun q3 iW=> ?_⟩
    obtain⟨c5,As⟩:=A3 h1 jR
    have sE:ab H5 (upd H5 q3 (.lst [.int 4,.int 4,.int 3,.int 1,.int 0])):=fun c o hc=>by rw[Zf (Zb hc iW)];exact hc
    refine⟨_,rfl,q3,_,_,_,rfl,rfl,ae.of Ze,As,_,_,rfl,rfl,_,rfl,?_⟩
    generalize uB:upd H5 q3 (HO.lst [V.int 4,.int 4,.int 3,.int 1,.int 0])=H6 at sE
    have s6:=sD.trans sE
    refine pD (fun _=>uW H6 s6) (fun _=> ?_)
    obtain⟨k6,t6⟩:=keep H6 s6
    have kN:=s6 _ _ iY
    have kR:=s6 _ _ mq
    have m1:0≤sp%(ls.length:Int):=Int.emod_nonneg _ (by omega)
    have m2:sp%(ls.length:Int)<ls.length:=Int.emod_lt_of_pos _ (by omega)
    have m3:(sp%(ls.length:Int)).toNat<ls.length:=by omega
    have m4:sp%(ls.length:Int)<2^63:=by
     by_cases hh:sp< (ls.length:Int)
     ·rw[Int.emod_eq_of_lt tP hh];omega
     ·omega
    refine⟨_,rfl,.inl ⟨rfl,_,ae.of kN⟩,_,rfl,.inl ⟨rfl,_,ae.of kR⟩,_,rfl,_,rfl,L,ls,rfl,.inl (ae.of kR),_,_,rfl,rfl,(by show(0:Int)< (ls.length:Int);omega),L,ls,_,_,_,rfl,rfl,kR,by omega,m4,CH m1 m2,List.getElem?_eq_getElem m3,?_⟩
    generalize hk:(sp%(ls.length:Int)).toNat=k at m3
    have zU:upd H6 L (.lst (ls.eraseIdx k)) M=some (.lst fs):=by rw[Zf ql.symm];exact kN
    have my:ls[k]∈ls:=List.getElem_mem m3
    have wy:bQ ls[k] 0 (hg - 1)=true:=df _ (List.mem_append_right _ my)
    have ny:(!decide (ls[k]=V.ai))=true:=by
     cases e:ls[k] with
     |ai=>rw[e]at wy;cases wy
     |_=>rfl
    have pm:(rowsOf fs++[ls[k]]++ls.eraseIdx k).Perm (rowsOf fs++ls):=by
     rw[List.append_assoc]
     exact List.Perm.append_left _ (Jt ls k m3)
    refine⟨M,fs,_,rfl,rfl,zU,hlen,ls.eraseIdx k,fs++[ls[k]],_,_,_,rfl,fun c o hc a1 a2 a3=>by rw[Zf a3,Zf a2];exact k6 c o hc a1 a2 a3,?_,by rw[Zf ql,Ze],Ze,by rw[List.length_append,p7];rfl,?_,?_⟩
    ·obtain⟨u,v,e,r⟩:=t6
     exact⟨u,v,by rw[Zf pQ,Zf tY];exact e,r⟩
    ·rw[ZT,if_pos ny]
     intro r bC
     exact df r (pm.mem_iff.mp bC)
    ·rw[ZT,if_pos ny]
     exact pm.nodup_iff.mpr eF
  ·rintro σ H2 ⟨ls,fs,x5,x6,x7,rfl,k2,ag,eI,dG,p7,df,eF⟩
   refine⟨_,rfl,M,fs,rfl,.inl ⟨ae.of dG,fun l hl=> ?_⟩⟩
   obtain⟨u,v,e,r⟩:=id ag
   have dk:p≠l:=Zb e hl
   refine q l _ fs (fun c o hc hn=> ?_) ⟨u,v,by rw[Zf dk];exact e,r⟩ Ze dk.symm ⟨by omega,fun r bC=>df r (List.mem_append_left _ bC),(List.nodup_append.mp eF).1⟩
   have:=xt H2 k2 c o hc hn
   rw[Zf (Zb this hl)]
   exact this
end
section
def km:V→Option Int
 | .int r=>some r
 |_=>none
def rowAt (xs:List V) (i:Nat):Option Int:=xs[i]?.bind km
abbrev ay:=Int×Int×Int×Int
def cn (xs:List V) (o l:Nat):Option ay:=(rowAt xs l).bind fun a=> (rowAt xs o).map fun b=> ((o:Int) - l,b - a,(l:Int),(o:Int))
def cO (xs:List V) (o j:Nat):List ay:=(List.range j).filterMap (cn xs o)
def aQ (xs:List V) (n:Nat):List ay:=(List.range n).flatMap fun o=>cO xs o o
theorem Yk (xs:List V) (o j:Nat):cO xs o (j+1)=cO xs o j++(cn xs o j).toList:=by
 unfold cO
 rw[List.range_succ,List.filterMap_append]
 cases h:cn xs o j<;>simp[h]
theorem ZD (xs:List V) (n:Nat):aQ xs (n+1)=aQ xs n++cO xs n n:=by
 unfold aQ
 rw[List.range_succ,List.flatMap_append]
 simp
def dX (H:Hp) (v:V) (q:ay):Prop:=∃t t':Addr,v=.ref t∧H t=some (.tup [.ref t',.int q.2.2.1,.int q.2.2.2])∧H t'=some (.tup [.int q.1,.int q.2.1])
theorem dX.x {M:Addr}{H H':Hp}{v:V}{q:ay}(h:dX H v q) {ms:List V}(hM:H M=some (.lst ms)) (s:az M H H'):dX H' v q:=by
 obtain⟨t,t',e,h1,h2⟩:=h
 exact⟨t,t',e,s _ _ h1 (Yc h1 hM (by intro z;cases z)),s _ _ h2 (Yc h2 hM (by intro z;cases z))⟩
def mV (xs:List V):Prop:=∀x∈xs,x=.ai∨∃i,x=.int i
theorem cI.ok {wd hg:Int}{xs:List V}(h:cI wd hg xs):mV xs:=fun x hx=>by
 by_cases e:x=.ai
 ·exact .inl e
 ·have m:x∈rowsOf xs:=List.mem_filter.mpr ⟨hx,by simp[e]⟩
  have q:=h.row x m
  cases x with
  |int i=>exact .inr ⟨i,rfl⟩
  |_=>cases q
end
section
variable {P:Program}{w:World}{K:PySem.W.Frag}{mg:Str→Option Value}{base:Heap}
abbrev oC:Stmt:=top 34
def nP (K:PySem.W.Frag):Sp:=fun vs H Q _=> ∃(a:Addr) (xs:List V),vs=[.ref a]∧ak K H a xs∧H a=some (.tup xs)∧mV xs∧xs.length≤12∧
 ∀(l:Addr) (H':Hp) (rs:List V),ab H H'→H l=none→H' l=some (.lst rs)→Paired (dX H') rs (aQ xs xs.length)→Q (.ref l) H'
theorem lK:bf ["_law_lay_here", "_law_found", "_law_other", "_law_line"] ["_law_lay_here"] (aG oC):=⟨rfl,rfl,rfl,by decide+kernel,rfl,by decide+kernel,by decide+kernel⟩
theorem DI {f:Addr}{fd:FuncData}(F:aT K "_law_steps" "_law_steps" oC f fd) (G:Gs mg):aL P w K mg base aP 1 f fd ["_law_lay_here"] (nP K):=by
 refine F.ok lK (fun vs H Q E h=> ?_) (fun au A outer s H vs Q E hr h=> ?_)
 ·obtain⟨a,xs,rfl,_⟩:=h
  rfl
 ·obtain⟨a,xs,rfl,_,ha,df,hlen,q⟩:=h
  refine⟨_,Zg (Zz (i:=1) lK.nd rfl (Or.inl rfl) (Yn Zd))
   (Zg (Yp PassesOwn.never rfl (Z6 rfl G.range (Za (Zp ZC rfl G.len boot_len (Za (pv 0) Zd)) Zd)) (ZA (i:=2) lK.nd rfl (Or.inl rfl))
    (Zl (Yp PassesOwn.never rfl (Z6 rfl G.range (Za (pv 2) Zd)) (ZA (i:=3) lK.nd rfl (Or.inl rfl))
     (Zl (Z3 (PW.pt (vG (Jq (Jf (ZN Z2 (pv 0) (pv 3) (fun _ _=>rfl)))) (UU (Jq (Jf (ZN Z2 (pv 0) (pv 2) (fun _ _=>rfl)))))))
      (Zl (Ym (UZ PySem.F.plainAttrs_list PySem.F.slot_list_append PySem.F.type_list_append Y1 (pv 1)
       (Za (ZG (Za (ZG (Za (Zo ZP (pv 2) (pv 3)) (Za (Zo ZP (ZN Z2 (pv 0) (pv 2) (fun _ _=>rfl)) (ZN Z2 (pv 0) (pv 3) (fun _ _=>rfl))) Zd))) (Za (pv 3) (Za (pv 2) Zd)))) Zd)))) ZF)))))
   (Zl (Zq (pv 1)))),?_⟩
  refine⟨Nat.zero_le _,fun M hM=> ?_⟩
  have s0:ab H (upd H M (.lst [])):=fun c o hc=>by rw[Zf (Zb hc hM)];exact hc
  refine⟨_,rfl,a,xs,rfl,.inr (ak.of (s0 _ _ ha)),(xs.length:Int),rfl,by omega,by omega,?_⟩
  refine Yj (n:=((xs.length:Int)).toNat) (fun i σ H2=> ∃(rs:List V) (x2 x3:Option V),σ=[some (.ref a),some (.ref M),x2,x3]∧ab H H2∧H2 M=some (.lst rs)∧Paired (dX H2) rs (aQ xs i)∧rs.length≤i*12)
   ⟨[],none,none,rfl,s0,Ze,.nil,Nat.zero_le _⟩ ?_ ?_
  ·rintro i σ H2 hi ⟨rs,x2,x3,rfl,s2,dG,bN,eI⟩
   have bL:i<xs.length:=by omega
   refine⟨_,rfl,(0+(i:Int)),rfl,by omega,by omega,?_⟩
   refine Yj (n:=((0:Int)+(i:Int)).toNat) (fun j σ H3=> ∃(rs:List V) (x3:Option V),σ=[some (.ref a),some (.ref M),some (.int (i:Int)),x3]∧ab H H3∧H3 M=some (.lst rs)∧Paired (dX H3) rs (aQ xs i++cO xs i j)∧rs.length≤i*12+j)
    ⟨rs,x3,by rw[Int.zero_add];rfl,s2,dG,by simpa[cO] using bN,eI⟩ ?_ ?_
   ·rintro j σ H3 hj ⟨rs,x3,rfl,s3,jL,cD,jN⟩
    have FU:j<i:=by omega
    have mF:=s3 _ _ ha
    have p4:j<xs.length:=by omega
    have ej:dU xs (0+(j:Int))=some xs[j]:=by rw[Int.zero_add];exact Jl (List.getElem?_eq_getElem p4)
    have ei:dU xs (i:Int)=some xs[i]:=Jl (List.getElem?_eq_getElem bL)
    have rj:rowAt xs j=km xs[j]:=by unfold rowAt;rw[List.getElem?_eq_getElem p4];rfl
    have ri:rowAt xs i=km xs[i]:=by unfold rowAt;rw[List.getElem?_eq_getElem bL];rfl
    refine⟨_,rfl,_,rfl,a,xs,_,_,rfl,rfl,ak.of mF,ej,_,rfl,?_⟩
    have skip:cn xs i j=none→∃(oY:List V) (x3:Option V),([some (.ref a),some (.ref M),some (.int (i:Int)),some (.int (0+(j:Int)))]:L2.St)=[some (.ref a),some (.ref M),some (.int (i:Int)),x3]∧ab H H3∧H3 M=some (.lst oY)∧Paired (dX H3) oY (aQ xs i++cO xs i (j+1))∧oY.length≤i*12+(j+1):=fun e=>by
     refine⟨rs,_,rfl,s3,jL,?_,by omega⟩
     rw[Yk,e]
     simpa using cD
    rcases df xs[j] (List.getElem_mem p4) with nj |⟨vj,nj⟩
    ·rw[nj]
     exact aO (aO (skip (by unfold cn;rw[rj,nj];rfl)))
    ·rw[nj]
     refine bD ?_
     refine⟨_,rfl,_,rfl,a,xs,_,_,rfl,rfl,ak.of mF,ei,_,rfl,?_⟩
     rcases df xs[i] (List.getElem_mem bL) with ni |⟨vi,ni⟩
     ·rw[ni]
      exact aO (skip (by unfold cn;rw[rj,ri,nj,ni];rfl))
     ·rw[ni]
      refine bD ?_
      refine⟨_,rfl,.inl ⟨rfl,_,ae.of jL⟩,_,rfl,_,rfl,_,_,rfl,rfl,_,rfl,_,rfl,a,xs,_,_,rfl,rfl,ak.of mF,ei,_,rfl,_,rfl,a,xs,_,_,rfl,rfl,ak.of mF,ej,vi,vj,by rw[ni],by rw[nj],(by show 2≤sizeLine;decide),fun t' fm=> ?_⟩
      refine⟨_,rfl,_,rfl,(by show 3≤sizeLine;decide),fun t ht=> ?_⟩
      generalize gg:upd H3 t' (HO.tup [V.int ((i:Int) - (0+(j:Int))),V.int (vi - vj)])=H4 at ht
      have s4:ab H3 H4:=fun c o hc=>by rw[←gg,Zf (Zb hc fm)];exact hc
      have iT:H4 t'=some (.tup [V.int ((i:Int) - (0+(j:Int))),V.int (vi - vj)]):=by rw[←gg];exact Ze
      generalize fI:upd H4 t (HO.tup [V.ref t',V.int (0+(j:Int)),V.int (i:Int)])=H5
      have s5:ab H4 H5:=fun c o hc=>by rw[←fI,Zf (Zb hc ht)];exact hc
      have me:H5 t=some (.tup [V.ref t',V.int (0+(j:Int)),V.int (i:Int)]):=by rw[←fI];exact Ze
      have fZ:=s5 _ _ (s4 _ _ jL)
      have sX:az M H3 (upd H5 M (.lst (rs++[.ref t]))):=(s4.trans s5).x.trans az.upd
      have zW:rs.length<sizeLine:=by rw[sizeLine_eq];omega
      refine⟨M,rs,_,rfl,rfl,fZ,zW,rs++[.ref t],_,rfl,?_,Ze,?_,by rw[List.length_append];simp;omega⟩
      ·intro c o hc
       have h3:=s3 _ _ hc
       exact sX c o h3 (Zb hc hM)
      ·rw[Yk,←List.append_assoc]
       have es:cn xs i j=some ((i:Int) - j,vi - vj,(j:Int),(i:Int)):=by unfold cn;rw[rj,ri,nj,ni];rfl
       rw[es]
       refine Paired.snoc (Paired.bO cD fun v q' hq=>hq.x jL sX) ⟨t,t',rfl,?_,?_⟩
       ·rw[Zf (Yc me fZ (by intro z;cases z)),me,Int.zero_add]
       ·have:=s5 _ _ iT
        rw[Zf (Yc this fZ (by intro z;cases z)),this,Int.zero_add]
   ·rintro σ H3 ⟨rs,x3,rfl,s3,jL,cD,jN⟩
    have ei:((0:Int)+(i:Int)).toNat=i:=by omega
    rw[ei]at cD jN
    refine⟨rs,_,_,rfl,s3,jL,?_,by omega⟩
    rw[ZD]
    exact cD
  ·rintro σ H2 ⟨rs,x2,x3,rfl,s2,dG,bN,eI⟩
   have e:((xs.length:Int)).toNat=xs.length:=by omega
   rw[e]at bN
   exact⟨_,rfl,q M H2 rs s2 hM dG bN⟩
end
section
def keyOf (q:ay):List Key:=[Sum.inl q.1,Sum.inl q.2.1]
def cM (xs:List V):Bool:=decide ((aQ xs xs.length).map keyOf).Nodup
theorem YS (xs:List V):∀n,(aQ xs n).length≤n*n
 |0=>Nat.zero_le _
 |n+1=>by
  have ih:=YS xs n
  have h2:(cO xs n n).length≤n:=by
   have:=List.length_filterMap_le (cn xs n) (List.range n)
   rw[List.length_range]at this
   exact this
  rw[ZD,List.length_append,Nat.add_mul,Nat.mul_add]
  omega
theorem JD (xs:List V) (h:xs.length≤12):(aQ xs xs.length).length≤144:=Nat.le_trans (YS xs _) (Nat.mul_le_mul h h)
end
section
variable {P:Program}{w:World}{K:PySem.W.Frag}{mg:Str→Option Value}{base:Heap}
abbrev oB:Stmt:=top 35
def nO:Sp:=fun vs H Q _=> ∃(a:Addr) (xs:List V),vs=[.ref a]∧H a=some (.tup xs)∧mV xs∧xs.length≤12∧∀H',ab H H'→Q (.bl (cM xs)) H'
theorem kh:bf ["_law_lay_here", "_law_met", "_law_step", "_law_line", "_law_other"] ["_law_lay_here"] (aG oB):=⟨rfl,rfl,rfl,by decide+kernel,rfl,by decide+kernel,by decide+kernel⟩
theorem Paired.at {α β:Type}{F:α→β→Prop} :∀{ig:List α}{ie:List β}{i:Nat}{a:α},Paired F ig ie→ig[i]? =some a→∃b,ie[i]? =some b∧F a b
 |_,_,_,_,.nil,e=>by simp at e
 |_,_,0,_,.cons r _,e=>by simp at e;subst e;exact⟨_,rfl,r⟩
 |_,_,i+1,a,.cons _ t,e=>by
  obtain⟨u,h1,h2⟩:=Paired.at (i:=i) (a:=a) t (by simpa using e)
  exact⟨u,by simpa using h1,h2⟩
theorem Ux {f:Addr}{fd:FuncData}(F:aT K "_law_unlike" "_law_unlike" oB f fd) (D1:Def P w K mg base 1 "_law_steps" ["_law_lay_here"] (nP K)):aL P w K mg base aP 2 f fd ["_law_lay_here"] nO:=by
 refine F.ok kh (fun vs H Q E h=> ?_) (fun au A outer s H vs Q E hr h=> ?_)
 ·obtain⟨a,xs,rfl,_⟩:=h
  rfl
 ·obtain⟨a,xs,rfl,ha,df,hlen,q⟩:=h
  have hu:=W9 hr
  refine⟨_,Zg (Zz (i:=1) kh.nd rfl (Or.inl rfl) WY)
   (Zg (Yp PassesOwn.never rfl (ZK (Zh D1 hr (Za (pv 0) Zd))) (ZJ rfl (Zk (ZA (i:=2) kh.nd rfl (Or.inl rfl)) (Zk (ZA (i:=3) kh.nd rfl (Or.inl rfl)) (Zk (ZA (i:=4) kh.nd rfl (Or.inl rfl)) Zy))))
    (Zg (Z3 (Jq (Cw hu (pv 2) (pv 1))) (Zl (Zq W0)) ZF) (Zl (UX hu (pv 1) (pv 2) W0 rfl))))
   (Zl (Zq W0))),?_⟩
  intro d hd
  have s0:ab H (upd H d (.dT [])):=fun c o hc=>by rw[Zf (Zb hc hd)];exact hc
  have uu:=s0 _ _ ha
  refine⟨_,rfl,a,xs,rfl,ak.of uu,uu,df,hlen,fun l H1 rs s1 FT hl pr=> ⟨l,rfl,⟨rs,ae.of hl⟩,?_⟩⟩
  have mz:H1 d=some (.dT []):=s1 _ _ Ze
  have zZ:l≠d:=Yc hl mz (by intro z;cases z)
  generalize kJ:aQ xs xs.length=qs at pr
  have zm:cM xs=decide (qs.map keyOf).Nodup:=by unfold cM;rw[kJ]
  rw[zm]at q
  have jM:rs.length=qs.length:=Paired.length pr
  refine JI (K:=K) (a:=l) (xs:=rs) (fun i σ H2=> ∃(kvs:List (List Key×V)) (x2 x3 x4:Option V),σ=[some (.ref a),some (.ref d),x2,x3,x4]∧az d H1 H2∧H2 d=some (.dT kvs)∧kvs.map (·.1)=(qs.take i).map keyOf∧((qs.take i).map keyOf).Nodup)
   ⟨[],none,none,none,rfl,az.refl _ _,mz,rfl,List.nodup_nil⟩ (fun i σ H2 _ ⟨_,_,_,_,_,k,_⟩=>ae.of (k _ _ hl zZ)) ?_ ?_
  ·rintro i v σ H2 hv ⟨kvs,x2,x3,x4,rfl,k2,hd2,jO,jK⟩
   obtain⟨qq,hq,t,t',rfl,ht,fm⟩:=Paired.at pr hv
   have pP:=k2 _ _ ht (Yc ht mz (by intro z;cases z))
   have zw:=k2 _ _ fm (Yc fm mz (by intro z;cases z))
   have qt:(qs.take (i+1)).map keyOf=(qs.take i).map keyOf++[keyOf qq]:=by rw[List.take_add_one,hq,List.map_append];rfl
   have ue:H2 t'=some (.tup ((keyOf qq).map kV)):=zw
   refine⟨t,_,rfl,ak.of pP,rfl,_,_,rfl,_,_,rfl,_,_,rfl,rfl,?_⟩
   refine⟨_,rfl,_,rfl,d,_,rfl,hG.t hd2 ue,_,rfl,?_⟩
   have hsz:kvs.length<sizeLine:=by
    have e1:kvs.length=((qs.take i).map keyOf).length:=by rw[←jO,List.length_map]
    rw[List.length_map,List.length_take]at e1
    have:i<rs.length:=(List.getElem?_eq_some_iff.mp hv).1
    rw[sizeLine_eq]
    have zH:=JD xs hlen
    rw[kJ]at zH
    omega
   cases e:bj kvs (keyOf qq) with
   |some z=>
    refine bD ?_
    have m:keyOf qq∈(qs.take i).map keyOf:=by rw[←jO];exact Df e
    have zQ:¬(qs.map keyOf).Nodup:=fun nd=>by
     have e2:qs.map keyOf=(qs.take (i+1)).map keyOf++(qs.drop (i+1)).map keyOf:=by rw[←List.map_append,List.take_append_drop]
     rw[e2,qt]at nd
     have:=(List.nodup_append.mp nd).1
     exact(List.nodup_append.mp this).2.2 _ m _ (List.mem_singleton.mpr rfl) rfl
    rw[decide_eq_false zQ]at q
    exact q _ fun c o hc=>k2 c o (s1 _ _ (s0 _ _ hc)) (Zb hc hd)
   |none=>
    refine aO ?_
    refine⟨_,rfl,_,rfl,d,_,rfl,jZ.t hd2 ue hsz,putK kvs (keyOf qq) (.bl true),_,_,_,rfl,k2.trans az.upd,Ze,?_,?_⟩
    ·rw[Er _ e,List.map_append,jO,qt];rfl
    ·rw[qt]
     exact WC jK (by rw[←jO];exact DZ e)
  ·rintro σ H2 ⟨kvs,x2,x3,x4,rfl,k2,hd2,jO,jK⟩
   rw[jM,List.take_length]at jK
   rw[decide_eq_true jK]at q
   exact q _ fun c o hc=>k2 c o (s1 _ _ (s0 _ _ hc)) (Zb hc hd)
end
section
def yx (K:PySem.W.Frag):R2:=fun x y H Q=> ∃a b ys,x=.ref a∧y=.ref b∧ak K H a []∧ak K H b ys∧Q (.ref b) H
def lS (K:PySem.W.Frag):R2:=fun x y H Q=>yx K x y H Q∨r8 K x y H Q
theorem U2 {X:Cx} :aW X (binaryOp .Add) (lS X.K):=C7.or B5
theorem vv {K:PySem.W.Frag}{fa:Addr}{fs:List V}{y:V}{H:Hp}{Q:VK}{σ:L2.St}{i j:Nat}(hf:H fa=some (.tup fs)) (hl:fs.length≤100) (h1:σ[i]? =some (some (.ref fa))) (h2:σ[j]? =some (some y))
  (q:∀(a':Addr) (H':Hp),ab H H'→H' a'=some (.tup (fs++[y]))→Q (.ref a') H'):jn (lS K) (hW i) (nA (gz (hW j) gw)) σ H Q:=by
 refine⟨_,h1,_,h2,(by show 1≤sizeLine;decide),fun t ht=> ?_⟩
 have s1:ab H (upd H t (.tup [y])):=fun c o hc=>by rw[Zf (Zb hc ht)];exact hc
 have uo:=s1 _ _ hf
 cases fs with
 |nil=>exact .inl ⟨fa,t,[y],rfl,rfl,ak.of uo,ak.of Ze,q t _ s1 Ze⟩
 |cons x r=>
  refine .inr ⟨fa,t,x::r,[y],rfl,rfl,ak.of uo,ak.of Ze,(by simp),(by rw[sizeLine_eq];simp at hl ⊢;omega),(fun e=>by cases e),fun _ p hp=> ?_⟩
  exact q p _ (s1.trans fun c o hc=>by rw[Zf (Zb hc hp)];exact hc) Ze
theorem DT (n:Nat):L2.upTo (n+1)=L2.upTo n++[.int (n:Int)]:=by
 unfold L2.upTo
 rw[List.range_succ,List.map_append]
 rfl
theorem CP {n:Nat}{x:V}(h:x∈L2.upTo n):∃j:Nat,j<n∧x=.int (j:Int):=by
 unfold L2.upTo at h
 obtain⟨j,hj,e⟩:=List.mem_map.mp h
 exact⟨j,List.mem_range.mp hj,e.symm⟩
theorem Jo {fs:List V}{y:V}{i:Nat}(h:i<fs.length):rowAt (fs++[y]) i=rowAt fs i:=by
 unfold rowAt
 rw[List.getElem?_append_left h]
theorem Ua {α β:Type}{f g:α→Option β} :∀{l:List α},(∀x∈l,f x=g x)→l.filterMap f=l.filterMap g
 | [],_=>rfl
 |a::l,h=>by
  rw[List.filterMap_cons,List.filterMap_cons,h a List.mem_cons_self,Ua fun x hx=>h x (List.mem_cons_of_mem _ hx)]
theorem YG {fs:List V}{y:V} :∀n,n≤fs.length→aQ (fs++[y]) n=aQ fs n
 |0,_=>rfl
 |n+1,h=>by
  rw[ZD,ZD,YG n (by omega)]
  congr 1
  unfold cO
  refine Ua fun j hj=> ?_
  have:=List.mem_range.mp hj
  unfold cn
  rw[Jo (by omega),Jo (by omega)]
theorem WT {fs:List V}(h:cM fs=true):cM (fs++[.ai])=true:=by
 unfold cM at h ⊢
 have e:(fs++[V.ai]).length=fs.length+1:=by simp
 rw[e,ZD,YG _ (Nat.le_refl _)]
 have e2:cO (fs++[V.ai]) fs.length fs.length=[]:=by
  unfold cO
  rw[List.filterMap_eq_nil_iff]
  intro j _
  unfold cn
  have e3:rowAt (fs++[V.ai]) fs.length=none:=by unfold rowAt;simp;rfl
  rw[e3]
  cases rowAt (fs++[V.ai]) j<;>rfl
 rw[e2,List.append_nil]
 exact h
theorem CV {j:Int}{fs:List V}(h:(!dD (.int j) fs)=true):V.int j∉fs:=fun m=>by
 have:dD (.int j) fs=true:=List.any_eq_true.mpr ⟨_,m,by show(j==j)=true;simp⟩
 rw[this]at h
 cases h
theorem three {v:Int}(h:0≤v) (h':v<3):∃c:Int,dU ([V.int 0,.int 1,.int 3]:List V) v=some (.int c):=by
 have:v=0∨v=1∨v=2:=by omega
 rcases this with rfl |rfl |rfl<;>exact⟨_,rfl⟩
end
section
variable {P:Program}{w:World}{K:PySem.W.Frag}{mg:Str→Option Value}{base:Heap}
abbrev oJ:Stmt:=top 36
def nS (K:PySem.W.Frag):Sp:=fun vs H Q _=> ∃(p b:Addr) (wd hg:Int),vs=[.ref p,.ref b]∧bZ H p∧dN H (.ref b) wd hg∧
 ∀(l:Addr) (H':Hp) (xs:List V),az p H H'→bZ H' p→H' l=some (.tup xs)→l≠p→cI wd hg xs→cM xs=true→Q (.ref l) H'
theorem fT:bf ["_law_state_here", "_law_board_here", "_law_way", "_law_found", "_law_line", "_law_share", "_law_spot", "_law_left", "_law_some", "_law_row"] ["_law_state_here", "_law_board_here"] (aG oJ):=⟨rfl,rfl,rfl,by decide+kernel,rfl,by decide+kernel,by decide+kernel⟩
theorem C1 {f:Addr}{fd:FuncData}(F:aT K "_law_grown" "_law_grown" oJ f fd) (G:Gs mg) (D1:Def P w K mg base 1 "_law_take" ["_law_state_here", "_law_many"] jo) (D2:Def P w K mg base 2 "_law_unlike" ["_law_lay_here"] nO):
  aL P w K mg base aP 3 f fd ["_law_state_here", "_law_board_here"] (nS K):=by
 refine F.ok fT (fun vs H Q E h=> ?_) (fun au A outer s H vs Q E hr h=> ?_)
 ·obtain⟨p,b,wd,hg,rfl,_⟩:=h
  rfl
 ·obtain⟨p,b,wd,hg,rfl,st,bd,q⟩:=h
  have iV:=hr.mono (show 1≤2 by decide)
  refine⟨_,Zg (Ww (ZG (Za (Zh D1 iV (Za (pv 0) (Za Zi Zd))) (Za (ZG Zd) Zd))) (ZJ rfl (Zk (ZA (i:=2) fT.nd rfl (Or.inl rfl)) (Zk (ZA (i:=3) fT.nd rfl (Or.inr rfl)) Zy))))
   (Zg (Yp PassesOwn.never rfl (Z6 rfl G.range (Za (ZN Z2 (pv 1) Zi (fun _ _=>rfl)) Zd)) (ZA (i:=4) fT.nd rfl (Or.inl rfl))
    (Zg (Wv (i:=5) (j:=6) rfl fT.nd rfl rfl (by decide) rfl rfl (Za (Zh D1 iV (Za (pv 0) (Za Zi Zd))) (Za (Zh D1 iV (Za (pv 0) (Za Zi Zd))) Zd)) rfl)
    (Zg (YN ["_law_row", "_law_found"] 1 [3] (i:=7) fT.nd rfl (Or.inl rfl) (Z6 rfl G.range (Za (ZN Z2 (pv 1) Zi (fun _ _=>rfl)) Zd)) (fun C s H fp=>pb 0) (fun C s H fp=>ZZ (Zu (show aW (aV _ _ _ C s H fp) (compareOp .NotIn) (r6 K true) from WA) (pv 0) (pv 1) rfl)) (fun C s H fp D=>Zv rfl (pv 0)))
    (Zg (YN ["_law_row", "_law_found"] 1 [3] (i:=8) fT.nd rfl (Or.inl rfl) (ZK (pv 7)) (fun C s H fp=>pb 0) (fun C s H fp=>ZZ (YI (Zh D2 hr (Za (Zo (show aW (aV _ _ _ C s H fp) (binaryOp .Add) (lS K) from U2) (pv 1) (ZG (Za (pv 0) Zd))) Zd)))) (fun C s H fp D=>Zv rfl (pv 0)))
    (Zg (Zz (i:=9) fT.nd rfl (Or.inl rfl) Uv)
    (Zg (Z3 (PW.pt (vG (Zu (u7 hr.nh) (pv 8) (Yn Zd) (bJ _)) (UU (Zu uX (pv 5) (ZN ZY (Yn (Za Zi (Za Zi (Za Zi Zd)))) (pv 2) (fun _ _=>rfl)) (bJ _)))))
     (Zl (Zz (i:=9) fT.nd rfl (Or.inl rfl) (ZN ZY (pv 8) (Zo Yq (pv 6) (Zp ZC rfl G.len boot_len (Za (pv 8) Zd))) (fun _ _=>rfl)))) ZF)
    (Zl (Zz (i:=3) fT.nd rfl (Or.inr rfl) (Zo U2 (pv 3) (ZG (Za (pv 9) Zd)))))))))))
   (Zl (Zq (pv 3)))),?_⟩
  obtain⟨a,e,hb⟩:=Zw bd.1
  cases e
  obtain⟨_,w1,w2,g1,g2⟩:=id bd
  obtain⟨u0,v0,e0,_⟩:=id st
  have mE:b≠p:=Yc hb e0 (by intro z;cases z)
  refine⟨_,rfl,p,3,rfl,st,by decide,by decide,fun way o1 h1 jR aw=> ⟨Nat.zero_le _,fun f0 Am=> ⟨(by show 2≤sizeLine;decide),fun tt zp=> ⟨tt,_,rfl,ak.of Ze,rfl,_,_,rfl,_,_,rfl,rfl,?_⟩⟩⟩⟩
  have x1:az p H (upd H p o1):=az.upd
  have sA:ab (upd H p o1) (upd (upd H p o1) f0 (.tup [])):=fun c o hc=>by rw[Zf (Zb hc Am)];exact hc
  have sB:ab (upd (upd H p o1) f0 (.tup [])) (upd (upd (upd H p o1) f0 (.tup [])) tt (.tup [.int way,.ref f0])):=fun c o hc=>by rw[Zf (Zb hc zp)];exact hc
  generalize qm:upd (upd (upd H p o1) f0 (HO.tup [])) tt (HO.tup [V.int way,V.ref f0])=H0 at sB
  have x0:az p H H0:=x1.trans (sA.trans sB).x
  obtain⟨u1,v1,e1,y1,y2,y3⟩:=id aw
  have cq:bZ H0 p:=⟨u1,v1,(sA.trans sB) _ _ e1,y1,y2,y3⟩
  have qh:=x0 _ _ hb mE
  refine⟨_,rfl,b,_,_,_,rfl,rfl,ak.of qh,jf,wd,rfl,by omega,by omega,?_⟩
  refine Yj (n:=wd.toNat) (fun i σ H2=> ∃(fa:Addr) (fs:List V) (x4 x5 x6 x7 x8 x9:Option V),σ=[some (.ref p),some (.ref b),some (.int way),some (.ref fa),x4,x5,x6,x7,x8,x9]∧az p H H2∧bZ H2 p∧H2 fa=some (.tup fs)∧fs.length=i∧
    (∀r∈rowsOf fs,bQ r 0 (hg - 1)=true)∧(rowsOf fs).Nodup∧cM fs=true)
   ⟨f0,[],none,none,none,none,none,none,rfl,x0,cq,sB _ _ Ze,rfl,(fun r bC=>nomatch (show r∈([]:List V) from bC)),List.nodup_nil,rfl⟩ ?_ ?_
  ·rintro i σ H2 hi ⟨fa,fs,x4,x5,x6,x7,x8,x9,rfl,k2,ag,iq,um,df,eF,pM⟩
   have bL:i<wd.toNat:=hi
   refine⟨_,rfl,p,4,rfl,ag,by decide,by decide,fun sh o3 _ _ aE=> ?_⟩
   refine⟨_,rfl,p,12,rfl,aE,by decide,by decide,fun sp o4 tP mh cC=> ⟨_,_,rfl,?_⟩⟩
   generalize gg:upd (upd H2 p o3) p o4=H4 at cC
   have qX:az p H2 H4:=by rw[←gg];exact az.upd.trans az.upd
   obtain⟨uz,vz,ez,_⟩:=id ag
   have Aj:fa≠p:=Yc iq ez (by intro z;cases z)
   have p8:=qX _ _ iq Aj
   have k4:az p H H4:=k2.trans qX
   have Az:=k4 _ _ hb mE
   have rY:mV fs:=fun x hx=>by
    by_cases e:x=.ai
    ·exact .inl e
    ·have m:x∈rowsOf fs:=List.mem_filter.mpr ⟨hx,by simp[e]⟩
     have q':=df x m
     cases x with
     |int i=>exact .inr ⟨i,rfl⟩
     |_=>cases q'
   have flat:fs.all gT=true:=List.all_eq_true.mpr fun x hx=>by
    rcases rY x hx with z |⟨j,z⟩<;>rw[z]<;>rfl
   refine⟨_,rfl,b,_,_,_,rfl,rfl,ak.of Az,iD,hg,rfl,by omega,by omega,?_⟩
   refine UB (n:=hg.toNat) (fun j ys ah H'=>ys=(L2.upTo j).filter (fun r=> !dD r fs)∧H'=H4∧∃v,ah=[v,some (.ref fa)]) ⟨rfl,rfl,none,rfl⟩ ?_ ?_
   ·rintro j ys ah H' hj ⟨rfl,rfl,v,rfl⟩
    have eu:(L2.upTo (j+1)).filter (fun r=> !dD r fs)=(L2.upTo j).filter (fun r=> !dD r fs)++(if (!dD (.int (0+(j:Int))) fs)=true then [V.int (0+(j:Int))] else []):=by
     rw[DT,List.filter_append,Int.zero_add]
     cases hh:(!dD (.int (j:Int)) fs)<;>simp[hh]
    refine⟨_,rfl,_,rfl,fa,fs,rfl,.inr (ak.of p8),rfl,flat,_,rfl,?_⟩
    show if (!dD (.int (0+(j:Int))) fs)=true then _ else _
    cases hh:(!dD (.int (0+(j:Int))) fs) with
    |true=>
     rw[hh]at eu
     refine bD ?_
     refine⟨_,rfl,?_,?_⟩
     ·have:=List.length_filter_le (fun r=> !dD r fs) (L2.upTo j)
      have e2:(L2.upTo j).length=j:=by unfold L2.upTo;simp
      rw[sizeLine_eq]
      omega
     ·exact⟨by rw[eu,if_pos rfl],rfl,_,rfl⟩
    |false=>
     rw[hh]at eu
     exact aO ⟨by rw[eu,if_neg Bool.false_ne_true,List.append_nil],rfl,_,rfl⟩
   ·rintro ys ah H' ⟨rfl,rfl,v,rfl⟩ L hL
    generalize f9:(L2.upTo hg.toNat).filter (fun r=> !dD r fs)=ls
    have sL:ab H' (upd H' L (.lst ls)):=fun c o hc=>by rw[Zf (Zb hc hL)];exact hc
    generalize fI:upd H' L (HO.lst ls)=H5 at sL
    have uy:H5 L=some (.lst ls):=by rw[←fI];exact Ze
    have FP:ls.length≤12:=by
     have:=List.length_filter_le (fun r=> !dD r fs) (L2.upTo hg.toNat)
     have e2:(L2.upTo hg.toNat).length=hg.toNat:=by unfold L2.upTo;simp
     rw[f9]at this
     omega
    have good:∀y∈ls,∃j:Int,y=.int j∧0≤j∧j<hg∧V.int j∉fs:=fun y hy=>by
     rw[←f9]at hy
     obtain⟨m1,m2⟩:=List.mem_filter.mp hy
     obtain⟨j,hj,rfl⟩:=CP m1
     exact⟨j,rfl,by omega,by omega,CV m2⟩
    refine⟨_,rfl,L,rfl,⟨ls,ae.of uy⟩,?_⟩
    refine ZE (xs:=ls) (fun j ys ah g9=>ys=(ls.take j).filter (fun r=>cM (fs++[r]))∧ab H5 g9∧∃v,ah=[v,some (.ref fa)]) ⟨rfl,ab.refl _,none,rfl⟩ (fun j ys ah g9 _ ⟨_,s',_⟩=>ae.of (s' _ _ uy)) ?_ ?_
    ·rintro j y ys ah g9 hy ⟨rfl,s',v,rfl⟩
     obtain⟨jj,ey,_,_,_⟩:=good y (List.mem_of_getElem? hy)
     have eu:(ls.take (j+1)).filter (fun r=>cM (fs++[r]))=(ls.take j).filter (fun r=>cM (fs++[r]))++(if cM (fs++[y])=true then [y] else []):=by
      rw[List.take_add_one,hy,List.filter_append]
      cases hh:cM (fs++[y])<;>simp[hh]
     have Al:=s' _ _ (sL _ _ p8)
     refine vv (i:=1) (j:=0) Al (by omega) rfl rfl fun a' H7 s7 gO=> ?_
     refine⟨a',fs++[y],rfl,gO,fun x hx=> ?_,by rw[List.length_append];simp;omega,fun H8 s8=> ⟨_,rfl,?_⟩⟩
     ·rcases List.mem_append.mp hx with z |z
      ·exact rY x z
      ·exact .inr ⟨jj,by rw[List.mem_singleton.mp z,ey]⟩
     cases hh:cM (fs++[y]) with
     |true=>
      rw[hh]at eu
      refine bD ?_
      refine⟨_,rfl,?_,?_⟩
      ·have:=List.length_filter_le (fun r=>cM (fs++[r])) (ls.take j)
       rw[List.length_take]at this
       rw[sizeLine_eq]
       omega
      ·exact⟨by rw[eu,if_pos rfl],s'.trans (s7.trans s8),_,rfl⟩
     |false=>
      rw[hh]at eu
      exact aO ⟨by rw[eu,if_neg Bool.false_ne_true,List.append_nil],s'.trans (s7.trans s8),_,rfl⟩
    ·rintro ys ah g9 ⟨rfl,s',v,rfl⟩ S hS
     rw[List.take_length]
     generalize Af:ls.filter (fun r=>cM (fs++[r]))=gs
     have sS:ab g9 (upd g9 S (.lst gs)):=fun c o hc=>by rw[Zf (Zb hc hS)];exact hc
     generalize uB:upd g9 S (HO.lst gs)=H6 at sS
     have uw:H6 S=some (.lst gs):=by rw[←uB];exact Ze
     have rQ:ab H' H6:=sL.trans (s'.trans sS)
     obtain⟨u4,v4,e4,z1,z2,z3⟩:=id cC
     have fin:∀(y:V) (H7:Hp) (b5 b6 b7 b8:Option V) (D:Ends),(D.nx=fun σ H2=> ∃(fa:Addr) (fs:List V) (x4 x5 x6 x7 x8 x9:Option V),σ=[some (.ref p),some (.ref b),some (.int way),some (.ref fa),x4,x5,x6,x7,x8,x9]∧az p H H2∧bZ H2 p∧H2 fa=some (.tup fs)∧fs.length=i+1∧
       (∀r∈rowsOf fs,bQ r 0 (hg - 1)=true)∧(rowsOf fs).Nodup∧cM fs=true)→ab H6 H7→(y=.ai∨y∈gs)→
       ka (jn (lS K) (hW 3) (nA (gz (hW 9) gw))) (aS 3) D [some (.ref p),some (.ref b),some (.int way),some (.ref fa),some (.int (0+(i:Int))),b5,b6,b7,b8,some y] H7:=fun y H7 b5 b6 b7 b8 D eD s7 hy=>by
      have Ak:=s7 _ _ (rQ _ _ p8)
      refine vv (i:=3) (j:=9) Ak (by omega) rfl rfl fun a' H8 s8 gO=> ?_
      show D.nx _ _
      rw[eD]
      have rP:ab H' H8:=rQ.trans (s7.trans s8)
      refine⟨a',fs++[y],_,_,_,_,_,_,rfl,k4.trans rP.x,⟨u4,v4,rP _ _ e4,z1,z2,z3⟩,gO,by rw[List.length_append,um];rfl,?_⟩
      rcases hy with rfl |hy
      ·have e9:rowsOf (fs++[.ai])=rowsOf fs:=by rw[ZT];simp
       rw[e9]
       exact⟨df,eF,WT pM⟩
      ·rw[←Af]at hy
       obtain⟨m1,m2⟩:=List.mem_filter.mp hy
       obtain⟨jj,rfl,j1,j2,j3⟩:=good y m1
       have e9:rowsOf (fs++[.int jj])=rowsOf fs++[.int jj]:=by rw[ZT];rfl
       rw[e9]
       refine⟨fun r bC=> ?_,?_,m2⟩
       ·rcases List.mem_append.mp bC with z |z
        ·exact df r z
        ·rw[List.mem_singleton.mp z]
         show(decide ((0:Int)≤jj)&&decide (jj≤hg - 1))=true
         rw[decide_eq_true j1,decide_eq_true (by omega)]
         rfl
       ·exact WC eF fun m=>j3 (List.mem_filter.mp m).1
     refine⟨_,rfl,Nat.zero_le _,fun q2 bz=> ?_⟩
     have sD:ab H6 (upd H6 q2 (.lst [])):=fun c o hc=>by rw[Zf (Zb hc bz)];exact hc
     refine⟨S,q2,gs,rfl,rfl,ae.of (sD _ _ uw),ae.of Ze,_,rfl,?_⟩
     generalize FW:upd H6 q2 (HO.lst [])=H7 at sD
     cases kW:gs.isEmpty with
     |true=>exact aO (aO (fin .ai H7 _ _ _ _ _ rfl sD (.inl rfl)))
     |false=>
      refine bD ?_
      have cj:gs≠[]:=fun z=>by rw[z]at kW;cases kW
      have zK:0<gs.length:=List.length_pos_iff.mpr cj
      refine⟨_,rfl,(by show 3≤sizeLine;decide),fun q3 iW=> ?_⟩
      obtain⟨c3,Au⟩:=three h1 jR
      have sE:ab H7 (upd H7 q3 (.lst [.int 0,.int 1,.int 3])):=fun c o hc=>by rw[Zf (Zb hc iW)];exact hc
      refine⟨_,rfl,q3,_,_,_,rfl,rfl,ae.of Ze,Au,_,_,rfl,rfl,_,rfl,?_⟩
      generalize FV:upd H7 q3 (HO.lst [V.int 0,.int 1,.int 3])=H8 at sE
      have uv:=sE _ _ (sD _ _ uw)
      have m1:0≤sp%(gs.length:Int):=Int.emod_nonneg _ (by omega)
      have m2:sp%(gs.length:Int)<gs.length:=Int.emod_lt_of_pos _ (by omega)
      have m3:(sp%(gs.length:Int)).toNat<gs.length:=by omega
      have m5:dU gs (sp%(gs.length:Int))=some gs[(sp%(gs.length:Int)).toNat]:=by
       have:=Jl (xs:=gs) (List.getElem?_eq_getElem m3)
       rw[Int.toNat_of_nonneg m1]at this
       exact this
      refine pD (fun _=> ?_) (fun _=>fin .ai H8 _ _ _ _ _ rfl (sD.trans sE) (.inl rfl))
      refine⟨_,rfl,_,rfl,_,rfl,S,gs,rfl,.inl (ae.of uv),_,_,rfl,rfl,(by show(0:Int)< (gs.length:Int);omega),S,gs,_,_,rfl,rfl,ae.of uv,m5,?_⟩
      exact fin _ H8 _ _ _ _ _ rfl (sD.trans sE) (.inr (List.getElem_mem m3))
  ·rintro σ H2 ⟨fa,fs,x4,x5,x6,x7,x8,x9,rfl,k2,ag,iq,um,df,eF,pM⟩
   obtain⟨uz,vz,ez,_⟩:=id ag
   exact⟨_,rfl,q fa H2 fs k2 ag iq (Yc iq ez (by intro z;cases z)) ⟨by omega,df,eF⟩ pM⟩
end
section
def aj (xs:List V):List (Int×Int):=(List.range xs.length).filterMap fun l=> (rowAt xs l).map fun r=> ((l:Int),r)
def jX (H:Hp) (v:V) (q:Int×Int):Prop:=∃t:Addr,v=.ref t∧H t=some (.tup [.int q.1,.int q.2])
def fL (H:Hp) (v:V) (q:ay):Prop:=∃t:Addr,v=.ref t∧H t=some (.tup [.int q.1,.int q.2.1,.int q.2.2.1,.int q.2.2.2])
theorem jX.same {H H':Hp}{v:V}{q:Int×Int}(h:jX H v q) (s:ab H H'):jX H' v q:=by
 obtain⟨t,e,h1⟩:=h
 exact⟨t,e,s _ _ h1⟩
theorem fL.same {H H':Hp}{v:V}{q:ay}(h:fL H v q) (s:ab H H'):fL H' v q:=by
 obtain⟨t,e,h1⟩:=h
 exact⟨t,e,s _ _ h1⟩
def pairsOf (ps:List (Int×Int)) (a:Int×Int) (j:Nat):List ay:=((ps.take j).filter fun b=>decide (a.1<b.1)).map fun b=> (a.1,a.2,b.1,b.2)
def gF (ps:List (Int×Int)) (i:Nat):List ay:=(ps.take i).flatMap fun a=>pairsOf ps a ps.length
def eZ (ps:List (Int×Int)):List ay:=gF ps ps.length
theorem Wz {ps:List (Int×Int)}{a b:Int×Int}{j:Nat}(h:ps[j]? =some b):pairsOf ps a (j+1)=pairsOf ps a j++(if decide (a.1<b.1)=true then [(a.1,a.2,b.1,b.2)] else []):=by
 unfold pairsOf
 rw[List.take_add_one,h,List.filter_append,List.map_append]
 cases hh:decide (a.1<b.1)<;>simp_all
theorem Wy {ps:List (Int×Int)}{a:Int×Int}{i:Nat}(h:ps[i]? =some a):gF ps (i+1)=gF ps i++pairsOf ps a ps.length:=by
 unfold gF
 rw[List.take_add_one,h,List.flatMap_append]
 simp
end
section
variable {P:Program}{w:World}{K:PySem.W.Frag}{mg:Str→Option Value}{base:Heap}
abbrev om:Stmt:=top 14
def bw (H:Hp) (x y:V) (wd hg:Int) (xs:List V):Prop:=dN H x wd hg∧bV H y=some xs∧cI wd hg xs
theorem bw.same {H H':Hp}{x y:V}{wd hg:Int}{xs:List V}(h:bw H x y wd hg xs) (s:ab H H'):bw H' x y wd hg xs:=⟨h.1.same s,s.bV h.2.1,h.2.2⟩
theorem bw.pl {H:Hp}{x y:V}{wd hg:Int}{xs:List V}(h:bw H x y wd hg xs):mW K H y:=by
 obtain⟨a,rfl,ha⟩:=Zw h.2.1
 refine⟨⟨_,.tup ha⟩,fun zs e z hz=> ?_⟩
 rw[h.2.1]at e
 cases e
 rcases h.2.2.ok z hz with rfl |⟨i,rfl⟩
 ·exact⟨_,.ai⟩
 ·exact⟨_,.int i⟩
def nI:Sp:=fun vs H Q _=> ∃x y wd hg xs,vs=[x,y]∧bw H x y wd hg xs∧∀H',ab H H'→Q .ai H'
theorem xH:bf ["board", "lay"] ["board", "lay"] (aG om):=⟨rfl,rfl,rfl,by decide+kernel,rfl,by decide+kernel,by decide+kernel⟩
theorem Uw {f:Addr}{fd:FuncData}(F:aT K "need_lay" "need_lay" om f fd) (D1:Def P w K mg base 5 "is_lay" ["board", "thing"] (nM K)):aL P w K mg base aP 6 f fd ["board", "lay"] nI:=by
 refine F.ok xH (fun vs H Q E h=> ?_) (fun au A outer s H vs Q E hr h=> ?_)
 ·obtain⟨x,y,wd,hg,xs,rfl,_⟩:=h
  rfl
 ·obtain⟨x,y,wd,hg,xs,rfl,l,q⟩:=h
  refine⟨_,Zl (Z3 (YW (YI (Zh D1 hr (Za (pv 0) (Za (pv 1) Zd))))) ZO ZF),?_⟩
  refine⟨x,rfl,y,rfl,x,y,wd,hg,rfl,l.1,l.pl,fun H' sm=> ⟨_,rfl,?_⟩⟩
  rw[l.2.1,l.2.2.is]
  exact aO (q H' sm)
def kc:Sp:=fun vs H Q _=> ∃x y wd hg xs,vs=[x,y]∧bw H x y wd hg xs∧∀(l:Addr) (H':Hp) (ps:List V),ab H H'→H l=none→H' l=some (.lst ps)→Paired (jX H') ps (aj xs)→Q (.ref l) H'
abbrev oj:Stmt:=top 24
def nH:Sp:=fun vs H Q _=> ∃x y wd hg xs,vs=[x,y]∧bw H x y wd hg xs∧∀(l:Addr) (H':Hp) (ps:List V),ab H H'→H l=none→H' l=some (.lst ps)→Paired (fL H') ps (eZ (aj xs))→Q (.ref l) H'
theorem rH:bf ["board", "lay", "found"] ["board", "lay"] (aG oj):=⟨rfl,rfl,rfl,by decide+kernel,rfl,by decide+kernel,by decide+kernel⟩
theorem C2 {f:Addr}{fd:FuncData}(F:aT K "point_pairs" "point_pairs" oj f fd) (D1:Def P w K mg base 7 "points" ["board", "lay"] kc):aL P w K mg base aP 8 f fd ["board", "lay"] nH:=by
 refine F.ok rH (fun vs H Q E h=> ?_) (fun au A outer s H vs Q E hr h=> ?_)
 ·obtain⟨x,y,wd,hg,xs,rfl,_⟩:=h
  rfl
 ·obtain⟨x,y,wd,hg,xs,rfl,l,q⟩:=h
  refine⟨_,Zg (Zz (i:=2) rH.nd rfl (Or.inr rfl) (Zh D1 hr (Za (pv 0) (Za (pv 1) Zd))))
   (Zl (Zq (ZW ["line", "row", "other", "there", "found"] 4 [2] (ZK (pv 2))
    (fun C s H fp=>show PG (aV _ _ _ C s H fp) _ (dH K 2 (aX (aS 0) (aX (aS 1) dI))) from ZJ rfl (Zk (pb 0) (Zk (pb 1) Zy))) (fun C s H fp=>Yl)
    (fun C s H fp D=>Ep rfl rfl rfl (show PI (aV _ _ _ C s H fp) _ _ (tF K (hW 4)) from ZK (pv 4))
     (show PG (aV _ _ _ C s H fp) _ (dH K 2 (aX (aS 2) (aX (aS 3) dI))) from ZJ rfl (Zk (pb 2) (Zk (pb 3) Zy)))
     (ZZ (Zu uZ (pv 0) (pv 2) (bJ _))) (Zv rfl (ZG (Za (pv 0) (Za (pv 1) (Za (pv 2) (Za (pv 3) Zd)))))) (by intro _;rfl) (by intro g' h;cases h))))),?_⟩
  refine⟨x,rfl,y,rfl,x,y,wd,hg,xs,rfl,l,fun fa H1 ps s1 fE hf pr=> ?_⟩
  generalize kJ:aj xs=qs at pr q
  have jM:ps.length=qs.length:=Paired.length pr
  have FK:qs.length≤12:=by
   rw[←kJ]
   unfold aj
   have:=List.length_filterMap_le (fun l:Nat=> (rowAt xs l).map fun r=> ((l:Int),r)) (List.range xs.length)
   rw[List.length_range]at this
   have h1:=l.2.2.len
   have h2:=l.1.2.2.1
   omega
  refine⟨_,rfl,fa,rfl,⟨ps,ae.of hf⟩,?_⟩
  refine ZE (xs:=ps) (fun i ys σ H2=> ∃v0 v1 v2 v3,σ=[v0,v1,v2,v3,some (.ref fa)]∧ab H1 H2∧Paired (fL H2) ys (gF qs i)∧ys.length≤i*12) ⟨_,_,_,_,rfl,ab.refl _,.nil,Nat.zero_le _⟩ (fun i ys σ H2 _ ⟨_,_,_,_,_,s2,_⟩=>ae.of (s2 _ _ hf)) ?_ ?_
  ·rintro i v ys σ H2 hv ⟨v0,v1,v2,v3,rfl,s2,bN,eI⟩
   obtain⟨a,zG,t,rfl,ht⟩:=Paired.at pr hv
   have hi:i<ps.length:=(List.getElem?_eq_some_iff.mp hv).1
   refine⟨t,_,rfl,ak.of (s2 _ _ ht),rfl,_,_,rfl,_,_,rfl,rfl,?_⟩
   refine⟨_,rfl,fa,rfl,⟨ps,ae.of (s2 _ _ hf)⟩,?_⟩
   refine ZE (xs:=ps) (fun j ys σ H3=> ∃v2 v3,σ=[some (.int a.1),some (.int a.2),v2,v3,some (.ref fa)]∧ab H1 H3∧Paired (fL H3) ys (gF qs i++pairsOf qs a j)∧ys.length≤i*12+j) ⟨_,_,rfl,s2,by simpa[pairsOf] using bN,eI⟩ (fun i ys σ H2 _ ⟨_,_,_,s2,_⟩=>ae.of (s2 _ _ hf)) ?_ ?_
   ·rintro j v ys σ H3 tK ⟨v2,v3,rfl,s3,cD,jN⟩
    obtain⟨b,zF,t',rfl,fm⟩:=Paired.at pr tK
    have hj:j<ps.length:=(List.getElem?_eq_some_iff.mp tK).1
    have es:=Wz (a:=a) zF
    refine⟨t',_,rfl,ak.of (s3 _ _ fm),rfl,_,_,rfl,_,_,rfl,rfl,?_⟩
    refine⟨_,rfl,_,rfl,_,_,rfl,rfl,_,rfl,?_⟩
    cases hh:decide (a.1<b.1) with
    |true=>
     rw[hh]at es
     refine bD ?_
     refine⟨_,rfl,_,rfl,_,rfl,_,rfl,(by show 4≤sizeLine;decide),fun t4 iT=> ⟨by rw[sizeLine_eq];omega,?_⟩⟩
     have s4:ab H3 (upd H3 t4 (.tup [.int a.1,.int a.2,.int b.1,.int b.2])):=fun c o hc=>by rw[Zf (Zb hc iT)];exact hc
     refine⟨_,_,rfl,s3.trans s4,?_,by rw[List.length_append];simp;omega⟩
     rw[es,if_pos rfl,←List.append_assoc]
     exact Paired.snoc (Paired.bO cD fun v q' hq=>hq.same s4) ⟨t4,rfl,Ze⟩
    |false=>
     rw[hh]at es
     refine aO ⟨_,_,rfl,s3,?_,by omega⟩
     rw[es,if_neg Bool.false_ne_true,List.append_nil]
     exact cD
   ·rintro ys σ H3 ⟨v2,v3,rfl,s3,cD,jN⟩
    refine⟨_,_,_,_,rfl,s3,?_,by omega⟩
    rw[Wy zG,←jM]
    exact cD
  ·rintro ys σ H2 ⟨v0,v1,v2,v3,rfl,s2,bN,eI⟩ p hp
   have s4:ab H2 (upd H2 p (.lst ys)):=fun c o hc=>by rw[Zf (Zb hc hp)];exact hc
   refine q p _ ys (s1.trans (s2.trans s4)) ((s1.trans s2).free hp) Ze ?_
   rw[jM]at bN
   exact Paired.bO bN fun v q' hq=>hq.same s4
end
section
def lU (xs:List V) (n:Nat):List (Int×Int):=(List.range n).filterMap fun l=> (rowAt xs l).map fun r=> ((l:Int),r)
theorem Jp (xs:List V) (n:Nat):lU xs (n+1)=lU xs n++((rowAt xs n).map fun r=> ((n:Int),r)).toList:=by
 unfold lU
 rw[List.range_succ,List.filterMap_append]
 cases h:rowAt xs n<;>simp[h]
end
section
variable {P:Program}{w:World}{K:PySem.W.Frag}{mg:Str→Option Value}{base:Heap}
abbrev oi:Stmt:=top 15
theorem xG:bf ["board", "lay"] ["board", "lay"] (aG oi):=⟨rfl,rfl,rfl,by decide+kernel,rfl,by decide+kernel,by decide+kernel⟩
theorem DJ {f:Addr}{fd:FuncData}(F:aT K "points" "points" oi f fd) (G:Gs mg) (D1:Def P w K mg base 6 "need_lay" ["board", "lay"] nI):aL P w K mg base aP 7 f fd ["board", "lay"] kc:=by
 refine F.ok xG (fun vs H Q E h=> ?_) (fun au A outer s H vs Q E hr h=> ?_)
 ·obtain⟨x,y,wd,hg,xs,rfl,_⟩:=h
  rfl
 ·obtain⟨x,y,wd,hg,xs,rfl,l,q⟩:=h
  refine⟨_,Zg (Ym (Zh D1 hr (Za (pv 0) (Za (pv 1) Zd))))
   (Zl (Zq (ZW ["line", "row"] 2 [] (Dz rfl G.enumerate (Za (pv 1) Zd))
    (fun C s H fp=>show PG (aV _ _ _ C s H fp) _ (dH K 2 (aX (aS 0) (aX (aS 1) dI))) from ZJ rfl (Zk (pb 0) (Zk (pb 1) Zy)))
    (fun C s H fp=>ZZ (Jq (Jf (pv 1)))) (fun C s H fp D=>Zv rfl (ZG (Za (pv 0) (Za (pv 1) Zd))))))),?_⟩
  refine⟨x,rfl,y,rfl,x,y,wd,hg,xs,rfl,l,fun H1 s1=> ?_⟩
  obtain⟨a,rfl,ha⟩:=Zw (l.same s1).2.1
  have hlen:xs.length≤12:=by
   have h1:=l.2.2.len
   have h2:=l.1.2.2.1
   omega
  refine⟨_,rfl,a,rfl,⟨xs,ak.of ha⟩,?_⟩
  refine Em (xs:=xs) (fun i ys σ H2=> ∃v0 v1,σ=[v0,v1]∧ab H1 H2∧Paired (jX H2) ys (lU xs i)∧ys.length≤i) ⟨_,_,rfl,ab.refl _,.nil,Nat.zero_le _⟩ (fun i ys σ H2 _ ⟨_,_,_,s2,_⟩=>ak.of (s2 _ _ ha)) ?_ ?_
  ·rintro i v T ys σ H2 hv hT ⟨v0,v1,rfl,s2,bN,eI⟩
   have hi:i<xs.length:=(List.getElem?_eq_some_iff.mp hv).1
   have sT:ab H2 (upd H2 T (.par [.int (i:Int),v])):=fun c o hc=>by rw[Zf (Zb hc hT)];exact hc
   have er:rowAt xs i=km v:=by unfold rowAt;rw[hv];rfl
   refine⟨T,_,rfl,ak.pe Ze,rfl,_,_,rfl,_,_,rfl,rfl,?_⟩
   refine⟨_,rfl,_,rfl,?_⟩
   generalize uC:upd H2 T (HO.par [V.int (i:Int),v])=H3 at sT
   rcases l.2.2.ok v (List.mem_of_getElem? hv) with rfl |⟨r,rfl⟩
   ·refine aO ⟨_,_,rfl,s2.trans sT,?_,by omega⟩
    rw[Jp,er]
    exact(by simpa[km] using Paired.bO bN fun v q' hq=>hq.same sT)
   ·refine bD ?_
    refine⟨_,rfl,_,rfl,(by show 2≤sizeLine;decide),fun t ht=> ⟨by rw[sizeLine_eq];omega,?_⟩⟩
    have s4:ab H3 (upd H3 t (.tup [.int (i:Int),.int r])):=fun c o hc=>by rw[Zf (Zb hc ht)];exact hc
    refine⟨_,_,rfl,s2.trans (sT.trans s4),?_,by rw[List.length_append];simp;omega⟩
    rw[Jp,er]
    exact Paired.snoc (Paired.bO bN fun v q' hq=>hq.same (sT.trans s4)) ⟨t,rfl,Ze⟩
  ·rintro ys σ H2 ⟨v0,v1,rfl,s2,bN,eI⟩ p hp
   have s4:ab H2 (upd H2 p (.lst ys)):=fun c o hc=>by rw[Zf (Zb hc hp)];exact hc
   exact q p _ ys (s1.trans (s2.trans s4)) ((s1.trans s2).free hp) Ze (Paired.bO bN fun v q' hq=>hq.same s4)
end
end U
namespace U
open PySem L2 PyProof.Rows PyProof.Rows.dW
section
def gA (p:ay):ay:=(p.2.2.1 - p.1,p.2.2.2 - p.2.1,p.1,p.2.2.1)
def ji (ks:List ay):Prop:=(ks.map aN).Pairwise fun a b=>ax b a=false
theorem dX.same {H H':Hp}{v:V}{q:ay}(h:dX H v q) (s:ab H H'):dX H' v q:=by
 obtain⟨t,t',e,h1,h2⟩:=h
 exact⟨t,t',e,s _ _ h1,s _ _ h2⟩
theorem Yz (xs:List V):(aj xs).length≤xs.length:=by
 unfold aj
 have:=List.length_filterMap_le (fun l:Nat=> (rowAt xs l).map fun r=> ((l:Int),r)) (List.range xs.length)
 rw[List.length_range]at this
 exact this
theorem Ub {α β:Type}(f:α→List β) (n:Nat):∀l:List α,(∀a∈l,(f a).length≤n)→(l.flatMap f).length≤l.length*n
 | [],_=>by simp
 |a::l,h=>by
  have h1:=h a List.mem_cons_self
  have h2:=Ub f n l fun b hb=>h b (List.mem_cons_of_mem _ hb)
  rw[List.flatMap_cons,List.length_append,List.length_cons,Nat.succ_mul]
  omega
theorem DL (ps:List (Int×Int)):(eZ ps).length≤ps.length*ps.length:=by
 unfold eZ gF
 rw[List.take_length]
 refine Ub _ _ _ fun a _=> ?_
 unfold pairsOf
 rw[List.length_map]
 refine Nat.le_trans (List.length_filter_le ..) ?_
 rw[List.length_take]
 exact Nat.min_le_right ..
theorem y6 {H:Hp}{x y:V}{wd hg:Int}{xs:List V}(l:bw H x y wd hg xs):xs.length≤12:=by
 have h1:=l.2.2.len
 have h2:=l.1.2.2.1
 omega
theorem su {H:Hp}{x y:V}{wd hg:Int}{xs:List V}(l:bw H x y wd hg xs):(eZ (aj xs)).length≤144:=by
 have h1:=DL (aj xs)
 have h2:=Yz xs
 have h3:=y6 l
 have h4:(aj xs).length≤12:=by omega
 have h5:=Nat.mul_le_mul h4 h4
 omega
end
section
variable {P:Program}{w:World}{K:PySem.W.Frag}{mg:Str→Option Value}{base:Heap}
abbrev oe:Stmt:=top 25
def nE:Sp:=fun vs H Q _=> ∃x y wd hg xs,vs=[x,y]∧bw H x y wd hg xs∧∀(l:Addr) (H':Hp) (rs:List V) (ks:List ay),ab H H'→H l=none→H' l=some (.lst rs)→Paired (dX H') rs ks→ks.Perm ((eZ (aj xs)).map gA)→ji ks→Q (.ref l) H'
theorem xF:bf ["board", "lay"] ["board", "lay"] (aG oe):=⟨rfl,rfl,rfl,by decide+kernel,rfl,by decide+kernel,by decide+kernel⟩
theorem C4 {f:Addr}{fd:FuncData}(F:aT K "steps" "steps" oe f fd) (G:Gs mg) (D1:Def P w K mg base 8 "point_pairs" ["board", "lay"] nH):aL P w K mg base aP 9 f fd ["board", "lay"] nE:=by
 refine F.ok xF (fun vs H Q E h=> ?_) (fun au A outer s H vs Q E hr h=> ?_)
 ·obtain⟨x,y,wd,hg,xs,rfl,_⟩:=h
  rfl
 ·obtain⟨x,y,wd,hg,xs,rfl,l,q⟩:=h
  have hu:=hr.units
  refine⟨_,Zl (Zq (Zp (WM (Nat.lt_of_le_of_lt (Nat.add_le_add_left (by decide:2≤64) _) hu)) rfl G.sorted PyProof.Rows.Boot.«sorted» (Za (ZW ["line", "row", "other", "there"] 4 [] (ZK (Zh D1 hr (Za (pv 0) (Za (pv 1) Zd))))
    (fun C s H fp=>show PG (aV _ _ _ C s H fp) _ (dH K 4 (aX (aS 0) (aX (aS 1) (aX (aS 2) (aX (aS 3) dI))))) from ZJ rfl (Zk (pb 0) (Zk (pb 1) (Zk (pb 2) (Zk (pb 3) Zy))))) (fun C s H fp=>Yl)
    (fun C s H fp D=>Zv rfl (ZG (Za (ZG (Za (Zo ZP (pv 2) (pv 0)) (Za (Zo ZP (pv 3) (pv 1)) Zd))) (Za (pv 0) (Za (pv 2) Zd)))))) Zd))),?_⟩
  refine⟨x,rfl,y,rfl,x,y,wd,hg,xs,rfl,l,fun fa H1 ps s1 fE hf pr=> ?_⟩
  have hlen:=su l
  generalize kJ:eZ (aj xs)=qs at pr q hlen
  have jM:ps.length=qs.length:=Paired.length pr
  refine⟨fa,rfl,⟨ps,ae.of hf⟩,?_⟩
  refine ZE (xs:=ps) (fun i ys σ H2=> ∃v0 v1 v2 v3,σ=[v0,v1,v2,v3]∧ab H1 H2∧Paired (dX H2) ys ((qs.take i).map gA)∧ys.length≤i) ⟨_,_,_,_,rfl,ab.refl _,.nil,Nat.zero_le _⟩ (fun i ys σ H2 _ ⟨_,_,_,_,_,s2,_⟩=>ae.of (s2 _ _ hf)) ?_ ?_
  ·rintro i v ys σ H2 hv ⟨v0,v1,v2,v3,rfl,s2,bN,eI⟩
   obtain⟨⟨a,b,c,d⟩,hq,tt,rfl,zx⟩:=Jr pr hv
   have hi:i<ps.length:=(List.getElem?_eq_some_iff.mp hv).1
   refine⟨tt,_,rfl,ak.of (s2 _ _ zx),rfl,_,_,rfl,_,_,rfl,_,_,rfl,_,_,rfl,rfl,?_⟩
   refine⟨_,rfl,_,rfl,c,a,rfl,rfl,_,rfl,_,rfl,d,b,rfl,rfl,(by show 2≤sizeLine;decide),fun t' fm=> ?_⟩
   refine⟨_,rfl,_,rfl,(by show 3≤sizeLine;decide),fun t ht=> ⟨by rw[sizeLine_eq];omega,?_⟩⟩
   generalize gg:upd H2 t' (HO.tup [V.int (c - a),V.int (d - b)])=H4 at ht
   have s4:ab H2 H4:=fun e o hc=>by rw[←gg,Zf (Zb hc fm)];exact hc
   have iT:H4 t'=some (.tup [V.int (c - a),V.int (d - b)]):=by rw[←gg];exact Ze
   generalize fI:upd H4 t (HO.tup [V.ref t',V.int a,V.int c])=H5
   have s5:ab H4 H5:=fun e o hc=>by rw[←fI,Zf (Zb hc ht)];exact hc
   have me:H5 t=some (.tup [V.ref t',V.int a,V.int c]):=by rw[←fI];exact Ze
   refine⟨_,_,_,_,rfl,s2.trans (s4.trans s5),?_,by rw[List.length_append];simp;omega⟩
   rw[List.take_add_one,hq,List.map_append]
   exact Paired.snoc (Paired.bO bN fun v q' hq=>hq.same (s4.trans s5)) ⟨t,t',rfl,me,s5 _ _ iT⟩
  ·rintro ys σ H2 ⟨v0,v1,v2,v3,rfl,s2,bN,eI⟩ p hp
   have s4:ab H2 (upd H2 p (.lst ys)):=fun c o hc=>by rw[Zf (Zb hc hp)];exact hc
   rw[jM,List.take_length]at bN
   refine⟨p,ys,qs.map gA,rfl,ae.of Ze,Paired.bO bN fun v q' hq=>hq.same s4,by omega,fun r eR fU tR zM zJ cD=> ?_⟩
   have s5:ab (upd H2 p (.lst ys)) (upd (upd H2 p (.lst ys)) r (.lst eR)):=fun c o hc=>by rw[Zf (Zb hc tR)];exact hc
   exact q r _ eR fU (s1.trans (s2.trans (s4.trans s5))) ((s1.trans (s2.trans s4)).free tR) Ze (Paired.bO cD fun v q' hq=>dX.same hq s5) zM zJ
end
section
theorem YB (a b:Int) (l m:List Int):ax (a::l) (b::m)=true↔a<b∨(a=b∧ax l m=true):=by
 have z:ax (a::l) (b::m)=if a=b then ax l m else decide (a<b):=rfl
 rw[z]
 by_cases e:a=b
 ·rw[if_pos e]
  constructor
  ·exact fun h=> .inr ⟨e,h⟩
  ·rintro(h |h)
   ·omega
   ·exact h.2
 ·rw[if_neg e,decide_eq_true_eq]
  constructor
  ·exact fun h=> .inl h
  ·rintro(h |h)
   ·exact h
   ·exact absurd h.1 e
theorem JC:ax [] []=true↔False:=by simp[ax]
def cb (a b:ay):Prop:=a.1=b.1∧a.2.1=b.2.1
instance (a b:ay):Decidable (cb a b):=inferInstanceAs (Decidable (_∧_))
def four (a b:ay):ay:=(a.2.2.1,a.2.2.2,b.2.2.1,b.2.2.2)
def fc (a b:ay):Bool:=ax [a.2.2.1,a.2.2.2] [b.2.2.1,b.2.2.2]
def iH (S:List ay):Option ay→Prop
 |none=> ∀a∈S,∀b∈S,cb a b→fc a b=false
 |some k=> (∃a∈S,∃b∈S,cb a b∧fc a b=true∧k=four a b)∧∀a∈S,∀b∈S,cb a b→fc a b=true→ax (aN (four a b)) (aN k)=false
def iE (ks:List ay):List (ay×ay):=ks.zip (ks.drop 1)
def fe (ks:List ay):List ay:=((iE ks).filter fun p=>decide (cb p.1 p.2)).map fun p=>four p.1 p.2
theorem nf {b:Bool} :b=false↔¬b=true:=by cases b<;>simp
theorem mid {h d b:ay}(h1:ax (aN d) (aN h)=false) (h2:ax (aN b) (aN d)=false) (s:cb h b):cb h d∧ax (aN (four h b)) (aN (four h d))=false:=by
 unfold aN at *
 unfold cb at *
 unfold four
 rw[nf]at *
 simp only[YB,JC,and_false,or_false,false_or]at *
 omega
theorem vp {a b:ay}(s:cb a b):ax (aN a) (aN b)=true↔fc a b=true:=by
 unfold aN fc cb at *
 simp only[YB,JC,and_false,or_false]at *
 omega
theorem vd {ks:List ay}(hr:ji ks):∀a∈ks,∀b∈ks,cb a b→fc a b=true→∃p∈iE ks,cb p.1 p.2∧ax (aN (four a b)) (aN (four p.1 p.2))=false:=by
 induction ks with
 |nil=>intro a ha;cases ha
 |cons h r ih=>
  have bC:ji r:=(List.pairwise_cons.mp hr).2
  have hh:∀d∈r,ax (aN d) (aN h)=false:=fun d hd=> (List.pairwise_cons.mp hr).1 _ (List.mem_map_of_mem hd)
  intro a ha b hb s l
  have kl:=(vp s).mpr l
  rcases List.mem_cons.mp ha with rfl |gO
  ·have cG:b∈r:=by
    rcases List.mem_cons.mp hb with rfl |hb
    ·have:=Z1 _ _ kl
     rw[kl]at this;cases this
    ·exact hb
   cases r with
   |nil=>cases cG
   |cons d r'=>
    have gM:ax (aN b) (aN d)=false:=by
     rcases List.mem_cons.mp cG with rfl |AA
     ·cases hx:ax (aN b) (aN b) with
      |false=>rfl
      |true=>
       have:=Z1 _ _ hx
       rw[hx]at this;cases this
     ·exact(List.pairwise_cons.mp bC).1 _ (List.mem_map_of_mem AA)
    obtain⟨m1,m2⟩:=mid (hh d List.mem_cons_self) gM s
    exact⟨(a,d),List.mem_cons_self,m1,m2⟩
  ·have cG:b∈r:=by
    rcases List.mem_cons.mp hb with rfl |hb
    ·have:=hh a gO
     rw[kl]at this;cases this
    ·exact hb
   obtain⟨p,hp,q1,q2⟩:=ih bC a gO b cG s l
   refine⟨p,?_,q1,q2⟩
   cases r with
   |nil=>cases gO
   |cons d r'=>exact List.mem_cons_of_mem _ hp
theorem Cd {ks:List ay}(hr:ji ks) (hn:ks.Nodup):∀p∈iE ks,cb p.1 p.2→p.1∈ks∧p.2∈ks∧fc p.1 p.2=true:=by
 induction ks with
 |nil=>intro p hp;cases hp
 |cons h r ih=>
  have bC:ji r:=(List.pairwise_cons.mp hr).2
  have hh:∀d∈r,ax (aN d) (aN h)=false:=fun d hd=> (List.pairwise_cons.mp hr).1 _ (List.mem_map_of_mem hd)
  have eG:=(List.nodup_cons.mp hn)
  intro p hp s
  cases r with
  |nil=>cases hp
  |cons d r'=>
   rcases List.mem_cons.mp (show p∈(h,d)::iE (d::r') from hp) with rfl |hp
   ·refine⟨List.mem_cons_self,List.mem_cons_of_mem _ List.mem_cons_self,(vp s).mp ?_⟩
    cases hx:ax (aN h) (aN d) with
    |true=>rfl
    |false=>
     have e:=Ds (WE _ _ hx (hh d List.mem_cons_self))
     rw[e]at eG
     exact absurd List.mem_cons_self eG.1
   ·obtain⟨q1,q2,q3⟩:=ih bC eG.2 p hp s
    exact⟨List.mem_cons_of_mem _ q1,List.mem_cons_of_mem _ q2,q3⟩
theorem Y2 {ks:List ay}{k:ay} :k∈fe ks↔∃p∈iE ks,cb p.1 p.2∧four p.1 p.2=k:=by
 unfold fe
 rw[List.mem_map]
 constructor
 ·rintro⟨p,hp,e⟩
  rw[List.mem_filter,decide_eq_true_eq]at hp
  exact⟨p,hp.1,hp.2,e⟩
 ·rintro⟨p,hp,s,e⟩
  exact⟨p,List.mem_filter.mpr ⟨hp,decide_eq_true s⟩,e⟩
theorem UK {ks:List ay}(hr:ji ks) (h:fe ks=[]):iH ks none:=fun a ha b hb s=>by
 cases hl:fc a b with
 |false=>rfl
 |true=>
  obtain⟨p,hp,q,_⟩:=vd hr a ha b hb s hl
  have:four p.1 p.2∈fe ks:=Y2.mpr ⟨p,hp,q,rfl⟩
  rw[h]at this;cases this
theorem UJ {ks:List ay}(hr:ji ks) (hn:ks.Nodup) {k:ay}(hk:k∈fe ks) (hm:∀k'∈fe ks,ax (aN k') (aN k)=false):iH ks (some k):=by
 obtain⟨p,hp,s,e⟩:=Y2.mp hk
 obtain⟨m1,m2,m3⟩:=Cd hr hn p hp s
 refine⟨⟨p.1,m1,p.2,m2,s,m3,e.symm⟩,fun a ha b hb s' l=> ?_⟩
 obtain⟨p',pS,q1,q2⟩:=vd hr a ha b hb s' l
 exact Ys _ _ _ (hm _ (Y2.mpr ⟨p',pS,q1,rfl⟩)) q2
def qN (xs:List V) (q:ay):Prop:=∃l o:Nat,l<o∧o<xs.length∧cn xs o l=some q
theorem YA {xs:List V}{p:Int×Int} :p∈aj xs↔∃l:Nat,l<xs.length∧rowAt xs l=some p.2∧p.1=(l:Int):=by
 unfold aj
 rw[List.mem_filterMap]
 constructor
 ·rintro⟨l,hl,e⟩
  rw[Option.map_eq_some_iff]at e
  obtain⟨r,hr,rfl⟩:=e
  exact⟨l,List.mem_range.mp hl,hr,rfl⟩
 ·rintro⟨l,hl,hr,e⟩
  refine⟨l,List.mem_range.mpr hl,?_⟩
  rw[hr,Option.map_some,←e]
theorem BV {xs:List V}{q:ay} :q∈aQ xs xs.length↔qN xs q:=by
 unfold aQ cO qN
 simp only[List.mem_flatMap,List.mem_filterMap,List.mem_range]
 constructor
 ·rintro⟨o,ho,l,hl,e⟩
  exact⟨l,o,hl,ho,e⟩
 ·rintro⟨l,o,hl,ho,e⟩
  exact⟨o,ho,l,hl,e⟩
theorem Z5 {xs:List V}{o l:Nat}{q:ay} :cn xs o l=some q↔∃a b,rowAt xs l=some a∧rowAt xs o=some b∧q=((o:Int) - l,b - a,(l:Int),(o:Int)):=by
 unfold cn
 cases h1:rowAt xs l with
 |none=>simp
 |some a=>
  cases h2:rowAt xs o with
  |none=>simp
  |some b=>
   simp only[Option.bind_some,Option.map_some,Option.some.injEq]
   constructor
   ·rintro rfl
    exact⟨a,b,rfl,rfl,rfl⟩
   ·rintro⟨_,_,rfl,rfl,rfl⟩
    rfl
theorem CO {xs:List V}{q:ay} :q∈(eZ (aj xs)).map gA↔qN xs q:=by
 unfold eZ gF
 rw[List.take_length]
 simp only[List.mem_map,List.mem_flatMap,pairsOf,List.take_length,List.mem_filter,decide_eq_true_eq]
 constructor
 ·rintro⟨_,⟨a,ha,b,⟨hb,aK⟩,rfl⟩,rfl⟩
  obtain⟨l,hl,hr,e⟩:=YA.mp ha
  obtain⟨o,ho,bC,e'⟩:=YA.mp hb
  refine⟨l,o,by omega,ho,Z5.mpr ⟨a.2,b.2,hr,bC,?_⟩⟩
  unfold gA
  rw[e,e']
 ·rintro⟨l,o,hl,ho,e⟩
  obtain⟨a,b,h1,h2,rfl⟩:=Z5.mp e
  exact⟨((l:Int),a,(o:Int),b),⟨((l:Int),a),YA.mpr ⟨l,by omega,h1,rfl⟩,((o:Int),b),⟨YA.mpr ⟨o,ho,h2,rfl⟩,by show(l:Int)< (o:Int);omega⟩,rfl⟩,rfl⟩
theorem Y0 (xs:List V) (n:Nat):(aQ xs n).Nodup:=by
 unfold aQ
 rw[List.nodup_iff_pairwise_ne,List.pairwise_flatMap]
 refine⟨fun o _=> ?_,?_⟩
 ·unfold cO
  rw[List.pairwise_filterMap]
  refine List.Pairwise.imp ?_ (List.nodup_iff_pairwise_ne.mp List.nodup_range)
  intro l l' cj q hq q' bK e
  obtain⟨_,_,_,_,rfl⟩:=Z5.mp hq
  obtain⟨_,_,_,_,rfl⟩:=Z5.mp bK
  simp only[Prod.mk.injEq]at e
  omega
 ·refine List.Pairwise.imp ?_ (List.nodup_iff_pairwise_ne.mp List.nodup_range)
  intro o o' cj q hq q' bK e
  unfold cO at hq bK
  rw[List.mem_filterMap]at hq bK
  obtain⟨l,_,hq⟩:=hq
  obtain⟨l',_,bK⟩:=bK
  obtain⟨_,_,_,_,rfl⟩:=Z5.mp hq
  obtain⟨_,_,_,_,rfl⟩:=Z5.mp bK
  simp only[Prod.mk.injEq]at e
  omega
theorem Uu (xs:List V):(aj xs).Pairwise fun a b=>a.1≠b.1:=by
 unfold aj
 rw[List.pairwise_filterMap]
 refine List.Pairwise.imp ?_ (List.nodup_iff_pairwise_ne.mp List.nodup_range)
 intro l l' cj q hq q' bK
 rw[Option.map_eq_some_iff]at hq bK
 obtain⟨_,_,rfl⟩:=hq
 obtain⟨_,_,rfl⟩:=bK
 show(l:Int)≠(l':Int)
 omega
theorem Uy (xs:List V):((eZ (aj xs)).map gA).Nodup:=by
 unfold eZ gF
 rw[List.take_length,List.nodup_iff_pairwise_ne,List.pairwise_map,List.pairwise_flatMap]
 refine⟨fun a _=> ?_,?_⟩
 ·unfold pairsOf
  rw[List.take_length,List.pairwise_map]
  refine List.Pairwise.imp ?_ ((Uu xs).filter _)
  intro b b' cj e
  unfold gA at e
  simp only[Prod.mk.injEq]at e
  exact cj e.2.2.2
 ·refine List.Pairwise.imp ?_ (Uu xs)
  intro a a' cj q hq q' bK e
  unfold pairsOf at hq bK
  rw[List.mem_map]at hq bK
  obtain⟨b,_,rfl⟩:=hq
  obtain⟨b',_,rfl⟩:=bK
  unfold gA at e
  simp only[Prod.mk.injEq]at e
  exact cj e.2.2.1
theorem Js (xs:List V):((eZ (aj xs)).map gA).Perm (aQ xs xs.length):=
 (List.perm_ext_iff_of_nodup (Uy xs) (Y0 xs _)).mpr fun q=>CO.trans BV.symm
theorem Bv (vs:List V):jc vs (some 1) none=vs.drop 1:=by
 unfold jc HT.de
 cases vs with
 |nil=>rfl
 |cons a r=>simp
def jG (ks:List ay) (i:Nat):List ay:=(((iE ks).take i).filter fun p=>decide (cb p.1 p.2)).map fun p=>four p.1 p.2
theorem WD {ks:List ay}{i:Nat}{a b:ay}(h1:ks[i]? =some a) (h2:(ks.drop 1)[i]? =some b):jG ks (i+1)=jG ks i++(if decide (cb a b)=true then [four a b] else []):=by
 have e:(iE ks)[i]? =some (a,b):=List.getElem?_zip_eq_some.mpr ⟨h1,h2⟩
 unfold jG
 rw[List.take_add_one,e,List.filter_append,List.map_append]
 by_cases h:cb a b<;>simp[h]
def EA (H:Hp) (v:V):Option ay→Prop
 |none=>v=.ai
 |some k=>fL H v k
end
section
variable {P:Program}{w:World}{K:PySem.W.Frag}{mg:Str→Option Value}{base:Heap}
abbrev oK:Stmt:=top 26
def nT:Sp:=fun vs H Q _=> ∃x y wd hg xs,vs=[x,y]∧bw H x y wd hg xs∧∀(H':Hp) (v:V) (r:Option ay),ab H H'→iH (aQ xs xs.length) r→EA H' v r→Q v H'
theorem nY:bf ["board", "lay", "told", "likes"] ["board", "lay"] (aG oK):=⟨rfl,rfl,rfl,by decide+kernel,rfl,by decide+kernel,by decide+kernel⟩
theorem C0 {f:Addr}{fd:FuncData}(F:aT K "first_like" "first_like" oK f fd) (G:Gs mg) (D1:Def P w K mg base 9 "steps" ["board", "lay"] nE):aL P w K mg base aP 10 f fd ["board", "lay"] nT:=by
 refine F.ok nY (fun vs H Q E h=> ?_) (fun au A outer s H vs Q E hr h=> ?_)
 ·obtain⟨x,y,wd,hg,xs,rfl,_⟩:=h
  rfl
 ·obtain⟨x,y,wd,hg,xs,rfl,l,q⟩:=h
  have hu:=W9 hr
  refine⟨_,Zg (Zz (i:=2) nY.nd rfl (Or.inl rfl) (Zh D1 hr (Za (pv 0) (Za (pv 1) Zd))))
   (Zg (YN ["step", "line", "other", "beside", "here", "there"] 6 [] (i:=3) nY.nd rfl (Or.inl rfl) (DA rfl G.zip (Za (pv 2) (Za (Dc DE (pv 2) (DC Zi) DB) Zd)))
    (fun C s H fp=>show PG (aV _ _ _ C s H fp) _ (dH K 2 (aX (dH K 3 (aX (aS 0) (aX (aS 1) (aX (aS 2) dI)))) (aX (dH K 3 (aX (aS 3) (aX (aS 4) (aX (aS 5) dI)))) dI))) from
     ZJ rfl (Zk (ZJ rfl (Zk (pb 0) (Zk (pb 1) (Zk (pb 2) Zy)))) (Zk (ZJ rfl (Zk (pb 3) (Zk (pb 4) (Zk (pb 5) Zy)))) Zy)))
    (fun C s H fp=>ZZ (Zu (show aW (aV _ _ _ C s H fp) (compareOp .Eq) (fun x y H Q=> ∃(a b:Addr) (ns ms:List Int),x=.ref a∧y=.ref b∧ak K H a (ns.map V.int)∧ak K H b (ms.map V.int)∧Q (.bl (decide (ns=ms))) H) from B6 hr.nh) (pv 0) (pv 3) (bJ _)))
    (fun C s H fp D=>Zv rfl (ZG (Za (pv 1) (Za (pv 2) (Za (pv 4) (Za (pv 5) Zd)))))))
   (Zl (Zq (Dy rfl hu rfl G.min (pv 3))))),?_⟩
  refine⟨x,rfl,y,rfl,x,y,wd,hg,xs,rfl,l,fun fa H1 ps ks s1 fE hf pr perm rise=> ?_⟩
  have zX:ps.length=ks.length:=Paired.length pr
  have hlen:ks.length≤144:=by
   rw[perm.length_eq,List.length_map]
   exact su l
  refine⟨_,rfl,_,rfl,_,rfl,fa,ps,rfl,ae.of hf,fun c hc=> ?_⟩
  generalize jQ:upd H1 c (HO.lst (jc ps (some 1) none))=H2
  have s2:ab H1 H2:=fun b o hb=>by rw[←jQ,Zf (Zb hb hc)];exact hb
  have fF:H2 c=some (.lst (ps.drop 1)):=by rw[←jQ,Bv];exact Ze
  have iq:=s2 _ _ hf
  refine⟨fa,c,rfl,⟨_,_,ae.of iq,ae.of fF⟩,?_⟩
  refine En (xs:=ps) (zs:=ps.drop 1) (fun i ys σ H3=> ∃v0 v1 v2 v3 v4 v5,σ=[v0,v1,v2,v3,v4,v5]∧ab H2 H3∧Paired (fL H3) ys (jG ks i)∧ys.length≤i) ⟨_,_,_,_,_,_,rfl,ab.refl _,.nil,Nat.zero_le _⟩
   (fun i ys σ H3 _ ⟨_,_,_,_,_,_,_,s3,_⟩=> ⟨ae.of (s3 _ _ iq),ae.of (s3 _ _ fF)⟩) ?_ ?_
  ·rintro i va vb T ys σ H3 tJ zk hT ⟨v0,v1,v2,v3,v4,v5,rfl,s3,cD,jN⟩
   have hi:i<ps.length:=(List.getElem?_eq_some_iff.mp tJ).1
   obtain⟨a,Ad,ta,wF,rfl,zv,zt⟩:=Jr pr tJ
   have zj:ps[1+i]? =some vb:=by rw[←List.getElem?_drop];exact zk
   obtain⟨b,Ac,tb,wD,rfl,zr,zq⟩:=Jr pr zj
   have Ab:(ks.drop 1)[i]? =some b:=by rw[List.getElem?_drop];exact Ac
   have es:=WD Ad Ab
   have sT:ab H3 (upd H3 T (.par [.ref ta,.ref tb])):=fun e o hc=>by rw[Zf (Zb hc hT)];exact hc
   have sA:ab H1 (upd H3 T (.par [.ref ta,.ref tb])):=s2.trans (s3.trans sT)
   refine⟨T,_,rfl,ak.pe Ze,rfl,_,_,rfl,ta,_,rfl,ak.of (sA _ _ zv),rfl,_,_,rfl,_,_,rfl,_,_,rfl,rfl,_,_,rfl,tb,_,rfl,ak.of (sA _ _ zr),rfl,_,_,rfl,_,_,rfl,_,_,rfl,rfl,rfl,?_⟩
   generalize gg:upd H3 T (HO.par [V.ref ta,V.ref tb])=H4 at sT sA
   refine⟨_,rfl,_,rfl,wF,wD,[a.1,a.2.1],[b.1,b.2.1],rfl,rfl,ak.of (sA _ _ zt),ak.of (sA _ _ zq),_,rfl,?_⟩
   by_cases hs:cb a b
   ·rw[decide_eq_true hs,if_pos rfl]at es
    have ed:decide ([a.1,a.2.1]=[b.1,b.2.1])=true:=decide_eq_true (by rw[hs.1,hs.2])
    rw[ed]
    refine bD ?_
    refine⟨_,rfl,_,rfl,_,rfl,_,rfl,(by show 4≤sizeLine;decide),fun t4 iT=> ⟨by rw[sizeLine_eq];omega,?_⟩⟩
    generalize fI:upd H4 t4 (HO.tup [V.int a.2.2.1,V.int a.2.2.2,V.int b.2.2.1,V.int b.2.2.2])=H5
    have s5:ab H4 H5:=fun e o hc=>by rw[←fI,Zf (Zb hc iT)];exact hc
    refine⟨_,_,_,_,_,_,rfl,s3.trans (sT.trans s5),?_,by rw[List.length_append];simp;omega⟩
    rw[es]
    exact Paired.snoc (Paired.bO cD fun v q' hq=>hq.same (sT.trans s5)) ⟨t4,rfl,by rw[←fI];exact Ze⟩
   ·rw[decide_eq_false hs,if_neg Bool.false_ne_true,List.append_nil]at es
    have ed:decide ([a.1,a.2.1]=[b.1,b.2.1])=false:=decide_eq_false (fun e=>hs (by simp only[List.cons.injEq,and_true]at e;exact e))
    rw[ed]
    refine aO ⟨_,_,_,_,_,_,rfl,s3.trans sT,?_,by omega⟩
    rw[es]
    exact Paired.bO cD fun v q' hq=>hq.same sT
  ·rintro ys σ H3 ⟨v0,v1,v2,v3,v4,v5,rfl,s3,cD,jN⟩ p hp
   have s4:ab H3 (upd H3 p (.lst ys)):=fun e o hc=>by rw[Zf (Zb hc hp)];exact hc
   have et:jG ks (min ps.length (ps.drop 1).length)=fe ks:=by
    unfold jG fe
    rw[List.take_of_length_le]
    unfold iE
    rw[List.length_zip,List.length_drop,List.length_drop,zX]
    exact Nat.le_refl _
   rw[et]at cD
   have sd:Paired (fL (upd H3 p (.lst ys))) ys (fe ks):=Paired.bO cD fun v q' hq=>hq.same s4
   have sA:ab H (upd H3 p (.lst ys)):=s1.trans (s2.trans (s3.trans s4))
   have fY:∀z,z∈ks↔z∈aQ xs xs.length:=fun z=> (perm.trans (Js xs)).mem_iff
   have eF:ks.Nodup:=(perm.trans (Js xs)).nodup_iff.mpr (Y0 xs _)
   have conv:∀r,iH ks r→iH (aQ xs xs.length) r:=fun r hr=>by
    cases r with
    |none=>exact fun a ha b hb s=>hr a ((fY a).mpr ha) b ((fY b).mpr hb) s
    |some k=>
     obtain⟨⟨a,ha,b,hb,w⟩,h2⟩:=hr
     exact⟨⟨a,(fY a).mp ha,b,(fY b).mp hb,w⟩,fun a ha b hb s l=>h2 a ((fY a).mpr ha) b ((fY b).mpr hb) s l⟩
   refine⟨_,rfl,p,ys,(fe ks).map aN,rfl,ae.of Ze,?_,fun e=> ?_,fun v k hv hk pO zT=> ?_⟩
   ·have:∀{ys:List V}{ls:List ay},Paired (fL (upd H3 p (.lst ys))) ys ls→Paired (bY (upd H3 p (.lst ys))) ys (ls.map aN):=by
     intro ys ls h
     generalize (upd H3 p (.lst ys))=H9 at h
     induction h with
     |nil=>exact .nil
     |cons h1 _ ih=>exact .cons h1 ih
    exact this sd
   ·subst e
    have el:fe ks=[]:=by
     have:=Paired.length sd
     exact List.length_eq_zero_iff.mp this.symm
    exact q _ .ai none sA (conv _ (UK rise el)) rfl
   ·obtain⟨k4,pZ,rfl⟩:=List.mem_map.mp hk
    exact q _ v (some k4) sA (conv _ (UJ rise eF pZ fun k' bo=>zT _ (List.mem_map_of_mem bo))) pO
abbrev n6:Stmt:=top 27
def nD:Sp:=fun vs H Q _=> ∃x y wd hg xs,vs=[x,y]∧bw H x y wd hg xs∧∀(H':Hp) (r:Option ay),ab H H'→iH (aQ xs xs.length) r→Q (.bl r.isNone) H'
theorem xD:bf ["board", "lay"] ["board", "lay"] (aG n6):=⟨rfl,rfl,rfl,by decide+kernel,rfl,by decide+kernel,by decide+kernel⟩
theorem Cu {f:Addr}{fd:FuncData}(F:aT K "is_unlike" "is_unlike" n6 f fd) (D1:Def P w K mg base 10 "first_like" ["board", "lay"] nT):aL P w K mg base aP 11 f fd ["board", "lay"] nD:=by
 refine F.ok xD (fun vs H Q E h=> ?_) (fun au A outer s H vs Q E hr h=> ?_)
 ·obtain⟨x,y,wd,hg,xs,rfl,_⟩:=h
  rfl
 ·obtain⟨x,y,wd,hg,xs,rfl,l,q⟩:=h
  refine⟨_,Zl (Zq (Cz (Cy (Zh D1 hr (Za (pv 0) (Za (pv 1) Zd)))))),?_⟩
  refine⟨x,rfl,y,rfl,x,y,wd,hg,xs,rfl,l,fun H1 v r s1 hf ho=> ?_⟩
  have:=q H1 r s1 hf
  cases r with
  |none=>
   have e:v=.ai:=ho
   subst e
   exact this
  |some k=>
   obtain⟨t,rfl,_⟩:=(show fL H1 v k from ho)
   exact this
end
end U
namespace U
open PySem L2 PyProof.Rows
section
variable {P:Program}{w:World}{K:PySem.W.Frag}{mg:Str→Option Value}{base:Heap}
theorem Zt {H:Hp}{p:Addr}{o:HO}(h:H p=none):ab H (upd H p o):=fun b u hb=>by rw[Zf (Zb hb h)];exact hb
theorem Yy {D:Ends}{σ:L2.St}{H:Hp}(h:D.nx σ H):rg D σ H:=h
theorem Zx {t u:TS}{D:Ends}{σ:L2.St}{H:Hp}(h:t {D with nx:=u D} σ H):rf t u D σ H:=h
theorem Z9 {te:TE}{g:TG}{D:Ends}{σ:L2.St}{H:Hp}(h:te σ H fun v H1=>g v σ H1 D.nx):ka te g D σ H:=h
theorem ZL {i:Nat}{v:V}{σ:L2.St}{H:Hp}{Q:L2.St→Hp→Prop}(h:Q (σ.set i (some v)) H):aS i v σ H Q:=h
end
end U
namespace U
open PySem L2 PyProof.Rows PyProof.Rows.dW
section
variable {X:Cx}{cS c P fR:Addr}{kf:Nat}
abbrev lq (X:Cx):Str:=X.env.qual++ "<lambda>"
end
section
def bS (p q:Int×Int):List Key:=[Sum.inl (q.1 - p.1),Sum.inl (q.2 - p.2)]
def allM (ps qs:List (Int×Int)):List (List Key):=ps.flatMap fun p=>qs.map (bS p)
def cK (ms:List (List Key)) (k:List Key):Nat:=ms.countP fun m=>decide (m=k)
theorem vg (a b:List (List Key)) (k:List Key):cK (a++b) k=cK a k+cK b k:=List.countP_append
theorem vh {ms:List (List Key)}{k:List Key} :0<cK ms k↔k∈ms:=by
 unfold cK
 rw[List.countP_pos_iff]
 constructor
 ·rintro⟨a,h1,h2⟩
  rw[←of_decide_eq_true h2]
  exact h1
 ·intro h
  exact⟨k,h,decide_eq_true rfl⟩
structure HM (kvs:List (List Key×V)) (ms:List (List Key)):Prop where
 val:∀k,bj kvs k=if cK ms k=0 then none else some (.int (cK ms k:Int))
 nd:(kvs.map (·.1)).Nodup
 len:kvs.length≤ms.length
 mem:∀kv∈kvs,kv.1∈ms
theorem HM.nil:HM [] []:=⟨fun k=>rfl,List.nodup_nil,Nat.le_refl _,fun kv h=>by cases h⟩
theorem BM {kvs:List (List Key×V)}{k:List Key} :(kvs.any fun kv=>decide (kv.1=k))=true↔k∈kvs.map (·.1):=by
 rw[List.any_eq_true,List.mem_map]
 constructor
 ·rintro⟨kv,h1,h2⟩
  exact⟨kv,h1,of_decide_eq_true h2⟩
 ·rintro⟨kv,h1,h2⟩
  exact⟨kv,h1,decide_eq_true h2⟩
theorem HM.put {kvs:List (List Key×V)}{ms:List (List Key)}(h:HM kvs ms) (k:List Key):HM (putK kvs k (.int ((cK ms k:Int)+1))) (ms++[k]):=by
 have ek:∀j,cK (ms++[k]) j=cK ms j+if k=j then 1 else 0:=fun j=>by
  rw[vg]
  congr 1
  unfold cK
  by_cases e:k=j
  ·simp[e,List.countP_cons]
  ·simp[e,List.countP_cons]
 refine⟨fun j=> ?_,?_,?_,fun kv eJ=> ?_⟩
 ·rw[D0,ek]
  by_cases e:j=k
  ·subst e
   rw[if_pos rfl,if_pos rfl,if_neg (by omega)]
   congr 2
  ·rw[if_neg e,if_neg (Ne.symm e),Nat.add_zero]
   exact h.val j
 ·unfold putK
  by_cases e:(kvs.any fun kv=>decide (kv.1=k))=true
  ·rw[if_pos e,List.map_map]
   have:((fun x:List Key×V=>x.1)∘fun kv=>if kv.1=k then (kv.1,V.int ((cK ms k:Int)+1)) else kv)=(·.1):=by
    funext kv
    show(if kv.1=k then (kv.1,V.int ((cK ms k:Int)+1)) else kv).1=kv.1
    split<;>rfl
   rw[this]
   exact h.nd
  ·rw[if_neg e,List.map_append]
   refine List.nodup_append.mpr ⟨h.nd,List.pairwise_singleton _ _,fun a ha b hb=> ?_⟩
   have cG:b=k:=by simpa using hb
   rw[cG]
   intro z
   rw[z]at ha
   exact e (BM.mpr ha)
 ·refine Nat.le_trans (Yt _ _ _) ?_
  rw[List.length_append]
  have:=h.len
  simp
  omega
 ·have key:kv.1∈kvs.map (·.1)∨kv.1=k:=by
   unfold putK at eJ
   split at eJ
   ·obtain⟨u,hu,rfl⟩:=List.mem_map.mp eJ
    refine .inl ?_
    have:(if u.1=k then (u.1,V.int ((cK ms k:Int)+1)) else u).1=u.1:=by split<;>rfl
    rw[this]
    exact List.mem_map_of_mem hu
   ·rcases List.mem_append.mp eJ with z |z
    ·exact .inl (List.mem_map_of_mem z)
    ·have:kv=(k,.int ((cK ms k:Int)+1)):=by simpa using z
     exact .inr (by rw[this])
  rcases key with z |z
  ·obtain⟨u,hu,e⟩:=List.mem_map.mp z
   rw[←e]
   exact List.mem_append_left _ (h.mem u hu)
  ·rw[z];simp
theorem HM.at_ {kvs:List (List Key×V)}{ms:List (List Key)}(h:HM kvs ms) {kv:List Key×V}(hk:kv∈kvs):kv.2=.int (cK ms kv.1:Int):=by
 have v:bj kvs kv.1=some kv.2:=by
  have:∀{l:List (List Key×V)},(l.map (·.1)).Nodup→kv∈l→bj l kv.1=some kv.2:=by
   intro l
   induction l with
   |nil=>intro _ h;cases h
   |cons x r ih=>
    intro nd hm
    rw[List.map_cons,List.nodup_cons]at nd
    by_cases e:x.1=kv.1
    ·rcases List.mem_cons.mp hm with z |z
     ·rw[z,ZI rfl]
     ·exact absurd (List.mem_map_of_mem (f:=fun x:List Key×V=>x.1) z) (by rw[←e];exact nd.1)
    ·rcases List.mem_cons.mp hm with z |z
     ·exact absurd (by rw[z]) e
     ·unfold bj
      rw[List.find?_cons_of_neg (by simpa using e)]
      exact ih nd.2 z
  exact this h.nd hk
 rw[h.val]at v
 split at v
 ·cases v
 ·exact(Option.some.inj v).symm
def dh (xs ys:List V) (a b:Int) (i:Nat):Bool:=match rowAt xs i with
 |some r=>decide (0≤(i:Int)+a)&&decide ((i:Int)+a<ys.length)&&decide (rowAt ys ((i:Int)+a).toNat=some (r+b))
 |none=>false
def dq (xs ys:List V) (a b:Int):Nat→Nat
 |0=>0
 |n+1=>dq xs ys a b n+if dh xs ys a b n=true then 1 else 0
def jw (xs:List V) (n:Nat):List (Int×Int):=(List.range n).filterMap fun l=> (rowAt xs l).map fun r=> ((l:Int),r)
theorem YV (xs:List V) (n:Nat):jw xs (n+1)=jw xs n++((rowAt xs n).map fun r=> ((n:Int),r)).toList:=by
 unfold jw
 rw[List.range_succ,List.filterMap_append]
 congr 1
 all_goals (cases rowAt xs n<;>rfl)
theorem Ws {ys:List V}{a b:Int} :(a,b)∈aj ys↔0≤a∧a<ys.length∧rowAt ys a.toNat=some b:=by
 rw[YA]
 constructor
 ·rintro⟨l,h1,h2,h3⟩
  have h3:a=(l:Int):=h3
  subst h3
  exact⟨by omega,by omega,by rw[Int.toNat_natCast];exact h2⟩
 ·rintro⟨h1,h2,h3⟩
  exact⟨a.toNat,by omega,h3,by show a=(a.toNat:Int);omega⟩
theorem BG (ys:List V):(aj ys).Nodup:=(Uu ys).imp fun {a b} h e=>h (by rw[e])
theorem JU {qs:List (Int×Int)}(nd:qs.Nodup) (p:Int×Int) (a b:Int):cK (qs.map (bS p)) [Sum.inl a,Sum.inl b]=if (p.1+a,p.2+b)∈qs then 1 else 0:=by
 have e:cK (qs.map (bS p)) [Sum.inl a,Sum.inl b]=qs.countP fun q=>decide (q=(p.1+a,p.2+b)):=by
  unfold cK
  rw[List.countP_map]
  refine List.countP_congr fun q _=> ?_
  show decide (bS p q=[Sum.inl a,Sum.inl b])=true↔decide (q=(p.1+a,p.2+b))=true
  rw[decide_eq_true_iff,decide_eq_true_iff]
  unfold bS
  constructor
  ·intro h
   injection h with h1 h2
   injection h2 with h2 _
   injection h1 with h1
   injection h2 with h2
   exact Prod.ext (by show q.1=p.1+a;omega) (by show q.2=p.2+b;omega)
  ·intro h
   rw[h]
   show [Sum.inl (p.1+a - p.1),Sum.inl (p.2+b - p.2)]=_
   rw[show p.1+a - p.1=a by omega,show p.2+b - p.2=b by omega]
 have one:∀{l:List (Int×Int)}{x:Int×Int},l.Nodup→l.countP (fun q=>decide (q=x))=if x∈l then 1 else 0:=by
  intro l x
  induction l with
  |nil=>intro _;rfl
  |cons y r ih=>
   intro nd
   rw[List.nodup_cons]at nd
   by_cases z:y=x
   ·subst z
    rw[List.countP_cons,ih nd.2,if_neg nd.1,if_pos List.mem_cons_self,if_pos (decide_eq_true rfl)]
   ·rw[List.countP_cons,ih nd.2,if_neg (show ¬decide (y=x)=true by rw[decide_eq_false z];exact Bool.false_ne_true),Nat.add_zero]
    by_cases m:x∈r
    ·rw[if_pos m,if_pos (List.mem_cons_of_mem _ m)]
    ·rw[if_neg m,if_neg fun h=> (List.mem_cons.mp h).elim (fun e=>z e.symm) m]
 rw[e]
 exact one nd
theorem JG (xs ys:List V) (a b:Int):∀n,cK (allM (jw xs n) (aj ys)) [Sum.inl a,Sum.inl b]=dq xs ys a b n
 |0=>rfl
 |n+1=>by
  have ih:=JG xs ys a b n
  unfold allM at *
  rw[YV,List.flatMap_append,vg,ih]
  show _=dq xs ys a b n+_
  congr 1
  cases hr:rowAt xs n with
  |none=>
   have hh:¬dh xs ys a b n=true:=by unfold dh;rw[hr];exact Bool.false_ne_true
   rw[if_neg hh]
   rfl
  |some r=>
   show cK (List.flatMap (fun p=> (aj ys).map (bS p)) [((n:Int),r)]) _=_
   rw[List.flatMap_singleton,JU (BG ys)]
   have iff:=Ws (ys:=ys) (a:=(n:Int)+a) (b:=r+b)
   have hh:dh xs ys a b n=true↔((n:Int)+a,r+b)∈aj ys:=by
    unfold dh
    rw[hr,iff]
    simp only[Bool.and_eq_true,decide_eq_true_eq,and_assoc]
   by_cases h:((n:Int)+a,r+b)∈aj ys
   ·rw[if_pos h,if_pos (hh.mpr h)]
   ·rw[if_neg h,if_neg fun z=>h (hh.mp z)]
abbrev av (xs ys:List V) (a b:Int):Nat:=dq xs ys a b xs.length
theorem Yf (xs ys:List V) (a b:Int):cK (allM (aj xs) (aj ys)) [Sum.inl a,Sum.inl b]=av xs ys a b:=JG xs ys a b xs.length
def ee (xs ys:List V) (a:Int) (lo:Int) (n:Nat):List (List Int):=(List.range n).filterMap fun(j:Nat)=>if 0<av xs ys a (lo+j) then some [a,lo+j,(av xs ys a (lo+j):Int)] else none
def gp (xs ys:List V) (la lb:Int) (nb:Nat) (n:Nat):List (List Int):=(List.range n).flatMap fun(i:Nat)=>ee xs ys (la+i) lb nb
theorem YU (xs ys:List V) (a lo:Int) (n:Nat):ee xs ys a lo (n+1)=ee xs ys a lo n++(if 0<av xs ys a (lo+n) then [[a,lo+n,(av xs ys a (lo+n):Int)]] else []):=by
 unfold ee
 rw[List.range_succ,List.filterMap_append]
 congr 1
 by_cases h:0<av xs ys a (lo+n)
 ·simp[h]
 ·simp[h]
theorem YC (xs ys:List V) (la lb:Int) (nb n:Nat):gp xs ys la lb nb (n+1)=gp xs ys la lb nb n++ee xs ys (la+n) lb nb:=by
 unfold gp
 rw[List.range_succ,List.flatMap_append,List.flatMap_singleton]
theorem YQ {xs ys:List V}{a lo:Int}{n:Nat}{k:List Int} :k∈ee xs ys a lo n↔∃j:Nat,j<n∧0<av xs ys a (lo+j)∧k=[a,lo+j,(av xs ys a (lo+j):Int)]:=by
 unfold ee
 rw[List.mem_filterMap]
 constructor
 ·rintro⟨j,hj,e⟩
  split at e
  ·rename_i h
   exact⟨j,List.mem_range.mp hj,h,(Option.some.inj e).symm⟩
  ·cases e
 ·rintro⟨j,hj,h,rfl⟩
  exact⟨j,List.mem_range.mpr hj,by rw[if_pos h]⟩
theorem ZQ {xs ys:List V}{la lb:Int}{nb n:Nat}{k:List Int} :k∈gp xs ys la lb nb n↔∃i j:Nat,i<n∧j<nb∧0<av xs ys (la+i) (lb+j)∧k=[la+i,lb+j,(av xs ys (la+i) (lb+j):Int)]:=by
 unfold gp
 rw[List.mem_flatMap]
 constructor
 ·rintro⟨i,hi,h⟩
  obtain⟨j,hj,h1,h2⟩:=YQ.mp h
  exact⟨i,j,List.mem_range.mp hi,hj,h1,h2⟩
 ·rintro⟨i,j,hi,hj,h1,h2⟩
  exact⟨i,List.mem_range.mpr hi,YQ.mpr ⟨j,hj,h1,h2⟩⟩
theorem Ji {a a':Int}{l m:List Int}(h:a<a'):ax (a::l) (a'::m)=true:=by
 show(if a=a' then _ else decide (a<a'))=true
 rw[if_neg (by omega),decide_eq_true h]
theorem BU {a b b':Int}{l m:List Int}(h:b<b'):ax (a::b::l) (a::b'::m)=true:=by
 show(if a=a then _ else _)=true
 rw[if_pos rfl]
 exact Ji h
theorem Wb (xs ys:List V) (a lo:Int):∀n,(ee xs ys a lo n).Pairwise fun u v=>ax u v=true
 |0=>List.Pairwise.nil
 |n+1=>by
  rw[YU]
  refine List.pairwise_append.mpr ⟨Wb xs ys a lo n,by split<;>simp,fun u hu v hv=> ?_⟩
  obtain⟨j,hj,_,rfl⟩:=YQ.mp hu
  split at hv
  ·have:v=[a,lo+n,(av xs ys a (lo+n):Int)]:=by simpa using hv
   rw[this]
   exact BU (by omega)
  ·cases hv
theorem Y6 (xs ys:List V) (la lb:Int) (nb:Nat):∀n,(gp xs ys la lb nb n).Pairwise fun u v=>ax u v=true
 |0=>List.Pairwise.nil
 |n+1=>by
  rw[YC]
  refine List.pairwise_append.mpr ⟨Y6 xs ys la lb nb n,Wb _ _ _ _ _,fun u hu v hv=> ?_⟩
  obtain⟨i,j,hi,_,_,rfl⟩:=ZQ.mp hu
  obtain⟨j',_,_,rfl⟩:=YQ.mp hv
  exact Ji (by omega)
theorem Ew (xs ys:List V) (a lo:Int) (n:Nat):(ee xs ys a lo n).length≤n:=by
 unfold ee
 exact Nat.le_trans (List.length_filterMap_le _ _) (by rw[List.length_range];exact Nat.le_refl _)
theorem Ud (xs ys:List V) (la lb:Int) (nb:Nat):∀n,(gp xs ys la lb nb n).length≤n*nb
 |0=>Nat.zero_le _
 |n+1=>by
  rw[YC,List.length_append,Nat.add_mul]
  have:=Ud xs ys la lb nb n
  have:=Ew xs ys (la+n) lb nb
  omega
def aH (wd hg:Int) (xs ys:List V):List (List Int):=gp xs ys (1 - wd) (1 - hg) (2*hg - 1).toNat (2*wd - 1).toNat
def cm (kv:List Key×V):List Int:=(kv.1.map fun k=>match k with |Sum.inl i=>i |Sum.inr _=>0)++[match kv.2 with | .int n=>n |_=>0]
theorem Jy {ps qs:List (Int×Int)}{k:List Key} :k∈allM ps qs↔∃p∈ps,∃q∈qs,k=bS p q:=by
 unfold allM
 rw[List.mem_flatMap]
 constructor
 ·rintro⟨p,hp,h⟩
  obtain⟨q,hq,rfl⟩:=List.mem_map.mp h
  exact⟨p,hp,q,hq,rfl⟩
 ·rintro⟨p,hp,q,hq,rfl⟩
  exact⟨p,hp,List.mem_map_of_mem hq⟩
theorem HM.cm {kvs:List (List Key×V)}{xs ys:List V}(h:HM kvs (allM (aj xs) (aj ys))) {kv:List Key×V}(hk:kv∈kvs):
  ∃p∈aj xs,∃q∈aj ys,kv.1=bS p q∧kv.2=.int (av xs ys (q.1 - p.1) (q.2 - p.2):Int)∧0<av xs ys (q.1 - p.1) (q.2 - p.2)∧U.cm kv=[q.1 - p.1,q.2 - p.2,(av xs ys (q.1 - p.1) (q.2 - p.2):Int)]:=by
 obtain⟨p,hp,q,hq,e⟩:=Jy.mp (h.mem kv hk)
 have v:=h.at_ hk
 have c:cK (allM (aj xs) (aj ys)) kv.1=av xs ys (q.1 - p.1) (q.2 - p.2):=by rw[e];exact Yf xs ys _ _
 rw[c]at v
 have pos:0<cK (allM (aj xs) (aj ys)) kv.1:=vh.mpr (h.mem kv hk)
 rw[c]at pos
 refine⟨p,hp,q,hq,e,v,pos,?_⟩
 unfold U.cm
 rw[e,v]
 rfl
theorem Y9 {wd hg:Int}{xs:List V}(l:cI wd hg xs) {p:Int×Int}(hp:p∈aj xs):0≤p.1∧p.1<wd∧0≤p.2∧p.2<hg:=by
 obtain⟨i,hi,hr,e⟩:=YA.mp hp
 have:=l.len
 have rr:xs[i]? =some (.int p.2):=by
  unfold rowAt at hr
  cases h:xs[i]? with
  |none=>rw[h]at hr;cases hr
  |some v=>
   rw[h]at hr
   cases v<;>first |(cases hr;rfl) |cases hr
 have m:V.int p.2∈rowsOf xs:=List.mem_filter.mpr ⟨List.mem_of_getElem? rr,by simp⟩
 have q:=l.row _ m
 have q:(decide (0≤p.2)&&decide (p.2≤hg - 1))=true:=q
 simp only[Bool.and_eq_true,decide_eq_true_eq]at q
 omega
theorem HM.qy {kvs:List (List Key×V)}{xs ys:List V}{wd hg:Int}(h:HM kvs (allM (aj xs) (aj ys))) (lx:cI wd hg xs) (ly:cI wd hg ys):(kvs.map U.cm).Perm (aH wd hg xs ys):=by
 have inj:∀{u v:List Key×V},u∈kvs→v∈kvs→U.cm u=U.cm v→u.1=v.1:=fun {u v} hu hv e=>by
  obtain⟨p,_,q,_,e1,_,_,t1⟩:=h.cm hu
  obtain⟨p',_,q',_,e2,_,_,t2⟩:=h.cm hv
  rw[t1,t2]at e
  injection e with f1 f2
  injection f2 with f2 _
  rw[e1,e2]
  unfold bS
  rw[f1,f2]
 refine(List.perm_ext_iff_of_nodup ?_ ?_).mpr fun k=> ?_
 ·have:∀{l:List (List Key×V)},(∀u∈l,u∈kvs)→(l.map (·.1)).Nodup→(l.map U.cm).Nodup:=by
   intro l
   induction l with
   |nil=>intro _ _;exact List.nodup_nil
   |cons x r ih=>
    intro hm nd
    rw[List.map_cons,List.nodup_cons]at nd ⊢
    refine⟨fun hx=> ?_,ih (fun u hu=>hm u (List.mem_cons_of_mem _ hu)) nd.2⟩
    obtain⟨y,hy,e⟩:=List.mem_map.mp hx
    exact nd.1 (List.mem_map.mpr ⟨y,hy,inj (hm y (List.mem_cons_of_mem _ hy)) (hm x List.mem_cons_self) e⟩)
  exact this (fun u hu=>hu) h.nd
 ·refine(Y6 xs ys _ _ _ _).imp fun {u v} hl e=> ?_
  rw[e]at hl
  have:=Z1 _ _ hl
  rw[this]at hl
  cases hl
 ·constructor
  ·intro hk
   obtain⟨kv,eJ,rfl⟩:=List.mem_map.mp hk
   obtain⟨p,hp,q,hq,e,v,pos,t⟩:=h.cm eJ
   have a:=Y9 lx hp
   have b:=Y9 ly hq
   rw[t]
   refine ZQ.mpr ⟨(q.1 - p.1 - (1 - wd)).toNat,(q.2 - p.2 - (1 - hg)).toNat,by omega,by omega,?_⟩
   have e1:1 - wd+((q.1 - p.1 - (1 - wd)).toNat:Int)=q.1 - p.1:=by omega
   have e2:1 - hg+((q.2 - p.2 - (1 - hg)).toNat:Int)=q.2 - p.2:=by omega
   rw[e1,e2]
   exact⟨pos,rfl⟩
  ·intro hk
   obtain⟨i,j,_,_,pos,rfl⟩:=ZQ.mp hk
   rw[←Yf]at pos
   have v:=h.val [Sum.inl (1 - wd+i),Sum.inl (1 - hg+j)]
   rw[if_neg (by omega)]at v
   unfold bj at v
   obtain⟨kv,hf,e⟩:=Option.map_eq_some_iff.mp v
   have hm:=List.mem_of_find?_eq_some hf
   have bb:kv.1=[Sum.inl (1 - wd+(i:Int)),Sum.inl (1 - hg+(j:Int))]:=by
    have z:=List.find?_some hf
    exact of_decide_eq_true z
   refine List.mem_map.mpr ⟨kv,hm,?_⟩
   unfold U.cm
   rw[bb,e,Yf]
   rfl
theorem BL (wd hg:Int) (xs ys:List V):(aH wd hg xs ys).Pairwise fun a b=>ax b a=false:=(Y6 xs ys _ _ _ _).imp fun {a b} h=>Z1 _ _ h
theorem D5 {wd hg:Int}{xs ys:List V}{ks:List (List Int)}(p:ks.Perm (aH wd hg xs ys)) (r:ks.Pairwise fun a b=>ax b a=false):ks=aH wd hg xs ys:=
 List.Perm.eq_of_pairwise (le:=fun a b=>ax b a=false) (fun a b _ _ h1 h2=>WE _ _ h2 h1) r (BL wd hg xs ys) p
end
section
variable {P:Program}{w:World}{K:PySem.W.Frag}{mg:Str→Option Value}{base:Heap}{cB cL cN:Addr}
abbrev oq:Stmt:=top 9
def nK (K:PySem.W.Frag):Sp:=fun vs H Q _=> ∃x,vs=[x]∧iG K H x∧whole x=true∧Q .ai H
theorem xJ:bf ["number"] ["number"] (aG oq):=⟨rfl,rfl,rfl,by decide+kernel,rfl,by decide+kernel,by decide+kernel⟩
theorem Cb {f:Addr}{fd:FuncData}(F:aT K "need_whole" "need_whole" oq f fd) (D1:Def P w K mg base 1 "is_whole" ["thing"] (lD K)):aL P w K mg base aP 2 f fd ["number"] (nK K):=by
 refine F.ok xJ (fun vs H Q E h=> ?_) (fun au A outer s H vs Q E hr h=> ?_)
 ·obtain⟨x,rfl,_⟩:=h
  rfl
 ·obtain⟨x,rfl,t,hx,q⟩:=h
  refine⟨_,Zl (Z3 (YW (YI (Zh D1 hr (Za (pv 0) Zd)))) ZO ZF),?_⟩
  refine⟨_,rfl,x,rfl,t,_,rfl,?_⟩
  rw[hx]
  exact aO q
abbrev oI:Stmt:=top 17
def ke:Sp:=fun vs H Q _=> ∃x y z wd hg xs ys,vs=[x,y,z]∧bw H x y wd hg xs∧bw H x z wd hg ys∧∀(d:Addr) (H':Hp) (kvs:List (List Key×V)),ab H H'→H d=none→H' d=some (.dT kvs)→HM kvs (allM (aj xs) (aj ys))→Q (.ref d) H'
theorem gC:bf ["board", "one", "other", "starts", "ends", "many_by_move", "line", "row", "at", "there", "move"] ["board", "one", "other"] (aG oI):=⟨rfl,rfl,rfl,by decide+kernel,rfl,by decide+kernel,by decide+kernel⟩
theorem D6 {ps qs:List (Int×Int)}{p:Int×Int}{i:Nat}(h:ps[i]? =some p):allM (ps.take (i+1)) qs=allM (ps.take i) qs++qs.map (bS p):=by
 unfold allM
 rw[List.take_add_one,h,List.flatMap_append]
 show _++List.flatMap _ [p]=_
 rw[List.flatMap_singleton]
theorem y7 {H H':Hp}{x y:V}{wd hg:Int}{xs:List V}(l:bw H x y wd hg xs) (s:ab H H'):bw H' x y wd hg xs:=⟨l.1.same s,s.bV l.2.1,l.2.2⟩
theorem HM.get {kvs:List (List Key×V)}{ms:List (List Key)}(h:HM kvs ms) (k:List Key):(bj kvs k).getD (.int 0)=.int (cK ms k:Int):=by
 rw[h.val]
 split
 ·rename_i e
  rw[e]
  rfl
 ·rfl
theorem CL {f:Addr}{fd:FuncData}(F:aT K "hits_by_move" "hits_by_move" oI f fd) (D1:Def P w K mg base 7 "points" ["board", "lay"] kc):aL P w K mg base aP 8 f fd ["board", "one", "other"] ke:=by
 refine F.ok gC (fun vs H Q E h=> ?_) (fun au A outer s H vs Q E hr h=> ?_)
 ·obtain⟨x,y,z,wd,hg,xs,ys,rfl,_⟩:=h
  rfl
 ·obtain⟨x,y,z,wd,hg,xs,ys,rfl,la,lb,q⟩:=h
  have hu:=W9 hr
  refine⟨_,Zg (Zz (i:=3) gC.nd rfl (Or.inl rfl) (Zh D1 hr (Za (pv 0) (Za (pv 1) Zd))))
   (Zg (Zz (i:=4) gC.nd rfl (Or.inl rfl) (Zh D1 hr (Za (pv 0) (Za (pv 2) Zd))))
   (Zg (Zz (i:=5) gC.nd rfl (Or.inl rfl) WY)
   (Zg (Yp PassesOwn.never rfl (ZK (pv 3)) (ZJ rfl (Zk (ZA (i:=6) gC.nd rfl (Or.inl rfl)) (Zk (ZA (i:=7) gC.nd rfl (Or.inl rfl)) Zy)))
    (Zl (Yp PassesOwn.never rfl (ZK (pv 4)) (ZJ rfl (Zk (ZA (i:=8) gC.nd rfl (Or.inl rfl)) (Zk (ZA (i:=9) gC.nd rfl (Or.inl rfl)) Zy)))
     (Zg (Zz (i:=10) gC.nd rfl (Or.inl rfl) (ZG (Za (Zo ZP (pv 8) (pv 6)) (Za (Zo ZP (pv 9) (pv 7)) Zd))))
     (Zl (UX hu (pv 5) (pv 10) (Zo YJ (WZ hu (pv 5) (pv 10) Zi ⟨rfl,rfl,rfl,rfl⟩) Zi) rfl))))))
   (Zl (Zq (pv 5)))))),?_⟩
  refine Zx (Z9 ⟨_,rfl,_,rfl,x,y,wd,hg,xs,rfl,la,fun l1 H1 ps s1 n1 e1 eY=>ZL ?_⟩)
  dsimp only[List.set]
  refine Zx (Z9 ⟨_,rfl,_,rfl,x,z,wd,hg,ys,rfl,y7 lb s1,fun l2 H2 qs s2 n2 e2 bN=>ZL ?_⟩)
  dsimp only[List.set]
  refine Zx (Z9 fun d hd=>ZL ?_)
  dsimp only[List.set]
  have jb:=s2 _ _ e1
  have yz:Paired (jX H2) ps (aj xs):=Paired.bO eY fun v q h=>h.same s2
  have s3:az d H2 (upd H2 d (.dT [])):=az.upd
  have e3:upd H2 d (.dT []) d=some (.dT []):=Ze
  generalize upd H2 d (HO.dT [])=H3 at s3 e3
  have Fz:l1≠d:=Zb jb hd
  have Fy:l2≠d:=Zb e2 hd
  have small:(aj xs).length≤12∧(aj ys).length≤12:=by
   have a:=Yz xs
   have b:=Yz ys
   have c:=la.2.2.len
   have c':=lb.2.2.len
   have:=la.1.2.2.1
   omega
  have keep:∀{H':Hp},az d H2 H'→∀{t:Addr}{o:HO},H2 t=some o→H' t=some o:=fun {H'} sx {t o} h=>sx _ _ h (Zb h hd)
  refine Zx ⟨_,rfl,l1,rfl,⟨ps,ae.of (keep s3 jb)⟩,?_⟩
  refine JI (K:=K) (a:=l1) (xs:=ps) (fun i σ H'=> ∃kvs v6 v7 v8 v9 v10,σ=[some x,some y,some z,some (.ref l1),some (.ref l2),some (.ref d),v6,v7,v8,v9,v10]∧az d H2 H'∧H' d=some (.dT kvs)∧HM kvs (allM ((aj xs).take i) (aj ys)))
   ⟨_,none,none,none,none,none,rfl,s3,e3,HM.nil⟩ (fun i σ H' _ ⟨_,_,_,_,_,_,_,sx,_⟩=>ae.of (keep sx jb)) ?_ ?_
  ·rintro i v σ H4 hv ⟨kvs,v6,v7,v8,v9,v10,rfl,kb,e4,iY⟩
   obtain⟨p,hp,t,rfl,ht⟩:=Paired.at yz hv
   refine⟨t,_,rfl,ak.of (keep kb ht),rfl,_,_,rfl,_,_,rfl,rfl,?_⟩
   dsimp only[List.set]
   have hi:i< (aj xs).length:=(List.getElem?_eq_some_iff.mp hp).1
   refine⟨_,rfl,l2,rfl,⟨qs,ae.of (keep kb e2)⟩,?_⟩
   refine JI (K:=K) (a:=l2) (xs:=qs) (fun j σ H'=> ∃kvs v8 v9 v10,σ=[some x,some y,some z,some (.ref l1),some (.ref l2),some (.ref d),some (.int p.1),some (.int p.2),v8,v9,v10]∧az d H2 H'∧H' d=some (.dT kvs)∧HM kvs (allM ((aj xs).take i) (aj ys)++((aj ys).take j).map (bS p)))
    ⟨_,v8,v9,v10,rfl,kb,e4,by rw[List.take_zero,List.map_nil,List.append_nil];exact iY⟩ (fun j σ H' _ ⟨_,_,_,_,_,sx,_⟩=>ae.of (keep sx e2)) ?_ ?_
   ·rintro j u σ H5 pN ⟨tm,u8,u9,wx,rfl,lu,e5,fZ⟩
    obtain⟨r,bC,t2,rfl,pP⟩:=Paired.at bN pN
    have hj:j< (aj ys).length:=(List.getElem?_eq_some_iff.mp bC).1
    refine⟨t2,_,rfl,ak.of (keep lu pP),rfl,_,_,rfl,_,_,rfl,rfl,?_⟩
    dsimp only[List.set]
    refine Zx (Z9 ⟨_,rfl,_,rfl,_,_,rfl,rfl,_,rfl,_,rfl,_,_,rfl,rfl,(by show 2≤sizeLine;decide),fun b hb=>ZL ?_⟩)
    dsimp only[List.set]
    have s6:=Zt (o:=.tup ((bS p r).map kV)) hb
    have e6:upd H5 b (.tup ((bS p r).map kV)) b=some (.tup ((bS p r).map kV)):=Ze
    have A5:upd H5 b (HO.tup [V.int (r.1 - p.1),V.int (r.2 - p.2)])=upd H5 b (.tup ((bS p r).map kV)):=rfl
    rw[A5]
    generalize upd H5 b (HO.tup ((bS p r).map kV))=H6 at s6 e6
    have qv:=s6 _ _ e5
    have ln:tm.length<sizeLine:=by
     have:=fZ.len
     rw[List.length_append,List.length_map,List.length_take]at this
     have l2:(allM ((aj xs).take i) (aj ys)).length≤144:=by
      have:∀(l:List (Int×Int)),(allM l (aj ys)).length=l.length*(aj ys).length:=fun l=>by
       unfold allM
       induction l with
       |nil=>simp
       |cons a t ih=>rw[List.flatMap_cons,List.length_append,ih,List.length_map,List.length_cons,Nat.add_mul];omega
      rw[this,List.length_take]
      exact Nat.le_trans (Nat.mul_le_mul (by omega:min i (aj xs).length≤12) small.2) (by decide)
     rw[sizeLine_eq]
     omega
    refine⟨_,rfl,d,rfl,.inr ⟨_,.inl qv⟩,_,rfl,_,hG.t qv e6,_,_,fZ.get (bS p r),rfl,_,rfl,_,rfl,d,_,rfl,jZ.t qv e6 ln,?_⟩
    refine⟨_,_,_,_,rfl,(lu.trans s6.x).trans az.upd,Ze,?_⟩
    rw[List.take_add_one,bC,List.map_append,←List.append_assoc]
    exact fZ.put (bS p r)
   ·rintro σ H5 ⟨tm,u8,u9,wx,rfl,lu,e5,fZ⟩
    refine⟨_,_,_,_,_,_,rfl,lu,e5,?_⟩
    have lq:qs.length=(aj ys).length:=Paired.length bN
    rw[lq,List.take_length]at fZ
    rw[D6 hp]
    exact fZ
  ·rintro σ H4 ⟨kvs,v6,v7,v8,v9,v10,rfl,kb,e4,iY⟩
   have lp:ps.length=(aj xs).length:=Paired.length eY
   rw[lp,List.take_length]at iY
   have dn:H d=none:=by
    cases h:H d with
    |none=>rfl
    |some u=>rw[(s1.trans s2) _ _ h]at hd;cases hd
   exact⟨_,rfl,q d H4 kvs (fun b o h=>keep kb (s2 _ _ (s1 _ _ h))) dn e4 iY⟩
abbrev oH:Stmt:=top 18
def lF:Sp:=fun vs H Q _=> ∃x y z wd hg xs ys a b,vs=[x,y,z,.int a,.int b]∧bw H x y wd hg xs∧bw H x z wd hg ys∧∀(H':Hp),ab H H'→Q (.int (av xs ys a b:Int)) H'
theorem rJ:bf ["board", "one", "other", "right", "up", "many_by_move"] ["board", "one", "other", "right", "up"] (aG oH):=⟨rfl,rfl,rfl,by decide+kernel,rfl,by decide+kernel,by decide+kernel⟩
theorem CN {f:Addr}{fd:FuncData}(F:aT K "hits_between" "hits_between" oH f fd) (D1:Def P w K mg base 8 "hits_by_move" ["board", "one", "other"] ke) (D2:Def P w K mg base 2 "need_whole" ["number"] (nK K)):aL P w K mg base aP 9 f fd ["board", "one", "other", "right", "up"] lF:=by
 refine F.ok rJ (fun vs H Q E h=> ?_) (fun au A outer s H vs Q E hr h=> ?_)
 ·obtain⟨x,y,z,wd,hg,xs,ys,a,b,rfl,_⟩:=h
  rfl
 ·obtain⟨x,y,z,wd,hg,xs,ys,a,b,rfl,la,lb,q⟩:=h
  have hu:=W9 hr
  refine⟨_,Zg (Zz (i:=5) rJ.nd rfl (Or.inl rfl) (Zh D1 hr (Za (pv 0) (Za (pv 1) (Za (pv 2) Zd)))))
   (Zg (Ym (Zh D2 (hr.mono (by decide)) (Za (pv 3) Zd)))
   (Zg (Ym (Zh D2 (hr.mono (by decide)) (Za (pv 4) Zd)))
   (Zl (Zq (WZ hu (pv 5) (ZG (Za (pv 3) (Za (pv 4) Zd))) Zi ⟨rfl,rfl,rfl,rfl⟩))))),?_⟩
  refine Zx (Z9 ⟨_,rfl,_,rfl,_,rfl,x,y,z,wd,hg,xs,ys,rfl,la,lb,fun d H1 kvs s1 n1 e1 hm=>ZL ?_⟩)
  dsimp only[List.set]
  refine Zx ⟨_,rfl,.int a,rfl,⟨_,.int a⟩,rfl,?_⟩
  try dsimp only
  refine Zx ⟨_,rfl,.int b,rfl,⟨_,.int b⟩,rfl,?_⟩
  try dsimp only
  refine⟨_,rfl,d,rfl,.inr ⟨_,.inl e1⟩,_,rfl,_,rfl,(by show 2≤sizeLine;decide),fun t ht=> ?_⟩
  have s2:=Zt (o:=.tup [V.int a,V.int b]) ht
  have e2:upd H1 t (.tup [V.int a,V.int b]) t=some (.tup (([Sum.inl a,Sum.inl b]:List Key).map kV)):=Ze
  generalize upd H1 t (HO.tup [V.int a,V.int b])=H2 at s2 e2
  refine⟨_,hG.t (s2 _ _ e1) e2,?_⟩
  rw[hm.get,Yf]
  exact q H2 (s1.trans s2)
abbrev oG:Stmt:=top 19
def nR:Sp:=fun vs H Q _=> ∃x y wd hg xs a b,vs=[x,y,.int a,.int b]∧bw H x y wd hg xs∧∀(H':Hp),ab H H'→Q (.int (av xs xs a b:Int)) H'
theorem xN:bf ["board", "lay", "right", "up"] ["board", "lay", "right", "up"] (aG oG):=⟨rfl,rfl,rfl,by decide+kernel,rfl,by decide+kernel,by decide+kernel⟩
theorem CM {f:Addr}{fd:FuncData}(F:aT K "hits" "hits" oG f fd) (D1:Def P w K mg base 9 "hits_between" ["board", "one", "other", "right", "up"] lF):aL P w K mg base aP 10 f fd ["board", "lay", "right", "up"] nR:=by
 refine F.ok xN (fun vs H Q E h=> ?_) (fun au A outer s H vs Q E hr h=> ?_)
 ·obtain⟨x,y,wd,hg,xs,a,b,rfl,_⟩:=h
  rfl
 ·obtain⟨x,y,wd,hg,xs,a,b,rfl,la,q⟩:=h
  refine⟨_,Zl (Zq (Zh D1 hr (Za (pv 0) (Za (pv 1) (Za (pv 1) (Za (pv 2) (Za (pv 3) Zd))))))),?_⟩
  exact⟨_,rfl,_,rfl,_,rfl,_,rfl,_,rfl,x,y,y,wd,hg,xs,xs,a,b,rfl,la,la,q⟩
abbrev oQ:Stmt:=top 20
def lG:Sp:=fun vs H Q _=> ∃x y wd hg xs,vs=[x,y]∧bw H x y wd hg xs∧∀(L:Addr) (H':Hp) (ts:List V),ab H H'→H L=none→H' L=some (.lst ts)→Paired (bY H') ts (aH wd hg xs xs)→Q (.ref L) H'
theorem rL:bf ["board", "lay", "many_by_move"] ["board", "lay"] (aG oQ):=⟨rfl,rfl,rfl,by decide+kernel,rfl,by decide+kernel,by decide+kernel⟩
theorem Jc {H H':Hp}{v:V}{k:List Int}(h:bY H v k) (s:ab H H'):bY H' v k:=let ⟨t,e,g⟩:=h;⟨t,e,s _ _ g⟩
theorem CK {f:Addr}{fd:FuncData}(F:aT K "all_hits" "all_hits" oQ f fd) (G:Gs mg) (D1:Def P w K mg base 8 "hits_by_move" ["board", "one", "other"] ke):aL P w K mg base aP 9 f fd ["board", "lay"] lG:=by
 refine F.ok rL (fun vs H Q E h=> ?_) (fun au A outer s H vs Q E hr h=> ?_)
 ·obtain⟨x,y,wd,hg,xs,rfl,_⟩:=h
  rfl
 ·obtain⟨x,y,wd,hg,xs,rfl,la,q⟩:=h
  refine⟨_,Zg (Zz (i:=2) rL.nd rfl (Or.inl rfl) (Zh D1 hr (Za (pv 0) (Za (pv 1) (Za (pv 1) Zd)))))
   (Zl (Zq (Zp WL rfl G.sorted boot_sorted (Za (ZW ["right", "up", "many"] 3 [] (De (pv 2))
    (fun C s H fp=>show PG (aV _ _ _ C s H fp) _ (dH K 2 (aX (dH K 2 (aX (aS 0) (aX (aS 1) dI))) (aX (aS 2) dI))) from ZJ rfl (Zk (ZJ rfl (Zk (pb 0) (Zk (pb 1) Zy))) (Zk (pb 2) Zy))) (fun C s H fp=>Yl)
    (fun C s H fp D=>Zv rfl (ZG (Za (pv 0) (Za (pv 1) (Za (pv 2) Zd)))))) Zd)))),?_⟩
  refine Zx (Z9 ⟨_,rfl,_,rfl,_,rfl,x,y,y,wd,hg,xs,xs,rfl,la,la,fun d H1 kvs s1 n1 e1 hm=>ZL ?_⟩)
  dsimp only[List.set]
  refine⟨_,rfl,d,kvs,rfl,e1,fun o=> ?_⟩
  have x2:az d H1 (upd H1 d (.aZ o (.dT kvs))):=az.upd
  have e2:upd H1 d (.aZ o (.dT kvs)) d=some (.aZ o (.dT kvs)):=Ze
  generalize upd H1 d (HO.aZ o (.dT kvs))=H2 at x2 e2
  have kj:ab H H2:=fun b u h=>x2 _ _ (s1 _ _ h) (Zb h n1)
  have lk:kvs.length≤144:=by
   have a:=hm.len
   have b:=Yz xs
   have c:=la.2.2.len
   have:=la.1.2.2.1
   have:∀(l:List (Int×Int)),(allM l (aj xs)).length=l.length*(aj xs).length:=fun l=>by
    unfold allM
    induction l with
    |nil=>simp
    |cons a t ih=>rw[List.flatMap_cons,List.length_append,ih,List.length_map,List.length_cons,Nat.add_mul];omega
   rw[this]at a
   exact Nat.le_trans a (Nat.le_trans (Nat.mul_le_mul (by omega:(aj xs).length≤12) (by omega:(aj xs).length≤12)) (by decide))
  refine UC (kvs:=kvs) (o:=o) (d:=d) (fun i ys σ H'=> ∃v0 v1 v2,σ=[v0,v1,v2]∧ab H2 H'∧Paired (bY H') ys ((kvs.take i).map U.cm)∧ys.length≤i) ⟨_,_,_,rfl,ab.refl _,.nil,Nat.zero_le _⟩ (fun i ys σ H' ⟨_,_,_,_,s',_⟩=>s' _ _ e2) ?_ ?_
  ·rintro i k yv T a ys σ H' hk hT ha ⟨v0,v1,v2,rfl,s',pr,ln⟩
   have hi:i<kvs.length:=(List.getElem?_eq_some_iff.mp hk).1
   obtain⟨p,hp,r,bC,ek,ev,pos,et⟩:=hm.cm (List.mem_of_getElem? hk)
   have ek:k=bS p r:=ek
   have ev:yv=.int (av xs xs (r.1 - p.1) (r.2 - p.2):Int):=ev
   subst ek ev
   have sT:=Zt (o:=.par [V.ref a,.int (av xs xs (r.1 - p.1) (r.2 - p.2):Int)]) hT
   have eT:upd H' T (.par [V.ref a,.int (av xs xs (r.1 - p.1) (r.2 - p.2):Int)]) T=some (.par [V.ref a,.int (av xs xs (r.1 - p.1) (r.2 - p.2):Int)]):=Ze
   have gO:H' a=some (.tup [.int (r.1 - p.1),.int (r.2 - p.2)]):=ha
   generalize upd H' T (HO.par [V.ref a,.int (av xs xs (r.1 - p.1) (r.2 - p.2):Int)])=H4 at sT eT
   refine⟨T,_,rfl,ak.pe eT,rfl,_,_,rfl,⟨a,_,rfl,ak.of (sT _ _ gO),rfl,_,_,rfl,_,_,rfl,rfl,_,_,rfl,rfl,?_⟩⟩
   dsimp only[List.set]
   refine⟨_,rfl,_,rfl,_,rfl,(by show 3≤sizeLine;decide),fun t ht=> ⟨by rw[sizeLine_eq];omega,?_⟩⟩
   have s5:=Zt (o:=.tup [V.int (r.1 - p.1),V.int (r.2 - p.2),.int (av xs xs (r.1 - p.1) (r.2 - p.2):Int)]) ht
   refine⟨_,_,_,rfl,s'.trans (sT.trans s5),?_,by rw[List.length_append];simp;omega⟩
   rw[List.take_add_one,hk,List.map_append]
   refine Paired.snoc (Paired.bO pr fun v q h=>Jc h (sT.trans s5)) ?_
   show bY _ _ (U.cm (bS p r,V.int (av xs xs (r.1 - p.1) (r.2 - p.2):Int)))
   rw[et]
   exact⟨t,rfl,Ze⟩
  ·rintro ys σ H' ⟨v0,v1,v2,rfl,s',pr,ln⟩ L hL
   rw[List.take_length]at pr
   have sL:=Zt (o:=.lst ys) hL
   have eL:upd H' L (.lst ys) L=some (.lst ys):=Ze
   generalize upd H' L (HO.lst ys)=H5 at sL eL
   refine⟨L,ys,kvs.map U.cm,rfl,ae.of eL,Paired.bO pr fun v q h=>Jc h sL,fun k hk=> ?_,by omega,fun q' eR fU nq pm rise yA=> ?_⟩
   ·obtain⟨kv,eJ,rfl⟩:=List.mem_map.mp hk
    unfold U.cm
    simp
   ·have ek:=D5 (pm.trans (hm.qy la.2.2 la.2.2)) rise
    subst ek
    have s6:=Zt (o:=.lst eR) nq
    have nn:H q'=none:=by
     cases h:H q' with
     |none=>rfl
     |some u=>rw[(kj.trans (s'.trans sL)) _ _ h]at nq;cases nq
    exact q q' _ eR (kj.trans (s'.trans (sL.trans s6))) nn Ze (Paired.bO yA fun v q h=>Jc h s6)
end
def dM (wd hg:Int) (xs ys:List V) (M:Int):Prop:=(∀i j:Nat,i< (2*wd - 1).toNat→j< (2*hg - 1).toNat→(av xs ys (1 - wd+i) (1 - hg+j):Int)≤M)∧(M=0∨∃i j:Nat,i< (2*wd - 1).toNat∧j< (2*hg - 1).toNat∧M=(av xs ys (1 - wd+i) (1 - hg+j):Int))
theorem dM.uniq {wd hg:Int}{xs ys:List V}{M N:Int}(a:dM wd hg xs ys M) (b:dM wd hg xs ys N):M=N:=by
 have nn:∀{M:Int},dM wd hg xs ys M→0≤M:=fun h=>by
  rcases h.2 with e |⟨i,j,_,_,e⟩<;>omega
 have le:∀{M N:Int},dM wd hg xs ys M→dM wd hg xs ys N→M≤N:=fun h k=>by
  rcases h.2 with e |⟨i,j,hi,hj,e⟩
  ·rw[e];exact nn k
  ·rw[e];exact k.1 i j hi hj
 exact Int.le_antisymm (le a b) (le b a)
theorem DY {kvs:List (List Key×V)}{xs ys:List V}{wd hg:Int}(h:HM kvs (allM (aj xs) (aj ys))) (lx:cI wd hg xs) (ly:cI wd hg ys):
  ∃ns:List Int,kvs.map (·.2)=ns.map V.int∧(ns=[]→dM wd hg xs ys 0)∧∀M∈ns,(∀a∈ns,a≤M)→dM wd hg xs ys M:=by
 refine⟨kvs.map fun kv=> ((cK (allM (aj xs) (aj ys)) kv.1:Nat):Int),?_,?_,?_⟩
 ·rw[List.map_map]
  exact List.map_congr_left fun kv hk=>h.at_ hk
 ·intro e
  have e':kvs=[]:=List.map_eq_nil_iff.mp e
  have pm:=h.qy lx ly
  rw[e']at pm
  have e2:aH wd hg xs ys=[]:=List.nil_perm.mp pm
  refine⟨fun i j hi hj=> ?_,.inl rfl⟩
  by_cases z:0<av xs ys (1 - wd+i) (1 - hg+j)
  ·have:[1 - wd+i,1 - hg+j,(av xs ys (1 - wd+i) (1 - hg+j):Int)]∈aH wd hg xs ys:=ZQ.mpr ⟨i,j,hi,hj,z,rfl⟩
   rw[e2]at this
   cases this
  ·omega
 ·intro M hM hle
  have pm:=h.qy lx ly
  have wC:∀kv∈kvs,∃i j:Nat,i< (2*wd - 1).toNat∧j< (2*hg - 1).toNat∧((cK (allM (aj xs) (aj ys)) kv.1:Nat):Int)=(av xs ys (1 - wd+i) (1 - hg+j):Int):=fun kv hk=>by
   have m:U.cm kv∈aH wd hg xs ys:=pm.mem_iff.mp (List.mem_map.mpr ⟨kv,hk,rfl⟩)
   obtain⟨i,j,hi,hj,_,e⟩:=ZQ.mp m
   refine⟨i,j,hi,hj,?_⟩
   have e2:=h.at_ hk
   unfold U.cm at e
   rw[e2]at e
   have:=congrArg List.getLast? e
   simpa using this
  refine⟨fun i j hi hj=> ?_,.inr ?_⟩
  ·by_cases z:0<av xs ys (1 - wd+i) (1 - hg+j)
   ·have m:[1 - wd+i,1 - hg+j,(av xs ys (1 - wd+i) (1 - hg+j):Int)]∈aH wd hg xs ys:=ZQ.mpr ⟨i,j,hi,hj,z,rfl⟩
    obtain⟨kv,hk,e⟩:=List.mem_map.mp (pm.mem_iff.mpr m)
    have e2:=h.at_ hk
    unfold U.cm at e
    rw[e2]at e
    have e3:((cK (allM (aj xs) (aj ys)) kv.1:Nat):Int)=(av xs ys (1 - wd+i) (1 - hg+j):Int):=by
     have:=congrArg List.getLast? e
     simpa using this
    rw[←e3]
    exact hle _ (List.mem_map.mpr ⟨kv,hk,rfl⟩)
   ·obtain⟨kv,hk,e⟩:=List.mem_map.mp hM
    have e:((cK (allM (aj xs) (aj ys)) kv.1:Nat):Int)=M:=e
    omega
  ·obtain⟨kv,hk,e⟩:=List.mem_map.mp hM
   obtain⟨i,j,hi,hj,e2⟩:=wC kv hk
   exact⟨i,j,hi,hj,by rw[←e];exact e2⟩
def c2 (n:Nat):Int:=(n:Int)*((n:Int) - 1)/2
theorem Jd {α:Type}(f g:α→Int):∀G:List α,(G.map fun x=>f x+g x).sum=(G.map f).sum+(G.map g).sum
 | []=>rfl
 |x::r=>by simp only[List.map_cons,List.sum_cons,Jd f g r];omega
theorem YL {α:Type} :∀G:List α,(G.map fun _=> (0:Int)).sum=0
 | []=>rfl
 |x::r=>by simp only[List.map_cons,List.sum_cons,YL r];rfl
theorem UO {v:Int×Int}{c:Int} :∀{G:List (Int×Int)},G.Nodup→v∈G→(G.map fun g=>if g=v then c else 0).sum=c
 | [],_,h=>by cases h
 |x::r,nd,h=>by
  rw[List.map_cons,List.sum_cons]
  have kq:=List.nodup_cons.mp nd
  by_cases z:x=v
  ·rw[if_pos z]
   have:(r.map fun g=>if g=v then c else 0)=r.map fun _=> (0:Int):=List.map_congr_left fun g hg=>if_neg fun e=>kq.1 (by rw[z,←e];exact hg)
   rw[this,YL]
   omega
  ·rw[if_neg z,UO kq.2 ((List.mem_cons.mp h).resolve_left fun e=>z e.symm)]
   omega
def dj (q:ay):Int×Int:=(q.1,q.2.1)
def cs (l:List ay) (a b:Int):Nat:=l.countP fun q=>decide (dj q=(a,b))
def mt (xs:List V) (l o:Nat) (b:Int):Bool:=match rowAt xs l with
 |some r=>decide (rowAt xs o=some (r+b))
 |none=>false
theorem qE (xs:List V) (o a:Nat) (b:Int) (ha:0<a):∀j,j≤o→cs (cO xs o j) a b=if a≤o∧o - a<j∧mt xs (o - a) o b=true then 1 else 0
 |0,_=>by rw[if_neg (by omega)];rfl
 |j+1,h=>by
  rw[Yk]
  unfold cs
  rw[List.countP_append]
  have ih:=qE xs o a b ha j (by omega)
  unfold cs at ih
  rw[ih]
  by_cases z:a≤o∧o - a=j
  ·have n1:¬(a≤o∧o - a<j∧mt xs (o - a) o b=true):=by omega
   rw[if_neg n1,z.2,Nat.zero_add]
   have e:cn xs o j=(rowAt xs j).bind fun a=> (rowAt xs o).map fun b=> ((o:Int) - j,b - a,(j:Int),(o:Int)):=rfl
   rw[e]
   unfold mt
   cases hr:rowAt xs j with
   |none=>rw[if_neg (by simp)];rfl
   |some r=>
    cases ho:rowAt xs o with
    |none=>rw[if_neg (by simp)];rfl
    |some r'=>
     have e2:(Option.map (fun b=> ((o:Int) - j,b - r,(j:Int),(o:Int))) (some r')).toList=[((o:Int) - j,r' - r,(j:Int),(o:Int))]:=rfl
     simp only[Option.bind_some,Option.map_some,Option.toList_some,List.countP_cons,List.countP_nil]
     unfold dj
     by_cases y:r'=r+b
     ·rw[if_pos (by simp only[decide_eq_true_eq,Prod.mk.injEq];omega),if_pos ⟨z.1,by omega,by rw[y];simp⟩]
     ·rw[if_neg (by simp only[decide_eq_true_eq,Prod.mk.injEq];omega),if_neg (by simp;omega)]
  ·have e0:List.countP (fun q=>decide (dj q=((a:Int),b))) (cn xs o j).toList=0:=by
    cases hs:cn xs o j with
    |none=>rfl
    |some q=>
     have e:cn xs o j=(rowAt xs j).bind fun a=> (rowAt xs o).map fun b=> ((o:Int) - j,b - a,(j:Int),(o:Int)):=rfl
     rw[e,Option.bind_eq_some_iff]at hs
     obtain⟨r,_,hs⟩:=hs
     obtain⟨r',_,rfl⟩:=Option.map_eq_some_iff.mp hs
     simp only[Option.toList_some,List.countP_cons,List.countP_nil]
     rw[if_neg]
     unfold dj
     simp only[decide_eq_true_eq,Prod.mk.injEq]
     omega
   rw[e0,Nat.add_zero]
   by_cases y:a≤o∧o - a<j∧mt xs (o - a) o b=true
   ·rw[if_pos y,if_pos ⟨y.1,by omega,y.2.2⟩]
   ·rw[if_neg y,if_neg fun t=>y ⟨t.1,by omega,t.2.2⟩]
theorem vm (l m:List ay) (a b:Int):cs (l++m) a b=cs l a b+cs m a b:=List.countP_append
theorem UM (xs:List V) (a:Nat) (b:Int) (ha:0<a):∀n,n≤a→cs (aQ xs n) a b=0
 |0,_=>rfl
 |n+1,h=>by rw[ZD,vm,UM xs a b ha n (by omega),qE xs n a b ha n (Nat.le_refl _),if_neg (by omega)]
theorem Dq {xs:List V}{a m:Nat}{b:Int}(h:m+a<xs.length):dh xs xs a b m=mt xs m (m+a) b:=by
 unfold dh mt
 cases rowAt xs m with
 |none=>rfl
 |some r=>
  show(decide (0≤(m:Int)+a)&&decide ((m:Int)+a<xs.length)&&decide (rowAt xs ((m:Int)+a).toNat=some (r+b)))=_
  rw[decide_eq_true (show 0≤(m:Int)+a by omega),decide_eq_true (show(m:Int)+a<xs.length by omega),show((m:Int)+a).toNat=m+a by omega]
  rfl
theorem vA (xs:List V) (a:Nat) (b:Int) (ha:0<a):∀m,m+a≤xs.length→cs (aQ xs (m+a)) a b=dq xs xs a b m
 |0,_=>by rw[Nat.zero_add,UM xs a b ha a (Nat.le_refl _)];rfl
 |m+1,h=>by
  rw[show m+1+a=m+a+1 by omega,ZD,vm,vA xs a b ha m (by omega),qE xs (m+a) a b ha _ (Nat.le_refl _)]
  show _=dq xs xs a b m+(if dh xs xs a b m=true then 1 else 0)
  rw[Dq (by omega),show m+a - a=m by omega]
  by_cases z:mt xs m (m+a) b=true
  ·rw[if_pos ⟨by omega,by omega,z⟩,if_pos z]
  ·rw[if_neg fun t=>z t.2.2,if_neg z]
theorem JF (xs:List V) (a:Nat) (b:Int) (n:Nat) (h:xs.length≤n+a):∀k,dq xs xs a b (n+k)=dq xs xs a b n
 |0=>rfl
 |k+1=>by
  show dq xs xs a b (n+k)+(if dh xs xs a b (n+k)=true then 1 else 0)=_
  rw[JF xs a b n h k,if_neg,Nat.add_zero]
  unfold dh
  cases rowAt xs (n+k) with
  |none=>exact Bool.false_ne_true
  |some r=>
   show ¬((decide (0≤((n+k:Nat):Int)+a)&&decide (((n+k:Nat):Int)+a<xs.length)&&decide (rowAt xs (((n+k:Nat):Int)+a).toNat=some (r+b)))=true)
   rw[decide_eq_false (show ¬(((n+k:Nat):Int)+a<xs.length) by omega),Bool.and_false,Bool.false_and]
   exact Bool.false_ne_true
theorem vk (xs:List V) (a:Int) (b:Int) (ha:0<a):cs (aQ xs xs.length) a b=av xs xs a b:=by
 obtain⟨n,rfl⟩:=Int.eq_ofNat_of_zero_le (Int.le_of_lt ha)
 have hn:0<n:=by omega
 by_cases z:n≤xs.length
 ·have e:=vA xs n b hn (xs.length - n) (by omega)
  rw[show xs.length - n+n=xs.length by omega]at e
  rw[e]
  have f:=JF xs n b (xs.length - n) (by omega) n
  rw[show xs.length - n+n=xs.length by omega]at f
  exact f.symm
 ·rw[UM xs n b hn _ (by omega)]
  have f:=JF xs n b 0 (by omega) xs.length
  rw[Nat.zero_add]at f
  exact f.symm
def gU (k:List Int):Option Int:=match k with
 | [a,_,n]=>if 0<a then some (n*(n - 1)/2) else none
 |_=>none
def jF (wd hg:Int) (xs:List V):Int:=((aH wd hg xs xs).filterMap gU).sum
def gQ (la lb:Int) (nb:Nat) (n:Nat):List (Int×Int):=(List.range n).flatMap fun(i:Nat)=> (List.range nb).map fun(j:Nat)=> (la+(i:Int),lb+(j:Int))
theorem Yr {la lb:Int}{nb n:Nat}{g:Int×Int} :g∈gQ la lb nb n↔∃i j:Nat,i<n∧j<nb∧g=(la+i,lb+j):=by
 unfold gQ
 rw[List.mem_flatMap]
 constructor
 ·rintro⟨i,hi,h⟩
  obtain⟨j,hj,rfl⟩:=List.mem_map.mp h
  exact⟨i,j,List.mem_range.mp hi,List.mem_range.mp hj,rfl⟩
 ·rintro⟨i,j,hi,hj,rfl⟩
  exact⟨i,List.mem_range.mpr hi,List.mem_map.mpr ⟨j,List.mem_range.mpr hj,rfl⟩⟩
theorem Y4 (la lb:Int) (nb n:Nat):gQ la lb nb (n+1)=gQ la lb nb n++(List.range nb).map fun(j:Nat)=> (la+(n:Int),lb+(j:Int)):=by
 unfold gQ
 rw[List.range_succ,List.flatMap_append]
 simp
theorem WI (la lb:Int) (nb:Nat):∀n,(gQ la lb nb n).Nodup
 |0=>List.nodup_nil
 |n+1=>by
  rw[Y4]
  refine List.nodup_append.mpr ⟨WI la lb nb n,?_,?_⟩
  ·refine List.nodup_iff_pairwise_ne.mpr (List.pairwise_map.mpr ((List.nodup_iff_pairwise_ne.mp List.nodup_range).imp fun {i j} h e=>h ?_))
   have:=congrArg Prod.snd e
   simp only at this
   omega
  ·intro x hx y hy e
   obtain⟨i,j,hi,_,rfl⟩:=Yr.mp hx
   obtain⟨j',_,rfl⟩:=List.mem_map.mp hy
   have:=congrArg Prod.fst e
   simp only at this
   omega
def wt (xs:List V) (g:Int×Int):Int:=if 0<g.1 then c2 (av xs xs g.1 g.2) else 0
theorem UR (xs:List V) (a lo:Int):∀n,((ee xs xs a lo n).filterMap gU).sum=(((List.range n).map fun(j:Nat)=> (a,lo+(j:Int))).map (wt xs)).sum
 |0=>rfl
 |n+1=>by
  rw[YU,List.filterMap_append,List.sum_append,UR xs a lo n,List.range_succ,List.map_append,List.map_append,List.sum_append]
  refine congrArg _ ?_
  show _=wt xs (a,lo+n)+0
  rw[Int.add_zero]
  unfold wt
  by_cases z:0<av xs xs a (lo+n)
  ·rw[if_pos z]
   by_cases p:0<a
   ·have e:gU [a,lo+n,(av xs xs a (lo+n):Int)]=some (c2 (av xs xs a (lo+n))):=by
     show(if 0<a then some ((av xs xs a (lo+n):Int)*((av xs xs a (lo+n):Int) - 1)/2) else none)=_
     rw[if_pos p]
     rfl
    rw[List.filterMap_cons_some e,if_pos p]
    simp
   ·have e:gU [a,lo+n,(av xs xs a (lo+n):Int)]=none:=if_neg p
    rw[List.filterMap_cons_none e,if_neg p]
    rfl
  ·rw[if_neg z]
   have h0:av xs xs a (lo+n)=0:=by omega
   show(0:Int)=_
   simp only[h0]
   split<;>rfl
theorem U8 (xs:List V) (la lb:Int) (nb:Nat):∀n,((gp xs xs la lb nb n).filterMap gU).sum=((gQ la lb nb n).map (wt xs)).sum
 |0=>rfl
 |n+1=>by rw[YC,List.filterMap_append,List.sum_append,U8 xs la lb nb n,UR,Y4,List.map_append,List.sum_append]
theorem Jm {xs:List V}{q:ay} :∀{n:Nat},q∈aQ xs n→∃l o:Nat,l<o∧o<n∧∃r r',rowAt xs l=some r∧rowAt xs o=some r'∧q=((o:Int) - l,r' - r,(l:Int),(o:Int)):=fun {n} h=>by
 unfold aQ cO at h
 obtain⟨o,ho,h⟩:=List.mem_flatMap.mp h
 obtain⟨l,hl,h⟩:=List.mem_filterMap.mp h
 unfold cn at h
 obtain⟨r,hr,h⟩:=Option.bind_eq_some_iff.mp h
 obtain⟨r',bC,rfl⟩:=Option.map_eq_some_iff.mp h
 exact⟨l,o,List.mem_range.mp hl,List.mem_range.mp ho,r,r',hr,bC,rfl⟩
theorem US {f:List Int→Option Int}{W:Int×Int→Int}{xs ys:List V}(h1:∀a b,0<av xs ys a b→(f [a,b,(av xs ys a b:Int)]).getD 0=W (a,b)) (h0:∀a b,av xs ys a b=0→W (a,b)=0) (a lo:Int):
  ∀n,((ee xs ys a lo n).filterMap f).sum=(((List.range n).map fun(j:Nat)=> (a,lo+(j:Int))).map W).sum
 |0=>rfl
 |n+1=>by
  rw[YU,List.filterMap_append,List.sum_append,US h1 h0 a lo n,List.range_succ,List.map_append,List.map_append,List.sum_append]
  refine congrArg _ ?_
  show _=W (a,lo+n)+0
  rw[Int.add_zero]
  by_cases z:0<av xs ys a (lo+n)
  ·rw[if_pos z,←h1 a (lo+n) z]
   cases e:f [a,lo+n,(av xs ys a (lo+n):Int)] with
   |none=>rw[List.filterMap_cons_none e];rfl
   |some v=>rw[List.filterMap_cons_some e];simp
  ·rw[if_neg z,h0 a (lo+n) (by omega)]
   rfl
theorem WJ {f:List Int→Option Int}{W:Int×Int→Int}{xs ys:List V}(h1:∀a b,0<av xs ys a b→(f [a,b,(av xs ys a b:Int)]).getD 0=W (a,b)) (h0:∀a b,av xs ys a b=0→W (a,b)=0) (la lb:Int) (nb:Nat):
  ∀n,((gp xs ys la lb nb n).filterMap f).sum=((gQ la lb nb n).map W).sum
 |0=>rfl
 |n+1=>by rw[YC,List.filterMap_append,List.sum_append,WJ h1 h0 la lb nb n,US h1 h0,Y4,List.map_append,List.sum_append]
def th (k:List Int):Option Int:=match k with
 | [_,_,n]=>some n
 |_=>none
def cZ (k:List Int):Option Int:=match k with
 | [a,b,n]=>if ([a,b]:List Int)=[0,0] then none else some n
 |_=>none
abbrev gr (wd hg:Int):List (Int×Int):=gQ (1 - wd) (1 - hg) (2*hg - 1).toNat (2*wd - 1).toNat
theorem WU {α β:Type}(f:α→β→Int):∀(ps:List α) (qs:List β),(ps.map fun p=> (qs.map fun q=>f p q).sum).sum=(qs.map fun q=> (ps.map fun p=>f p q).sum).sum
 | [],qs=>by
  show(0:Int)=_
  rw[show(qs.map fun q=> (([]:List α).map fun p=>f p q).sum)=qs.map fun _=> (0:Int) from rfl,YL]
 |p::ps,qs=>by
  rw[List.map_cons,List.sum_cons,WU f ps qs,←Jd]
  rfl
theorem vw {α:Type}(P:α→Bool):∀l:List α,((l.countP P:Nat):Int)=(l.map fun x=>if P x=true then (1:Int) else 0).sum
 | []=>rfl
 |x::r=>by
  rw[List.countP_cons,List.map_cons,List.sum_cons,←vw P r]
  by_cases h:P x=true
  ·rw[if_pos h,if_pos h];omega
  ·rw[if_neg h,if_neg h];omega
theorem vq (ps qs:List (Int×Int)) (a b:Int):((cK (allM ps qs) [Sum.inl a,Sum.inl b]:Nat):Int)=(ps.map fun p=> (qs.map fun q=>if q.1 - p.1=a∧q.2 - p.2=b then (1:Int) else 0).sum).sum:=by
 unfold cK allM
 induction ps with
 |nil=>rfl
 |cons p ps ih=>
  rw[List.flatMap_cons,List.countP_append,List.map_cons,List.sum_cons,←ih,Int.natCast_add,vw,List.map_map]
  refine congrArg (· +_) (congrArg List.sum (List.map_congr_left fun q _=> ?_))
  show(if decide (bS p q=[Sum.inl a,Sum.inl b])=true then (1:Int) else 0)=_
  unfold bS
  by_cases z:q.1 - p.1=a∧q.2 - p.2=b
  ·rw[if_pos z,if_pos (by rw[z.1,z.2];exact decide_eq_true rfl)]
  ·rw[if_neg z,if_neg fun t=>z ?_]
   have t:=of_decide_eq_true t
   simp only[List.cons.injEq,Sum.inl.injEq,and_true]at t
   exact t
theorem Ye (xs ys:List V) (a b:Int):av xs ys a b=av ys xs (0 - a) (0 - b):=by
 have e1:=vq (aj xs) (aj ys) a b
 have e2:=vq (aj ys) (aj xs) (0 - a) (0 - b)
 rw[Yf]at e1 e2
 rw[WU]at e1
 have:((aj ys).map fun q=> ((aj xs).map fun p=>if q.1 - p.1=a∧q.2 - p.2=b then (1:Int) else 0).sum)=(aj ys).map fun p=> ((aj xs).map fun q=>if q.1 - p.1=0 - a∧q.2 - p.2=0 - b then (1:Int) else 0).sum:=List.map_congr_left fun q _=>congrArg List.sum (List.map_congr_left fun p _=>by
  by_cases z:q.1 - p.1=a∧q.2 - p.2=b
  ·rw[if_pos z,if_pos (by omega)]
  ·rw[if_neg z,if_neg (by omega)])
 rw[this,←e2]at e1
 omega
theorem Wh (xs:List V):av xs xs 0 0=(aj xs).length:=by
 have key:∀n,n≤xs.length→dq xs xs 0 0 n=(jw xs n).length:=fun n=>by
  induction n with
  |zero=>intro _;rfl
  |succ n ih=>
   intro h
   show dq xs xs 0 0 n+(if dh xs xs 0 0 n=true then 1 else 0)=_
   rw[ih (by omega),YV,List.length_append]
   refine congrArg _ ?_
   unfold dh
   cases e:rowAt xs n with
   |none=>rfl
   |some r=>
    show(if (decide (0≤(n:Int)+0)&&decide ((n:Int)+0<xs.length)&&decide (rowAt xs ((n:Int)+0).toNat=some (r+0)))=true then 1 else 0)=1
    rw[Int.add_zero,Int.add_zero,Int.toNat_natCast,e,decide_eq_true (show(0:Int)≤n by omega),decide_eq_true (show(n:Int)<xs.length by omega),decide_eq_true rfl]
    rfl
 exact key xs.length (Nat.le_refl _)
theorem U5 (xs:List V) (b:Int) (h:b≠0):av xs xs 0 b=0:=by
 have key:∀n,dq xs xs 0 b n=0:=fun n=>by
  induction n with
  |zero=>rfl
  |succ n ih=>
   show dq xs xs 0 b n+(if dh xs xs 0 b n=true then 1 else 0)=0
   rw[ih,if_neg]
   unfold dh
   cases e:rowAt xs n with
   |none=>exact Bool.false_ne_true
   |some r=>
    show ¬((decide (0≤(n:Int)+0)&&decide ((n:Int)+0<xs.length)&&decide (rowAt xs ((n:Int)+0).toNat=some (r+b)))=true)
    rw[Int.add_zero,Int.toNat_natCast,e,decide_eq_false (show ¬(some r=some (r+b)) from fun t=>h (by have:=Option.some.inj t;omega)),Bool.and_false]
    exact Bool.false_ne_true
 exact key _
theorem Y3 (xs ys:List V) (a b:Int):av xs ys a b≤(aj xs).length:=by
 have key:∀n,dq xs ys a b n≤(jw xs n).length:=fun n=>by
  induction n with
  |zero=>exact Nat.le_refl _
  |succ n ih=>
   show dq xs ys a b n+(if dh xs ys a b n=true then 1 else 0)≤_
   rw[YV,List.length_append]
   refine Nat.add_le_add ih ?_
   unfold dh
   cases e:rowAt xs n with
   |none=>exact Nat.le_refl _
   |some r=>
    have le:∀c:Bool,(if c=true then 1 else 0)≤1:=by decide
    exact le _
 exact key xs.length
theorem Dj (ps qs:List (Int×Int)):(allM ps qs).length=ps.length*qs.length:=by
 unfold allM
 induction ps with
 |nil=>simp
 |cons a t ih=>rw[List.flatMap_cons,List.length_append,ih,List.length_map,List.length_cons,Nat.add_mul];omega
theorem vf {G:List (Int×Int)}(nd:G.Nodup):∀ms:List (List Key),(∀m∈ms,∃g∈G,m=[Sum.inl g.1,Sum.inl g.2])→(G.map fun g=> ((cK ms [Sum.inl g.1,Sum.inl g.2]:Nat):Int)).sum=ms.length
 | [],_=>by
  rw[show(G.map fun g=> ((cK [] [Sum.inl g.1,Sum.inl g.2]:Nat):Int))=G.map fun _=> (0:Int) from rfl,YL]
  rfl
 |m::ms,h=>by
  obtain⟨g,hg,e⟩:=h m List.mem_cons_self
  have ih:=vf nd ms fun m' hm=>h m' (List.mem_cons_of_mem _ hm)
  have:(G.map fun x=> ((cK (m::ms) [Sum.inl x.1,Sum.inl x.2]:Nat):Int))=G.map fun x=> ((cK ms [Sum.inl x.1,Sum.inl x.2]:Nat):Int)+(if x=g then 1 else 0):=List.map_congr_left fun x _=>by
   unfold cK
   rw[List.countP_cons,Int.natCast_add,e]
   refine congrArg _ ?_
   by_cases z:x=g
   ·rw[if_pos z,if_pos (by rw[z];exact decide_eq_true rfl)];rfl
   ·rw[if_neg z,if_neg fun t=>z ?_]
    ·rfl
    have t:=of_decide_eq_true t
    simp only[List.cons.injEq,Sum.inl.injEq,and_true]at t
    exact Prod.ext t.1.symm t.2.symm
  rw[this,Jd,ih,UO nd hg]
  simp
theorem Di {wd hg:Int}{xs:List V}(ly:cI wd hg xs):((aH wd hg xs xs).filterMap th).sum=((aj xs).length:Int)*(aj xs).length:=by
 unfold aH
 rw[WJ (W:=fun g=> (av xs xs g.1 g.2:Int)) (fun a b _=>rfl) (fun a b h=>by show((av xs xs a b:Nat):Int)=0;rw[h];rfl)]
 have e:=vf (G:=gr wd hg) (WI _ _ _ _) (allM (aj xs) (aj xs)) fun m hm=>by
  obtain⟨p,hp,q,hq,rfl⟩:=Jy.mp hm
  have p1:=Y9 ly hp
  have p2:=Y9 ly hq
  refine⟨(q.1 - p.1,q.2 - p.2),Yr.mpr ⟨(q.1 - p.1 - (1 - wd)).toNat,(q.2 - p.2 - (1 - hg)).toNat,by omega,by omega,?_⟩,rfl⟩
  rw[Prod.mk.injEq]
  omega
 rw[Dj]at e
 rw[←Int.natCast_mul,←e]
 exact congrArg List.sum (List.map_congr_left fun g _=>by rw[Yf])
theorem CT (wd hg:Int) (w1:1≤wd) (g1:1≤hg):((gr wd hg).map fun g=> (0 - g.1,0 - g.2)).Perm (gr wd hg):=by
 have nd:=WI (1 - wd) (1 - hg) (2*hg - 1).toNat (2*wd - 1).toNat
 refine(List.perm_ext_iff_of_nodup ?_ nd).mpr fun g=> ?_
 ·refine List.nodup_iff_pairwise_ne.mpr (List.pairwise_map.mpr ((List.nodup_iff_pairwise_ne.mp nd).imp fun {a b} h e=>h ?_))
  have e1:=congrArg Prod.fst e
  have e2:=congrArg Prod.snd e
  simp only at e1 e2
  exact Prod.ext (by omega) (by omega)
 ·rw[List.mem_map,Yr]
  constructor
  ·rintro⟨x,hx,rfl⟩
   obtain⟨i,j,hi,hj,rfl⟩:=Yr.mp hx
   refine⟨(2*wd - 2 - i).toNat,(2*hg - 2 - j).toNat,by omega,by omega,?_⟩
   rw[Prod.mk.injEq]
   simp only
   omega
  ·rintro⟨i,j,hi,hj,rfl⟩
   refine⟨(0 - (1 - wd+i),0 - (1 - hg+j)),Yr.mpr ⟨(2*wd - 2 - i).toNat,(2*hg - 2 - j).toNat,by omega,by omega,?_⟩,?_⟩
   ·rw[Prod.mk.injEq]
    omega
   ·rw[Prod.mk.injEq]
    simp only
    omega
theorem Dd {l m:List Int}(p:l.Perm m):l.sum=m.sum:=by
 induction p with
 |nil=>rfl
 |cons x _ ih=>rw[List.sum_cons,List.sum_cons,ih]
 |swap x y l=>simp only[List.sum_cons];omega
 |trans _ _ a b=>exact a.trans b
theorem UE {wd hg:Int}{xs:List V}(w1:1≤wd) (g1:1≤hg):2*jF wd hg xs=(((aH wd hg xs xs).filterMap cZ).map fun n=>n*(n - 1)/2).sum:=by
 have e1:jF wd hg xs=((gr wd hg).map (wt xs)).sum:=by
  unfold jF aH
  exact U8 _ _ _ _ _
 have e2:(((aH wd hg xs xs).filterMap cZ).map fun n=>n*(n - 1)/2)=(aH wd hg xs xs).filterMap fun k=> (cZ k).map fun n=>n*(n - 1)/2:=by rw[List.map_filterMap]
 have e3:((aH wd hg xs xs).filterMap fun k=> (cZ k).map fun n=>n*(n - 1)/2).sum=((gr wd hg).map fun g=>wt xs g+wt xs (0 - g.1,0 - g.2)).sum:=by
  unfold aH
  refine WJ (fun a b h=> ?_) (fun a b h=> ?_) _ _ _ _
  ·show((if ([a,b]:List Int)=[0,0] then none else some (av xs xs a b:Int)).map fun n=>n*(n - 1)/2).getD 0=(if 0<a then c2 (av xs xs a b) else 0)+(if 0<0 - a then c2 (av xs xs (0 - a) (0 - b)) else 0)
   rw[←Ye]
   by_cases z:([a,b]:List Int)=[0,0]
   ·rw[if_pos z]
    simp only[List.cons.injEq,and_true]at z
    rw[if_neg (by omega),if_neg (by omega)]
    rfl
   ·rw[if_neg z]
    simp only[List.cons.injEq,and_true]at z
    have a0:a≠0:=fun t=>by
     subst t
     rw[U5 xs b (by omega)]at h
     omega
    show c2 (av xs xs a b)=_
    by_cases y:0<a
    ·rw[if_pos y,if_neg (by omega),Int.add_zero]
    ·rw[if_neg y,if_pos (by omega),Int.zero_add]
  ·show(if 0<a then c2 (av xs xs a b) else 0)+(if 0<0 - a then c2 (av xs xs (0 - a) (0 - b)) else 0)=0
   rw[←Ye,h]
   split<;>split<;>rfl
 rw[e2,e3,Jd]
 have e4:((gr wd hg).map fun g=>wt xs (0 - g.1,0 - g.2)).sum=((gr wd hg).map (wt xs)).sum:=by
  have p:=Dd ((CT wd hg w1 g1).map (wt xs))
  rw[List.map_map]at p
  exact p
 rw[e4,←e1]
 omega
theorem Ce {l:List ay}{P:ay→Bool} :l.Nodup→1<l.countP P→∃a∈l,∃b∈l,a≠b∧P a=true∧P b=true:=fun nd h=>by
 rw[List.countP_eq_length_filter]at h
 match e:l.filter P,h with
 |a::b::r,_=>
  have ma:a∈l.filter P:=by rw[e];exact List.mem_cons_self
  have mb:b∈l.filter P:=by rw[e];exact List.mem_cons_of_mem _ List.mem_cons_self
  have kq:(l.filter P).Nodup:=nd.filter _
  rw[e]at kq
  exact⟨a,(List.mem_filter.mp ma).1,b,(List.mem_filter.mp mb).1,fun z=> (List.nodup_cons.mp kq).1 (by rw[z];exact List.mem_cons_self),(List.mem_filter.mp ma).2,(List.mem_filter.mp mb).2⟩
 | [],h=>simp at h
 | [_],h=>simp at h
theorem BN {l:List ay}{P:ay→Bool}{a b:ay}(ha:a∈l) (hb:b∈l) (n:a≠b) (pa:P a=true) (pb:P b=true):1<l.countP P:=by
 rw[List.countP_eq_length_filter]
 have ma:=List.mem_filter.mpr ⟨ha,pa⟩
 have mb:=List.mem_filter.mpr ⟨hb,pb⟩
 match e:l.filter P with
 | []=>rw[e]at ma;cases ma
 | [x]=>
  rw[e]at ma mb
  exact absurd ((List.mem_singleton.mp ma).trans (List.mem_singleton.mp mb).symm) n
 |x::y::r=>simp
theorem UL {wd hg:Int}{xs:List V}{r:Option ay}(ly:cI wd hg xs) (w1:1≤wd) (g1:1≤hg) (h:iH (aQ xs xs.length) r):r.isNone=(((aH wd hg xs xs).filterMap cZ).filter fun n=>decide (1<n)).isEmpty:=by
 have two:(∃n∈(aH wd hg xs xs).filterMap cZ,1<n)↔∃a∈aQ xs xs.length,∃b∈aQ xs xs.length,cb a b∧a≠b:=by
  constructor
  ·rintro⟨n,hn,h1⟩
   obtain⟨k,hk,e⟩:=List.mem_filterMap.mp hn
   obtain⟨i,j,hi,hj,pos,rfl⟩:=ZQ.mp hk
   generalize 1 - wd+(i:Int)=a at *
   generalize 1 - hg+(j:Int)=b at *
   have e:(if ([a,b]:List Int)=[0,0] then none else some (av xs xs a b:Int))=some n:=e
   by_cases z:([a,b]:List Int)=[0,0]
   ·rw[if_pos z]at e;cases e
   ·rw[if_neg z]at e
    have e:=Option.some.inj e
    simp only[List.cons.injEq,and_true]at z
    have a0:a≠0:=fun t=>by
     subst t
     rw[U5 xs b (by omega)]at pos
     omega
    have fin:∀a b:Int,0<a→1<av xs xs a b→∃a∈aQ xs xs.length,∃b∈aQ xs xs.length,cb a b∧a≠b:=fun a b ha hh=>by
     rw[←vk xs a b ha]at hh
     obtain⟨p,hp,q,hq,ne,p1,q1⟩:=Ce (Y0 xs _) hh
     have p1:dj p=(a,b):=of_decide_eq_true p1
     have q1:dj q=(a,b):=of_decide_eq_true q1
     have pq:dj p=dj q:=p1.trans q1.symm
     exact⟨p,hp,q,hq,⟨show(dj p).1=(dj q).1 from congrArg Prod.fst pq,show(dj p).2=(dj q).2 from congrArg Prod.snd pq⟩,ne⟩
    by_cases y:0<a
    ·exact fin a b y (by omega)
    ·exact fin (0 - a) (0 - b) (by omega) (by rw[←Ye];omega)
  ·rintro⟨p,hp,q,hq,s,ne⟩
   obtain⟨l,o,ud,ho,r1,r2,iV,dg,ep⟩:=Jm hp
   have ps:dj p=((o:Int) - l,r2 - r1):=by rw[ep];rfl
   have qs:dj q=((o:Int) - l,r2 - r1):=by rw[←ps];exact Prod.ext s.1.symm s.2.symm
   have c:=BN (P:=fun q=>decide (dj q=((o:Int) - l,r2 - r1))) hp hq ne (decide_eq_true ps) (decide_eq_true qs)
   have c:1<cs (aQ xs xs.length) ((o:Int) - l) (r2 - r1):=c
   rw[vk xs _ _ (by omega)]at c
   have len:=ly.len
   have p1:=Y9 ly (Ws.mpr ⟨by omega,by omega,by rw[Int.toNat_natCast];exact iV⟩:(((l:Nat):Int),r1)∈aj xs)
   have p2:=Y9 ly (Ws.mpr ⟨by omega,by omega,by rw[Int.toNat_natCast];exact dg⟩:(((o:Nat):Int),r2)∈aj xs)
   simp only at p1 p2
   have m:[(o:Int) - l,r2 - r1,(av xs xs ((o:Int) - l) (r2 - r1):Int)]∈aH wd hg xs xs:=ZQ.mpr ⟨((o:Int) - l - (1 - wd)).toNat,(r2 - r1 - (1 - hg)).toNat,by omega,by omega,by
    rw[show 1 - wd+(((o:Int) - l - (1 - wd)).toNat:Int)=(o:Int) - l by omega,show 1 - hg+((r2 - r1 - (1 - hg)).toNat:Int)=r2 - r1 by omega];omega,by
    rw[show 1 - wd+(((o:Int) - l - (1 - wd)).toNat:Int)=(o:Int) - l by omega,show 1 - hg+((r2 - r1 - (1 - hg)).toNat:Int)=r2 - r1 by omega]⟩
   refine⟨(av xs xs ((o:Int) - l) (r2 - r1):Int),List.mem_filterMap.mpr ⟨_,m,?_⟩,by omega⟩
   show(if ([(o:Int) - l,r2 - r1]:List Int)=[0,0] then none else some _)=_
   rw[if_neg]
   simp only[List.cons.injEq,and_true]
   omega
 have apart:∀a∈aQ xs xs.length,∀b∈aQ xs xs.length,cb a b→a≠b→fc a b=true∨fc b a=true:=fun a ha b hb s ne=>by
  obtain⟨l,o,ud,ho,r1,r2,iV,dg,rfl⟩:=Jm ha
  obtain⟨l',o',FQ,eE,Fu,Ft,tU,tS,rfl⟩:=Jm hb
  have s1:(o:Int) - l=(o':Int) - l':=s.1
  have nl:l≠l':=fun z=>ne (by
   subst z
   have:o=o':=by omega
   subst this
   rw[iV]at tU;cases tU
   rw[dg]at tS;cases tS
   rfl)
  rcases Nat.lt_or_gt_of_ne nl with z |z
  ·exact .inl (Ji (by show(l:Int)<l';omega))
  ·exact .inr (Ji (by show(l':Int)<l;omega))
 cases r with
 |none=>
  have h':∀a∈aQ xs xs.length,∀b∈aQ xs xs.length,cb a b→fc a b=false:=h
  symm
  show List.isEmpty _=true
  rw[List.isEmpty_iff]
  refine List.filter_eq_nil_iff.mpr fun n hn t=> ?_
  obtain⟨a,ha,b,hb,s,ne⟩:=two.mp ⟨n,hn,of_decide_eq_true t⟩
  rcases apart a ha b hb s ne with z |z
  ·rw[h' a ha b hb s]at z;cases z
  ·rw[h' b hb a ha ⟨s.1.symm,s.2.symm⟩]at z;cases z
 |some k=>
  obtain⟨⟨a,ha,b,hb,s,lt,_⟩,_⟩:=h
  have ne:a≠b:=fun z=>by
   subst z
   have lt:ax [a.2.2.1,a.2.2.2] [a.2.2.1,a.2.2.2]=true:=lt
   rw[YB,YB,JC]at lt
   rcases lt with z |⟨_,z |⟨_,z⟩⟩
   ·exact absurd z (Int.lt_irrefl _)
   ·exact absurd z (Int.lt_irrefl _)
   ·exact z
  obtain⟨n,hn,h1⟩:=two.mpr ⟨a,ha,b,hb,s,ne⟩
  symm
  show List.isEmpty _=false
  rw[Bool.eq_false_iff]
  intro t
  have:=List.isEmpty_iff.mp t
  exact absurd (List.filter_eq_nil_iff.mp this n hn) (by simpa using h1)
theorem dM.neg {wd hg:Int}{xs ys:List V}{M:Int}(w1:1≤wd) (g1:1≤hg) (h:dM wd hg xs ys M):dM wd hg ys xs M:=by
 refine⟨fun i j hi hj=> ?_,?_⟩
 ·have:=h.1 (2*wd - 2 - i).toNat (2*hg - 2 - j).toNat (by omega) (by omega)
  rw[Ye]at this
  rw[show 0 - (1 - wd+((2*wd - 2 - i).toNat:Int))=1 - wd+i by omega,show 0 - (1 - hg+((2*hg - 2 - j).toNat:Int))=1 - hg+j by omega]at this
  exact this
 ·rcases h.2 with e |⟨i,j,hi,hj,e⟩
  ·exact .inl e
  ·refine .inr ⟨(2*wd - 2 - i).toNat,(2*hg - 2 - j).toNat,by omega,by omega,?_⟩
   rw[e,Ye,show 0 - (1 - wd+(i:Int))=1 - wd+((2*wd - 2 - i).toNat:Int) by omega,show 0 - (1 - hg+(j:Int))=1 - hg+((2*hg - 2 - j).toNat:Int) by omega]
theorem DX {wd hg:Int}{xs:List V}(w1:1≤wd) (g1:1≤hg):dM wd hg xs xs (aj xs).length:=by
 refine⟨fun i j _ _=>Int.ofNat_le.mpr (Y3 xs xs _ _),.inr ⟨(wd - 1).toNat,(hg - 1).toNat,by omega,by omega,?_⟩⟩
 rw[show 1 - wd+((wd - 1).toNat:Int)=0 by omega,show 1 - hg+((hg - 1).toNat:Int)=0 by omega,Wh]
theorem BJ {wd hg:Int}{xs ys:List V}{M a b:Int}(lx:cI wd hg xs) (ly:cI wd hg ys) (h:dM wd hg xs ys M):(av xs ys a b:Int)≤M:=by
 by_cases z:0<av xs ys a b
 ·have c:=Yf xs ys a b
  have m:[Sum.inl a,Sum.inl b]∈allM (aj xs) (aj ys):=vh.mp (by rw[c];exact z)
  obtain⟨p,hp,q,hq,e⟩:=Jy.mp m
  unfold bS at e
  simp only[List.cons.injEq,Sum.inl.injEq,and_true]at e
  have p1:=Y9 lx hp
  have p2:=Y9 ly hq
  have:=h.1 (a - (1 - wd)).toNat (b - (1 - hg)).toNat (by omega) (by omega)
  rw[show 1 - wd+((a - (1 - wd)).toNat:Int)=a by omega,show 1 - hg+((b - (1 - hg)).toNat:Int)=b by omega]at this
  exact this
 ·rcases h.2 with e |⟨i,j,_,_,e⟩<;>omega
section
variable {P:Program}{w:World}{K:PySem.W.Frag}{mg:Str→Option Value}{base:Heap}
abbrev ow:Stmt:=top 21
def nL:Sp:=fun vs H Q _=> ∃x y z wd hg xs ys,vs=[x,y,z]∧bw H x y wd hg xs∧bw H x z wd hg ys∧∀(M:Int) (H':Hp),ab H H'→dM wd hg xs ys M→Q (.int M) H'
theorem xK:bf ["board", "one", "other"] ["board", "one", "other"] (aG ow):=⟨rfl,rfl,rfl,by decide+kernel,rfl,by decide+kernel,by decide+kernel⟩
theorem Ca {f:Addr}{fd:FuncData}(F:aT K "most_hits" "most_hits" ow f fd) (G:Gs mg) (D1:Def P w K mg base 8 "hits_by_move" ["board", "one", "other"] ke):aL P w K mg base aP 9 f fd ["board", "one", "other"] nL:=by
 refine F.ok xK (fun vs H Q E h=> ?_) (fun au A outer s H vs Q E hr h=> ?_)
 ·obtain⟨x,y,z,wd,hg,xs,ys,rfl,_⟩:=h
  rfl
 ·obtain⟨x,y,z,wd,hg,xs,ys,rfl,la,lb,q⟩:=h
  refine⟨_,Zl (Zq (Dx rfl rfl G.max (Yi JO rfl G.list boot_list (Za (DM (Zh D1 hr (Za (pv 0) (Za (pv 1) (Za (pv 2) Zd))))) Zd)))),?_⟩
  refine⟨_,rfl,_,rfl,_,rfl,x,y,z,wd,hg,xs,ys,rfl,la,lb,fun d H1 kvs s1 n1 e1 hm=> ⟨d,kvs,rfl,e1,fun v hv=> ?_⟩⟩
  have s2:=Zt (o:=hU v d) hv
  have e2:upd H1 v (hU v d) v=some (hU v d):=Ze
  generalize upd H1 v (hU v d)=H2 at s2 e2
  refine⟨v,d,kvs,rfl,e2,s2 _ _ e1,fun l hl=> ?_⟩
  obtain⟨ns,A7,h0,hM⟩:=DY hm la.2.2 lb.2.2
  have s3:=Zt (o:=.lst (kvs.map (·.2))) hl
  have e3:upd H2 l (.lst (kvs.map (·.2))) l=some (.lst (kvs.map (·.2))):=Ze
  generalize upd H2 l (HO.lst (kvs.map (·.2)))=H3 at s3 e3
  rw[A7]at e3
  have rU:=s1.trans (s2.trans s3)
  exact⟨l,ns,rfl,ae.of e3,fun e=>q 0 H3 rU (h0 e),fun M kO hle=>q M H3 rU (hM M kO hle)⟩
abbrev oD:Stmt:=top 22
def nQ:Sp:=fun vs H Q _=> ∃x y wd hg xs,vs=[x,y]∧bw H x y wd hg xs∧∀(H':Hp),ab H H'→Q (.int (jF wd hg xs)) H'
theorem xM:bf ["board", "lay"] ["board", "lay"] (aG oD):=⟨rfl,rfl,rfl,by decide+kernel,rfl,by decide+kernel,by decide+kernel⟩
theorem Wo {H:Hp}{ts:List V}{wd hg:Int}{xs ys:List V}(pr:Paired (bY H) ts (aH wd hg xs ys)) {i:Nat}{v:V}(h:ts[i]? =some v):∃(t:Addr) (a b:Int) (n:Nat),v=.ref t∧H t=some (.tup [.int a,.int b,.int n])∧(aH wd hg xs ys)[i]? =some [a,b,(n:Int)]∧n=av xs ys a b∧n≤xs.length:=by
 obtain⟨k,hk,t,rfl,ht⟩:=Jr pr h
 obtain⟨i',j',_,_,_,rfl⟩:=ZQ.mp (List.mem_of_getElem? hk)
 exact⟨t,_,_,_,rfl,ht,hk,rfl,Nat.le_trans (Y3 xs ys _ _) (Yz xs)⟩
theorem ve {wd hg:Int}{xs ys:List V}(w1:1≤wd) (w2:wd≤12) (g1:1≤hg) (g2:hg≤12):(aH wd hg xs ys).length≤529:=by
 have b:=Ud xs ys (1 - wd) (1 - hg) (2*hg - 1).toNat (2*wd - 1).toNat
 have:(2*wd - 1).toNat*(2*hg - 1).toNat≤23*23:=Nat.mul_le_mul (by omega) (by omega)
 exact Nat.le_trans b this
theorem Wp {α:Type}{f:List Int→Option α}{ks:List (List Int)}{i:Nat}{k:List Int}(h:ks[i]? =some k):(ks.take (i+1)).filterMap f=(ks.take i).filterMap f++(f k).toList:=by
 rw[List.take_add_one,h,List.filterMap_append]
 refine congrArg _ ?_
 show List.filterMap f [k]=_
 cases e:f k with
 |none=>rw[List.filterMap_cons_none e];rfl
 |some v=>rw[List.filterMap_cons_some e];rfl
theorem UI {α:Type}(f:List Int→Option α) (ks:List (List Int)) (i:Nat):((ks.take i).filterMap f).length≤i:=Nat.le_trans (List.length_filterMap_le _ _) (by rw[List.length_take];exact Nat.min_le_left _ _)
theorem B8 {f:Addr}{fd:FuncData}(F:aT K "like_many" "like_many" oD f fd) (G:Gs mg) (D1:Def P w K mg base 9 "all_hits" ["board", "lay"] lG):aL P w K mg base aP 10 f fd ["board", "lay"] nQ:=by
 refine F.ok xM (fun vs H Q E h=> ?_) (fun au A outer s H vs Q E hr h=> ?_)
 ·obtain⟨x,y,wd,hg,xs,rfl,_⟩:=h
  rfl
 ·obtain⟨x,y,wd,hg,xs,rfl,la,q⟩:=h
  refine⟨_,Zl (Zq (Zp JN rfl G.sum boot_sum (Za (ZW ["right", "up", "many"] 3 [] (ZK (Zh D1 hr (Za (pv 0) (Za (pv 1) Zd))))
    (fun C s H fp=>show PG (aV _ _ _ C s H fp) _ (dH K 3 (aX (aS 0) (aX (aS 1) (aX (aS 2) dI)))) from ZJ rfl (Zk (pb 0) (Zk (pb 1) (Zk (pb 2) Zy)))) (fun C s H fp=>ZZ (Zu U1 (pv 0) Zi (bJ _)))
    (fun C s H fp D=>Zv rfl (Zo Jg (Zo Yb (pv 2) (Zo ZP (pv 2) Zi)) Zi))) Zd))),?_⟩
  obtain⟨_,w1,w2,g1,g2⟩:=id la.1
  have len:=la.2.2.len
  refine⟨_,rfl,_,rfl,x,y,wd,hg,xs,rfl,la,fun L H1 ts s1 n1 e1 eY=> ⟨L,rfl,⟨_,ae.of e1⟩,?_⟩⟩
  have al:=ve (xs:=xs) (ys:=xs) w1 w2 g1 g2
  have lt:ts.length≤529:=by rw[Paired.length eY];exact al
  refine ZE (xs:=ts) (fun i ys σ H'=>ys=(((aH wd hg xs xs).take i).filterMap gU).map V.int∧ab H1 H'∧∃a b c,σ=[a,b,c]) ⟨rfl,ab.refl _,none,none,none,rfl⟩ (fun i ys σ H' _ ⟨_,s',_⟩=>ae.of (s' _ _ e1)) ?_ ?_
  ·rintro i v ys σ H' hv ⟨rfl,s',a0,b0,c0,rfl⟩
   have hi:=(List.getElem?_eq_some_iff.mp hv).1
   obtain⟨t,a,b,n,rfl,ht,hk,_,hn⟩:=Wo eY hv
   have fl:=UI gU (aH wd hg xs xs) i
   refine⟨t,_,rfl,ak.of (s' _ _ ht),rfl,_,_,rfl,_,_,rfl,_,_,rfl,rfl,?_⟩
   dsimp only[List.set]
   refine⟨_,rfl,_,_,rfl,rfl,_,rfl,?_⟩
   rw[Wp hk]
   have ef:gU [a,b,(n:Int)]=if 0<a then some ((n:Int)*((n:Int) - 1)/2) else none:=rfl
   rw[ef]
   by_cases z:0<a
   ·rw[decide_eq_true z,if_pos z,List.map_append]
    exact bD ⟨_,rfl,_,rfl,_,_,rfl,rfl,_,_,rfl,rfl,.inl ⟨by omega,by omega⟩,_,_,rfl,rfl,⟨by decide,by decide⟩,by rw[List.length_map,sizeLine_eq];omega,rfl,s',_,_,_,rfl⟩
   ·rw[decide_eq_false z,if_neg z,List.map_append]
    exact aO ⟨by simp,s',_,_,_,rfl⟩
  rintro ys σ H' ⟨rfl,s',a0,b0,c0,rfl⟩ L' AO
  rw[Paired.length eY,List.take_length]
  have sL:=Zt (o:=.lst (((aH wd hg xs xs).filterMap gU).map V.int)) AO
  exact⟨L',_,rfl,ae.of Ze,q _ (s1.trans (s'.trans sL))⟩
theorem bZ.same {H H':Hp}{p:Addr}(st:bZ H p) (s:ab H H'):bZ H' p:=let ⟨u,v,e,r⟩:=st;⟨u,v,s _ _ e,r⟩
abbrev oh:Stmt:=top 37
def nG:Sp:=fun vs H Q _=> ∃(p b l m:Addr) (wd hg:Int) (xs ys:List V),vs=[.ref p,.ref b,.ref l,.ref m]∧bZ H p∧dN H (.ref b) wd hg∧H l=some (.tup xs)∧H m=some (.tup ys)∧cI wd hg xs∧cI wd hg ys∧∀H',az p H H'→bZ H' p→Q (.bl true) H'
abbrev yR:List Str:=["_law_state_here", "_law_board_here", "_law_one", "_law_other", "_law_every", "_law_many", "_law_moved", "_law_right_here", "_law_up", "_law_there"]
theorem kg:bf yR ["_law_state_here", "_law_board_here", "_law_one", "_law_other"] (aG oh):=⟨rfl,rfl,rfl,by decide+kernel,rfl,by decide+kernel,by decide+kernel⟩
theorem Cc {f:Addr}{fd:FuncData}(F:aT K "_law_right" "_law_right" oh f fd) (G:Gs mg) (vU:Def P w K mg base 1 "_law_take" ["_law_state_here", "_law_many"] jo) (EK:Def P w K mg base 7 "points" ["board", "lay"] kc) (ER:Def P w K mg base 9 "all_hits" ["board", "lay"] lG)
  (vW:Def P w K mg base 10 "hits" ["board", "lay", "right", "up"] nR) (vV:Def P w K mg base 9 "hits_between" ["board", "one", "other", "right", "up"] lF) (m9:Def P w K mg base 9 "most_hits" ["board", "one", "other"] nL) (EL:Def P w K mg base 10 "like_many" ["board", "lay"] nQ) (EI:Def P w K mg base 11 "is_unlike" ["board", "lay"] nD):
  aL P w K mg base aP 12 f fd ["_law_state_here", "_law_board_here", "_law_one", "_law_other"] nG:=by
 refine F.ok kg (fun vs H Q E h=> ?_) (fun au A outer s H vs Q E hr h=> ?_)
 ·obtain⟨p,b,l,m,wd,hg,xs,ys,rfl,_⟩:=h
  rfl
 ·obtain⟨p,b,l,m,wd,hg,xs,ys,rfl,st,bd,hl,hm,lx,ly,q⟩:=h
  have kG:=W9 hr
  have hu:=Nat.lt_of_succ_lt kG
  refine⟨_,Zg (Wv (i:=4) (j:=5) rfl kg.nd rfl rfl (by decide) rfl rfl (Za (Zh ER (hr.mono (by decide)) (Za (pv 1) (Za (pv 2) Zd))) (Za (Zp ZC rfl G.len boot_len (Za (Zh EK (hr.mono (by decide)) (Za (pv 1) (Za (pv 2) Zd))) Zd)) Zd)) rfl)
   (Zg (Z3 (PW.pt (UT (Zu Wc (Zp JN rfl G.sum boot_sum (Za (ZW ["_law_right_here", "_law_up", "_law_hit"] 3 [] (ZK (pv 4))
     (fun C s H fp=>show PG (aV _ _ _ C s H fp) _ (dH K 3 (aX (aS 0) (aX (aS 1) (aX (aS 2) dI)))) from ZJ rfl (Zk (pb 0) (Zk (pb 1) (Zk (pb 2) Zy)))) (fun C s H fp=>Yl)
     (fun C s H fp D=>Zv rfl (pv 2))) Zd)) (Zo Yb (pv 5) (pv 5)) (bJ _))
    (Wu (Zu Wc (Zh vW (hr.mono (by decide)) (Za (pv 1) (Za (pv 2) (Za Zi (Za Zi Zd))))) (pv 5) (bJ _))))) ZO ZF)
   (Zg (Z3 (Zu (u7 hu) (ZW ["_law_right_here", "_law_up", "_law_hit", "_law_board_here", "_law_one"] 3 [1,2] (ZK (pv 4))
     (fun C s H fp=>show PG (aV _ _ _ C s H fp) _ (dH K 3 (aX (aS 0) (aX (aS 1) (aX (aS 2) dI)))) from ZJ rfl (Zk (pb 0) (Zk (pb 1) (Zk (pb 2) Zy))))
     (fun C s H fp=>ZZ (Zu Wc (Zh vW (hr.mono (by decide)) (Za (pv 3) (Za (pv 4) (Za (Zo ZP Zi (pv 0)) (Za (Zo ZP Zi (pv 1)) Zd))))) (pv 2) (bJ _)))
     (fun C s H fp D=>Zv rfl (ZG (Za (pv 0) (Za (pv 1) Zd))))) (Yn Zd) (bJ _)) ZO ZF)
   (Zg (YN ["_law_right_here", "_law_up", "_law_hit"] 3 [] (i:=6) kg.nd rfl (Or.inl rfl) (ZK (pv 4))
     (fun C s H fp=>show PG (aV _ _ _ C s H fp) _ (dH K 3 (aX (aS 0) (aX (aS 1) (aX (aS 2) dI)))) from ZJ rfl (Zk (pb 0) (Zk (pb 1) (Zk (pb 2) Zy))))
     (fun C s H fp=>ZZ (Zu (show aW (aV _ _ _ C s H fp) (compareOp .NotEq) (rZ K true) from B7 hu) (ZG (Za (pv 0) (Za (pv 1) Zd))) (ZG (Za Zi (Za Zi Zd))) (bJ _)))
     (fun C s H fp D=>Zv rfl (pv 2)))
   (Zg (Z3 (Zu Wc (Zh EI (hr.mono (by decide)) (Za (pv 1) (Za (pv 2) Zd))) (YO (u6 hu) (ZW ["_law_hit"] 1 [] (ZK (pv 6)) (fun C s H fp=>pb 0)
     (fun C s H fp=>ZZ (Zu U1 (pv 0) Zi (bJ _))) (fun C s H fp D=>Zv rfl (pv 0))) (Yn Zd) (bJ _)) (bJ _)) ZO ZF)
   (Zg (Z3 (Zu Wc (Zo Yb Zi (Zh EL (hr.mono (by decide)) (Za (pv 1) (Za (pv 2) Zd)))) (Zp JN rfl G.sum boot_sum (Za (ZW ["_law_hit"] 1 [] (ZK (pv 6)) (fun C s H fp=>pb 0) (fun C s H fp=>Yl)
     (fun C s H fp D=>Zv rfl (Zo Jg (Zo Yb (pv 0) (Zo ZP (pv 0) Zi)) Zi))) Zd)) (bJ _)) ZO ZF)
   (Zg (Wv (i:=7) (j:=8) rfl kg.nd rfl rfl (by decide) rfl rfl
     (Za (Zo ZP (Zh vU (hr.mono (by decide)) (Za (pv 0) (Za (Zo Yb Zi (ZN Z2 (pv 1) Zi (fun _ _=>rfl))) Zd))) (ZN Z2 (pv 1) Zi (fun _ _=>rfl)))
     (Za (Zo ZP (Zh vU (hr.mono (by decide)) (Za (pv 0) (Za (Zo Yb Zi (ZN Z2 (pv 1) Zi (fun _ _=>rfl))) Zd))) (ZN Z2 (pv 1) Zi (fun _ _=>rfl))) Zd)) rfl)
   (Zg (Zz (i:=9) kg.nd rfl (Or.inl rfl) (Zh vV (hr.mono (by decide)) (Za (pv 1) (Za (pv 2) (Za (pv 3) (Za (pv 7) (Za (pv 8) Zd)))))))
   (Zg (Z3 (PW.pt (UT (Zu Wc (pv 9) (Zh vV (hr.mono (by decide)) (Za (pv 1) (Za (pv 3) (Za (pv 2) (Za (Zo ZP Zi (pv 7)) (Za (Zo ZP Zi (pv 8)) Zd)))))) (bJ _))
    (Wu (Zu U1 (pv 9) (Zh m9 (hr.mono (by decide)) (Za (pv 1) (Za (pv 2) (Za (pv 3) Zd)))) (bJ _))))) ZO ZF)
   (Zl (Zq (YY (YO W1 (Zh m9 (hr.mono (by decide)) (Za (pv 1) (Za (pv 2) (Za (pv 3) Zd)))) (Zh m9 (hr.mono (by decide)) (Za (pv 1) (Za (pv 3) (Za (pv 2) Zd)))) (bJ _))
    (YX (YO W1 (Zh m9 (hr.mono (by decide)) (Za (pv 1) (Za (pv 2) (Za (pv 2) Zd)))) (pv 5) (bJ _)))))))))))))),?_⟩
  obtain⟨b',eb,hb⟩:=Zw bd.1
  cases eb
  obtain⟨_,w1,w2,g1,g2⟩:=id bd
  obtain⟨u0,v0,ep,_⟩:=id st
  have sI:l≠p:=Yc hl ep (by intro z;cases z)
  have sH:m≠p:=Yc hm ep (by intro z;cases z)
  have sP:b≠p:=Yc hb ep (by intro z;cases z)
  have tj:∀{H':Hp},H' b=some (.tup [.int wd,.int hg])→H' l=some (.tup xs)→bw H' (.ref b) (.ref l) wd hg xs:=fun h1 h2=> ⟨⟨ZS h1,bd.2⟩,ZS h2,lx⟩
  have yZ:∀{H':Hp},H' b=some (.tup [.int wd,.int hg])→H' m=some (.tup ys)→bw H' (.ref b) (.ref m) wd hg ys:=fun h1 h2=> ⟨⟨ZS h1,bd.2⟩,ZS h2,ly⟩
  have la:∀{H':Hp},ab H H'→bw H' (.ref b) (.ref l) wd hg xs:=fun s'=>tj (s' _ _ hb) (s' _ _ hl)
  have len:=lx.len
  have al:=ve (xs:=xs) (ys:=xs) w1 w2 g1 g2
  have pl:=Yz xs
  refine Zx ⟨_,rfl,_,rfl,.ref b,.ref l,wd,hg,xs,rfl,la (ab.refl _),fun L H1 ts s1 n1 e1 eY=> ⟨_,rfl,_,rfl,.ref b,.ref l,wd,hg,xs,rfl,la s1,fun a2 H2 ps s2 n2 e2 bN=> ⟨a2,ps,rfl,.inl (ae.of e2),_,_,rfl,?_⟩⟩⟩
  dsimp only[List.set]
  rw[Paired.length bN]
  generalize hn:(aj xs).length=n at pl
  have lt:ts.length≤529:=by rw[Paired.length eY];exact al
  have kj:=s1.trans s2
  have e12:=s2 _ _ e1
  have o8:Paired (bY H2) ts (aH wd hg xs xs):=Paired.bO eY fun v k h=>Jc h s2
  refine Zx ⟨_,rfl,L,rfl,⟨_,ae.of e12⟩,?_⟩
  refine ZE (xs:=ts) (fun i ys σ H'=>ys=(((aH wd hg xs xs).take i).filterMap th).map V.int∧ab H2 H'∧∃a b c,σ=[a,b,c]) ⟨rfl,ab.refl _,none,none,none,rfl⟩ (fun i ys σ H' _ ⟨_,s',_⟩=>ae.of (s' _ _ e12)) ?_ ?_
  ·rintro i v aU σ H' hv ⟨rfl,s',a0,b0,c0,rfl⟩
   have hi:=(List.getElem?_eq_some_iff.mp hv).1
   obtain⟨t,a,b1,k,rfl,ht,hk,_,_⟩:=Wo o8 hv
   have fl:=UI th (aH wd hg xs xs) i
   refine⟨t,_,rfl,ak.of (s' _ _ ht),rfl,_,_,rfl,_,_,rfl,_,_,rfl,rfl,?_⟩
   dsimp only[List.set]
   rw[Wp hk]
   exact⟨_,rfl,by rw[List.length_map,sizeLine_eq];omega,by rw[List.map_append];rfl,s',_,_,_,rfl⟩
  rintro aU σ H3 ⟨rfl,s3,a0,b0,c0,rfl⟩ L3 AI
  rw[Paired.length eY,List.take_length]
  have xX:=Zt (o:=.lst (((aH wd hg xs xs).filterMap th).map V.int)) AI
  have hZ:=s3.trans xX
  refine⟨L3,_,rfl,ae.of Ze,?_⟩
  generalize upd H3 L3 (HO.lst (((aH wd hg xs xs).filterMap th).map V.int))=H4 at hZ
  rw[Di lx,hn]
  refine⟨_,rfl,_,rfl,_,_,rfl,rfl,.inl ⟨by omega,by omega⟩,rfl,?_⟩
  have z1:decide (V.int ((n:Int)*n)=V.int ((n:Int)*n))=true:=decide_eq_true rfl
  rw[z1]
  have rT:=kj.trans hZ
  refine⟨_,rfl,aO ⟨_,rfl,_,rfl,.ref b,.ref l,wd,hg,xs,0,0,rfl,la rT,fun H5 s5=> ⟨_,rfl,rfl,?_⟩⟩⟩
  rw[Wh,hn]
  have z2:decide (V.int (n:Int)=V.int (n:Int))=true:=decide_eq_true rfl
  rw[z2]
  refine⟨_,rfl,aO (Yy ?_)⟩
  dsimp only
  have lO:=hZ.trans s5
  have yl:=rT.trans s5
  refine Zx ⟨_,rfl,L,rfl,⟨_,ae.of (lO _ _ e12)⟩,?_⟩
  refine ZE (xs:=ts) (fun i ys σ H'=>ys=[]∧ab H5 H'∧∃a b' c,σ=[a,b',c,some (.ref b),some (.ref l)]) ⟨rfl,ab.refl _,none,none,none,rfl⟩ (fun i ys σ H' _ ⟨_,s',_⟩=>ae.of ((lO.trans s') _ _ e12)) ?_ ?_
  ·rintro i v aU σ H' hv ⟨rfl,s',a0,b0,c0,rfl⟩
   obtain⟨t,a,b1,k,rfl,ht,hk,ek,_⟩:=Wo o8 hv
   refine⟨t,_,rfl,ak.of ((lO.trans s') _ _ ht),rfl,_,_,rfl,_,_,rfl,_,_,rfl,rfl,?_⟩
   dsimp only[List.set]
   refine⟨_,rfl,_,rfl,_,rfl,_,_,rfl,rfl,_,rfl,_,_,rfl,rfl,.ref b,.ref l,wd,hg,xs,0 - a,0 - b1,rfl,la (yl.trans s'),fun g9 iI=> ⟨_,rfl,rfl,?_⟩⟩
   rw[←Ye,←ek]
   have z:decide (V.int (k:Int)=V.int (k:Int))=true:=decide_eq_true rfl
   rw[z]
   exact⟨_,rfl,aO ⟨rfl,s'.trans iI,_,_,_,rfl⟩⟩
  rintro aU σ H6 ⟨rfl,s6,a0,b0,c0,rfl⟩ L6 AH
  have rN:=Zt (o:=.lst []) AH
  have uM:upd H6 L6 (.lst []) L6=some (.lst []):=Ze
  generalize upd H6 L6 (HO.lst [])=H7 at rN uM
  refine⟨Nat.zero_le _,fun L8 AG=> ?_⟩
  have oE:=Zt (o:=.lst []) AG
  have uL:upd H7 L8 (.lst []) L8=some (.lst []):=Ze
  generalize upd H7 L8 (HO.lst [])=H8 at oE uL
  refine⟨L6,L8,[],rfl,rfl,ae.of (oE _ _ uM),ae.of uL,_,rfl,aO (Yy ?_)⟩
  dsimp only
  have lN:=lO.trans (s6.trans (rN.trans oE))
  have yk:=kj.trans lN
  refine Zx ⟨_,rfl,L,rfl,⟨_,ae.of (lN _ _ e12)⟩,?_⟩
  refine ZE (xs:=ts) (fun i ys σ H'=>ys=(((aH wd hg xs xs).take i).filterMap cZ).map V.int∧ab H8 H'∧∃a b c,σ=[a,b,c]) ⟨rfl,ab.refl _,none,none,none,rfl⟩ (fun i ys σ H' _ ⟨_,s',_⟩=>ae.of ((lN.trans s') _ _ e12)) ?_ ?_
  ·rintro i v aU σ H' hv ⟨rfl,s',a0,b0,c0,rfl⟩
   have hi:=(List.getElem?_eq_some_iff.mp hv).1
   obtain⟨t,a,b1,k,rfl,ht,hk,_,_⟩:=Wo o8 hv
   have fl:=UI cZ (aH wd hg xs xs) i
   refine⟨t,_,rfl,ak.of ((lN.trans s') _ _ ht),rfl,_,_,rfl,_,_,rfl,_,_,rfl,rfl,?_⟩
   dsimp only[List.set]
   refine⟨_,rfl,_,rfl,(by show 2≤sizeLine;decide),fun t1 h1=> ?_⟩
   have u1:=Zt (o:=.tup [V.int a,V.int b1]) h1
   have f1:upd H' t1 (.tup [V.int a,V.int b1]) t1=some (.tup [V.int a,V.int b1]):=Ze
   generalize upd H' t1 (HO.tup [V.int a,V.int b1])=g9 at u1 f1
   refine⟨(by show 2≤sizeLine;decide),fun t2 h2=> ?_⟩
   have u2:=Zt (o:=.tup [V.int 0,V.int 0]) h2
   refine⟨t1,t2,[V.int a,V.int b1],[V.int 0,V.int 0],rfl,rfl,u2 _ _ f1,Ze,rfl,rfl,_,rfl,?_⟩
   rw[Wp hk]
   have ef:cZ [a,b1,(k:Int)]=if ([a,b1]:List Int)=[0,0] then none else some (k:Int):=rfl
   rw[ef]
   by_cases z:([a,b1]:List Int)=[0,0]
   ·simp only[List.cons.injEq,and_true]at z
    obtain⟨rfl,rfl⟩:=z
    exact aO ⟨by simp,s'.trans (u1.trans u2),_,_,_,rfl⟩
   ·have z':decide ([V.int a,V.int b1]=[V.int 0,V.int 0])=false:=decide_eq_false fun t=>z (by simp only[List.cons.injEq,V.int.injEq,and_true]at t;rw[t.1,t.2])
    rw[z',if_neg z,List.map_append]
    exact bD ⟨_,rfl,by rw[List.length_map,sizeLine_eq];omega,rfl,s'.trans (u1.trans u2),_,_,_,rfl⟩
  rintro aU σ H9 ⟨rfl,s9,a0,b0,c0,rfl⟩ L9 AF
  rw[Paired.length eY,List.take_length]
  have rM:=Zt (o:=.lst (((aH wd hg xs xs).filterMap cZ).map V.int)) AF
  have jT:upd H9 L9 (.lst (((aH wd hg xs xs).filterMap cZ).map V.int)) L9=some (.lst (((aH wd hg xs xs).filterMap cZ).map V.int)):=Ze
  generalize upd H9 L9 (HO.lst (((aH wd hg xs xs).filterMap cZ).map V.int))=Ge at rM jT
  dsimp only[List.set]
  have rW:=yk.trans (s9.trans rM)
  have yY:((aH wd hg xs xs).filterMap cZ).length≤529:=Nat.le_trans (List.length_filterMap_le _ _) al
  have tw:=UE (xs:=xs) w1 g1
  have small:∀v∈(aH wd hg xs xs).filterMap cZ,0≤v∧v≤12:=fun v hv=>by
   obtain⟨k,hk,e⟩:=List.mem_filterMap.mp hv
   obtain⟨i,j,_,_,_,rfl⟩:=ZQ.mp hk
   have e:(if ([1 - wd+(i:Int),1 - hg+j]:List Int)=[0,0] then none else some (av xs xs (1 - wd+i) (1 - hg+j):Int))=some v:=e
   have:=Y3 xs xs (1 - wd+i) (1 - hg+j)
   split at e
   ·cases e
   ·have:=Option.some.inj e
    omega
  have fh:∀{r:Option ay},iH (aQ xs xs.length) r→r.isNone=(((aH wd hg xs xs).filterMap cZ).filter fun n=>decide (1<n)).isEmpty:=fun h=>UL lx w1 g1 h
  generalize (aH wd hg xs xs).filterMap cZ=mv at jT yY tw fh small
  refine Zx ⟨_,rfl,_,rfl,.ref b,.ref l,wd,hg,xs,rfl,la rW,fun EH r oV fi=> ⟨_,rfl,L9,rfl,⟨_,ae.of (oV _ _ jT)⟩,?_⟩⟩
  refine ZE (xs:=mv.map V.int) (fun i ys σ H'=>ys=((mv.take i).filter fun n=>decide (1<n)).map V.int∧ab EH H'∧∃a,σ=[a]) ⟨rfl,ab.refl _,none,rfl⟩ (fun i ys σ H' _ ⟨_,s',_⟩=>ae.of ((oV.trans s') _ _ jT)) ?_ ?_
  ·rintro i v aU σ H' hv ⟨rfl,s',a0,rfl⟩
   rw[List.getElem?_map]at hv
   obtain⟨n',eG,rfl⟩:=Option.map_eq_some_iff.mp hv
   have hi:=(List.getElem?_eq_some_iff.mp eG).1
   have fl:((mv.take i).filter fun n=>decide (1<n)).length≤i:=Nat.le_trans (List.length_filter_le _ _) (by rw[List.length_take];exact Nat.min_le_left _ _)
   refine ZL ?_
   dsimp only[List.set]
   refine⟨_,rfl,_,_,rfl,rfl,_,rfl,?_⟩
   rw[List.take_add_one,eG,List.filter_append]
   by_cases z:1<n'
   ·rw[decide_eq_true z]
    refine bD ⟨_,rfl,by rw[List.length_map,sizeLine_eq];omega,?_,s',_,rfl⟩
    rw[show List.filter (fun n=>decide (1<n)) (some n').toList=[n'] by simp[z],List.map_append]
    rfl
   ·rw[decide_eq_false z]
    refine aO ⟨?_,s',_,rfl⟩
    rw[show List.filter (fun n=>decide (1<n)) (some n').toList=[] by simp[z],List.append_nil]
  rintro aU σ vS ⟨rfl,yh,a0,rfl⟩ m7 AL
  rw[List.length_map,List.take_length]
  have rO:=Zt (o:=.lst ((mv.filter fun n=>decide (1<n)).map V.int)) AL
  have uO:upd vS m7 (.lst ((mv.filter fun n=>decide (1<n)).map V.int)) m7=some (.lst ((mv.filter fun n=>decide (1<n)).map V.int)):=Ze
  generalize upd vS m7 (HO.lst ((mv.filter fun n=>decide (1<n)).map V.int))=vR at rO uO
  refine⟨Nat.zero_le _,fun m6 AK=> ?_⟩
  have oF:=Zt (o:=.lst []) AK
  have uN:upd vR m6 (.lst []) m6=some (.lst []):=Ze
  generalize upd vR m6 (HO.lst [])=Gd at oF uN
  refine⟨m7,m6,_,rfl,rfl,ae.of (oF _ _ uO),ae.of uN,rfl,?_⟩
  have zu:((mv.filter fun n=>decide (1<n)).map V.int).isEmpty=r.isNone:=by
   rw[fh fi,List.isEmpty_map]
  rw[zu]
  have zz:decide (V.bl r.isNone=V.bl r.isNone)=true:=decide_eq_true rfl
  rw[zz]
  refine⟨_,rfl,aO (Yy ?_)⟩
  dsimp only
  have oW:=oV.trans (yh.trans (rO.trans oF))
  have rV:=rW.trans oW
  refine Zx ⟨_,rfl,_,rfl,.ref b,.ref l,wd,hg,xs,rfl,la rV,fun EG oU=> ⟨_,_,rfl,rfl,.inl ⟨by decide,by decide⟩,_,rfl,L9,rfl,⟨_,ae.of ((oW.trans oU) _ _ jT)⟩,?_⟩⟩
  refine ZE (xs:=mv.map V.int) (fun i ys σ H'=>ys=((mv.take i).map fun n=>n*(n - 1)/2).map V.int∧ab EG H'∧∃a,σ=[a]) ⟨rfl,ab.refl _,none,rfl⟩ (fun i ys σ H' _ ⟨_,s',_⟩=>ae.of ((oW.trans (oU.trans s')) _ _ jT)) ?_ ?_
  ·rintro i v aU σ H' hv ⟨rfl,s',a0,rfl⟩
   rw[List.getElem?_map]at hv
   obtain⟨n',eG,rfl⟩:=Option.map_eq_some_iff.mp hv
   have hi:=(List.getElem?_eq_some_iff.mp eG).1
   have sm:=small n' (List.mem_of_getElem? eG)
   refine ZL ?_
   dsimp only[List.set]
   refine⟨_,rfl,_,rfl,_,_,rfl,rfl,_,_,rfl,rfl,.inl ⟨by omega,by omega⟩,_,_,rfl,rfl,⟨by decide,by decide⟩,by rw[List.length_map,List.length_map,List.length_take,sizeLine_eq];omega,?_,s',_,rfl⟩
   rw[List.take_add_one,eG,List.map_append,List.map_append]
   rfl
  rintro aU σ EF ⟨rfl,yg,a0,rfl⟩ vN AJ
  rw[List.length_map,List.take_length]
  have xY:=Zt (o:=.lst ((mv.map fun n=>n*(n - 1)/2).map V.int)) AJ
  have rS:=yg.trans xY
  refine⟨vN,_,rfl,ae.of Ze,rfl,?_⟩
  generalize upd EF vN (HO.lst ((mv.map fun n=>n*(n - 1)/2).map V.int))=qQ at rS
  rw[←tw]
  have z6:decide (V.int (2*jF wd hg xs)=V.int (2*jF wd hg xs))=true:=decide_eq_true rfl
  rw[z6]
  refine⟨_,rfl,aO (Yy ?_)⟩
  dsimp only
  have js:=rV.trans (oU.trans rS)
  have xv:=st.same js
  refine Zx ⟨_,rfl,_,rfl,b,_,_,_,rfl,rfl,ak.of (js _ _ hb),jf,_,_,rfl,rfl,.inl ⟨by decide,by decide⟩,p,2*wd,rfl,xv,by omega,by omega,fun ra oa Fs Fq rB=> ?_⟩
  have j9:az p qQ (upd qQ p oa):=az.upd
  generalize upd qQ p oa=qP at rB j9
  have qg:=j9 _ _ (js _ _ hb) sP
  refine⟨_,rfl,b,_,_,_,rfl,rfl,ak.of qg,jf,_,_,rfl,rfl,_,rfl,_,rfl,b,_,_,_,rfl,rfl,ak.of qg,iD,_,_,rfl,rfl,.inl ⟨by decide,by decide⟩,p,2*hg,rfl,rB,by omega,by omega,fun rb ob Fp Fo rA=> ?_⟩
  have j8:az p qP (upd qP p ob):=az.upd
  generalize upd qP p ob=vQ at rA j8
  have qf:=j8 _ _ qg sP
  refine⟨_,rfl,b,_,_,_,rfl,rfl,ak.of qf,iD,_,_,rfl,rfl,_,_,rfl,?_⟩
  dsimp only[List.set]
  have z4:=j8 _ _ (j9 _ _ (js _ _ hl) sI) sI
  have zV:=j8 _ _ (j9 _ _ (js _ _ hm) sH) sH
  have lb:∀{H':Hp},ab vQ H'→bw H' (.ref b) (.ref l) wd hg xs:=fun s'=>tj (s' _ _ qf) (s' _ _ z4)
  have lc:∀{H':Hp},ab vQ H'→bw H' (.ref b) (.ref m) wd hg ys:=fun s'=>yZ (s' _ _ qf) (s' _ _ zV)
  generalize ra - wd=a
  generalize rb - hg=c
  refine Zx (Z9 ⟨_,rfl,_,rfl,_,rfl,_,rfl,_,rfl,.ref b,.ref l,.ref m,wd,hg,xs,ys,a,c,rfl,lb (ab.refl _),lc (ab.refl _),fun Gb oT=>ZL ?_⟩)
  dsimp only[List.set]
  refine Zx ⟨_,rfl,_,rfl,_,rfl,_,rfl,_,rfl,_,_,rfl,rfl,_,rfl,_,_,rfl,rfl,.ref b,.ref m,.ref l,wd,hg,ys,xs,0 - a,0 - c,rfl,lc oT,lb oT,fun Ga yf=> ⟨rfl,?_⟩⟩
  rw[←Ye]
  have z9:decide (V.int (av xs ys a c:Int)=V.int (av xs ys a c:Int))=true:=decide_eq_true rfl
  rw[z9]
  have oS:=oT.trans yf
  refine⟨_,rfl,aO ⟨_,rfl,_,rfl,_,rfl,_,rfl,.ref b,.ref l,.ref m,wd,hg,xs,ys,rfl,lb oS,lc oS,fun M F9 ye tM=> ⟨_,_,rfl,rfl,_,rfl,?_⟩⟩⟩
  rw[decide_eq_false (Int.not_lt.mpr (BJ lx ly tM))]
  refine aO (Yy ?_)
  dsimp only
  have ki:=oS.trans ye
  refine⟨_,rfl,_,rfl,_,rfl,.ref b,.ref l,.ref m,wd,hg,xs,ys,rfl,lb ki,lc ki,fun M1 F8 oR t1=> ⟨_,rfl,_,rfl,_,rfl,.ref b,.ref m,.ref l,wd,hg,ys,xs,rfl,lc (ki.trans oR),lb (ki.trans oR),fun M2 F7 yd t2=> ⟨rfl,?_⟩⟩⟩
  have eM:M1=M2:=t1.uniq (t2.neg w1 g1)
  subst eM
  have wm:decide (V.int M1=V.int M1)=true:=decide_eq_true rfl
  rw[wm]
  have hZ:=ki.trans (oR.trans yd)
  refine⟨_,rfl,bD ⟨_,rfl,_,rfl,_,rfl,.ref b,.ref l,.ref l,wd,hg,xs,xs,rfl,lb hZ,lb hZ,fun M3 EE rR t3=> ⟨_,rfl,rfl,?_⟩⟩⟩
  have e3:=t3.uniq (DX w1 g1)
  rw[hn]at e3
  subst e3
  have wk:decide (V.int (n:Int)=V.int (n:Int))=true:=decide_eq_true rfl
  rw[wk]
  exact q EE (fun b' u h nb=> (hZ.trans rR) _ _ (j8 _ _ (j9 _ _ (js _ _ h) nb) nb)) (rA.same (hZ.trans rR))
abbrev oA:Stmt:=top 38
def nN (K:PySem.W.Frag):Sp:=fun vs H Q _=> ∃(a:Addr) (ns:List Int),vs=[.ref a]∧dz K H a ns∧ns.length≤63∧∀H',Q (.bl true) H'
abbrev yS:List Str:=["_law_script", "_law_k", "_law_state_here", "_law_board_here", "_law_lay_here", "_law_grown_here"]
theorem jr:bf yS ["_law_script"] (aG oA):=⟨rfl,rfl,rfl,by decide+kernel,rfl,by decide+kernel,by decide+kernel⟩
theorem Cs {f:Addr}{fd:FuncData}(F:aT K "law" "law" oA f fd) (G:Gs mg) (EJ:Def P w K mg base 2 "_law_state" ["_law_script", "_law_k"] (nF K)) (EO:Def P w K mg base 2 "_law_board" ["_law_state_here", "_law_upto"] nV)
  (EM:Def P w K mg base 2 "_law_lay" ["_law_state_here", "_law_board_here"] (nU K)) (EN:Def P w K mg base 3 "_law_grown" ["_law_state_here", "_law_board_here"] (nS K)) (Dr:Def P w K mg base 12 "_law_right" ["_law_state_here", "_law_board_here", "_law_one", "_law_other"] nG):
  aL P w K mg base aP 13 f fd ["_law_script"] (nN K):=by
 refine F.ok jr (fun vs H Q E h=> ?_) (fun au A outer s H vs Q E hr h=> ?_)
 ·obtain⟨a,ns,rfl,_⟩:=h
  rfl
 ·obtain⟨a,ns,rfl,rE,pX,q⟩:=h
  refine⟨_,Zg (Yp PassesOwn.never rfl (Z6 rfl G.range (Za (Zp (Wj rfl) rfl G.max boot_max (Za Zi (Za (Zp (D8 rfl) rfl G.min boot_min (Za (Zp ZC rfl G.len boot_len (Za (pv 0) Zd)) (Za Zi Zd))) Zd))) Zd)) (ZA (i:=1) jr.nd rfl (Or.inl rfl))
    (Zg (Zz (i:=2) jr.nd rfl (Or.inl rfl) (Zh EJ (hr.mono (by decide)) (Za (pv 0) (Za (pv 1) Zd))))
    (Zg (Zz (i:=3) jr.nd rfl (Or.inl rfl) (Zh EO (hr.mono (by decide)) (Za (pv 2) (Za Zi Zd))))
    (Zg (Zz (i:=4) jr.nd rfl (Or.inl rfl) (Zh EM (hr.mono (by decide)) (Za (pv 2) (Za (pv 3) Zd))))
    (Zg (Zz (i:=5) jr.nd rfl (Or.inl rfl) (Zh EN (hr.mono (by decide)) (Za (pv 2) (Za (pv 3) Zd))))
    (Zl (Z3 (PW.pt (UT (YW (YI (Zh Dr hr (Za (pv 2) (Za (pv 3) (Za (pv 4) (Za (pv 5) Zd))))))) (Wu (YW (YI (Zh Dr hr (Za (pv 2) (Za (pv 3) (Za (pv 5) (Za (pv 4) Zd)))))))))) ZO ZF)))))))
   (Zl (Zq W0)),?_⟩
  refine Zx ?_
  refine⟨_,rfl,a,_,rfl,.inl rE.sq,_,_,rfl,_,_,rfl,_,rfl,(by rw[List.length_map];split<;>split<;>omega),(by rw[List.length_map];split<;>split<;>omega),?_⟩
  refine Yj (fun i σ H'=> ∃s1 s2 s3 s4 s5,σ=[some (.ref a),s1,s2,s3,s4,s5]∧dz K H' a ns) ⟨_,_,_,_,_,rfl,rE⟩ ?_ ?_
  ·rintro i σ H0 hi ⟨s1,s2,s3,s4,s5,rfl,sc⟩
   rw[Int.zero_add]
   refine ZL ?_
   dsimp only[List.set]
   refine Zx (Z9 ⟨_,rfl,_,rfl,a,ns,i,rfl,sc.sq,fun p H1 np q1 aw=>ZL ?_⟩)
   dsimp only[List.set]
   have step:∀{H H':Hp},az p H H'→bZ H p→dz K H a ns→dz K H' a ns:=fun x ⟨u,v,e,_⟩ s=>s.x x e (fun _ _ z=>by cases z)
   have xU:=sc.same q1
   refine Zx (Z9 ⟨_,rfl,p,12,rfl,aw,by decide,by decide,fun b H2 wd hg w1 w2 h1 h2 x2 ag eb nb=>ZL ?_⟩)
   dsimp only[List.set]
   have xT:=step x2 aw xU
   have bd:∀{H':Hp},H' b=some (.tup [.int wd,.int hg])→dN H' (.ref b) wd hg:=fun e=> ⟨ZS e,w1,w2,h1,h2⟩
   refine Zx (Z9 ⟨_,rfl,_,rfl,p,b,wd,hg,rfl,ag,bd eb,fun l H3 xs x3 aE el nl ly=>ZL ?_⟩)
   dsimp only[List.set]
   have xS:=step x3 ag xT
   have uK:=x3 _ _ eb nb
   refine Zx (Z9 ⟨_,rfl,_,rfl,p,b,wd,hg,rfl,aE,bd uK,fun l4 H4 ys x4 cC uI yN sU Fh=>ZL ?_⟩)
   dsimp only[List.set]
   have xR:=step x4 aE xS
   have uJ:=x4 _ _ uK nb
   refine⟨_,rfl,_,rfl,_,rfl,_,rfl,p,b,l,l4,wd,hg,xs,ys,rfl,cC,bd uJ,x4 _ _ el nl,uI,ly,sU,fun H5 x5 fS=> ⟨true,rfl,aO ?_⟩⟩
   have xQ:=step x5 cC xR
   refine⟨_,rfl,_,rfl,_,rfl,_,rfl,p,b,l4,l,wd,hg,ys,xs,rfl,fS,bd (x5 _ _ uJ nb),x5 _ _ uI yN,x5 _ _ (x4 _ _ el nl) nl,sU,ly,fun H6 x6 Fj=> ⟨true,rfl,aO (Yy ?_)⟩⟩
   exact⟨_,_,_,_,_,rfl,step x6 fS xQ⟩
  ·rintro σ H1 _
   exact q H1
end
theorem b5 {x a b c d e:Str}{st:Stmt}(h:∀(kV doc pm:Value) (an:Option Addr) (au ct u v w y z:Value),bindArgs (PySem.W.fnOf x x (fK st) (eO st) (aG st) .none kV doc pm an au ct) ⟨[u,v,w,y,z],[]⟩=pure [(a,u),(b,v),(c,w),(d,y),(e,z)]):j4 x st [a,b,c,d,e]:=fun kV doc pm an au ct us hl=>match us,hl with | [u,v,w,y,z],_=>h kV doc pm an au ct u v w y z
end U
namespace U
open PySem L2 PyProof.Rows PySem.Spec
abbrev qp:List Str:=["isinstance", "int", "bool", "tuple", "list", "len", "all", "set", "range", "max", "min", "enumerate", "zip", "sorted", "sum"]
section
variable {P:Program}{w:World}{K:PySem.W.Frag}{mg:Str→Option Value}{base:Heap}
theorem CG {h:Heap}{t0:Tok}(KX:K.In h) (G:h.Ns mainGlobals mg) (e:qp.all (l3 K)=true) (c0:PySem.W.nsIn K mainGlobals "LONGEST_SIDE" =some (some (.int 12 t0))):Gs mg:=by
 have k:∀x∈qp,mg x=none:=fun x hx=>DH KX G (List.all_eq_true.mp e x hx)
 exact⟨k _ (by simp),k _ (by simp),k _ (by simp),k _ (by simp),k _ (by simp),k _ (by simp),k _ (by simp),k _ (by simp),k _ (by simp),k _ (by simp),k _ (by simp),k _ (by simp),k _ (by simp),k _ (by simp),k _ (by simp),⟨_,PySem.W.mg_of KX G c0⟩⟩
set_option maxHeartbeats 4000000 in
theorem y8 {h:Heap}{fa:Addr}{t0:Tok}(KX:K.In h) (G:h.Ns mainGlobals mg) (hmg:mg "law" =some (.ref fa))
  (d0:ba K "is_whole" n0) (d1:ba K "is_whole_within" nZ) (d2:ba K "is_tuple_of" n8) (d3:ba K "is_board" oP) (d4:ba K "need_board" oo) (d5:ba K "is_lay" oz) (d6:ba K "need_lay" om) (d7:ba K "points" oi) (d8:ba K "need_whole" oq) (d9:ba K "hits_by_move" oI) (Bt:ba K "hits_between" oH) (Bs:ba K "hits" oG) (Br:ba K "all_hits" oQ) (Bq:ba K "most_hits" ow) (Bp:ba K "like_many" oD) (Bo:ba K "point_pairs" oj) (Bn:ba K "steps" oe) (Bm:ba K "first_like" oK) (Bl:ba K "is_unlike" n6) (Bk:ba K "_law_cell_at" oO) (Bj:ba K "_law_state" og) (Bi:ba K "_law_take" n9) (Bh:ba K "_law_board" oN) (Bg:ba K "_law_lay" oM) (Bf:ba K "_law_steps" oC) (Be:ba K "_law_unlike" oB) (Bd:ba K "_law_grown" oJ) (Bc:ba K "_law_right" oh) (dl:ba K "law" oA)
  (g1:qp.all (l3 K)=true) (c0:PySem.W.nsIn K mainGlobals "LONGEST_SIDE" =some (some (.int 12 t0))):
  ∃fd:FuncData,(∀(s:Shared) (u:Value),BindsTo s fd ⟨[u],[]⟩ [("_law_script",u)])∧∀base:Heap,K.In base→base.Ns mainGlobals mg→j0 mg base→aL P w K mg base aP 13 fa fd ["_law_script"] (nN K):=by
 have gs:=CG KX G g1 c0
 refine BS dl KX G hmg (fun _ _ _ _ _ _ _=>rfl) fun base f fd FL=> ?_
 have vY:Def P w K mg base 1 "is_whole" ["thing"] (lD K):=d0.to KX G (b1 fun _ _ _ _ _ _ _=>rfl) fun f fd F=>C6 F gs
 have vX:Def P w K mg base 2 "is_whole_within" ["thing", "least", "most"] (lC K):=d1.to KX G (b3 fun _ _ _ _ _ _ _ _ _=>rfl) fun f fd F=>DK F vY
 have vZ:Def P w K mg base 1 "is_tuple_of" ["thing", "many"] (lE K):=d2.to KX G (b2 fun _ _ _ _ _ _ _ _=>rfl) fun f fd F=>C5 F gs
 have E2:Def P w K mg base 3 "is_board" ["thing"] (nX K):=d3.to KX G (b1 fun _ _ _ _ _ _ _=>rfl) fun f fd F=>CW F gs vZ vX
 have EW:Def P w K mg base 4 "need_board" ["board"] (nJ K):=d4.to KX G (b1 fun _ _ _ _ _ _ _=>rfl) fun f fd F=>WB F E2
 have E1:Def P w K mg base 5 "is_lay" ["board", "thing"] (nM K):=d5.to KX G (b2 fun _ _ _ _ _ _ _ _=>rfl) fun f fd F=>Ct F gs EW vZ vX
 have EV:Def P w K mg base 6 "need_lay" ["board", "lay"] nI:=d6.to KX G (b2 fun _ _ _ _ _ _ _ _=>rfl) fun f fd F=>Uw F E1
 have qR:Def P w K mg base 7 "points" ["board", "lay"] kc:=d7.to KX G (b2 fun _ _ _ _ _ _ _ _=>rfl) fun f fd F=>DJ F gs EV
 have EU:Def P w K mg base 2 "need_whole" ["number"] (nK K):=d8.to KX G (b1 fun _ _ _ _ _ _ _=>rfl) fun f fd F=>Cb F vY
 have qS:Def P w K mg base 8 "hits_by_move" ["board", "one", "other"] ke:=d9.to KX G (b3 fun _ _ _ _ _ _ _ _ _=>rfl) fun f fd F=>CL F qR
 have wa:Def P w K mg base 9 "hits_between" ["board", "one", "other", "right", "up"] lF:=Bt.to KX G (b5 fun _ _ _ _ _ _ _ _ _ _ _=>rfl) fun f fd F=>CN F qS EU
 have E3:Def P w K mg base 10 "hits" ["board", "lay", "right", "up"] nR:=Bs.to KX G (b4 fun _ _ _ _ _ _ _ _ _ _=>rfl) fun f fd F=>CM F wa
 have wb:Def P w K mg base 9 "all_hits" ["board", "lay"] lG:=Br.to KX G (b2 fun _ _ _ _ _ _ _ _=>rfl) fun f fd F=>CK F gs qS
 have EX:Def P w K mg base 9 "most_hits" ["board", "one", "other"] nL:=Bq.to KX G (b3 fun _ _ _ _ _ _ _ _ _=>rfl) fun f fd F=>Ca F gs qS
 have EY:Def P w K mg base 10 "like_many" ["board", "lay"] nQ:=Bp.to KX G (b2 fun _ _ _ _ _ _ _ _=>rfl) fun f fd F=>B8 F gs wb
 have ET:Def P w K mg base 8 "point_pairs" ["board", "lay"] nH:=Bo.to KX G (b2 fun _ _ _ _ _ _ _ _=>rfl) fun f fd F=>C2 F qR
 have ES:Def P w K mg base 9 "steps" ["board", "lay"] nE:=Bn.to KX G (b2 fun _ _ _ _ _ _ _ _=>rfl) fun f fd F=>C4 F gs ET
 have E4:Def P w K mg base 10 "first_like" ["board", "lay"] nT:=Bm.to KX G (b2 fun _ _ _ _ _ _ _ _=>rfl) fun f fd F=>C0 F gs ES
 have EZ:Def P w K mg base 11 "is_unlike" ["board", "lay"] nD:=Bl.to KX G (b2 fun _ _ _ _ _ _ _ _=>rfl) fun f fd F=>Cu F E4
 have Fc:Def P w K mg base 1 "_law_cell_at" ["_law_script", "_law_k"] (nW K):=Bk.to KX G (b2 fun _ _ _ _ _ _ _ _=>rfl) fun f fd F=>BX F gs
 have E7:Def P w K mg base 2 "_law_state" ["_law_script", "_law_k"] (nF K):=Bj.to KX G (b2 fun _ _ _ _ _ _ _ _=>rfl) fun f fd F=>C3 F gs Fc
 have nc:Def P w K mg base 1 "_law_take" ["_law_state_here", "_law_many"] jo:=Bi.to KX G (b2 fun _ _ _ _ _ _ _ _=>rfl) fun f fd F=>BY F
 have Fd:Def P w K mg base 2 "_law_board" ["_law_state_here", "_law_upto"] nV:=Bh.to KX G (b2 fun _ _ _ _ _ _ _ _=>rfl) fun f fd F=>CY F nc
 have E9:Def P w K mg base 2 "_law_lay" ["_law_state_here", "_law_board_here"] (nU K):=Bg.to KX G (b2 fun _ _ _ _ _ _ _ _=>rfl) fun f fd F=>CZ F gs nc
 have E6:Def P w K mg base 1 "_law_steps" ["_law_lay_here"] (nP K):=Bf.to KX G (b1 fun _ _ _ _ _ _ _=>rfl) fun f fd F=>DI F gs
 have E5:Def P w K mg base 2 "_law_unlike" ["_law_lay_here"] nO:=Be.to KX G (b1 fun _ _ _ _ _ _ _=>rfl) fun f fd F=>Ux F E6
 have Fb:Def P w K mg base 3 "_law_grown" ["_law_state_here", "_law_board_here"] (nS K):=Bd.to KX G (b2 fun _ _ _ _ _ _ _ _=>rfl) fun f fd F=>C1 F gs nc E5
 have E8:Def P w K mg base 12 "_law_right" ["_law_state_here", "_law_board_here", "_law_one", "_law_other"] nG:=Bc.to KX G (b4 fun _ _ _ _ _ _ _ _ _ _=>rfl) fun f fd F=>Cc F gs nc qR wb E3 wa EX EY EZ
 exact Cs FL gs E7 Fd E9 Fb E8
end
end U
theorem PySem.W.Fast.tw4384817210488518816:True:=⟨⟩
theorem PySem.W.Fast.tw7869866932430749952:True:=⟨⟩
theorem PySem.W.Fast.tw10861659094242688:True:=⟨⟩
theorem PySem.W.Fast.tw11705970933650575904:True:=⟨⟩
theorem PySem.W.Fast.tw12169468032388849408:True:=⟨⟩
theorem PySem.W.Fast.tw6567937392638070528:True:=⟨⟩
theorem PySem.W.Fast.tw11968212826947096833:True:=⟨⟩
theorem PySem.W.Fast.tw5371087587725977889:True:=⟨⟩
theorem PySem.W.Fast.tw4775675372217094657:True:=⟨⟩
theorem PySem.W.Fast.tw12439899422043151009:True:=⟨⟩
theorem PySem.W.Fast.tw8280284291769814849:True:=⟨⟩
theorem PySem.W.Fast.tw2663695364684303265:True:=⟨⟩
theorem PySem.W.Fast.tw5199402476909763746:True:=⟨⟩
theorem PySem.W.Fast.tw5619796993594968290:True:=⟨⟩
theorem PySem.W.Fast.tw1221166290617821570:True:=⟨⟩
theorem PySem.W.Fast.tw16525320228438255042:True:=⟨⟩
theorem PySem.W.Fast.tw11878384612342747746:True:=⟨⟩
theorem PySem.W.Fast.tw7161830550354337378:True:=⟨⟩
theorem PySem.W.Fast.tw6703773966985118498:True:=⟨⟩
theorem PySem.W.Fast.tw17371170300141226786:True:=⟨⟩
theorem PySem.W.Fast.tw3991912732457558882:True:=⟨⟩
theorem PySem.W.Fast.tw6272982634309350274:True:=⟨⟩
theorem PySem.W.Fast.tw3146596407414929346:True:=⟨⟩
theorem PySem.W.Fast.tw17859488136089939971:True:=⟨⟩
theorem PySem.W.Fast.tw2522391447184887811:True:=⟨⟩
theorem PySem.W.Fast.tw11213951210473739331:True:=⟨⟩
theorem PySem.W.Fast.tw9653949437708834915:True:=⟨⟩
theorem PySem.W.Fast.tw12935445195021135267:True:=⟨⟩
theorem PySem.W.Fast.tw7459268400272633347:True:=⟨⟩
theorem PySem.W.Fast.tw853996976148736547:True:=⟨⟩
theorem PySem.W.Fast.tw801833964445951619:True:=⟨⟩
theorem PySem.W.Fast.tw16065644352093040676:True:=⟨⟩
theorem PySem.W.Fast.tw10831551120205515140:True:=⟨⟩
theorem PySem.W.Fast.tw6672998536276130212:True:=⟨⟩
theorem PySem.W.Fast.tw2176897862728704580:True:=⟨⟩
theorem PySem.W.Fast.tw14353622538127139492:True:=⟨⟩
theorem PySem.W.Fast.tw3108856376502300420:True:=⟨⟩
theorem PySem.W.Fast.tw15225899888110599269:True:=⟨⟩
theorem PySem.W.Fast.tw12943751252246752485:True:=⟨⟩
theorem PySem.W.Fast.tw9890146370982244741:True:=⟨⟩
theorem PySem.W.Fast.tw7147186725894215205:True:=⟨⟩
theorem PySem.W.Fast.tw2426335935900506789:True:=⟨⟩
theorem PySem.W.Fast.tw17662778540903547589:True:=⟨⟩
theorem PySem.W.Fast.tw1378117057219965669:True:=⟨⟩
theorem PySem.W.Fast.tw162441395696244549:True:=⟨⟩
theorem PySem.W.Fast.tw4898037692127715526:True:=⟨⟩
theorem PySem.W.Fast.tw439387417851905222:True:=⟨⟩
theorem PySem.W.Fast.tw17569868344146260262:True:=⟨⟩
theorem PySem.W.Fast.tw6712637308642108038:True:=⟨⟩
theorem PySem.W.Fast.tw10299065951785683846:True:=⟨⟩
theorem PySem.W.Fast.tw10613396279187573670:True:=⟨⟩
theorem PySem.W.Fast.tw17784321979057948839:True:=⟨⟩
theorem PySem.W.Fast.tw14873773632493540583:True:=⟨⟩
theorem PySem.W.Fast.tw7968927923253281031:True:=⟨⟩
theorem PySem.W.Fast.tw9994628118301464039:True:=⟨⟩
theorem PySem.W.Fast.tw4433859035799922663:True:=⟨⟩
theorem PySem.W.Fast.tw7053949450074711048:True:=⟨⟩
theorem PySem.W.Fast.tw4131569287314752616:True:=⟨⟩
theorem PySem.W.Fast.tw2363916263612712072:True:=⟨⟩
theorem PySem.W.Fast.tw12211668377850960040:True:=⟨⟩
theorem PySem.W.Fast.tw5644881087271831752:True:=⟨⟩
theorem PySem.W.Fast.tw8891435592754405608:True:=⟨⟩
theorem PySem.W.Fast.tw15881671061469326888:True:=⟨⟩
theorem PySem.W.Fast.tw9309791101111052904:True:=⟨⟩
theorem PySem.W.Fast.tw5524766711209196264:True:=⟨⟩
theorem PySem.W.Fast.tw9319005645315982088:True:=⟨⟩
theorem PySem.W.Fast.tw6055078309120034600:True:=⟨⟩
theorem PySem.W.Fast.tw16100277155549639656:True:=⟨⟩
theorem PySem.W.Fast.tw11908228097973170313:True:=⟨⟩
theorem PySem.W.Fast.tw11241620671794771273:True:=⟨⟩
theorem PySem.W.Fast.tw16171177450320925225:True:=⟨⟩
theorem PySem.W.Fast.tw15382155369079901801:True:=⟨⟩
theorem PySem.W.Fast.tw2961626825464105609:True:=⟨⟩
theorem PySem.W.Fast.tw3179622108104734537:True:=⟨⟩
theorem PySem.W.Fast.tw5634299446189414281:True:=⟨⟩
theorem PySem.W.Fast.tw17112097246785541226:True:=⟨⟩
theorem PySem.W.Fast.tw17881966654377122282:True:=⟨⟩
theorem PySem.W.Fast.tw6070555250852405802:True:=⟨⟩
theorem PySem.W.Fast.tw4572196721620601578:True:=⟨⟩
theorem PySem.W.Fast.tw17582866324622910475:True:=⟨⟩
theorem PySem.W.Fast.tw3707582107401229451:True:=⟨⟩
theorem PySem.W.Fast.tw8952781362634447147:True:=⟨⟩
theorem PySem.W.Fast.tw1667439404717962635:True:=⟨⟩
theorem PySem.W.Fast.tw6081886945059106251:True:=⟨⟩
theorem PySem.W.Fast.tw8980155583058551243:True:=⟨⟩
theorem PySem.W.Fast.tw4884933174806601227:True:=⟨⟩
theorem PySem.W.Fast.tw1842279267252361835:True:=⟨⟩
theorem PySem.W.Fast.tw5109219348317475499:True:=⟨⟩
theorem PySem.W.Fast.tw11363538664149744331:True:=⟨⟩
theorem PySem.W.Fast.tw10202846171976232875:True:=⟨⟩
theorem PySem.W.Fast.tw14340232726929990860:True:=⟨⟩
theorem PySem.W.Fast.tw203039140719689260:True:=⟨⟩
theorem PySem.W.Fast.tw12731803390406511148:True:=⟨⟩
theorem PySem.W.Fast.tw14554108705603540748:True:=⟨⟩
theorem PySem.W.Fast.tw14331302702268311565:True:=⟨⟩
theorem PySem.W.Fast.tw13956163632467297357:True:=⟨⟩
theorem PySem.W.Fast.tw6719604587859463245:True:=⟨⟩
theorem PySem.W.Fast.tw9565985773967276173:True:=⟨⟩
theorem PySem.W.Fast.tw16555918569214641581:True:=⟨⟩
theorem PySem.W.Fast.tw17533892508480607693:True:=⟨⟩
theorem PySem.W.Fast.tw2179538992857378285:True:=⟨⟩
theorem PySem.W.Fast.tw17071128096112722509:True:=⟨⟩
theorem PySem.W.Fast.tw9196819786298388173:True:=⟨⟩
theorem PySem.W.Fast.tw12727255907744145261:True:=⟨⟩
theorem PySem.W.Fast.tw9588326372877861837:True:=⟨⟩
theorem PySem.W.Fast.tw3526427352449591726:True:=⟨⟩
theorem PySem.W.Fast.tw2361555256696074766:True:=⟨⟩
theorem PySem.W.Fast.tw13402110861589741102:True:=⟨⟩
theorem PySem.W.Fast.tw2314893368645141134:True:=⟨⟩
theorem PySem.W.Fast.tw4865584362836816526:True:=⟨⟩
theorem PySem.W.Fast.tw1273687012152354638:True:=⟨⟩
theorem PySem.W.Fast.tw2859839709354046286:True:=⟨⟩
theorem PySem.W.Fast.tw1998714710918262638:True:=⟨⟩
theorem PySem.W.Fast.tw17208866702461978639:True:=⟨⟩
theorem PySem.W.Fast.tw15123750542057041103:True:=⟨⟩
theorem PySem.W.Fast.tw6931287824081282351:True:=⟨⟩
theorem PySem.W.Fast.tw509435311626411407:True:=⟨⟩
theorem PySem.W.Fast.tw181796310012845487:True:=⟨⟩
theorem PySem.W.Fast.tw10457564030523862575:True:=⟨⟩
theorem PySem.W.Fast.tw1435017197024989807:True:=⟨⟩
theorem PySem.W.Fast.tw4620783306175385295:True:=⟨⟩
theorem PySem.W.Fast.tw2849228913765608207:True:=⟨⟩
theorem PySem.W.Fast.tw10043812147725037519:True:=⟨⟩
theorem PySem.W.Fast.tw16047003797025420304:True:=⟨⟩
theorem PySem.W.Fast.tw9354795207948606736:True:=⟨⟩
theorem PySem.W.Fast.tw17056958608878295696:True:=⟨⟩
theorem PySem.W.Fast.tw4091341166788262800:True:=⟨⟩
theorem PySem.W.Fast.tw5258710943188506544:True:=⟨⟩
theorem PySem.W.Fast.tw2842991054403065873:True:=⟨⟩
theorem PySem.W.Fast.tw2074633160953025585:True:=⟨⟩
theorem PySem.W.Fast.tw10739513686283057489:True:=⟨⟩
theorem PySem.W.Fast.tw4605749097212815761:True:=⟨⟩
theorem PySem.W.Fast.tw11917782618769990065:True:=⟨⟩
theorem PySem.W.Fast.tw9606721643307608561:True:=⟨⟩
theorem PySem.W.Fast.tw17542117846182919889:True:=⟨⟩
theorem PySem.W.Fast.tw12731640512546100434:True:=⟨⟩
theorem PySem.W.Fast.tw3601501918526778578:True:=⟨⟩
theorem PySem.W.Fast.tw6988899897414948818:True:=⟨⟩
theorem PySem.W.Fast.tw12903484503674218707:True:=⟨⟩
theorem PySem.W.Fast.tw8031532883108659507:True:=⟨⟩
theorem PySem.W.Fast.tw2441273335077289299:True:=⟨⟩
theorem PySem.W.Fast.tw8045021566806369843:True:=⟨⟩
theorem PySem.W.Fast.tw1550717171136045971:True:=⟨⟩
theorem PySem.W.Fast.tw12315678927180302516:True:=⟨⟩
theorem PySem.W.Fast.tw10389873123562990868:True:=⟨⟩
theorem PySem.W.Fast.tw9576182377250830644:True:=⟨⟩
theorem PySem.W.Fast.tw13188265801732914580:True:=⟨⟩
theorem PySem.W.Fast.tw15315720625236749716:True:=⟨⟩
theorem PySem.W.Fast.tw11737975195177608724:True:=⟨⟩
theorem PySem.W.Fast.tw10095328565534002772:True:=⟨⟩
theorem PySem.W.Fast.tw10242419238580109940:True:=⟨⟩
theorem PySem.W.Fast.tw6481780111029583476:True:=⟨⟩
theorem PySem.W.Fast.tw1724672563014932276:True:=⟨⟩
theorem PySem.W.Fast.tw5350326704407933141:True:=⟨⟩
theorem PySem.W.Fast.tw9926759732578613493:True:=⟨⟩
theorem PySem.W.Fast.tw11402410013717541237:True:=⟨⟩
theorem PySem.W.Fast.tw2436260786147793461:True:=⟨⟩
theorem PySem.W.Fast.tw12241013513039545430:True:=⟨⟩
theorem PySem.W.Fast.tw14088710433297230934:True:=⟨⟩
theorem PySem.W.Fast.tw7881789331390507126:True:=⟨⟩
theorem PySem.W.Fast.tw4477572617141022902:True:=⟨⟩
theorem PySem.W.Fast.tw5077443702732964054:True:=⟨⟩
theorem PySem.W.Fast.tw13502287875781741814:True:=⟨⟩
theorem PySem.W.Fast.tw10778242108816349558:True:=⟨⟩
theorem PySem.W.Fast.tw4657736075795344790:True:=⟨⟩
theorem PySem.W.Fast.tw13403871766423537174:True:=⟨⟩
theorem PySem.W.Fast.tw8528635068057492054:True:=⟨⟩
theorem PySem.W.Fast.tw3764703664600351510:True:=⟨⟩
theorem PySem.W.Fast.tw11842655072879518486:True:=⟨⟩
theorem PySem.W.Fast.tw6090703450610350934:True:=⟨⟩
theorem PySem.W.Fast.tw1734639378803470230:True:=⟨⟩
theorem PySem.W.Fast.tw7993449829439342807:True:=⟨⟩
theorem PySem.W.Fast.tw18095923957158018359:True:=⟨⟩
theorem PySem.W.Fast.tw7898242141829544375:True:=⟨⟩
theorem PySem.W.Fast.tw16277364402537140887:True:=⟨⟩
theorem PySem.W.Fast.tw10758667991413863127:True:=⟨⟩
theorem PySem.W.Fast.tw4876831653064653591:True:=⟨⟩
theorem PySem.W.Fast.tw12550726485936866199:True:=⟨⟩
theorem PySem.W.Fast.tw598534714928453559:True:=⟨⟩
theorem PySem.W.Fast.tw1224548251926742136:True:=⟨⟩
theorem PySem.W.Fast.tw6890869162974870680:True:=⟨⟩
theorem PySem.W.Fast.tw12568772151724095640:True:=⟨⟩
theorem PySem.W.Fast.tw746857939495042456:True:=⟨⟩
theorem PySem.W.Fast.tw17197145947469868504:True:=⟨⟩
theorem PySem.W.Fast.tw13362384351803322904:True:=⟨⟩
theorem PySem.W.Fast.tw15727040918952356568:True:=⟨⟩
theorem PySem.W.Fast.tw13165982798082544440:True:=⟨⟩
theorem PySem.W.Fast.tw9349714449870442360:True:=⟨⟩
theorem PySem.W.Fast.tw4903469213771095065:True:=⟨⟩
theorem PySem.W.Fast.tw4401998554596776985:True:=⟨⟩
theorem PySem.W.Fast.tw6866786409720728697:True:=⟨⟩
theorem PySem.W.Fast.tw14359617526634268281:True:=⟨⟩
theorem PySem.W.Fast.tw2003400498099016473:True:=⟨⟩
theorem PySem.W.Fast.tw16743031151545497082:True:=⟨⟩
theorem PySem.W.Fast.tw7649961336450399259:True:=⟨⟩
theorem PySem.W.Fast.tw15882005555155356731:True:=⟨⟩
theorem PySem.W.Fast.tw13289127803042945115:True:=⟨⟩
theorem PySem.W.Fast.tw5810373213218300219:True:=⟨⟩
theorem PySem.W.Fast.tw1310969446870255003:True:=⟨⟩
theorem PySem.W.Fast.tw8967273882821965275:True:=⟨⟩
theorem PySem.W.Fast.tw10045285839971903995:True:=⟨⟩
theorem PySem.W.Fast.tw7632814700417315771:True:=⟨⟩
theorem PySem.W.Fast.tw12536863210087568347:True:=⟨⟩
theorem PySem.W.Fast.tw5031142092758732763:True:=⟨⟩
theorem PySem.W.Fast.tw6367442040943373500:True:=⟨⟩
theorem PySem.W.Fast.tw5653471336658042044:True:=⟨⟩
theorem PySem.W.Fast.tw545643020032119132:True:=⟨⟩
theorem PySem.W.Fast.tw12404317129347794620:True:=⟨⟩
theorem PySem.W.Fast.tw7385877830177409788:True:=⟨⟩
theorem PySem.W.Fast.tw3947219738895991965:True:=⟨⟩
theorem PySem.W.Fast.tw11135037491942448317:True:=⟨⟩
theorem PySem.W.Fast.tw8603554521720101277:True:=⟨⟩
theorem PySem.W.Fast.tw11124404568697526781:True:=⟨⟩
theorem PySem.W.Fast.tw6674623815752576062:True:=⟨⟩
theorem PySem.W.Fast.tw1398198285720529022:True:=⟨⟩
theorem PySem.W.Fast.tw9044093718873560542:True:=⟨⟩
theorem PySem.W.Fast.tw2850954418696361438:True:=⟨⟩
theorem PySem.W.Fast.tw15401378583636642462:True:=⟨⟩
theorem PySem.W.Fast.tw4958657273764511518:True:=⟨⟩
theorem PySem.W.Fast.tw5618852773816897374:True:=⟨⟩
theorem PySem.W.Fast.tw1989255838638721886:True:=⟨⟩
theorem PySem.W.Fast.tw2510036167515307966:True:=⟨⟩
theorem PySem.W.Fast.tw7966052457473546335:True:=⟨⟩
theorem PySem.W.Fast.tw13098518541199494367:True:=⟨⟩
theorem PySem.W.Fast.tw3645863861790566623:True:=⟨⟩
theorem PySem.W.Fast.tw2432893225111579967:True:=⟨⟩
theorem PySem.W.Fast.tw14037394894659587519:True:=⟨⟩
theorem PySem.W.Fast.tw1886195643926262399:True:=⟨⟩
theorem PySem.W.Fast.tw11551845667781016287:True:=⟨⟩
theorem PySem.W.Fast.tw12499991484507561398:True:=⟨⟩
set_option maxRecDepth 100000 in
set_option maxHeartbeats 0 in
theorem PySem.Challenge.cw_unlikesteps_k13_whole_hits_holds : PySem.Challenge.rw_unlikesteps_k13_whole_hits.Holds := by
 w_on; o_law; k_head; (case hw => w_witness2)
 k_fill
 refine U.wq (l := PySem.Challenge.rw_unlikesteps_k13_whole_hits) (n := 63) (k := 13) (x := "_law_script") (Pts := []) (sp := fun K => U.nN K) rfl (by decide) rfl ⟨rfl, by decide, by decide, rfl⟩ (fun w h Y => PySem.W.kIn_of Y) (fun _ _ _ _ h => by cases h) (fun _ _ _ _ h => by cases h) (fun _ _ h => by cases h) ?F ?S
 case S => exact fun K H a ns hl hs hp => ⟨a, ns, rfl, hs, hl, fun _ => rfl⟩
 case F =>
  intro w mg fa h KX G hmg
  refine' U.y8 KX G hmg (U.bu ?a0 ?b0 ?c0 ?e0) (U.bu ?a1 ?b1 ?c1 ?e1) (U.bu ?a2 ?b2 ?c2 ?e2) (U.bu ?a3 ?b3 ?c3 ?e3) (U.bu ?a4 ?b4 ?c4 ?e4) (U.bu ?a5 ?b5 ?c5 ?e5) (U.bu ?a6 ?b6 ?c6 ?e6) (U.bu ?a7 ?b7 ?c7 ?e7) (U.bu ?a8 ?b8 ?c8 ?e8) (U.bu ?a9 ?b9 ?c9 ?e9) (U.bu ?a10 ?b10 ?c10 ?e10) (U.bu ?a11 ?b11 ?c11 ?e11) (U.bu ?a12 ?b12 ?c12 ?e12) (U.bu ?a13 ?b13 ?c13 ?e13) (U.bu ?a14 ?b14 ?c14 ?e14) (U.bu ?a15 ?b15 ?c15 ?e15) (U.bu ?a16 ?b16 ?c16 ?e16) (U.bu ?a17 ?b17 ?c17 ?e17) (U.bu ?a18 ?b18 ?c18 ?e18) (U.bu ?a19 ?b19 ?c19 ?e19) (U.bu ?a20 ?b20 ?c20 ?e20) (U.bu ?a21 ?b21 ?c21 ?e21) (U.bu ?a22 ?b22 ?c22 ?e22) (U.bu ?a23 ?b23 ?c23 ?e23) (U.bu ?a24 ?b24 ?c24 ?e24) (U.bu ?a25 ?b25 ?c25 ?e25) (U.bu ?a26 ?b26 ?c26 ?e26) (U.bu ?a27 ?b27 ?c27 ?e27) (U.bu ?a28 ?b28 ?c28 ?e28) ?g1 ?kc0
  (case a0 => k_is); (case b0 => k_is); (case c0 => k_is); (case e0 => k_is)
  (case a1 => k_is); (case b1 => k_is); (case c1 => k_is); (case e1 => k_is)
  (case a2 => k_is); (case b2 => k_is); (case c2 => k_is); (case e2 => k_is)
  (case a3 => k_is); (case b3 => k_is); (case c3 => k_is); (case e3 => k_is)
  (case a4 => k_is); (case b4 => k_is); (case c4 => k_is); (case e4 => k_is)
  (case a5 => k_is); (case b5 => k_is); (case c5 => k_is); (case e5 => k_is)
  (case a6 => k_is); (case b6 => k_is); (case c6 => k_is); (case e6 => k_is)
  (case a7 => k_is); (case b7 => k_is); (case c7 => k_is); (case e7 => k_is)
  (case a8 => k_is); (case b8 => k_is); (case c8 => k_is); (case e8 => k_is)
  (case a9 => k_is); (case b9 => k_is); (case c9 => k_is); (case e9 => k_is)
  (case a10 => k_is); (case b10 => k_is); (case c10 => k_is); (case e10 => k_is)
  (case a11 => k_is); (case b11 => k_is); (case c11 => k_is); (case e11 => k_is)
  (case a12 => k_is); (case b12 => k_is); (case c12 => k_is); (case e12 => k_is)
  (case a13 => k_is); (case b13 => k_is); (case c13 => k_is); (case e13 => k_is)
  (case a14 => k_is); (case b14 => k_is); (case c14 => k_is); (case e14 => k_is)
  (case a15 => k_is); (case b15 => k_is); (case c15 => k_is); (case e15 => k_is)
  (case a16 => k_is); (case b16 => k_is); (case c16 => k_is); (case e16 => k_is)
  (case a17 => k_is); (case b17 => k_is); (case c17 => k_is); (case e17 => k_is)
  (case a18 => k_is); (case b18 => k_is); (case c18 => k_is); (case e18 => k_is)
  (case a19 => k_is); (case b19 => k_is); (case c19 => k_is); (case e19 => k_is)
  (case a20 => k_is); (case b20 => k_is); (case c20 => k_is); (case e20 => k_is)
  (case a21 => k_is); (case b21 => k_is); (case c21 => k_is); (case e21 => k_is)
  (case a22 => k_is); (case b22 => k_is); (case c22 => k_is); (case e22 => k_is)
  (case a23 => k_is); (case b23 => k_is); (case c23 => k_is); (case e23 => k_is)
  (case a24 => k_is); (case b24 => k_is); (case c24 => k_is); (case e24 => k_is)
  (case a25 => k_is); (case b25 => k_is); (case c25 => k_is); (case e25 => k_is)
  (case a26 => k_is); (case b26 => k_is); (case c26 => k_is); (case e26 => k_is)
  (case a27 => k_is); (case b27 => k_is); (case c27 => k_is); (case e27 => k_is)
  (case a28 => k_is); (case b28 => k_is); (case c28 => k_is); (case e28 => k_is)
  (case g1 => kernel_rfl)
  (case kc0 => k_is)
