import PyProof.Rows.All
import Wide.All
import OpenK.AllK
import Wide.FinOn
import Lean
import PyProof.EqAt
import PyProof.EqKinds
import PyProof.TupleCall
import PyProof.NeKinds
import PyProof.Rows.SortWalk
import PyProof.Rows.SortRuns
import KE.KMinKey
import PyProof.IsRules
import PySem.SetOps
import PyProof.SetScanFacts
import PyProof.TupleKey
import PyProof.SetKind
import PyProof.Rows.SetFrom
import KE.KRevSl
import PyProof.Rows.SumAny
import PyProof.EnumMake
import PyProof.SeqI3
import PyProof.TupleOfGen
import PyProof.ListRange
import PyProof.CollectIter
import PyProof.DictItems
import KE.KDictList
import PyProof.StrCalls2
import PyProof.StrLawsChain
import PyProof.StrBlockI
import PyProof.Rows.StrRev
import PyProof.StrBlock2
import PySem.Challenge.RW_unlikesteps_k91_lays_written_and_read
set_option Elab.async false
set_option linter.all false
set_option maxRecDepth 100000
set_option maxHeartbeats 0
namespace L2
open PySem PySem.Spec PyProof.Rows
abbrev Key:=Sum Int Str
def jV:Key→Value→Bool
 | .inl k,v=>Value.isInt k v
 | .inr x,v=>Value.isStrOf x v
def Cn (w:World):Key→Int
 | .inl k=>hashInt k
 | .inr x=>hashStr w x
theorem ZR:∀{k:Key}{v:Value},jV k v=true→(∃i t,k=Sum.inl i∧v=Value.int i t)∨(∃x t,k=Sum.inr x∧v=Value.str x t)
 | .inl i,v,h=>by
  obtain⟨t,e⟩:=Value.isInt_shape (k:=i) (v:=v) h
  exact .inl ⟨i,t,rfl,e⟩
 | .inr x,v,h=>by
  obtain⟨t,e⟩:=Value.isStrOf_shape (x:=x) (v:=v) h
  exact .inr ⟨x,t,rfl,e⟩
theorem Io (i:Int) (t:Tok):jV (.inl i) (.int i t)=true:=by simp[jV,Value.isInt]
theorem Kq (x:Str) (t:Tok):jV (.inr x) (.str x t)=true:=by simp[jV,Value.isStrOf]
theorem GA (a b:Int):decide ((Sum.inl a:Key)=Sum.inl b)=(a==b):=by
 by_cases e:a=b
 ·subst e;simp
 ·have h:¬(Sum.inl a:Key)=Sum.inl b:=fun q=>e (Sum.inl.inj q)
  rw[decide_eq_false h]
  exact(beq_eq_false_iff_ne.mpr e).symm
theorem FD (a b:Str):decide ((Sum.inr a:Key)=Sum.inr b)=decide (a=b):=by
 by_cases e:a=b
 ·subst e;simp
 ·have h:¬(Sum.inr a:Key)=Sum.inr b:=fun q=>e (Sum.inr.inj q)
  rw[decide_eq_false h,decide_eq_false e]
theorem FA (a:Int) (b:Str):decide ((Sum.inl a:Key)=Sum.inr b)=false:=decide_eq_false (fun q=>nomatch q)
theorem FC (a:Str) (b:Int):decide ((Sum.inr a:Key)=Sum.inl b)=false:=decide_eq_false (fun q=>nomatch q)
def dj (prog:Program) (w:World):PySem.KeyKind prog w Key where
 is:=jV
 hash:=Cn w
 inj:=fun v a b ha hb=>by
  rcases ZR ha with ⟨i,t,rfl,rfl⟩ |⟨x,t,rfl,rfl⟩
  ·rcases ZR hb with ⟨j,u,rfl,e⟩ |⟨y,u,rfl,e⟩
   ·injection e with e1 _;rw[e1]
   ·exact nomatch e
  ·rcases ZR hb with ⟨j,u,rfl,e⟩ |⟨y,u,rfl,e⟩
   ·exact nomatch e
   ·injection e with e1 _;rw[e1]
 byValue:=fun k v h=>by
  rcases ZR h with ⟨i,t,rfl,rfl⟩ |⟨x,t,rfl,rfl⟩<;>rfl
 pyHash:=fun hv h=>by
  rcases ZR hv with ⟨i,t,rfl,rfl⟩ |⟨x,t,rfl,rfl⟩
  ·exact wpAny_pyHash_int h
  ·exact wpAny_pyHash_str h
 eqBool:=fun hu hv h=>by
  rcases ZR hu with ⟨i,t,rfl,rfl⟩ |⟨x,t,rfl,rfl⟩
  ·rcases ZR hv with ⟨j,u,rfl,rfl⟩ |⟨y,u,rfl,rfl⟩
   ·rw[GA]at h;exact wpAny_eqBool_int h
   ·rw[FA]at h;exact SeqAt.EqAt.int_str i t y u _ _ _ _ h
  ·rcases ZR hv with ⟨j,u,rfl,rfl⟩ |⟨y,u,rfl,rfl⟩
   ·rw[FC]at h;exact SeqAt.EqAt.str_int x t j u _ _ _ _ h
   ·rw[FD]at h;exact wpAny_eqBool_str h
 «strs» :=fun k x t v h=>by
  rcases ZR h with ⟨i,u,rfl,e⟩ |⟨y,u,rfl,e⟩
  ·exact nomatch e
  ·injection e with e1 _
   subst e1
   cases v<;>rfl
theorem Uz (prog:Program) (w:World) (i:Int) (t:Tok):(dj prog w).is (.inl i) (.int i t)=true:=Io i t
theorem Uy (prog:Program) (w:World) (x:Str) (t:Tok):(dj prog w).is (.inr x) (.str x t)=true:=Kq x t
inductive V where
 |ae |bl (b:Bool) |int (i:Int) |str (x:Str) |eY (b:Array UInt8) |fA (b:UInt64) |ref (a:Addr) |ty (n:String)
 deriving DecidableEq
def RelV:V→Value→Prop
 | .ae,u=>u=Value.none
 | .bl b,u=>u=Value.bool b
 | .int i,u=> ∃t,u=Value.int i t
 | .str x,u=> ∃t,u=Value.str x t
 | .eY b,u=> ∃t,u=Value.bytes b t
 | .fA b,u=> ∃t,u=Value.float b t
 | .ref a,u=>u=Value.ref a
 | .ty n,u=>u=Value.type n
abbrev Vals:List V→List Value→Prop:=Paired RelV
theorem Vals.length {xs:List V}{us:List Value}(r:Vals xs us):xs.length=us.length:=Paired.length r
theorem Vals.get:∀{xs:List V}{us:List Value}{i:Nat}{x:V},Vals xs us→xs[i]? =some x→∃u,us[i]? =some u∧RelV x u
 |_,_,_,_,.nil,e=>by simp at e
 |_,_,0,_,.cons r _,e=>by simp at e;subst e;exact⟨_,rfl,r⟩
 |_,_,i+1,x,.cons _ t,e=>by
  obtain⟨u,h1,h2⟩:=Vals.get (i:=i) (x:=x) t (by simpa using e)
  exact⟨u,by simpa using h1,h2⟩
theorem Vals.set {x:V}{u:Value}(r:RelV x u):∀{xs:List V}{us:List Value}(i:Nat),Vals xs us→Vals (xs.set i x) (us.set i u)
 |_,_,_,.nil=> .nil
 |_,_,0,.cons _ t=> .cons r t
 |_,_,i+1,.cons q t=> .cons q (Vals.set r i t)
theorem Vals.append:∀{xs ys:List V}{us ws:List Value},Vals xs us→Vals ys ws→Vals (xs++ys) (us++ws)
 |_,_,_,_,.nil,s=>s
 |_,_,_,_,.cons r t,s=> .cons r (Vals.append t s)
theorem Vals.take:∀{xs:List V}{us:List Value}(n:Nat),Vals xs us→Vals (xs.take n) (us.take n)
 |_,_,0,_=> .nil
 |_,_,_+1,.nil=> .nil
 |_,_,n+1,.cons r t=> .cons r (Vals.take n t)
theorem Vals.drop:∀{xs:List V}{us:List Value}(n:Nat),Vals xs us→Vals (xs.drop n) (us.drop n)
 |_,_,0,r=>r
 |_,_,_+1,.nil=> .nil
 |_,_,n+1,.cons _ t=>Vals.drop n t
def eG:Option V→Option Value→Prop
 |some v,some u=>RelV v u
 |none,none=>True
 |_,_=>False
def KV {κ:Type} :List (κ×V)→List (κ×Value)→Prop:=Paired fun(p:κ×V) (q:κ×Value)=>p.1=q.1∧RelV p.2 q.2
def kV:Key→V
 | .inl i=> .int i
 | .inr x=> .str x
inductive HO where
  |lst (xs:List V)
  |tup (xs:List V)
  |par (xs:List V)
  |dK (ah:List (Key×V)) |dT (ah:List (List Key×V))
  |set (S:Int→Bool) (n:Nat)
  |ins (C dx:Addr) (fs:List (Str×V))
  |own (x:Addr)
  |xd (fs:List (Str×V))
  |met (f x:Addr)
  |dX (lo hi:Int)
  |bP (o:Obj) (u:HO)
  |bS (ps:Array Value)
  |ext (φ:Heap→Prop)
abbrev Hp:=Addr→Option HO
def upd (H:Hp) (a:Addr) (o:HO):Hp:=fun b=>if b=a then some o else H b
theorem Zc {H:Hp}{a:Addr}{o:HO} :upd H a o a=some o:=by unfold upd;rw[if_pos rfl]
theorem Zh {H:Hp}{a b:Addr}{o:HO}(h:b≠a):upd H a o b=H b:=by unfold upd;rw[if_neg h]
theorem ud {H:Hp}{a b:Addr}{o u:HO}(h:H a=some o) (h':H b=some u) (d:o≠u):a≠b:=by
 intro e;subst e;rw[h]at h';exact d (Option.some.inj h')
theorem Zg {H:Hp}{a b:Addr}{o:HO}(h:H a=some o) (h':H b=none):a≠b:=by
 intro e;subst e;rw[h]at h';cases h'
section
variable (P:Program) (w:World)
def ba (H:Hp) (h:Heap) (a:Addr):HO→Prop
 | .lst xs=>xs.length≤sizeLine∧∃(aa:List Value) (n:Nat),Vals xs aa∧h.get? a=some {cls:=.type "list",data:=.seq aa.toArray n}
 | .tup xs=>xs.length≤sizeLine∧∃aa:List Value,Vals xs aa∧IsTup h a aa.toArray∧∃o,h.get? a=some o∧o.dict=none
 | .par xs=>xs.length≤sizeLine∧∃aa:List Value,Vals xs aa∧IsTup h a aa.toArray
 | .dK ah=>ah.length≤sizeLine∧(a==sysModules)=false∧∃vs,KV ah vs∧h.DictOf (dj P w) a vs
 | .dT ah=>ah.length≤sizeLine∧(a==sysModules)=false∧∃xs:List (List Key×Addr×Value),
   Paired (fun(p:List Key×V) (q:List Key×Addr×Value)=>p.1=q.1∧H q.2.1=some (.tup (p.1.map kV))∧RelV p.2 q.2.2) ah xs∧
   ∃o es ep,h.get? a=some o∧o.ExactDict∧o.data=.dict es ep∧es.toList=xs.map (entryOfKey (tupleKind (dj P w)))∧(xs.map (·.1)).Nodup
 | .set S n=>h.SetOf (intKind P w) a S n
 | .ins C dx fs=>H dx=some (.own a)∧fs.length≤1000∧dx≠a∧h.get? a=some (PySem.W.instObj C dx)∧
   ∃mA,h.Ns1 dx mA∧(∀f,eG (fs.lookup f) (mA f))∧PySem.Within mA (fs.map (·.1))
 | .own _=> ∃o,h.get? a=some o
 | .xd fs=> ∃mA,h.Ns1 a mA∧∀f,eG (fs.lookup f) (mA f)
 | .dX lo hi=> ∃t u v,h.get? a=some {cls:=.type "range",data:=.fields #[.int lo t,.int hi u,.int 1 v]}
 | .bP o u=>h.get? a=some o∧ba H h a u
 | .bS ps=>h.get? a=some {cls:=.none,data:=.fields ps}
 | .met f x=>h.get? a=some (PySem.W.methodObj (.ref f) (.ref x))
 | .ext φ=>φ h∧(∃o,h.get? a=some o)∧∀h1 h2:Heap,φ h1→(∀o,h1.get? a=some o→h2.get? a=some o)→φ h2
def bg (H:Hp) (h:Heap):Prop:=∀a o,H a=some o→ba P w H h a o
end
section
variable {P:Program}{w:World}{H H':Hp}{h h':Heap}{a:Addr}{o:HO}
theorem ba.lt (x:ba P w H h a o):a<h.objs.size:=by
 cases o with
 |lst xs=>obtain⟨_,_,_,_,e⟩:=x;exact Heap.lt_size e
 |tup xs=>obtain⟨_,_,_,p,_⟩:=x;exact p.lt
 |par xs=>obtain⟨_,_,_,p⟩:=x;exact p.lt
 |dK ah=>obtain⟨_,_,_,_,o,_,_,e,_⟩:=x;exact Heap.lt_size e
 |dT ah=>obtain⟨_,_,_,_,o,_,_,e,_⟩:=x;exact Heap.lt_size e
 |set S n=>obtain⟨o,_,_,_,e,_⟩:=x;exact Heap.lt_size e
 |ins C dx fs=>obtain⟨_,_,_,e,_⟩:=x;exact Heap.lt_size e
 |own y=>obtain⟨_,e⟩:=x;exact Heap.lt_size e
 |xd fs=>obtain⟨_,⟨_,_,_,e,_⟩,_⟩:=x;exact Heap.lt_size e
 |dX lo hi=>obtain⟨_,_,_,e⟩:=x;exact Heap.lt_size e
 |bP ob u=>obtain⟨e,_⟩:=x;exact Heap.lt_size e
 |bS ps=>exact Heap.lt_size (show h.get? a=some _ from x)
 |met f y=>exact Heap.lt_size (show h.get? a=some _ from x)
 |ext φ=>obtain⟨_,⟨_,e⟩,_⟩:=x;exact Heap.lt_size e
theorem Paired.g7 {α β:Type}{F G:α→β→Prop} :∀{g9:List α}{g8:List β},Paired F g9 g8→(∀a b,F a b→G a b)→Paired G g9 g8
 |_,_,.nil,_=> .nil
 |_,_,.cons r t,f=> .cons (f _ _ r) (Paired.g7 t f)
theorem ba.bK (x:ba P w H h a o) (k:∀b u,(b=a∨H b=some (.own a))→h.get? b=some u→h'.get? b=some u)
  (ho:∀b,H b=some (.own a)→H' b=some (.own a)) (ht:∀b xs,H b=some (.tup xs)→H' b=some (.tup xs)):ba P w H' h' a o:=by
 induction o with
 |lst xs=>obtain⟨z,aa,n,r,e⟩:=x;exact⟨z,aa,n,r,k _ _ (.inl rfl) e⟩
 |tup xs=>obtain⟨z,aa,r,⟨ob,e,c⟩,o2,e2,c2⟩:=x;exact⟨z,aa,r,⟨ob,k _ _ (.inl rfl) e,c⟩,o2,k _ _ (.inl rfl) e2,c2⟩
 |par xs=>obtain⟨z,aa,r,ob,e,c⟩:=x;exact⟨z,aa,r,ob,k _ _ (.inl rfl) e,c⟩
 |dK ah=>obtain⟨z,y,vs,r,ob,es,ep,e,c⟩:=x;exact⟨z,y,vs,r,ob,es,ep,k _ _ (.inl rfl) e,c⟩
 |dT ah=>
  obtain⟨z,y,xs,r,ob,es,ep,e,c⟩:=x
  exact⟨z,y,xs,Paired.g7 r fun p q z=> ⟨z.1,ht _ _ z.2.1,z.2.2⟩,ob,es,ep,k _ _ (.inl rfl) e,c⟩
 |set S n=>obtain⟨ob,es,ep,t,e,c⟩:=x;exact⟨ob,es,ep,t,k _ _ (.inl rfl) e,c⟩
 |ins C dx fs=>
  obtain⟨d,z,ne,e,mA,⟨od,es,ep,e2,c⟩,r⟩:=x
  exact⟨ho _ d,z,ne,k _ _ (.inl rfl) e,mA,⟨od,es,ep,k _ _ (.inr d) e2,c⟩,r⟩
 |own y=>obtain⟨ob,e⟩:=x;exact⟨ob,k _ _ (.inl rfl) e⟩
 |xd fs=>obtain⟨mA,⟨od,es,ep,e,c⟩,r⟩:=x;exact⟨mA,⟨od,es,ep,k _ _ (.inl rfl) e,c⟩,r⟩
 |dX lo hi=>obtain⟨t,u,v,e⟩:=x;exact⟨t,u,v,k _ _ (.inl rfl) e⟩
 |bP ob u ih=>obtain⟨e,q⟩:=x;exact⟨k _ _ (.inl rfl) e,ih q⟩
 |bS ps=>
  have e:h.get? a=some {cls:=.none,data:=.fields ps} :=x
  show h'.get? a=some {cls:=.none,data:=.fields ps}
  exact k a _ (.inl rfl) e
 |met f y=>
  have e:h.get? a=some (PySem.W.methodObj (.ref f) (.ref y)):=x
  show h'.get? a=some (PySem.W.methodObj (.ref f) (.ref y))
  exact k a _ (.inl rfl) e
 |ext φ=>obtain⟨p,⟨o,e⟩,st⟩:=x;exact⟨st _ _ p fun o q=>k _ _ (.inl rfl) q,⟨o,k _ _ (.inl rfl) e⟩,st⟩
theorem bg.lt (x:bg P w H h) (e:H a=some o):a<h.objs.size:=(x a o e).lt
theorem bg.fresh (x:bg P w H h) (e:h.objs.size≤a):H a=none:=by
 cases q:H a with
 |none=>rfl
 |some u=>exact absurd (Nat.lt_of_lt_of_le (x.lt q) e) (Nat.lt_irrefl _)
theorem bg.kept (x:bg P w H h) (k:∀b u,h.get? b=some u→h'.get? b=some u):bg P w H h':=fun a o e=>
 (x a o e).bK (fun b u _ q=>k b u q) (fun _ q=>q) fun _ _ q=>q
theorem bg.laid (x:bg P w H h) (k:∀b u,h.get? b=some u→h'.get? b=some u) (hp:h.objs.size≤a) (new:ba P w (upd H a o) h' a o):bg P w (upd H a o) h':=fun b u e=>by
 have hn:=x.fresh hp
 by_cases hb:b=a
 ·subst hb;rw[Zc]at e;cases e;exact new
 ·rw[Zh hb]at e
  exact(x b u e).bK (fun c v _ q=>k c v q) (fun c q=>by rw[Zh (Zg q hn)];exact q) fun c xs q=>by rw[Zh (Zg q hn)];exact q
end
def Rd (H:Hp) (a:Addr) (u:HO):Prop:=H a=some u∨∃o,H a=some (.bP o u)
theorem Rd.ok {P:Program}{w:World}{H:Hp}{h:Heap}{a:Addr}{u:HO}(r:Rd H a u) (x:bg P w H h):ba P w H h a u:=by
 rcases r with r |⟨o,r⟩
 ·exact x a u r
 ·obtain⟨_,q⟩:=x a _ r
  exact q
def pP:Option HO→Prop
 |some (.lst _)=>True
 |some (.dK _)=>True
 |some (.dT _)=>True
 |some (.set _ _)=>True
 |some (.ins _ _ _)=>True
 |some (.ext _)=>True
 |_=>False
section
variable {P:Program}{w:World}{H:Hp}{h h':Heap}{x e:Addr}{o':HO}
theorem bg.write (ok:bg P w H h) (mu:pP (H x)) (he:e=x∨H e=some (.own x)) (k:∀b u,b≠e→h.get? b=some u→h'.get? b=some u) (ka:∃u,h'.get? e=some u)
  (new:ba P w (upd H x o') h' x o'):bg P w (upd H x o') h':=fun b u q=>by
 have wq:∀c y,H c=some (.own y)→c≠x:=fun c y r z=>by subst z;rw[r]at mu;exact mu
 have BJ:∀c xs,H c=some (.tup xs)→c≠x:=fun c xs r z=>by subst z;rw[r]at mu;exact mu
 by_cases hb:b=x
 ·subst hb;rw[Zc]at q;cases q;exact new
 ·rw[Zh hb]at q
  by_cases fV:b=e
  ·have q':H b=some (.own x):=by
    rcases he with z |z
    ·exact absurd (fV.trans z) hb
    ·rw[fV];exact z
   rw[q]at q';cases q'
   obtain⟨v,hv⟩:=ka
   exact⟨v,by rw[fV];exact hv⟩
  ·refine(ok b u q).bK (fun c v hc r=>k c v ?_ r) (fun c r=>by rw[Zh (wq c b r)];exact r) fun c xs r=>by rw[Zh (BJ c xs r)];exact r
   rcases hc with rfl |hc
   ·exact fV
   ·rintro rfl
    rcases he with z |z
    ·exact wq c b hc z
    ·rw[hc]at z;cases z;exact hb rfl
end
structure Un (fs ex:List Addr) (H H':Hp) (h h':Heap):Prop where
 keep:∀b o,h.get? b=some o→H b=none→b∉fs→b∉ex→h'.get? b=some o
 slot:∀b o,h.get? b=some o→H b=none→b∈fs→b∉ex→∃sl,h'.get? b=some {o with slots:=sl}
 free:∀b o,h.get? b=some o→H b=none→b∉ex→H' b=none
 there:∀b o,h.get? b=some o→b∉ex→∃o',h'.get? b=some o'
 dG:∀b xs,H b=some (.tup xs)→H' b=some (.tup xs)
 dC:∀b o u,H b=some (.bP o u)→H' b=some (.bP o u)
 dr:∀b ps,H b=some (.bS ps)→∃more,H' b=some (.bS (ps++more))
section
variable {fs EB ex LY:List Addr}{H H1 H2:Hp}{h h1 h2 h':Heap}{a x e:Addr}{o:HO}
theorem Un.any (u:Un fs ex H H1 h h1) {b:Addr}{ob:Obj}(q:h.get? b=some ob) (n:H b=none) (hx:b∉ex):∃sl,h1.get? b=some {ob with slots:=sl} :=by
 by_cases hb:b∈fs
 ·exact u.slot b ob q n hb hx
 ·exact⟨ob.slots,u.keep b ob q n hb hx⟩
theorem Un.kept (k:∀b u,h.get? b=some u→h'.get? b=some u):Un fs ex H H h h':=
 ⟨fun b ob q _ _ _=>k b ob q,fun b ob q _ _ _=> ⟨ob.slots,k b ob q⟩,fun _ _ _ n _=>n,fun b ob q _=> ⟨ob,k b ob q⟩,fun _ _ q=>q,fun _ _ _ q=>q,fun _ ps q=> ⟨#[],by rw[q];simp⟩⟩
theorem Un.refl:Un fs ex H H h h:=Un.kept fun _ _ q=>q
theorem Un.laid (k:∀b u,h.get? b=some u→h'.get? b=some u) (hp:h.objs.size≤a) (hn:H a=none):Un fs ex H (upd H a o) h h' where
 keep:=fun b u q _ _ _=>k b u q
 slot:=fun b u q _ _ _=> ⟨u.slots,k b u q⟩
 free:=fun b u q n _=>by rw[Zh (Nat.ne_of_lt (Nat.lt_of_lt_of_le (Heap.lt_size q) hp))];exact n
 there:=fun b u q _=> ⟨u,k b u q⟩
 dG:=fun b xs q=>by rw[Zh (Zg q hn)];exact q
 dC:=fun b u xs q=>by rw[Zh (Zg q hn)];exact q
 dr:=fun b ps q=> ⟨#[],by rw[Zh (Zg q hn),q];simp⟩
theorem Un.write (mu:pP (H x)) (he:e=x∨H e=some (.own x)) (k:∀b u,b≠e→h.get? b=some u→h'.get? b=some u) (ka:∃u,h'.get? e=some u):Un fs ex H (upd H x o) h h':=by
 have hx:∀b,H b=none→b≠x:=fun b n z=>by subst z;rw[n]at mu;exact mu
 have hb:∀b,H b=none→b≠e:=fun b n z=>by
  subst z
  rcases he with r |r
  ·exact hx b n r
  ·rw[n]at r;cases r
 have hm:∀b u,H b=some u→¬pP (some u)→b≠x:=fun b u q nm z=>by subst z;rw[q]at mu;exact nm mu
 refine⟨fun b u q n _ _=>k b u (hb b n) q,fun b u q n _ _=> ⟨u.slots,k b u (hb b n) q⟩,fun b u q n _=>by rw[Zh (hx b n)];exact n,fun b u q _=> ?_,
  fun b xs q=>by rw[Zh (hm b _ q fun z=>z)];exact q,fun b u xs q=>by rw[Zh (hm b _ q fun z=>z)];exact q,fun b ps q=> ⟨#[],by rw[Zh (hm b _ q fun z=>z),q];simp⟩⟩
 by_cases fV:b=e
 ·subst fV;exact ka
 ·exact⟨u,k b u fV q⟩
end
def nP (h:Heap) (H:Hp):List Addr:=(List.range h.objs.size).filter fun a=> (H a).isSome
def eO (h:Heap) (H:Hp):Heap:=PySem.W.hideAll h (nP h H)
theorem WH (h:Heap) (H:Hp):(eO h H).objs.size=h.objs.size:=PySem.W.hideAll_size _ _
theorem UK {h:Heap}{H:Hp}{b:Addr}{o:Obj}(e:h.get? b=some o) (n:H b=none):(eO h H).get? b=some o:=
 PySem.W.hideAll_get _ e fun hm=>by
  have q:(H b).isSome=true:=(List.mem_filter.mp hm).2
  rw[n]at q;simp at q
theorem zx {h:Heap}{H:Hp}{b:Addr}{o:Obj}(e:(eO h H).get? b=some o):h.get? b=some o∧H b=none:=by
 have e':h.get? b=some o:=PySem.W.of_hideAll (nP h H) e
 refine⟨e',?_⟩
 cases q:H b with
 |none=>rfl
 |some x=>
  have hm:b∈nP h H:=List.mem_filter.mpr ⟨List.mem_range.mpr (Heap.lt_size e'),by simp[q]⟩
  have z:(eO h H).get? b=none:=PySem.W.hideAll_none (nP h H) hm
  rw[z]at e;cases e
def Fw (g h:Heap) (L:Addr):List (Addr×Obj):=(List.range h.objs.size).filterMap fun a=>if a=L∨(g.get? a).isSome=true then none else (h.get? a).map fun o=> (a,o)
def rest (g h:Heap) (L d:Addr):List (Addr×Obj):=(Fw g h L).filter fun p=>decide (p.1≠d)
structure Mod (K:PySem.W.Frag) (mg:Str→Option Value) (base:Heap):Prop where
 ja:K.In base
 glob:base.Ns mainGlobals mg
 blt:∃mb,base.Ns builtinsNs mb∧∀x:Str,x≠ "__name__" →mb x=bootBuiltins x
 nolimit:base.NoLimit
structure Cx where
 prog:Program
 w:World
 K:PySem.W.Frag
 mg:Str→Option Value
 base:Heap
 A:Around
 N:List Str
 bI:Shared
 gK:Hp
 env:Env
 outer:List Env
 stack:List Env
 ex:List Addr
 fn:Str→Bool
 calm:Bool
 pn:List (Addr×Obj)
 xe:Value→Shared→Prop
def aN (l:List Env):List Addr:=l.filterMap (·.frame)
abbrev Cx.fs (X:Cx):List Addr:=aN X.outer
def mQ (sc:Scope) (x:Str):Prop:=sc.names.lookup x=some .local∨sc.names.lookup x=some .cell∨sc.names.lookup x=some .free
def Loc (sc:Scope) (x:Str):Prop:=sc.names.lookup x=some .local∨sc.names.lookup x=some .cell
def Look (env:Env) (h:Heap) (m:Str→Option Value) (x:Str) (u:Value):Prop:=
 (env.kindOf x=some .local∧m x=some u)∨((env.kindOf x=some .cell∨env.kindOf x=some .free)∧∃c,env.cells.lookup x=some c∧h.IsCell c (some u))
structure Cx.Ok (X:Cx):Prop where
 mod:Mod X.K X.mg X.base
 kind:X.env.scope.kind=.function
 glob:X.env.globals=mainGlobals
 blt:X.env.builtins=builtinsNs
 above:X.bI.heap.objs.size≤X.env.locals
 inj:∀x y c,X.env.cells.lookup x=some c→X.env.cells.lookup y=some c→x=y
 has:∀x,(X.env.kindOf x=some .cell∨X.env.kindOf x=some .free)→∃c,X.env.cells.lookup x=some c
 iA:∀x c,X.fn x=true→X.env.cells.lookup x=some c→X.bI.heap.objs.size≤c
 hd:X.calm=true→X.A.handled=none
 frames:X.A.frames=some X.stack
 jF:X.stack=X.outer∨(X.stack=X.env::X.outer∧X.env.frame=some X.env.locals)
 ix:∀b∈X.ex,b≠X.env.locals∧∀x c,X.env.cells.lookup x=some c→c≠b
 bs:∀b o,X.base.get? b=some o→X.bI.heap.get? b=some o∧X.gK b=none
 fW:X.base.objs.size≤X.bI.heap.objs.size
 i7:∀b o,X.base.get? b=some o→b∉X.ex
 iw:∀b∈X.ex,b∉X.fs
 cQ:X.bI.heap.FunFrames X.base X.outer
 eU:∀b∈X.fs,X.gK b=none
structure Inv (X:Cx) (pins:List (Addr×Obj)) (σ:List (Option V)) (H:Hp) (s:Shared):Prop where
 ok:X.Ok
 os:s.os=X.bI.os
 bare:AllBare s.gens
 base:Un X.fs X.ex X.gK H X.bI.heap s.heap
 loc:∃m,s.heap.Ns X.env.locals m∧∀(i:Nat) (x:Str) (v:V),X.N[i]? =some x→σ[i]? =some (some v)→mQ X.env.scope x→∃u,RelV v u∧Look X.env s.heap m x u
 cell:∀x c,X.env.cells.lookup x=some c→∃v,s.heap.IsCell c v
 free:H X.env.locals=none
 dO:∀x c,X.env.cells.lookup x=some c→H c=none
 pin:∀p∈X.pn++pins,s.heap.get? p.1=some p.2∧H p.1=none∧p.1≠X.env.locals∧p.1∉X.fs∧∀v,p.2.data≠.cell v
 ai:bg X.prog X.w H s.heap
 len:σ.length=X.N.length
section
variable {X:Cx}{pins:List (Addr×Obj)}{σ:List (Option V)}{H H':Hp}{s:Shared}{h':Heap}
theorem Cx.Ok.BO (ok:X.Ok) {b:Addr}{o:Obj}(e:X.base.get? b=some o):b∉X.fs:=fun hb=>by
 have:=(ok.cQ.mem hb).1
 rw[e]at this;cases this
theorem Inv.bs (I:Inv X pins σ H s):∀b o,X.base.get? b=some o→s.heap.get? b=some o∧H b=none:=fun b o e=>
 ⟨I.base.keep b o (I.ok.bs b o e).1 (I.ok.bs b o e).2 (I.ok.BO e) (I.ok.i7 b o e),I.base.free b o (I.ok.bs b o e).1 (I.ok.bs b o e).2 (I.ok.i7 b o e)⟩
theorem Inv.bk (I:Inv X pins σ H s):∀b o,X.base.get? b=some o→s.heap.get? b=some o:=fun b o e=> (I.bs b o e).1
theorem Inv.mod (I:Inv X pins σ H s):Mod X.K X.mg X.base:=I.ok.mod
theorem Inv.bC (I:Inv X pins σ H s):X.K.In s.heap:=I.ok.mod.ja.keeps I.bk
theorem Inv.lt (I:Inv X pins σ H s):X.env.locals<s.heap.objs.size:=let ⟨_,hn,_⟩:=I.loc;hn.lt
theorem Inv.sz (I:Inv X pins σ H s):X.bI.heap.objs.size≤s.heap.objs.size:=Nat.le_trans I.ok.above (Nat.le_of_lt I.lt)
theorem Inv.BM (I:Inv X pins σ H s) {a:Addr}(h:s.heap.objs.size≤a):a∉X.fs:=fun hb=>by
 obtain⟨_,o,ho,_⟩:=I.ok.cQ.mem hb
 exact absurd (Nat.lt_of_lt_of_le (Heap.lt_size ho) (Nat.le_trans I.sz h)) (Nat.lt_irrefl _)
theorem Inv.eW (I:Inv X pins σ H s):∀x c,X.env.cells.lookup x=some c→c≠X.env.locals:=fun x c e z=>by
 obtain⟨v,o,ho,hd⟩:=I.cell x c e
 obtain⟨m,⟨o',es,ep,bX,jk,_⟩,_⟩:=I.loc
 rw[z,bX]at ho;cases ho;rw[jk]at hd;cases hd
theorem Inv.cQ (I:Inv X pins σ H s):s.heap.FunFrames X.base X.outer:=by
 have all:∀(l:List Env),(∀b∈aN l,b∈X.fs)→X.bI.heap.FunFrames X.base l→s.heap.FunFrames X.base l:=by
  intro l
  induction l with
  |nil=>intro _ _;trivial
  |cons env r ih=>
   intro hs hl
   obtain⟨hk,⟨L,o,hf,hn,ho,hd⟩,hr⟩:=hl
   have hL:L∈X.fs:=hs L (by unfold aN;rw[List.filterMap_cons,hf];exact List.mem_cons_self)
   obtain⟨sl,e⟩:=I.base.slot L o ho (I.ok.eU L hL) hL fun z=>I.ok.iw L z hL
   exact⟨hk,⟨L,_,hf,hn,e,hd⟩,ih (fun b hb=>hs b (by unfold aN;rw[List.filterMap_cons,hf];exact List.mem_cons_of_mem _ hb)) hr⟩
 exact all X.outer (fun _ hb=>hb) I.ok.cQ
theorem Inv.stack (I:Inv X pins σ H s):s.heap.FunFrames X.base X.stack:=by
 rcases I.ok.jF with e |⟨e,hf⟩
 ·rw[e];exact I.cQ
 ·rw[e]
  obtain⟨m,hn,_⟩:=I.loc
  refine .cons (by rw[I.ok.kind];decide) hf hn ?_ I.cQ
  exact Heap.get?_none_of_le (Nat.le_trans I.ok.fW I.ok.above)
theorem Inv.nW (I:Inv X pins σ H s):∀b∈aN X.stack,b∈X.env.locals::X.fs:=fun b hb=>by
 rcases I.ok.jF with e |⟨e,hf⟩
 ·rw[e]at hb;exact List.mem_cons_of_mem _ hb
 ·rw[e]at hb
  unfold aN at hb
  rw[List.filterMap_cons,hf]at hb
  exact hb
theorem Inv.kM (I:Inv X pins σ H s):∀b∈aN X.stack,H b=none:=fun b hb=>by
 rcases List.mem_cons.mp (I.nW b hb) with e |hb
 ·rw[e];exact I.free
 ·obtain⟨_,o,ho,_⟩:=I.ok.cQ.mem hb
  exact I.base.free b o ho (I.ok.eU b hb) fun z=>I.ok.iw b z hb
theorem Inv.step {g':Array GenState}{t':Nat}{d':Drawn}{ch:List Addr}(I:Inv X pins σ H s)
  (eP:∀b∈ch,(b∈X.ex∨X.bI.heap.objs.size≤b)∧b≠X.env.locals∧(∀x c,X.env.cells.lookup x=some c→c≠b)∧∀p∈X.pn++pins,p.1≠b)
  (keep:∀b o,b≠X.env.locals→b∉X.fs→b∉ch→s.heap.get? b=some o→H b=none→h'.get? b=some o)
  (slot:∀b o,b≠X.env.locals→b∈X.fs→b∉ch→s.heap.get? b=some o→H b=none→∃sl,h'.get? b=some {o with slots:=sl}) (free:∀b o,b∉ch→s.heap.get? b=some o→H b=none→H' b=none)
  (there:∀b o,b∉ch→s.heap.get? b=some o→∃o',h'.get? b=some o')
  (dG:∀b xs,H b=some (.tup xs)→H' b=some (.tup xs)) (dC:∀b o u,H b=some (.bP o u)→H' b=some (.bP o u)) (dr:∀b ps,H b=some (.bS ps)→∃more,H' b=some (.bS (ps++more)))
  (ns:∀m,s.heap.Ns X.env.locals m→h'.Ns X.env.locals m) (ai:bg X.prog X.w H' h') (hg:AllBare g'):
  Inv X pins σ H' {s with heap:=h',gens:=g',drawn:=d',toks:=t'} :=by
 have wA:∀b o,X.bI.heap.get? b=some o→b≠X.env.locals:=fun b o e=>Nat.ne_of_lt (Nat.lt_of_lt_of_le (Heap.lt_size e) I.ok.above)
 have cO:∀b o,X.bI.heap.get? b=some o→b∉X.ex→b∉ch:=fun b o e hx hb=>by
  rcases (eP b hb).1 with z |z
  ·exact hx z
  ·exact absurd (Nat.lt_of_lt_of_le (Heap.lt_size e) z) (Nat.lt_irrefl _)
 have cellK:∀x c,X.env.cells.lookup x=some c→∀v,s.heap.IsCell c v→h'.IsCell c v:=fun x c e v ⟨o,ho,hd⟩=>by
  have lL:c∉ch:=fun z=> (eP c z).2.2.1 x c e rfl
  by_cases hc:c∈X.fs
  ·obtain⟨sl,q⟩:=slot c o (I.eW x c e) hc lL ho (I.dO x c e)
   exact⟨_,q,hd⟩
  ·exact⟨o,keep c o (I.eW x c e) hc lL ho (I.dO x c e),hd⟩
 refine⟨I.ok,I.os,hg,⟨fun b o e n hb hx=> ?_,fun b o e n hb hx=> ?_,fun b o e n hx=> ?_,fun b o e hx=> ?_,fun b xs e=>dG b xs (I.base.dG b xs e),fun b o xs e=>dC b o xs (I.base.dC b o xs e),fun b ps e=> ?_⟩,?_,fun x c e=> ?_,?_,fun x c e=> ?_,fun p hp=> ?_,ai,I.len⟩
 ·exact keep b o (wA b o e) hb (cO b o e hx) (I.base.keep b o e n hb hx) (I.base.free b o e n hx)
 ·obtain⟨sl,e1⟩:=I.base.slot b o e n hb hx
  obtain⟨AY,e2⟩:=slot b _ (wA b o e) hb (cO b o e hx) e1 (I.base.free b o e n hx)
  exact⟨AY,e2⟩
 ·obtain⟨o',e1⟩:=I.base.there b o e hx
  exact free b o' (cO b o e hx) e1 (I.base.free b o e n hx)
 ·obtain⟨o',e1⟩:=I.base.there b o e hx
  exact there b o' (cO b o e hx) e1
 ·obtain⟨m1,e1⟩:=I.base.dr b ps e
  obtain⟨m2,e2⟩:=dr b _ e1
  exact⟨m1++m2,by rw[e2,Array.append_assoc]⟩
 ·obtain⟨m,hn,hl⟩:=I.loc
  refine⟨m,ns m hn,fun i x v e1 e2 e3=> ?_⟩
  obtain⟨u,r,l⟩:=hl i x v e1 e2 e3
  refine⟨u,r,?_⟩
  rcases l with l |⟨k,c,e,z⟩
  ·exact .inl l
  ·exact .inr ⟨k,c,e,cellK x c e _ z⟩
 ·obtain⟨v,z⟩:=I.cell x c e
  exact⟨v,cellK x c e v z⟩
 ·obtain⟨m,⟨o,_,_,ho,_⟩,_⟩:=I.loc
  exact free _ o (fun z=> (eP _ z).2.1 rfl) ho I.free
 ·obtain⟨v,o,ho,hd⟩:=I.cell x c e
  exact free c o (fun z=> (eP c z).2.2.1 x c e rfl) ho (I.dO x c e)
 ·obtain⟨e,n,ne,nf,d⟩:=I.pin p hp
  have lL:p.1∉ch:=fun z=> (eP p.1 z).2.2.2 p hp rfl
  exact⟨keep p.1 p.2 ne nf lL e n,free p.1 p.2 lL e n,ne,nf,d⟩
theorem Inv.un {t':Nat}(I:Inv X pins σ H s) (u:Un X.fs [] H H' s.heap h') (ai:bg X.prog X.w H' h'):Inv X pins σ H' {s with heap:=h',toks:=t'} :=by
 obtain⟨m,⟨o,es,ep,ho,r⟩,_⟩:=id I.loc
 obtain⟨sl,hL⟩:=u.any ho I.free (by simp)
 exact I.step (g':=s.gens) (d':=s.drawn) (ch:=[]) (fun _ z=>nomatch z) (fun b o _ hb _ e n=>u.keep b o e n hb (by simp)) (fun b o _ hb _ e n=>u.slot b o e n hb (by simp)) (fun b o _ e n=>u.free b o e n (by simp)) (fun b o _ e=>u.there b o e (by simp)) u.dG u.dC u.dr (fun m' hm=>by
  obtain⟨o',tM,mD,bX,r'⟩:=hm
  rw[ho]at bX;cases bX
  exact⟨_,tM,mD,hL,r'⟩) ai I.bare
theorem Inv.call {g':Array GenState}{t':Nat}{d':Drawn}{ch:List Addr}(I:Inv X pins σ H s) (u:Un (aN X.stack) ch H H' s.heap h') (ai:bg X.prog X.w H' h') (hg:AllBare g')
  (eP:∀b∈ch,(b∈X.ex∨X.bI.heap.objs.size≤b)∧b≠X.env.locals∧(∀x c,X.env.cells.lookup x=some c→c≠b)∧∀p∈X.pn++pins,p.1≠b):
  Inv X pins σ H' {s with heap:=h',gens:=g',drawn:=d',toks:=t'} :=by
 obtain⟨m,⟨o,es,ep,ho,r⟩,_⟩:=id I.loc
 obtain⟨sl,hL⟩:=u.any ho I.free fun z=> (eP _ z).2.1 rfl
 exact I.step (ch:=ch) eP (fun b o hL hb hc e n=>u.keep b o e n (fun z=> (List.mem_cons.mp (I.nW b z)).elim hL hb) hc) (fun b o _ _ hc e n=>u.any e n hc) (fun b o hc e n=>u.free b o e n hc) (fun b o hc e=>u.there b o e hc) u.dG u.dC u.dr (fun m' hm=>by
  obtain⟨o',tM,mD,bX,r'⟩:=hm
  rw[ho]at bX;cases bX
  exact⟨_,tM,mD,hL,r'⟩) ai hg
theorem Inv.turned {t':Nat}{it:Addr}(I:Inv X pins σ H s) (k:∀b o,b≠it→s.heap.get? b=some o→h'.get? b=some o) (hn:H it=none) (hL:it≠X.env.locals)
  (h1:it∈X.ex∨X.bI.heap.objs.size≤it) (h2:∀x c,X.env.cells.lookup x=some c→c≠it) (h3:∀p∈X.pn++pins,p.1≠it):Inv X pins σ H {s with heap:=h',toks:=t'} :=by
 have wx:∀b u,H b=some u→b≠it:=fun b u e z=>by rw[z,hn]at e;cases e
 refine I.step (g':=s.gens) (d':=s.drawn) (ch:=[it]) (fun b hb=> ?_) (fun b o _ _ hc e _=>k b o (fun z=>hc (by simp[z])) e) (fun b o _ _ hc e _=> ⟨o.slots,k b o (fun z=>hc (by simp[z])) e⟩) (fun _ _ _ _ n=>n)
  (fun b o hc e=> ⟨o,k b o (fun z=>hc (by simp[z])) e⟩) (fun _ _ e=>e) (fun _ _ _ e=>e) (fun b ps e=> ⟨#[],by rw[e];simp⟩) (fun m hm=> ?_) (fun b u e=> ?_) I.bare
 ·have e:b=it:=by simpa using hb
  subst e
  exact⟨h1,hL,h2,h3⟩
 ·obtain⟨o,es,ep,ho,r⟩:=hm
  exact⟨o,es,ep,k _ o (Ne.symm hL) ho,r⟩
 ·refine(I.ai b u e).bK (fun c v hc q=>k c v ?_ q) (fun _ q=>q) fun _ _ q=>q
  rcases hc with z |z
  ·rw[z];exact wx b u e
  ·exact wx c _ z
theorem Inv.tok (I:Inv X pins σ H s) (t:Nat):Inv X pins σ H {s with toks:=t} :=I.un (h':=s.heap) (t':=t) Un.refl I.ai
theorem Inv.kept {t':Nat}(I:Inv X pins σ H s) (k:∀b u,s.heap.get? b=some u→h'.get? b=some u):Inv X pins σ H {s with heap:=h',toks:=t'} :=I.un (Un.kept k) (I.ai.kept k)
theorem Inv.laid {a:Addr}{o:HO}{t':Nat}(I:Inv X pins σ H s) (k:∀b u,s.heap.get? b=some u→h'.get? b=some u) (hp:s.heap.objs.size≤a) (new:ba X.prog X.w (upd H a o) h' a o):
  Inv X pins σ (upd H a o) {s with heap:=h',toks:=t'} :=I.un (Un.laid k hp (I.ai.fresh hp)) (I.ai.laid k hp new)
theorem Inv.write {x e:Addr}{o:HO}{t':Nat}(I:Inv X pins σ H s) (mu:pP (H x)) (he:e=x∨H e=some (.own x)) (k:∀b u,b≠e→s.heap.get? b=some u→h'.get? b=some u) (ka:∃u,h'.get? e=some u)
  (new:ba X.prog X.w (upd H x o) h' x o):Inv X pins σ (upd H x o) {s with heap:=h',toks:=t'} :=I.un (Un.write mu he k ka) (I.ai.write mu he k ka new)
theorem Inv.wj {wk:List (Addr×Obj)}(I:Inv X pins σ H s) (h:∀p∈wk,s.heap.get? p.1=some p.2∧H p.1=none∧p.1≠X.env.locals∧p.1∉X.fs∧∀v,p.2.data≠.cell v):Inv X wk σ H s:=
 ⟨I.ok,I.os,I.bare,I.base,I.loc,I.cell,I.free,I.dO,fun p hp=> (List.mem_append.mp hp).elim (fun z=>I.pin p (List.mem_append_left _ z)) (h p),I.ai,I.len⟩
theorem JX {N:List Str}(hN:N.Nodup) {i j:Nat}{x:Str}(a:N[i]? =some x) (b:N[j]? =some x):i=j:=by
 obtain⟨h1,e1⟩:=List.getElem?_eq_some_iff.mp a
 obtain⟨h2,e2⟩:=List.getElem?_eq_some_iff.mp b
 exact(List.getElem_inj hN).mp (e1.trans e2.symm)
theorem Jh {M:Model}{A:Around}{E:Value→Shared→Prop}{i:Nat}{x:Str}{v:V}{u:Value}{Q:Unit→Shared→Prop}(I:Inv X pins σ H s) (hN:X.N.Nodup) (hi:X.N[i]? =some x) (hx:Loc X.env.scope x) (r:RelV v u)
  (h:∀s',Inv X pins (σ.set i (some v)) H s'→(∃a,Heap.SameBut a s.heap s'.heap∧(a=X.env.locals∨X.env.cells.lookup x=some a))→Q () s') (hf:X.fn x=true∨X.env.scope.names.lookup x=some .local:=by first |exact .inl rfl |exact .inr rfl |assumption):wpAny M A (storeName X.env x u) Q E s:=by
 obtain⟨m,hn,hl⟩:=id I.loc
 have sL:(X.env.scope.kind==.class||(X.env.scope.kind==.module&&X.env.locals !=X.env.globals))=false:=by rw[I.ok.kind];rfl
 have xF:i<σ.length:=by rw[I.len];exact(List.getElem?_eq_some_iff.mp hi).1
 have eW:=I.eW
 have tracked:∀{a:Addr}{h':Heap},(∃o,s.heap.get? a=some o∧H a=none)→Heap.SameBut a s.heap h'→bg X.prog X.w H h':=fun {a h'} ha hs b ob e=>by
  obtain⟨_,_,xH⟩:=ha
  refine(I.ai b ob e).bK (fun c w' hc q=> (hs.2 c ?_).trans q) (fun _ q=>q) fun _ _ q=>q
  rintro rfl
  rcases hc with rfl |hc
  ·rw[xH]at e;cases e
  ·rw[xH]at hc;cases hc
 rcases hx with hk |hk
 ·refine wpAny_storeName_local hk hn (fun h' Di hs=> ?_) sL
  obtain⟨oL,_,_,hoL,_⟩:=id hn
  refine h _ ⟨I.ok,I.os,I.bare,⟨fun b o e n hb hx=> ?_,fun b o e n hb hx=> ?_,I.base.free,fun b o e hx=> ?_,I.base.dG,I.base.dC,I.base.dr⟩,⟨_,Di,fun j y v' e1 e2 e3=> ?_⟩,fun y c e=> ?_,I.free,I.dO,fun p hp=> ?_,tracked ⟨oL,hoL,I.free⟩ hs,by simpa using I.len⟩ ⟨_,hs,.inl rfl⟩
  ·exact(hs.2 b (Nat.ne_of_lt (Nat.lt_of_lt_of_le (Heap.lt_size e) I.ok.above))).trans (I.base.keep b o e n hb hx)
  ·obtain⟨sl,e1⟩:=I.base.slot b o e n hb hx
   exact⟨sl,(hs.2 b (Nat.ne_of_lt (Nat.lt_of_lt_of_le (Heap.lt_size e) I.ok.above))).trans e1⟩
  ·obtain⟨o',e1⟩:=I.base.there b o e hx
   exact⟨o',(hs.2 b (Nat.ne_of_lt (Nat.lt_of_lt_of_le (Heap.lt_size e) I.ok.above))).trans e1⟩
  ·by_cases hj:j=i
   ·subst hj
    rw[hi]at e1;cases e1
    rw[List.getElem?_set_self xF]at e2
    cases e2
    exact⟨u,r,.inl ⟨hk,by simp⟩⟩
   ·rw[List.getElem?_set_ne (Ne.symm hj)]at e2
    obtain⟨u',r',q⟩:=hl j y v' e1 e2 e3
    refine⟨u',r',?_⟩
    rcases q with ⟨k,e⟩ |⟨k,c,e,z⟩
    ·refine .inl ⟨k,?_⟩
     have:y≠x:=fun e=>hj (JX hN e1 (e▸hi))
     simp[this,e]
    ·exact .inr ⟨k,c,e,z.sameBut hs (eW y c e)⟩
  ·obtain⟨w',z⟩:=I.cell y c e
   exact⟨w',z.sameBut hs (eW y c e)⟩
  ·obtain⟨e,n,ne,nf,d⟩:=I.pin p hp
   exact⟨(hs.2 p.1 ne).trans e,n,ne,nf,d⟩
 ·have eo:X.fn x=true:=by
   rcases hf with z |z
   ·exact z
   ·rw[z]at hk;cases hk
  obtain⟨c,hc⟩:=I.ok.has x (.inl hk)
  obtain⟨w',z⟩:=I.cell x c hc
  refine wpAny_storeName_cell I.ok.kind hk hc z (fun h' bj hs=> ?_)
  obtain⟨oc,xl,Dd⟩:=id z
  refine h {s with heap:=h'} ⟨I.ok,I.os,I.bare,⟨fun b o e n hb hx=> ?_,fun b o e n hb hx=> ?_,I.base.free,fun b o e hx=> ?_,I.base.dG,I.base.dC,I.base.dr⟩,⟨m,hn.sameBut hs (Ne.symm (eW x c hc)),fun j y v' e1 e2 e3=> ?_⟩,fun y c' e=> ?_,I.free,I.dO,fun p hp=> ?_,tracked ⟨oc,xl,I.dO x c hc⟩ hs,by simpa using I.len⟩ ⟨c,hs,.inr hc⟩
  ·exact(hs.2 b (Nat.ne_of_lt (Nat.lt_of_lt_of_le (Heap.lt_size e) (I.ok.iA x c eo hc)))).trans (I.base.keep b o e n hb hx)
  ·obtain⟨sl,e1⟩:=I.base.slot b o e n hb hx
   exact⟨sl,(hs.2 b (Nat.ne_of_lt (Nat.lt_of_lt_of_le (Heap.lt_size e) (I.ok.iA x c eo hc)))).trans e1⟩
  ·obtain⟨o',e1⟩:=I.base.there b o e hx
   exact⟨o',(hs.2 b (Nat.ne_of_lt (Nat.lt_of_lt_of_le (Heap.lt_size e) (I.ok.iA x c eo hc)))).trans e1⟩
  ·by_cases hj:j=i
   ·subst hj
    rw[hi]at e1;cases e1
    rw[List.getElem?_set_self xF]at e2
    cases e2
    exact⟨u,r,.inr ⟨.inl hk,c,hc,bj⟩⟩
   ·rw[List.getElem?_set_ne (Ne.symm hj)]at e2
    obtain⟨u',r',q⟩:=hl j y v' e1 e2 e3
    refine⟨u',r',?_⟩
    rcases q with q |⟨k,c',e,z'⟩
    ·exact .inl q
    ·refine .inr ⟨k,c',e,z'.sameBut hs ?_⟩
     rintro rfl
     exact hj (JX hN e1 (I.ok.inj _ _ _ e hc▸hi))
  ·by_cases eQ:c'=c
   ·subst eQ;exact⟨_,bj⟩
   ·obtain⟨w2,z2⟩:=I.cell y c' e
    exact⟨w2,z2.sameBut hs eQ⟩
  ·obtain⟨e,n,ne,nf,d⟩:=I.pin p hp
   refine⟨(hs.2 p.1 ?_).trans e,n,ne,nf,d⟩
   intro q
   rw[q,xl]at e
   have q':oc=p.2:=Option.some.inj e
   exact d w' (by rw[←q'];exact Dd)
theorem Z8 {M:Model}{A:Around}{E:Value→Shared→Prop}{i:Nat}{x:Str}{v:V}{u:Value}{Q:Unit→Shared→Prop}(I:Inv X pins σ H s) (hN:X.N.Nodup) (hi:X.N[i]? =some x) (hx:Loc X.env.scope x) (r:RelV v u)
  (h:∀s',Inv X pins (σ.set i (some v)) H s'→Q () s') (hf:X.fn x=true∨X.env.scope.names.lookup x=some .local:=by first |exact .inl rfl |exact .inr rfl |assumption):wpAny M A (storeName X.env x u) Q E s:=
 Jh I hN hi hx r (fun s' I' _=>h s' I') hf
theorem Inv.tT {s':Shared}{ch:List Addr}(I:Inv X pins σ H s) (ho:s'.os=s.os) (u:Un (aN X.stack) ch H H' s.heap s'.heap) (ai:bg X.prog X.w H' s'.heap) (hg:AllBare s'.gens)
  (eP:∀b∈ch,(b∈X.ex∨X.bI.heap.objs.size≤b)∧b≠X.env.locals∧(∀x c,X.env.cells.lookup x=some c→c≠b)∧∀p∈X.pn++pins,p.1≠b):Inv X pins σ H' s':=by
 obtain⟨h',g',d',t',o'⟩:=s'
 have e:o'=s.os:=ho
 subst e
 exact I.call (g':=g') (t':=t') (d':=d') u ai hg eP
end
abbrev XK:=Value→Option Addr→Hp→Prop
abbrev St:=List (Option V)
abbrev VK:=V→Hp→Prop
abbrev TE:=St→Hp→VK→Prop
abbrev TT:=St→Hp→(Bool→Hp→Prop)→Prop
abbrev TA:=St→Hp→(List V→Hp→Prop)→Prop
structure Ends where
 nx:St→Hp→Prop
 rt:VK
 bk:St→Hp→Prop:=fun _ _=>False
 ct:St→Hp→Prop:=fun _ _=>False
abbrev TS:=Ends→St→Hp→Prop
def EP (X:Cx) (pins:List (Addr×Obj)) (σ:St) (Q:VK) (u:Value) (s':Shared):Prop:=∃v H',Inv X pins σ H' s'∧RelV v u∧Q v H'
def TP (X:Cx) (pins:List (Addr×Obj)) (σ:St) (Q:Bool→Hp→Prop) (b:Bool) (s':Shared):Prop:=∃H',Inv X pins σ H' s'∧Q b H'
def AP (X:Cx) (pins:List (Addr×Obj)) (σ:St) (Q:List V→Hp→Prop) (us:List Value) (s':Shared):Prop:=∃vs H',Inv X pins σ H' s'∧Vals vs us∧Q vs H'
def SP (X:Cx) (pins:List (Addr×Obj)) (D:Ends) (f:Flow) (s':Shared):Prop:=
 match f with
 | .next=> ∃af H',Inv X pins af H' s'∧D.nx af H'
 | .brk=> ∃af H',Inv X pins af H' s'∧D.bk af H'
 | .cont=> ∃af H',Inv X pins af H' s'∧D.ct af H'
 | .ret u=> ∃v af H',Inv X pins af H' s'∧RelV v u∧D.rt v H'
def PE (X:Cx) (e:Expr) (t:TE):Prop:=
 ∀(pins:List (Addr×Obj)) (s:Shared) (σ:St) (H:Hp) (Q:VK),Inv X pins σ H s→t σ H Q→wpAny (model X.prog X.w) X.A (eval e X.env) (EP X pins σ Q) X.xe s
def PT (X:Cx) (e:Expr) (t:TT):Prop:=
 ∀(pins:List (Addr×Obj)) (s:Shared) (σ:St) (H:Hp) (Q:Bool→Hp→Prop),Inv X pins σ H s→t σ H Q→wpAny (model X.prog X.w) X.A (isTrue e X.env (eval e X.env)) (TP X pins σ Q) X.xe s
def PW (X:Cx) (e:Expr) (t:TT):Prop:=
 ∀(whole:Sem Value) (pins:List (Addr×Obj)) (s:Shared) (σ:St) (H:Hp) (Q:Bool→Hp→Prop),Inv X pins σ H s→t σ H Q→wpAny (model X.prog X.w) X.A (isTrue e X.env whole) (TP X pins σ Q) X.xe s
theorem PW.pt {X:Cx}{e:Expr}{t:TT}(h:PW X e t):PT X e t:=h _
def PA (X:Cx) (es:List Expr) (t:TA):Prop:=
 ∀(pos:Pos) (pins:List (Addr×Obj)) (s:Shared) (σ:St) (H:Hp) (Q:List V→Hp→Prop),Inv X pins σ H s→t σ H Q→wpAny (model X.prog X.w) X.A (spliced (backTo pos (starEach es X.env))) (AP X pins σ Q) X.xe s
def PS (X:Cx) (st:Stmt) (t:TS):Prop:=
 ∀(pins:List (Addr×Obj)) (s:Shared) (σ:St) (H:Hp) (D:Ends),Inv X pins σ H s→t D σ H→wpAny (model X.prog X.w) X.A (exec st X.env) (SP X pins D) X.xe s
def cC (X:Cx) (st:List Stmt) (t:TS):Prop:=
 ∀(pins:List (Addr×Obj)) (s:Shared) (σ:St) (H:Hp) (D:Ends),Inv X pins σ H s→t D σ H→wpAny (model X.prog X.w) X.A (execs st X.env) (SP X pins D) X.xe s
theorem ao {α:Type}{t:Sem α}{Q Q':α→Shared→Prop}{M:Model}{A:Around}{E:Value→Shared→Prop}{s:Shared}(h:wpAny M A t Q E s) (hQ:∀a s,Q a s→Q' a s):wpAny M A t Q' E s:=wpAny_mono h hQ fun _ _ x=>x
section
variable {X:Cx}
def nR (i:Nat):TE:=fun σ H Q=> ∃v,σ[i]? =some (some v)∧Q v H
def tC (v:V):TE:=fun _ H Q=>Q v H
theorem Jn {i:Nat}{x:Str}{pos:Pos}(hN:X.N[i]? =some x) (hv:mQ X.env.scope x) (hd:(x==("__debug__" :Str))=false:=by decide) (bW:(x==("__classdict__" :Str))=false:=by decide):PE X (.Name x pos) (nR i):=by
 intro pins s σ H Q I h
 obtain⟨v,e,h⟩:=h
 obtain⟨m,hn,hl⟩:=I.loc
 obtain⟨u,r,l⟩:=hl i x v hN e hv
 have fin:EP X pins σ Q u s:=⟨v,H,I,r,h⟩
 rcases l with ⟨hk,hm⟩ |⟨hk,c,hc,ip⟩
 ·exact wpAny_Name (wpAny_loadName_local I.ok.kind hk hn hm fin) hd
 ·rcases hk with hk |hk
  ·exact wpAny_Name (wpAny_loadName_cell I.ok.kind hk hc ip fin) hd
  ·exact wpAny_Name (wpAny_loadName_free I.ok.kind hk hc ip fin bW) hd
theorem Zf {i j pos} :PE X (.Constant (.int i) j pos) (tC (.int i)):=fun _ _ _ H _ I h=>wpAny_Constant_int ⟨.int i,H,I.tok _,⟨_,rfl⟩,h⟩
theorem Uv {b j pos} :PE X (.Constant (.bool b) j pos) (tC (.bl b)):=fun _ _ _ H _ I h=>Constant_bool ⟨.bl b,H,I,rfl,h⟩
theorem Z5 {j pos} :PE X (.Constant .none j pos) (tC .ae):=fun _ _ _ H _ I h=>Constant_none ⟨.ae,H,I,rfl,h⟩
theorem Zv {x j pos} :PE X (.Constant (.str x) j pos) (tC (.str x)):=fun _ _ _ H _ I h=>Calls.Constant_str ⟨.str x,H,I.tok _,⟨_,rfl⟩,h⟩
def Gl (X:Cx) (x:Str):Prop:=X.env.kindOf x=some .globalImplicit
theorem YQ {E:Value→Shared→Prop}{pins:List (Addr×Obj)}{s:Shared}{σ:St}{H:Hp}{x:Str}{u:Value}{pos:Pos}{Q:Value→Shared→Prop}(I:Inv X pins σ H s) (hg:Gl X x) (hm:X.mg x=some u) (h:Q u s)
  (hd:(x==("__debug__" :Str))=false:=by decide):wpAny (model X.prog X.w) X.A (eval (.Name x pos) X.env) Q E s:=
 Calls.Name_function_global I.ok.kind hg (Calls.loadGlobal_global (by rw[I.ok.glob];exact I.mod.glob.keeps I.bk) hm h) hd
theorem Jp {E:Value→Shared→Prop}{pins:List (Addr×Obj)}{s:Shared}{σ:St}{H:Hp}{x:Str}{u:Value}{pos:Pos}{Q:Value→Shared→Prop}(I:Inv X pins σ H s) (hg:Gl X x) (hm:X.mg x=none) (hv:bootBuiltins x=some u) (h:Q u s)
  (hn:x≠ "__name__" :=by decide) (hd:(x==("__debug__" :Str))=false:=by decide):wpAny (model X.prog X.w) X.A (eval (.Name x pos) X.env) Q E s:=by
 obtain⟨mb,h1,h2⟩:=I.mod.blt
 exact Calls.Name_function_global I.ok.kind hg (Calls.loadGlobal_builtin (by rw[I.ok.glob];exact I.mod.glob.keeps I.bk) hm (by rw[I.ok.blt];exact h1.keeps I.bk) ((h2 x hn).trans hv) h) hd
theorem ZQ {x:Str}{v:V}{u:Value}{pos:Pos}(hg:Gl X x) (hm:X.mg x=some u) (r:RelV v u) (hd:(x==("__debug__" :Str))=false:=by decide):PE X (.Name x pos) (tC v):=
 fun _ _ _ H _ I h=>YQ I hg hm ⟨v,H,I,r,h⟩ hd
theorem ZA {x:Str}{v:V}{u:Value}{pos:Pos}(hg:Gl X x) (hm:X.mg x=none) (hv:bootBuiltins x=some u) (r:RelV v u) (hn:x≠ "__name__" :=by decide) (hd:(x==("__debug__" :Str))=false:=by decide):PE X (.Name x pos) (tC v):=
 fun _ _ _ H _ I h=>Jp I hg hm hv ⟨v,H,I,r,h⟩ hn hd
variable {a b:Expr}{ta tb:TE}{pos:Pos}
def PC (X:Cx) (op:CmpOp) (a b:Expr) (t:TE):Prop:=
 ∀(pins:List (Addr×Obj)) (s:Shared) (σ:St) (H:Hp) (Q:VK),Inv X pins σ H s→t σ H Q→
  wpAny (model X.prog X.w) X.A (eval a X.env) (fun v az=>wpAny (model X.prog X.w) X.A (eval b X.env) (fun u gQ=>wpAny (model X.prog X.w) X.A (compareOp op v u) (EP X pins σ Q) X.xe gQ) X.xe az) X.xe s
theorem BP (b:Expr) {op:CmpOp}(h:op≠.In) (h2:op≠.NotIn):behindInMarks op b=false:=by
 have e1:(op==CmpOp.In)=false:=by cases op<;>first |rfl |exact absurd rfl h
 have e2:(op==CmpOp.NotIn)=false:=by cases op<;>first |rfl |exact absurd rfl h2
 cases b<;>simp[behindInMarks,e1,e2]
def Ax (ta:TE):TE:=fun σ H Q=>ta σ H fun x H1=>Q (.bl (decide (x=.ae))) H1
def As (ta:TE):TE:=fun σ H Q=>ta σ H fun x H1=>Q (.bl (!decide (x=.ae))) H1
theorem RelV.wt {x:V}{v:Value}(r:RelV x v):(v==Value.none)=decide (x=.ae):=by
 cases x with
 |ae=>cases r;rfl
 |bl _=>cases r;rfl
 |int _=>obtain⟨t,rfl⟩:=r;rfl
 |str _=>obtain⟨t,rfl⟩:=r;rfl
 |eY _=>obtain⟨t,rfl⟩:=r;rfl
 |fA _=>obtain⟨t,rfl⟩:=r;rfl
 |ref _=>cases r;rfl
 |ty _=>cases r;rfl
theorem W1 {j pos'} (ha:PE X a ta):PC X .Is a (.Constant .none j pos') (Ax ta):=by
 intro pins s σ H Q I h
 refine ao (ha pins s σ H _ I h) fun v s1 ⟨x,H1,I1,r1,q1⟩=> ?_
 exact Constant_none (is_none_gen ⟨.bl _,H1,I1,by rw[r1.wt];rfl,q1⟩)
theorem W0 {j pos'} (ha:PE X a ta):PC X .IsNot a (.Constant .none j pos') (As ta):=by
 intro pins s σ H Q I h
 refine ao (ha pins s σ H _ I h) fun v s1 ⟨x,H1,I1,r1,q1⟩=> ?_
 exact Constant_none (isnot_none_gen ⟨.bl _,H1,I1,by rw[r1.wt];rfl,q1⟩)
def tB (t:TE):TT:=fun σ H Q=>t σ H fun x H1=> ∃c,x=.bl c∧Q c H1
theorem YI {op:CmpOp}{t:TE}(h:PC X op a b t) (h1:behindInMarks op b=false:=by first |exact BP _ (by decide) (by decide) |rfl):PT X (.Compare a [op] [b] pos) (tB t):=by
 intro pins s σ H Q I hw
 refine wpAny_isTrue_Compare1 (ao (h pins s σ H _ I hw) fun v s1 h1=>ao h1 fun u s2 h2=>ao h2 fun c s3 ⟨x,H1,I1,r1,q1⟩=> ?_) h1
 obtain⟨d,rfl,q⟩:=q1
 cases r1
 exact wpAny_truthy_bool ⟨H1,I1,q⟩
theorem ZJ {e:Expr}{t:TE}(h:PE X e t) (he:∀whole,isTrue e X.env whole=(do let v ←whole;standAt e.pos;holding [v] (truthy v)):=by intro _;rfl):PT X e (tB t):=by
 intro pins s σ H Q I hw
 refine isTrue_plain (ao (h pins s σ H _ I hw) fun v s1 ⟨x,H1,I1,r1,q1⟩=> ?_) (he _)
 obtain⟨d,rfl,q⟩:=q1
 cases r1
 exact wpAny_truthy_bool ⟨H1,I1,q⟩
variable {tA nV:TT}{rest:List Expr}
def AN (t u:TT):TT:=fun σ H Q=>t σ H fun c H1=>if c=true then u σ H1 Q else Q false H1
def Aq (t u:TT):TT:=fun σ H Q=>t σ H fun c H1=>if c=true then Q true H1 else u σ H1 Q
def Au (t:TT):TT:=fun σ H Q=>t σ H fun c H1=>Q (!c) H1
theorem WU (ha:PT X a tA):PW X (.BoolOp .And [a] pos) tA:=by
 intro wh pins s σ H Q I h
 refine isTrue_and (ao (ha pins s σ H Q I h) fun c s1 e=> ?_)
 cases c with
 |true=>exact isTrue_and_nil e
 |false=>exact e
theorem JR (ha:PT X a tA):PW X (.BoolOp .Or [a] pos) tA:=by
 intro wh pins s σ H Q I h
 refine isTrue_or (ao (ha pins s σ H Q I h) fun c s1 e=> ?_)
 cases c with
 |false=>exact isTrue_or_nil e
 |true=>exact e
theorem JS (ha:PT X a tA) (hb:PW X (.BoolOp .And (b::rest) pos) nV):PW X (.BoolOp .And (a::b::rest) pos) (AN tA nV):=by
 intro wh pins s σ H Q I h
 refine isTrue_and (ao (ha pins s σ H _ I h) fun c s1 ⟨H1,I1,q1⟩=> ?_)
 cases c with
 |true=>exact hb wh pins s1 σ H1 Q I1 q1
 |false=>exact⟨H1,I1,q1⟩
theorem Ur (ha:PT X a tA) (hb:PW X (.BoolOp .Or (b::rest) pos) nV):PW X (.BoolOp .Or (a::b::rest) pos) (Aq tA nV):=by
 intro wh pins s σ H Q I h
 refine isTrue_or (ao (ha pins s σ H _ I h) fun c s1 ⟨H1,I1,q1⟩=> ?_)
 cases c with
 |true=>exact⟨H1,I1,q1⟩
 |false=>exact hb wh pins s1 σ H1 Q I1 q1
theorem Yc (ha:PT X a tA):PT X (.UnaryOp .Not a pos) (Au tA):=by
 intro pins s σ H Q I h
 exact isTrue_not (ha pins s σ H (fun c H1=>Q (!c) H1) I h)
def AM (ta tb:TE):TE:=fun σ H Q=>ta σ H fun x H1=> ∃c,x=.bl c∧if c=true then tb σ H1 Q else Q (.bl false) H1
def Ar (ta:TE):TE:=fun σ H Q=>ta σ H fun x H1=> ∃c,x=.bl c∧Q (.bl (!c)) H1
theorem Yv {op}{t:TE}(h:PE X a t):PE X (.BoolOp op [a] pos) t:=fun pins s σ H Q I hw=>BoolOp_one (h pins s σ H Q I hw)
theorem Yp (ha:PE X a ta) (hb:PE X (.BoolOp .And (b::rest) pos) tb):PE X (.BoolOp .And (a::b::rest) pos) (AM ta tb):=by
 intro pins s σ H Q I h
 refine BoolOp_and (ao (ha pins s σ H _ I h) fun v s1 ⟨x,H1,I1,r1,q1⟩=> ?_)
 obtain⟨c,rfl,q1⟩:=q1
 cases r1
 refine wpAny_truthy_bool ?_
 cases c with
 |true=>exact hb pins s1 σ H1 Q I1 q1
 |false=>exact⟨.bl false,H1,I1,rfl,q1⟩
theorem yO (ha:PE X a ta):PE X (.UnaryOp .Not a pos) (Ar ta):=by
 intro pins s σ H Q I h
 refine UnaryOp_ (ao (ha pins s σ H _ I h) fun v s1 ⟨x,H1,I1,r1,q1⟩=> ?_)
 obtain⟨c,rfl,q1⟩:=q1
 cases r1
 exact not_of (wpAny_truthy_bool ⟨.bl (!c),H1,I1,rfl,q1⟩)
def Az (t:TT) (ta tb:TE):TE:=fun σ H Q=>t σ H fun c H1=>if c=true then ta σ H1 Q else tb σ H1 Q
theorem Y7 {c:Expr}(hc:PT X c tA) (ha:PE X a ta) (hb:PE X b tb):PE X (.IfExp c a b pos) (Az tA ta tb):=by
 intro pins s σ H Q I h
 refine wpAny_IfExp (ao (hc pins s σ H _ I h) fun d s1 ⟨H1,I1,q1⟩=> ?_)
 cases d with
 |true=>exact ha pins s1 σ H1 Q I1 q1
 |false=>exact hb pins s1 σ H1 Q I1 q1
end
def ak (K:PySem.W.Frag) (H:Hp) (a:Addr) (xs:List V):Prop:=
 Rd H a (.lst xs)∨
  ∃(o:Obj) (aa:Array Value) (n:Nat),K.lookup a=some o∧o.cls=.type "list" ∧o.dict=none∧o.data=.seq aa n∧aa.size≤sizeLine∧Vals xs aa.toList
def aj (K:PySem.W.Frag) (H:Hp) (a:Addr) (xs:List V):Prop:=
 Rd H a (.tup xs)∨
  (∃(o:Obj) (aa:Array Value) (n:Nat),K.lookup a=some o∧o.cls=.type "tuple" ∧o.data=.seq aa n∧aa.size≤sizeLine∧Vals xs aa.toList)∨H a=some (.par xs)
def Fy:Value→Option V
 | .none=>some .ae
 | .bool b=>some (.bl b)
 | .int i _=>some (.int i)
 | .str x _=>some (.str x)
 | .bytes b _=>some (.eY b)
 | .float b _=>some (.fA b)
 | .ref a=>some (.ref a)
 | .type n=>some (.ty n)
 |_=>none
theorem RelV.abs {x:V}{u:Value}(r:RelV x u):Fy u=some x:=by
 cases x with
 |ae=>cases r;rfl
 |bl _=>cases r;rfl
 |int _=>obtain⟨t,rfl⟩:=r;rfl
 |str _=>obtain⟨t,rfl⟩:=r;rfl
 |eY _=>obtain⟨t,rfl⟩:=r;rfl
 |fA _=>obtain⟨t,rfl⟩:=r;rfl
 |ref _=>cases r;rfl
 |ty _=>cases r;rfl
theorem RelV.inj {x y:V}{u:Value}(r:RelV x u) (q:RelV y u):x=y:=Option.some.inj (r.abs.symm.trans q.abs)
theorem Vals.inj:∀{xs ys:List V}{us:List Value},Vals xs us→Vals ys us→xs=ys
 |_,_,_,.nil,.nil=>rfl
 |_,_,_,.cons r t,.cons r' t'=>by rw[r.inj r',Vals.inj t t']
section
variable {X:Cx}{pins:List (Addr×Obj)}{σ:St}{H:Hp}{s:Shared}{a:Addr}{xs ys:List V}
theorem ak.of {K:PySem.W.Frag}(h:H a=some (.lst xs)):ak K H a xs:=.inl (.inl h)
theorem aj.of {K:PySem.W.Frag}(h:H a=some (.tup xs)):aj K H a xs:=.inl (.inl h)
theorem aj.BH {K:PySem.W.Frag}(h:H a=some (.par xs)):aj K H a xs:=.inr (.inr h)
theorem Inv.list (I:Inv X pins σ H s) (h:ak X.K H a xs):∃aa:List Value,Vals xs aa∧PlainL s.heap a aa.toArray∧xs.length≤sizeLine:=by
 rcases h with h |⟨o,aa,n,hk,hc,hd,hs,hz,r⟩
 ·obtain⟨z,aa,n,r,e⟩:=h.ok I.ai
  exact⟨aa,r,⟨_,n,e,rfl,rfl,rfl⟩,z⟩
 ·refine⟨aa.toList,r,⟨o,n,I.bC a o hk,hc,hd,by simpa using hs⟩,?_⟩
  have e:=r.length
  simp only[Array.length_toList]at e
  omega
theorem Inv.tuple (I:Inv X pins σ H s) (h:aj X.K H a xs):∃aa:List Value,Vals xs aa∧IsTup s.heap a aa.toArray∧xs.length≤sizeLine:=by
 rcases h with h |⟨o,aa,n,hk,hc,hs,hz,r⟩ |h
 ·obtain⟨z,aa,r,p,_⟩:=h.ok I.ai
  exact⟨aa,r,p,z⟩
 rotate_left
 ·obtain⟨z,aa,r,p⟩:=(show ba X.prog X.w H s.heap a (.par xs) from I.ai a _ h)
  exact⟨aa,r,p,z⟩
 ·refine⟨aa.toList,r,⟨o,I.bC a o hk,hc,n,by simpa using hs⟩,?_⟩
  have e:=r.length
  simp only[Array.length_toList]at e
  omega
theorem Inv.Ce (I:Inv X pins σ H s) (h:ak X.K H a xs) (h':ak X.K H a ys):xs=ys:=by
 obtain⟨aa,r,⟨o,n,e,_,_,d⟩,_⟩:=I.list h
 obtain⟨its',r',⟨o',n',e',_,_,d'⟩,_⟩:=I.list h'
 rw[e]at e';cases e'
 rw[d]at d'
 injection d' with d1 _
 have:aa=its':=by simpa using congrArg Array.toList d1
 subst this
 exact r.inj r'
theorem Inv.nO (I:Inv X pins σ H s) (h:aj X.K H a xs) (h':aj X.K H a ys):xs=ys:=by
 obtain⟨aa,r,⟨o,e,_,n,d⟩,_⟩:=I.tuple h
 obtain⟨its',r',⟨o',e',_,n',d'⟩,_⟩:=I.tuple h'
 rw[e]at e';cases e'
 rw[d]at d'
 injection d' with d1 _
 have:aa=its':=by simpa using congrArg Array.toList d1
 subst this
 exact r.inj r'
end
abbrev Cx.eH (X:Cx) (E:Value→Shared→Prop):Cx:= {X with xe:=E}
abbrev Cx.aV (X:Cx):Cx:=X.eH fun _ _=>False
theorem Cx.Ok.eH {X:Cx}(ok:X.Ok) (E:Value→Shared→Prop):(X.eH E).Ok:=
 ⟨ok.mod,ok.kind,ok.glob,ok.blt,ok.above,ok.inj,ok.has,ok.iA,ok.hd,ok.frames,ok.jF,ok.ix,ok.bs,ok.fW,ok.i7,ok.iw,ok.cQ,ok.eU⟩
theorem Cx.Ok.gh {X:Cx}{E:Value→Shared→Prop}(ok:(X.eH E).Ok):X.Ok:=
 ⟨ok.mod,ok.kind,ok.glob,ok.blt,ok.above,ok.inj,ok.has,ok.iA,ok.hd,ok.frames,ok.jF,ok.ix,ok.bs,ok.fW,ok.i7,ok.iw,ok.cQ,ok.eU⟩
section
variable {X:Cx}{pins:List (Addr×Obj)}{σ:St}{H:Hp}{s:Shared}{E:Value→Shared→Prop}
theorem Inv.eH (I:Inv X pins σ H s) (E:Value→Shared→Prop):Inv (X.eH E) pins σ H s:=⟨I.ok.eH E,I.os,I.bare,I.base,I.loc,I.cell,I.free,I.dO,I.pin,I.ai,I.len⟩
theorem Inv.gh (I:Inv (X.eH E) pins σ H s):Inv X pins σ H s:=⟨I.ok.gh,I.os,I.bare,I.base,I.loc,I.cell,I.free,I.dO,I.pin,I.ai,I.len⟩
theorem SP.gh {D:Ends}{f:Flow}{s':Shared}(h:SP (X.eH E) pins D f s'):SP X pins D f s':=by
 cases f with
 |next=>obtain⟨af,H',I,q⟩:=h;exact⟨af,H',I.gh,q⟩
 |brk=>obtain⟨af,H',I,q⟩:=h;exact⟨af,H',I.gh,q⟩
 |cont=>obtain⟨af,H',I,q⟩:=h;exact⟨af,H',I.gh,q⟩
 |ret u=>obtain⟨v,af,H',I,r,q⟩:=h;exact⟨v,af,H',I.gh,r,q⟩
theorem cC.aV {st:List Stmt}{t:TS}(h:cC X.aV st t):cC X st t:=fun pins s σ H D I hw=>
 wpAny_mono (h pins s σ H D (I.eH _) hw) (fun _ _ q=>q.gh) fun _ _ z=>False.elim z
end
section
variable {X:Cx}{st:Stmt}{rest:List Stmt}{t u:TS}{e:Expr}{te:TE}{pos:Pos}
def vf:TS:=fun D σ H=>D.nx σ H
def vc (t u:TS):TS:=fun D σ H=>t {D with nx:=u D} σ H
theorem Zt:cC X [] vf:=fun _ _ σ H _ I h=>wpAny_execs_nil ⟨σ,H,I,h⟩
theorem Ze (h1:PS X st t) (h2:cC X rest u):cC X (st::rest) (vc t u):=by
 intro pins s σ H D I h
 refine wpAny_execs_cons (ao (h1 pins s σ H {D with nx:=u D} I h) fun f s1 q=> ?_)
 cases f with
 |next=>
  obtain⟨af,H',I',q⟩:=q
  exact h2 pins s1 af H' D I' q
 |ret v=>exact q
 |brk=>exact q
 |cont=>exact q
theorem Zk (h1:PS X st t):cC X [st] t:=by
 intro pins s σ H D I h
 refine wpAny_execs_cons (ao (h1 pins s σ H D I h) fun f s1 q=> ?_)
 cases f with
 |next=>exact wpAny_execs_nil q
 |ret v=>exact q
 |brk=>exact q
 |cont=>exact q
theorem Inv.quiet {pins:List (Addr×Obj)}{σ:St}{H:Hp}{s:Shared}(I:Inv X pins σ H s):interactive X.env=false:=by simp[interactive,I.ok.kind]
def AE (te:TE):TS:=fun D σ H=>te σ H fun _ H1=>D.nx σ H1
theorem Ys (he:PE X e te) (hs:swapsWith e none pos.line X.env=pure false:=by rfl):PS X (.Expr e pos) (AE te):=by
 intro pins s σ H D I h
 exact wpAny_Expr_any (ao (he pins s σ H _ I h) fun v s1 ⟨x,H1,I1,r1,q1⟩=> ⟨σ,H1,I1,q1⟩) I.quiet hs
def ve (te:TE):TS:=fun D σ H=>te σ H D.rt
theorem Zu (he:PE X e te):PS X (.Return (some e) pos) (ve te):=by
 intro pins s σ H D I h
 exact wpAny_Return_some (ao (he pins s σ H _ I h) fun v s1 ⟨x,H1,I1,r1,q1⟩=> ⟨x,σ,H1,I1,r1,q1⟩)
def Ay (c:TT) (t u:TS):TS:=fun D σ H=>c σ H fun b H1=>if b=true then t D σ H1 else u D σ H1
theorem ZN {c:Expr}{a b:List Stmt}{tc:TT}(hc:PT X c tc) (ha:cC X a t) (hb:cC X b u):PS X (.If c a b pos) (Ay tc t u):=by
 intro pins s σ H D I h
 refine wpAny_If (ao (hc pins s σ H _ I h) fun d s1 ⟨H1,I1,q1⟩=> ?_)
 cases d with
 |true=>exact ha pins s1 σ H1 D I1 q1
 |false=>exact hb pins s1 σ H1 D I1 q1
def Av:TS:=fun _ _ _=>False
theorem ZG {AQ:List Stmt} :cC X AQ Av:=fun _ _ _ _ _ _ h=>h.elim
end
abbrev TG:=V→St→Hp→(St→Hp→Prop)→Prop
abbrev jw:=List V→St→Hp→(St→Hp→Prop)→Prop
def PG (X:Cx) (target:Expr) (t:TG):Prop:=
 ∀(pins:List (Addr×Obj)) (s:Shared) (σ:St) (H:Hp) (v:V) (u:Value) (Q:St→Hp→Prop),Inv X pins σ H s→RelV v u→t v σ H Q→
  wpAny (model X.prog X.w) X.A (assign target X.env u) (fun _ s'=> ∃af H',Inv X pins af H' s'∧Q af H') X.xe s
def pO (X:Cx) (ts:List Expr) (t:jw):Prop:=
 ∀(pins:List (Addr×Obj)) (s:Shared) (σ:St) (H:Hp) (vs:List V) (us:List Value) (Q:St→Hp→Prop),Inv X pins σ H s→Vals vs us→t vs σ H Q→
  wpAny (model X.prog X.w) X.A (assignInOrder ((assignEach ts X.env).map (·.2)) us) (fun _ s'=> ∃af H',Inv X pins af H' s'∧Q af H') X.xe s
abbrev uo:=V→V→V→Hp→(Hp→Prop)→Prop
def zA (X:Cx) (t:uo):Prop:=
 ∀(pins:List (Addr×Obj)) (s:Shared) (σ:St) (H:Hp) (o i v:V) (ov iv u:Value) (Q:Hp→Prop),Inv X pins σ H s→RelV o ov→RelV i iv→RelV v u→t o i v H Q→
  wpAny (model X.prog X.w) X.A (setItem ov iv u) (fun _ s'=> ∃H',Inv X pins σ H' s'∧Q H') X.xe s
section
variable {X:Cx}{pos:Pos}
def iu (i:Nat):TG:=fun v σ H Q=>Q (σ.set i (some v)) H
theorem ZI {i:Nat}{x:Str}(hN:X.N.Nodup) (hi:X.N[i]? =some x) (hx:Loc X.env.scope x) (hf:X.fn x=true∨X.env.scope.names.lookup x=some .local:=by first |exact .inl rfl |exact .inr rfl |assumption):PG X (.Name x pos) (iu i):=by
 intro pins s σ H v u Q I r h
 exact wpAny_assign_Name (Z8 I hN hi hx r (fun s' I'=> ⟨_,H,I',h⟩) hf)
def yc:jw:=fun vs σ H Q=>vs=[]∧Q σ H
def tE (t:TG) (u:jw):jw:=fun vs σ H Q=> ∃v r,vs=v::r∧t v σ H fun af H'=>u r af H' Q
theorem JC:pO X [] yc:=by
 intro pins s σ H vs us Q I r h
 obtain⟨e,h⟩:=h
 subst e
 cases r
 exact assignInOrder_nil ⟨σ,H,I,h⟩
theorem Yh {e:Expr}{es:List Expr}{t:TG}{u:jw}(h1:PG X e t) (h2:pO X es u)
  (hs:(assignEach (e::es) X.env).map (·.2)=assign e X.env::(assignEach es X.env).map (·.2):=by rfl):pO X (e::es) (tE t u):=by
 intro pins s σ H vs us Q I r h
 obtain⟨v,vr,e1,h⟩:=h
 subst e1
 cases r with
 |cons r rr=>
  rw[hs]
  refine assignInOrder_cons (ao (h1 pins s σ H _ _ _ I r h) fun _ s1 ⟨kE,H1,I1,q1⟩=> ?_)
  exact h2 pins s1 kE H1 _ _ Q I1 rr q1
def yb (K:PySem.W.Frag) (n:Nat) (t:jw):TG:=fun v σ H Q=> ∃a xs,v=.ref a∧aj K H a xs∧xs.length=n∧t xs σ H Q
theorem WZ {es:List Expr}{k:Nat}{t:jw}{n:Nat}(hc:X.calm=true) (h:pO X es t)
  (hn:(assignEach es X.env).length=n:=by rfl) (je:(assignEach es X.env).findIdx? (·.1)=none:=by rfl):PG X (.Tuple es k pos) (yb X.K n t):=by
 intro pins s σ H v u Q I r hw
 obtain⟨a,xs,e1,hq,hl,hw⟩:=hw
 subst e1
 cases r
 obtain⟨aa,rv,ht,hz⟩:=I.tuple hq
 refine assign_Tuple_tuple (I.ok.hd hc) ht (by simp[hn,←hl,rv.length]) je fun h' hx=> ?_
 have I1:Inv X pins σ H {s with heap:=h'} :=I.kept (t':=s.toks) fun b o e=>hx b o (Nat.ne_of_lt (Heap.lt_size e)) e
 exact h pins _ σ H xs _ Q I1 (by simpa using rv) hw
def Eu (to ti:TE) (t:uo):TG:=fun v σ H Q=>to σ H fun o H1=>ti σ H1 fun i H2=>t o i v H2 fun H3=>Q σ H3
theorem yP {o i:Expr}{to ti:TE}{t:uo}(ho:PE X o to) (hi:PE X i ti) (hs:zA X t)
    (ha:∀v,assign (.Subscript o i pos) X.env v=(do
      let ov ←holding [v] (eval o X.env)
      let iv ←holding [v,ov] (eval i X.env)
      standAt pos
      holding [v,ov,iv] (setItem ov iv v)
      release [v,ov,iv] []):=by intro _;rfl):PG X (.Subscript o i pos) (Eu to ti t):=by
  intro pins s σ H v u Q I r h
  rw[ha]
  refine wpAny_bind (wpAny_holding (ao (ho pins s σ H _ I h) fun ov s1 ⟨x,H1,I1,r1,q1⟩=> ?_))
  refine wpAny_bind (wpAny_holding (ao (hi pins s1 σ H1 _ I1 q1) fun iv s2 ⟨y,H2,I2,r2,q2⟩=> ?_))
  refine wpAny_bind (wpAny_standAt (wpAny_bind (wpAny_holding (ao (hs pins s2 σ H2 x y v ov iv u _ I2 r1 r2 r q2) fun _ s3 ⟨H3,I3,q3⟩=> ?_))))
  exact wpAny_release ⟨σ,H3,I3,q3⟩
def kL (te:TE) (g:TG):TS:=fun D σ H=>te σ H fun x H1=>g x σ H1 D.nx
theorem YZ {tg e:Expr}{te:TE}{g:TG}(he:PE X e te) (hg:PG X tg g) (hs:swapsWithSole [tg] e pos.line X.env=pure false:=by rfl) (hw:swappedStores [tg] e X.env=pure none:=by rfl)
  (h1:(assignEach [tg] X.env).map (·.2)=[assign tg X.env]:=by rfl):PS X (.Assign [tg] e pos) (kL te g):=by
 intro pins s σ H D I h
 refine wpAny_Assign_stores (ao (he pins s σ H _ I h) fun v s1 ⟨x,H1,I1,r1,q1⟩=> ?_) hs hw
 rw[h1]
 exact ao (hg pins s1 σ H1 x v _ I1 r1 q1) fun _ s2 q=>q
theorem Zp {i:Nat}{x:Str}{e:Expr}{te:TE}{pos':Pos}(hN:X.N.Nodup) (hi:X.N[i]? =some x) (hx:Loc X.env.scope x) (he:PE X e te) (hs:swapsWith e (some (.Name x pos')) pos.line X.env=pure false:=by rfl) (hf:X.fn x=true∨X.env.scope.names.lookup x=some .local:=by first |exact .inl rfl |exact .inr rfl |assumption):
  PS X (.Assign [.Name x pos'] e pos) (kL te (iu i)):=by
 intro pins s σ H D I h
 refine wpAny_Assign_Name (ao (he pins s σ H _ I h) fun v s1 ⟨y,H1,I1,r1,q1⟩=> ?_) hs
 exact Z8 I1 hN hi hx r1 (fun s2 I2=> ⟨_,H1,I2,q1⟩) hf
def Ap (i j:Nat) (ta:TA):TS:=fun D σ H=>ta σ H fun vs H1=> ∃v w,vs=[v,w]∧D.nx ((σ.set i (some v)).set j (some w)) H1
theorem uk {i j:Nat}{x y:Str}{a b:Expr}{ta:TA}{px py pt:Pos}{kt k2 iX} (hc:X.calm=true) (hN:X.N.Nodup) (hi:X.N[i]? =some x) (hj:X.N[j]? =some y) (sv:i≠j)
  (hx:X.env.scope.names.lookup x=some .local) (hy:X.env.scope.names.lookup y=some .local) (ha:PA X [a,b] ta)
  (hw:swappedStores [.Tuple [.Name x px,.Name y py] kt pt] (.Tuple [a,b] k2 iX) X.env=pure (some [x,y]))
  (hs:swapsWithSole [.Tuple [.Name x px,.Name y py] kt pt] (.Tuple [a,b] k2 iX) pos.line X.env=pure false:=by rfl):
  PS X (.Assign [.Tuple [.Name x px,.Name y py] kt pt] (.Tuple [a,b] k2 iX) pos) (Ap i j ta):=by
 intro pins s σ H D I h
 rw[exec_Assign_arm]
 refine wpAny_bind (wpAny_standAt ?_)
 rw[hs]
 refine wpAny_bind (wpAny_pure ?_)
 rw[if_neg (by decide)]
 refine wpAny_bind (Tuple_ (ao (ha _ pins s σ H _ I h) fun us s1 ⟨vs,H1,I1,r1,q1⟩=> ?_))
 obtain⟨v,w,e1,q1⟩:=q1
 subst e1
 obtain⟨u1,u2,rfl,rv,cF⟩:∃u1 u2,us=[u1,u2]∧RelV v u1∧RelV w u2:=by
  cases r1 with
  |cons p q=>
   cases q with
   |cons p' q'=>
    cases q'
    exact⟨_,_,rfl,p,p'⟩
 refine wpAny_newObj_type ?_ (by show 2≤sizeLine;decide)
 have I2:Inv X pins σ H1 {s1 with heap:=s1.heap.push {cls:=.type "tuple",data:=.seq [u1,u2].toArray} } :=I1.kept (t':=s1.toks) fun b o e=>Heap.get?_push_of_some _ e
 rw[hw]
 refine wpAny_bind (wpAny_pure ?_)
 show wpAny (model X.prog X.w) X.A (do rule "assign.swapped-stores";let items ←unpackItems (.ref s1.heap.objs.size) 2 none;assignInOrder [fun v=>bindName X.env y v,fun v=>bindName X.env x v] items.reverse;pure Flow.next) _ _ _
 refine wpAny_bind (wpAny_rule (wpAny_bind (unpackItems_tuple (items:= #[u1,u2]) (I.ok.hd hc) (IsTup.new s1.heap _) fun h' jX=> ?_)))
 have I3:=I2.kept (h':=h') (t':=s1.toks) fun b o e=>jX b o (Nat.ne_of_lt (Heap.lt_size e)) e
 show wpAny _ _ (assignInOrder [fun v=>bindName X.env y v,fun v=>bindName X.env x v] [u2,u1] >>=fun _=>pure Flow.next) _ _ _
 refine wpAny_bind (assignInOrder_cons (wpAny_bindName (Z8 I3 hN hj (.inl hy) cF (fun s2 I4=> ?_) (.inr hy))))
 refine assignInOrder_cons (wpAny_bindName (Z8 I4 hN hi (.inl hx) rv (fun s3 I5=>assignInOrder_nil (wpAny_pure ?_)) (.inr hx)))
 rw[List.set_comm _ _ (Ne.symm sv)]at I5
 exact⟨_,H1,I5,q1⟩
end
structure It where
 go:Nat→Hp→Prop
 jC:Nat→Hp→V→Hp→Prop
 stop:Nat→Hp→Prop
def aJ (X:Cx) (pins:List (Addr×Obj)) (H:Hp) (b:Addr):Prop:=
 H b=none∧b≠X.env.locals∧b∉X.fs∧(b∈X.ex∨X.bI.heap.objs.size≤b)∧(∀x c,X.env.cells.lookup x=some c→c≠b)∧∀p∈X.pn++pins,p.1≠b
theorem Inv.kl {X:Cx}{pins:List (Addr×Obj)}{σ:St}{H H':Hp}{s:Shared}{b:Addr}(I:Inv X pins σ H s) (hb:s.heap.objs.size≤b) (hn:H' b=none):aJ X pins H' b:=by
 refine⟨hn,Nat.ne_of_gt (Nat.lt_of_lt_of_le I.lt hb),I.BM hb,.inr (Nat.le_trans I.sz hb),fun x c e z=> ?_,fun p hp z=> ?_⟩
 ·obtain⟨v,q⟩:=I.cell x c e
  exact absurd (Nat.lt_of_lt_of_le q.lt (by rw[z];exact hb)) (Nat.lt_irrefl _)
 ·exact absurd (Nat.lt_of_lt_of_le (Heap.lt_size (I.pin p hp).1) (by rw[z];exact hb)) (Nat.lt_irrefl _)
structure Turn (P:Program) (w:World) (K:PySem.W.Frag) (tg:Expr) (J:It) (fp:List Addr) (it:Addr) (tn:Nat→Heap→Prop):Prop where
 mem:it∈fp
 obj:∀i h,tn i h→∀b∈fp,∃o,h.get? b=some o∧∀v,o.data≠.cell v
 keep:∀i h h',tn i h→(∀b∈fp,∀o,h.get? b=some o→h'.get? b=some o)→tn i h'
 item:∀(X:Cx),X.prog=P→X.w=w→X.K=K→X.calm=true→∀(i:Nat) (pins:List (Addr×Obj)) (s:Shared) (σ:St) (H:Hp) (E:Value→Shared→Prop),Inv X pins σ H s→(∀b∈fp,aJ X pins H b)→tn i s.heap→J.go i H→
  wpAny (model P w) X.A (pyNext (.ref it)) (fun r s1=> ∃u,r=some u∧
   wpAny (model P w) X.A (letOwnedTupleGo tg (.ref it) u) (fun _ s2=> ∃x H',Inv X pins σ H' s2∧RelV x u∧J.jC i H x H'∧tn (i+1) s2.heap∧∀b∈fp,H' b=none) E s1) E s
 done:∀(X:Cx),X.prog=P→X.w=w→X.K=K→X.calm=true→∀(i:Nat) (pins:List (Addr×Obj)) (s:Shared) (σ:St) (H:Hp) (E:Value→Shared→Prop),Inv X pins σ H s→(∀b∈fp,aJ X pins H b)→tn i s.heap→J.stop i H→
  wpAny (model P w) X.A (pyNext (.ref it)) (fun r s1=>r=none∧Inv X pins σ H s1) E s
 self:∀(A:Around) (i:Nat) (s:Shared) (Q:Value→Shared→Prop) (E:Value→Shared→Prop),tn i s.heap→Q (.ref it) s→wpAny (model P w) A (pyIter (.ref it)) Q E s
abbrev TI:=St→Hp→(It→Hp→Prop)→Prop
def zB (X:Cx) (pins:List (Addr×Obj)) (σ:St) (tg:Expr) (R:It→Hp→Prop) (eJ:Value) (s2:Shared):Prop:=
 ∃(it:Addr) (fp:List Addr) (tn:Nat→Heap→Prop) (J:It) (H':Hp),eJ=.ref it∧Inv X pins σ H' s2∧Turn X.prog X.w X.K tg J fp it tn∧tn 0 s2.heap∧(∀b∈fp,aJ X pins H' b)∧R J H'
def PI (X:Cx) (tg iter:Expr) (wi:TI):Prop:=
 ∀(pins:List (Addr×Obj)) (s:Shared) (σ:St) (H:Hp) (R:It→Hp→Prop),Inv X pins σ H s→wi σ H R→
  wpAny (model X.prog X.w) X.A (eval iter X.env) (fun v s1=>wpAny (model X.prog X.w) X.A (pyIter v) (zB X pins σ tg R) X.xe s1) X.xe s
theorem ub {M:Model}{A:Around}{E:Value→Shared→Prop}{s:Shared}{tg:Expr}{it:Addr}{u:Value}{o:Obj}{n:String}{vs:Array Value}{Q:Unit→Shared→Prop}(ho:s.heap.get? it=some o) (hc:o.cls=.type n) (hd:o.data=.fields vs)
    (hn:["enumerate", "zip", "dict_itemiterator", "dict_reverseitemiterator", "odict_iterator", "itertools.zip_longest", "itertools.pairwise"].contains n=false) (hQ:Q () s):wpAny M A (letOwnedTupleGo tg (.ref it) u) Q E s:=by
  unfold letOwnedTupleGo
  cases tg<;>first
    |exact wpAny_pure hQ
    |(cases u<;>first
        |exact wpAny_pure hQ
        |(refine wpAny_bind (wpAny_load ho ?_)
          rw[hc,hd]
          show wpAny M A (if (["enumerate", "zip", "dict_itemiterator", "dict_reverseitemiterator", "odict_iterator", "itertools.zip_longest", "itertools.pairwise"].contains n&&vs[0]? ==some (rawInt _))=true then _ else _) Q E s
          rw[if_neg (by intro h;rw[hn,Bool.false_and]at h;cases h)]
          exact wpAny_pure hQ))
def ku (K:PySem.W.Frag) (a:Addr):It:=
 ⟨fun i H=> ∃xs x,ak K H a xs∧xs[i]? =some x,fun i H x H'=>H'=H∧∀xs,ak K H a xs→xs[i]? =some x,fun i H=> ∃xs,ak K H a xs∧xs.length≤i⟩
def kr (K:PySem.W.Frag) (a:Addr):It:=
 ⟨fun i H=> ∃xs x,aj K H a xs∧xs[i]? =some x,fun i H x H'=>H'=H∧∀xs,aj K H a xs→xs[i]? =some x,fun i H=> ∃xs,aj K H a xs∧xs.length≤i⟩
def iI (lo:Int) (n:Nat):It:=⟨fun i _=>i<n,fun i H x H'=>H'=H∧x=.int (lo+i),fun i _=>n≤i⟩
theorem Kn {P:Program}{w:World}{K:PySem.W.Frag}{tg:Expr}(a it:Addr):Turn P w K tg (ku K a) [it] it (fun i h=>h.IsListIter it a i) where
 mem:=by simp
 obj:=fun i h st b hb=>by
  have e:b=it:=by simpa using hb
  subst e
  obtain⟨o,e,c,d⟩:=st
  exact⟨o,e,fun v z=>by rw[d]at z;cases z⟩
 keep:=fun i h h' st k=>st.at fun o e=>k it (by simp) o e
 item:=by
  intro X hP hw hK hc i pins s σ H E I hf st hg
  subst hP hw hK
  obtain⟨xs,x,hq,hx⟩:=hg
  obtain⟨aa,rv,p,hz⟩:=I.list hq
  obtain⟨u,hu,ru⟩:=rv.get hx
  obtain⟨f0,f1,f2,f3,f4,f5⟩:=hf it (by simp)
  refine wpAny_pyNext_list_item st p.isList (x:=u) (by simpa using hu) fun h' cE sb=> ?_
  have I1:Inv X pins σ H {s with heap:=h'} :=I.turned (t':=s.toks) (fun b o hb e=> (sb.2 b hb).trans e) f0 f1 f3 f4 f5
  obtain⟨o,e,c,d⟩:=id cE
  exact⟨u,rfl,ub (s:= {s with heap:=h'}) e c d (by decide) ⟨x,H,I1,ru,⟨rfl,fun ys hy=>by rw[I.Ce hy hq];exact hx⟩,cE,fun b hb=> (hf b hb).1⟩⟩
 done:=by
  intro X hP hw hK hc i pins s σ H E I hf st hg
  subst hP hw hK
  obtain⟨xs,hq,hx⟩:=hg
  obtain⟨aa,rv,p,hz⟩:=I.list hq
  obtain⟨f0,f1,f2,f3,f4,f5⟩:=hf it (by simp)
  have hl:=rv.length
  exact wpAny_pyNext_list_end (I.ok.hd hc) st p.isList (by simp;omega) fun h' eb=> ⟨rfl,I.turned (t':=s.toks) (fun b o hb e=>eb b o hb e) f0 f1 f3 f4 f5⟩
 self:=fun _ _ _ _ _ st h=>wpAny_pyIter_listiter st h
theorem U3 {P:Program}{w:World}{K:PySem.W.Frag}{tg:Expr}(a it:Addr):Turn P w K tg (kr K a) [it] it (fun i h=>h.IsTupleIter it a i) where
 mem:=by simp
 obj:=fun i h st b hb=>by
  have e:b=it:=by simpa using hb
  subst e
  obtain⟨o,e,c,d⟩:=st
  exact⟨o,e,fun v z=>by rw[d]at z;cases z⟩
 keep:=fun i h h' st k=>st.at fun o e=>k it (by simp) o e
 item:=by
  intro X hP hw hK hc i pins s σ H E I hf st hg
  subst hP hw hK
  obtain⟨xs,x,hq,hx⟩:=hg
  obtain⟨aa,rv,p,hz⟩:=I.tuple hq
  obtain⟨u,hu,ru⟩:=rv.get hx
  obtain⟨f0,f1,f2,f3,f4,f5⟩:=hf it (by simp)
  refine wpAny_pyNext_tuple_item st (show s.heap.IsTuple a aa.toArray from p) (x:=u) (by simpa using hu) fun h' cE sb=> ?_
  have I1:Inv X pins σ H {s with heap:=h'} :=I.turned (t':=s.toks) (fun b o hb e=> (sb.2 b hb).trans e) f0 f1 f3 f4 f5
  obtain⟨o,e,c,d⟩:=id cE
  exact⟨u,rfl,ub (s:= {s with heap:=h'}) e c d (by decide) ⟨x,H,I1,ru,⟨rfl,fun ys hy=>by rw[I.nO hy hq];exact hx⟩,cE,fun b hb=> (hf b hb).1⟩⟩
 done:=by
  intro X hP hw hK hc i pins s σ H E I hf st hg
  subst hP hw hK
  obtain⟨xs,hq,hx⟩:=hg
  obtain⟨aa,rv,p,hz⟩:=I.tuple hq
  obtain⟨f0,f1,f2,f3,f4,f5⟩:=hf it (by simp)
  have hl:=rv.length
  exact wpAny_pyNext_tuple_end (I.ok.hd hc) st (show s.heap.IsTuple a aa.toArray from p) (by simp;omega) fun h' eb=> ⟨rfl,I.turned (t':=s.toks) (fun b o hb e=>eb b o hb e) f0 f1 f3 f4 f5⟩
 self:=fun _ _ _ _ _ st h=>wpAny_pyIter_tupleiter st h
theorem U4 {P:Program}{w:World}{K:PySem.W.Frag}{tg:Expr}(it:Addr) (lo:Int) (n:Nat):Turn P w K tg (iI lo n) [it] it (fun i h=>IsRangeIter h it (lo+(i:Nat)*1) ((n:Int) - (i:Nat)) 1) where
 mem:=by simp
 obj:=fun i h st b hb=>by
  have e:b=it:=by simpa using hb
  subst e
  exact⟨_,st,fun v z=>by
   have z':Data.fields _=Data.cell v:=z
   cases z'⟩
 keep:=fun i h h' st k=>k it (by simp) _ st
 item:=by
  intro X hP hw hK hc i pins s σ H E I hf st hg
  subst hP hw hK
  obtain⟨f0,f1,f2,f3,f4,f5⟩:=hf it (by simp)
  have W:=Walks.range (prog:=X.prog) (w:=X.w) (I.ok.hd hc) it lo 1 n
  refine W.item i s _ _ hg st fun v h' tk hv cE kk=> ?_
  obtain⟨t,rfl⟩:=hv
  have I1:Inv X pins σ H {s with heap:=h',toks:=tk} :=I.turned (fun b o hb e=>kk b o (by simpa using hb) e) f0 f1 f3 f4 f5
  refine⟨_,rfl,ub (s:= {s with heap:=h',toks:=tk}) (n:= "range_iterator") cE rfl rfl (by decide) ⟨.int (lo+i),H,I1,⟨t,?_⟩,⟨rfl,rfl⟩,cE,fun b hb=> (hf b hb).1⟩⟩
  rw[Int.mul_one]
 done:=by
  intro X hP hw hK hc i pins s σ H E I hf st hg
  subst hP hw hK
  obtain⟨f0,f1,f2,f3,f4,f5⟩:=hf it (by simp)
  exact wpAny_pyNext_range_end (I.ok.hd hc) st (by have:n≤i:=hg;omega) fun h' eb=> ⟨rfl,I.turned (t':=s.toks) (fun b o hb e=>eb b o hb e) f0 f1 f3 f4 f5⟩
 self:=fun _ _ _ _ _ st h=>wpAny_pyIter_rangeiter st h
section
variable {X:Cx}{tg:Expr}
def CA (K:PySem.W.Frag) (tl:TE):TI:=fun σ H R=>tl σ H fun x H1=> ∃a,x=.ref a∧(∃xs,ak K H1 a xs)∧R (ku K a) H1
def Cw (K:PySem.W.Frag) (tl:TE):TI:=fun σ H R=>tl σ H fun x H1=> ∃a,x=.ref a∧(∃xs,aj K H1 a xs)∧R (kr K a) H1
theorem Yt {l:Expr}{tl:TE}(hl:PE X l tl):PI X tg l (CA X.K tl):=by
 intro pins s σ H R I h
 refine ao (hl pins s σ H _ I h) fun v s1 ⟨x,H1,I1,r1,q1⟩=> ?_
 obtain⟨a,e,⟨xs,hq⟩,q⟩:=q1
 subst e
 cases r1
 obtain⟨aa,rv,p,hz⟩:=I1.list hq
 refine wpAny_pyIter_list p.isList ?_
 refine⟨s1.heap.objs.size,[s1.heap.objs.size],_,_,H1,rfl,I1.kept (t':=s1.toks) fun b o e=>Heap.get?_push_of_some _ e,Kn a _,⟨_,Heap.get?_push_size _ rfl,rfl,rfl⟩,fun b hb=> ?_,q⟩
 have e:b=s1.heap.objs.size:=by simpa using hb
 subst e
 exact I1.kl (Nat.le_refl _) (I1.ai.fresh (Nat.le_refl _))
theorem Jm {l:Expr}{tl:TE}(hl:PE X l tl):PI X tg l (Cw X.K tl):=by
 intro pins s σ H R I h
 refine ao (hl pins s σ H _ I h) fun v s1 ⟨x,H1,I1,r1,q1⟩=> ?_
 obtain⟨a,e,⟨xs,hq⟩,q⟩:=q1
 subst e
 cases r1
 obtain⟨aa,rv,p,hz⟩:=I1.tuple hq
 refine wpAny_pyIter_tuple (show s1.heap.IsTuple a aa.toArray from p) ?_
 refine⟨s1.heap.objs.size,[s1.heap.objs.size],_,_,H1,rfl,I1.kept (t':=s1.toks) fun b o e=>Heap.get?_push_of_some _ e,U3 a _,⟨_,Heap.get?_push_size _ rfl,rfl,rfl⟩,fun b hb=> ?_,q⟩
 have e:b=s1.heap.objs.size:=by simpa using hb
 subst e
 exact I1.kl (Nat.le_refl _) (I1.ai.fresh (Nat.le_refl _))
theorem Uq {pins:List (Addr×Obj)}{σ:St}{H:Hp}{s:Shared}{R:It→Hp→Prop}{E:Value→Shared→Prop}{lo hi:Int}{t u v:Tok}{tk:Nat}(I:Inv X pins σ H s) (h1: -(2^62)≤lo) (h2:lo<2^62) (h3: -(2^62)≤hi) (h4:hi<2^62)
  (q:R (iI lo (hi - lo).toNat) H):wpAny (model X.prog X.w) X.A (pyIter (.ref s.heap.objs.size)) (zB X pins σ tg R) E {s with heap:=s.heap.push {cls:=.type "range",data:=.fields #[.int lo t,.int hi u,.int 1 v]},toks:=tk} :=by
 refine wpAny_pyIter_range (IsRange.new ..) (small_one h1 h2 h3 h4) ?_
 have I1:Inv X pins σ H {s with heap:=s.heap.push {cls:=.type "range",data:=.fields #[.int lo t,.int hi u,.int 1 v]},toks:=tk} :=I.kept fun b o e=>Heap.get?_push_of_some _ e
 refine⟨(s.heap.push {cls:=.type "range",data:=.fields #[.int lo t,.int hi u,.int 1 v]}).objs.size,[(s.heap.push {cls:=.type "range",data:=.fields #[.int lo t,.int hi u,.int 1 v]}).objs.size],_,_,H,rfl,
  I1.kept (t':=tk) fun b o e=>Heap.get?_push_of_some _ e,U4 _ lo (hi - lo).toNat,?_,fun b hb=> ?_,q⟩
 ·have e1:lo+((0:Nat):Int)*1=lo:=by simp
  have e2:(((hi - lo).toNat:Nat):Int) - ((0:Nat):Int)=Builtin.Range.rangeSize lo hi 1:=by rw[rangeSize_one];split<;>omega
  show IsRangeIter _ _ (lo+((0:Nat):Int)*1) ((((hi - lo).toNat:Nat):Int) - ((0:Nat):Int)) 1
  rw[e1,e2]
  exact Heap.get?_push_size _ rfl
 ·have e:b=(s.heap.push {cls:=.type "range",data:=.fields #[.int lo t,.int hi u,.int 1 v]}).objs.size:=by simpa using hb
  subst e
  exact I1.kl (Nat.le_refl _) (I1.ai.fresh (Nat.le_refl _))
def Cz (ta:TA):TI:=fun σ H R=>ta σ H fun vs H1=> ∃j:Int,vs=[.int j]∧ -(2^62)≤j∧j<2^62∧R (iI 0 j.toNat) H1
def Cy (ta:TA):TI:=fun σ H R=>ta σ H fun vs H1=> ∃i j:Int,vs=[.int i,.int j]∧(-(2^62)≤i∧i<2^62∧ -(2^62)≤j∧j<2^62)∧R (iI i (j - i).toNat) H1
theorem Yd {a:Expr}{ta:TA}{p pos:Pos}(hg:Gl X "range") (hm:X.mg "range" =none) (ha:PA X [a] ta) (hs:starEach [a] X.env=[(false,eval a X.env)]:=by rfl):PI X tg (.Call (.Name "range" p) [a] [] pos) (Cz ta):=by
 intro pins s σ H R I h
 refine Call_ (Jp I hg hm boot_range (PyProof.Rows.callWith_type1 (ao (ha pos pins s σ H _ I h) fun us s1 ⟨vs,H1,I1,r1,q1⟩=> ?_) hs rfl))
 obtain⟨j,e,q1,q2,q⟩:=q1
 subst e
 cases r1 with
 |cons r rr=>
  cases rr
  obtain⟨t,rfl⟩:=r
  exact call_range_1 (Uq I1 (by omega) (by omega) q1 q2 (by simpa using q))
theorem Ww {a b:Expr}{ta:TA}{p pos:Pos}(hg:Gl X "range") (hm:X.mg "range" =none) (ha:PA X [a,b] ta) (hs:starEach [a,b] X.env=[(false,eval a X.env),(false,eval b X.env)]:=by rfl) (jY:starEach [b] X.env=[(false,eval b X.env)]:=by rfl):
  PI X tg (.Call (.Name "range" p) [a,b] [] pos) (Cy ta):=by
 intro pins s σ H R I h
 refine Call_ (Jp I hg hm boot_range (PyProof.Rows.callWith_type1 (ao (ha pos pins s σ H _ I h) fun us s1 ⟨vs,H1,I1,r1,q1⟩=> ?_) (by rw[hs,jY]) (by rw[jY];rfl)))
 obtain⟨i,j,e,⟨q1,q2,q3,q4⟩,q⟩:=q1
 subst e
 cases r1 with
 |cons r rr=>
  cases rr with
  |cons r' rr=>
   cases rr
   obtain⟨t,rfl⟩:=r
   obtain⟨t',rfl⟩:=r'
   exact call_range_2 (Uq I1 q1 q2 q3 q4 q)
def AD (wi:TI) (g:TG) (tb:TS):TS:=fun D σ H=>wi σ H fun J H1=> ∃W:Nat→Nat→St→Hp→Prop,(∃m,W 0 m σ H1)∧∀i m σ H,W i m σ H→
 (J.stop i H∧D.nx σ H)∨(J.go i H∧∃N:St→Hp→Prop,(∀af H',N af H'→∃m',m'<m∧W (i+1) m' af H')∧∀x H',J.jC i H x H'→g x σ H' fun aX H2=>tb {D with nx:=N,ct:=N,bk:=D.nx} aX H2)
def dN (fp:List Addr) (h:Heap):List (Addr×Obj):=fp.filterMap fun b=> (h.get? b).map fun o=> (b,o)
theorem ZC {fp:List Addr}{h:Heap}{b:Addr}{o:Obj}(hb:b∈fp) (e:h.get? b=some o):(b,o)∈dN fp h:=List.mem_filterMap.mpr ⟨b,hb,by rw[e];rfl⟩
theorem YA {fp:List Addr}{h:Heap}{p:Addr×Obj}(hp:p∈dN fp h):p.1∈fp∧h.get? p.1=some p.2:=by
 obtain⟨b,hb,e⟩:=List.mem_filterMap.mp hp
 cases q:h.get? b with
 |none=>rw[q]at e;cases e
 |some o=>
  rw[q]at e
  have e':(b,o)=p:=Option.some.inj e
  subst e'
  exact⟨hb,q⟩
theorem Inv.pinned {pins:List (Addr×Obj)}{σ:St}{H:Hp}{s:Shared}{fp:List Addr}(I:Inv X pins σ H s) (hf:∀b∈fp,aJ X pins H b) (ho:∀b∈fp,∃o,s.heap.get? b=some o∧∀v,o.data≠.cell v):Inv X (pins++dN fp s.heap) σ H s:=
 I.wj fun p hp=> (List.mem_append.mp hp).elim (fun z=>I.pin p (List.mem_append_right _ z)) fun z=>by
  obtain⟨hb,e⟩:=YA z
  obtain⟨f0,f1,f2,_⟩:=hf p.1 hb
  obtain⟨o,e',d⟩:=ho p.1 hb
  rw[e]at e';cases e'
  exact⟨e,f0,f1,f2,d⟩
theorem Inv.dq {pins pl:List (Addr×Obj)}{σ:St}{H:Hp}{s:Shared}(I:Inv X (pins++pl) σ H s):Inv X pins σ H s:=I.wj fun p hp=>I.pin p (List.mem_append_right _ (List.mem_append_left _ hp))
theorem YF {iter:Expr}{body:List Stmt}{wi:TI}{g:TG}{tb:TS}{pos:Pos}(hp:PassesOwn (model X.prog X.w) X.A X.env X.xe) (hc:X.calm=true) (hi:PI X tg iter wi) (hg:PG X tg g) (hb:cC X body tb)
  (hs:∀x,foldedSetIterable iter X.env x=pure x:=by intro _;rfl):PS X (.For tg iter body [] pos) (AD wi g tb):=by
 intro pins s σ H D I h
 refine wpAny_For (ao (hi pins s σ H _ I h) fun v s1 h1=>ao h1 fun eJ s2 h2=> ?_) hs
 obtain⟨it,fp,tn,J,H2,e,I2,T,bM,f2,W,⟨m0,w0⟩,turn⟩:=h2
 subst e
 have stat:∀{H':Hp},(∀b∈fp,H' b=none)→∀b∈fp,aJ X pins H' b:=fun hn b hb=> ⟨hn b hb,(f2 b hb).2⟩
 refine codeAny_forLoop_any (fun n s'=> ∃i af H',Inv X pins af H' s'∧tn i s'.heap∧(∀b∈fp,H' b=none)∧W i n af H') ?_ m0 ⟨0,σ,H2,I2,bM,fun b hb=> (f2 b hb).1,w0⟩
 rintro n s3 ⟨i,cV,H3,I3,cj,kj,w3⟩
 rcases turn i n cV H3 w3 with ⟨stop,qn⟩ |⟨go,N,hN,step⟩
 ·refine wpAny_passesOwn hp (ao (T.done X rfl rfl rfl hc i pins s3 cV H3 X.xe I3 (stat kj) cj stop) fun r s4 ⟨hr,I4⟩=> ?_)
  subst hr
  exact wpAny_execs_nil ⟨cV,H3,I4,qn⟩
 ·refine wpAny_passesOwn hp (ao (T.item X rfl rfl rfl hc i pins s3 cV H3 X.xe I3 (stat kj) cj go) fun r s4 ⟨u,hr,h4⟩=> ?_)
  subst hr
  refine wpAny_passesOwn hp (ao h4 fun _ s5 ⟨x,H5,I5,r5,y5,bF,mx⟩=> ?_)
  have ng:=I5.pinned (stat mx) (T.obj _ _ bF)
  refine wpAny_passesOwn hp (ao (hg _ s5 cV H5 x u _ ng r5 (step x H5 y5)) fun _ s6 ⟨gf,H6,I6,q6⟩=> ?_)
  refine wpAny_passesOwn hp (ao (hb _ s6 gf H6 _ I6 q6) fun f s7 q7=> ?_)
  have again:∀{bV:St}{H7:Hp},Inv X (pins++dN fp s5.heap) bV H7 s7→N bV H7→∃m,m<n∧∃i af H',Inv X pins af H' s7∧tn i s7.heap∧(∀b∈fp,H' b=none)∧W i m af H':=fun {bV H7} I7 n7=>by
   obtain⟨m',hm,w7⟩:=hN bV H7 n7
   refine⟨m',hm,i+1,bV,H7,I7.dq,T.keep _ _ _ bF fun b hb o e=> (I7.pin (b,o) (List.mem_append_right _ (List.mem_append_right _ (ZC hb e)))).1,fun b hb=> ?_,w7⟩
   obtain⟨o,e,d⟩:=T.obj _ _ bF b hb
   exact(I7.pin (b,o) (List.mem_append_right _ (List.mem_append_right _ (ZC hb e)))).2.1
  cases f with
  |next=>obtain⟨bV,H7,I7,n7⟩:=q7;exact again I7 n7
  |cont=>obtain⟨bV,H7,I7,n7⟩:=q7;exact again I7 n7
  |brk=>obtain⟨bV,H7,I7,q7⟩:=q7;exact⟨bV,H7,I7.dq,q7⟩
  |ret v=>obtain⟨x7,bV,H7,I7,r7,q7⟩:=q7;exact⟨x7,bV,H7,I7.dq,r7,q7⟩
end
theorem UL {K:PySem.W.Frag}{a:Addr}{xs:List V}{g:TG}{tb:TS}{D:Ends}{σ:St}{H:Hp}(Pv:Nat→St→Hp→Prop) (h0:Pv 0 σ H) (hl:∀i σ H,i≤xs.length→Pv i σ H→ak K H a xs)
  (hs:∀i x σ H,xs[i]? =some x→Pv i σ H→g x σ H fun aX H2=>tb {D with nx:=Pv (i+1),ct:=Pv (i+1),bk:=D.nx} aX H2) (hd:∀σ H,Pv xs.length σ H→D.nx σ H):
  ∃W:Nat→Nat→St→Hp→Prop,(∃m,W 0 m σ H)∧∀i m σ H,W i m σ H→
   ((ku K a).stop i H∧D.nx σ H)∨((ku K a).go i H∧∃N:St→Hp→Prop,(∀af H',N af H'→∃m',m'<m∧W (i+1) m' af H')∧∀x H',(ku K a).jC i H x H'→g x σ H' fun aX H2=>tb {D with nx:=N,ct:=N,bk:=D.nx} aX H2):=by
 refine⟨fun i m σ H=>m=xs.length - i∧i≤xs.length∧Pv i σ H,⟨xs.length,by simp,Nat.zero_le _,h0⟩,?_⟩
 rintro i m σ H ⟨rfl,hi,p⟩
 have q:=hl i σ H hi p
 by_cases aA:i<xs.length
 ·refine .inr ⟨⟨xs,xs[i],q,by simp[aA]⟩,Pv (i+1),fun af H' p'=> ⟨xs.length - (i+1),by omega,rfl,aA,p'⟩,fun x H' y=> ?_⟩
  obtain⟨e,y⟩:=y
  subst e
  exact hs i x σ _ (y xs q) p
 ·have e:i=xs.length:=by omega
  subst e
  exact .inl ⟨⟨xs,q,Nat.le_refl _⟩,hd σ H p⟩
theorem zj {K:PySem.W.Frag}{a:Addr}{xs:List V}{g:TG}{tb:TS}{D:Ends}{σ:St}{H:Hp}(Pv:Nat→St→Hp→Prop) (h0:Pv 0 σ H) (hl:∀i σ H,i≤xs.length→Pv i σ H→aj K H a xs)
  (hs:∀i x σ H,xs[i]? =some x→Pv i σ H→g x σ H fun aX H2=>tb {D with nx:=Pv (i+1),ct:=Pv (i+1),bk:=D.nx} aX H2) (hd:∀σ H,Pv xs.length σ H→D.nx σ H):
  ∃W:Nat→Nat→St→Hp→Prop,(∃m,W 0 m σ H)∧∀i m σ H,W i m σ H→
   ((kr K a).stop i H∧D.nx σ H)∨((kr K a).go i H∧∃N:St→Hp→Prop,(∀af H',N af H'→∃m',m'<m∧W (i+1) m' af H')∧∀x H',(kr K a).jC i H x H'→g x σ H' fun aX H2=>tb {D with nx:=N,ct:=N,bk:=D.nx} aX H2):=by
 refine⟨fun i m σ H=>m=xs.length - i∧i≤xs.length∧Pv i σ H,⟨xs.length,by simp,Nat.zero_le _,h0⟩,?_⟩
 rintro i m σ H ⟨rfl,hi,p⟩
 have q:=hl i σ H hi p
 by_cases aA:i<xs.length
 ·refine .inr ⟨⟨xs,xs[i],q,by simp[aA]⟩,Pv (i+1),fun af H' p'=> ⟨xs.length - (i+1),by omega,rfl,aA,p'⟩,fun x H' y=> ?_⟩
  obtain⟨e,y⟩:=y
  subst e
  exact hs i x σ _ (y xs q) p
 ·have e:i=xs.length:=by omega
  subst e
  exact .inl ⟨⟨xs,q,Nat.le_refl _⟩,hd σ H p⟩
theorem YC {lo:Int}{n:Nat}{g:TG}{tb:TS}{D:Ends}{σ:St}{H:Hp}(Pv:Nat→St→Hp→Prop) (h0:Pv 0 σ H)
  (hs:∀i σ H,i<n→Pv i σ H→g (.int (lo+i)) σ H fun aX H2=>tb {D with nx:=Pv (i+1),ct:=Pv (i+1),bk:=D.nx} aX H2) (hd:∀σ H,Pv n σ H→D.nx σ H):
  ∃W:Nat→Nat→St→Hp→Prop,(∃m,W 0 m σ H)∧∀i m σ H,W i m σ H→
   ((iI lo n).stop i H∧D.nx σ H)∨((iI lo n).go i H∧∃N:St→Hp→Prop,(∀af H',N af H'→∃m',m'<m∧W (i+1) m' af H')∧∀x H',(iI lo n).jC i H x H'→g x σ H' fun aX H2=>tb {D with nx:=N,ct:=N,bk:=D.nx} aX H2):=by
 refine⟨fun i m σ H=>m=n - i∧i≤n∧Pv i σ H,⟨n,by simp,Nat.zero_le _,h0⟩,?_⟩
 rintro i m σ H ⟨rfl,hi,p⟩
 by_cases aA:i<n
 ·refine .inr ⟨aA,Pv (i+1),fun af H' p'=> ⟨n - (i+1),by omega,rfl,aA,p'⟩,fun x H' y=> ?_⟩
  obtain⟨e,y⟩:=y
  subst e y
  exact hs i σ _ aA p
 ·have e:i=n:=by omega
  subst e
  exact .inl ⟨Nat.le_refl _,hd σ H p⟩
abbrev R2:=V→V→Hp→VK→Prop
def aW (X:Cx) (f:Value→Value→Sem Value) (r:R2):Prop:=
 ∀(pins:List (Addr×Obj)) (s:Shared) (σ:St) (H:Hp) (x y:V) (v u:Value) (Q:VK),Inv X pins σ H s→RelV x v→RelV y u→r x y H Q→
  wpAny (model X.prog X.w) X.A (f v u) (EP X pins σ Q) X.xe s
def um (X:Cx) (f:Value→Sem Value) (r:V→Hp→VK→Prop):Prop:=
 ∀(pins:List (Addr×Obj)) (s:Shared) (σ:St) (H:Hp) (x:V) (v:Value) (Q:VK),Inv X pins σ H s→RelV x v→r x H Q→
  wpAny (model X.prog X.w) X.A (f v) (EP X pins σ Q) X.xe s
def cM (X:Cx) (f:Value) (r:List V→Hp→VK→Prop):Prop:=
 ∀(pins:List (Addr×Obj)) (s:Shared) (σ:St) (H:Hp) (xs:List V) (us:List Value) (Q:VK),Inv X pins σ H s→Vals xs us→r xs H Q→
  wpAny (model X.prog X.w) X.A (call f us) (EP X pins σ Q) X.xe s
def gP (r:R2) (ta tb:TE):TE:=fun σ H Q=>ta σ H fun x H1=>tb σ H1 fun y H2=>r x y H2 Q
def Ah (r:V→Hp→VK→Prop) (ta:TE):TE:=fun σ H Q=>ta σ H fun x H1=>r x H1 Q
def rI (C:Int→Int→Prop) (g:Int→Int→V):R2:=fun x y H Q=> ∃i j,x=.int i∧y=.int j∧C i j∧Q (g i j) H
def gY (g:Int→Int→V):R2:=fun x y H Q=> ∃i j,x=.int i∧y=.int j∧Q (g i j) H
def rU (g:Int→V):V→Hp→VK→Prop:=fun x H Q=> ∃i,x=.int i∧Q (g i) H
section
variable {X:Cx}{a b c:Expr}{ta tb tc:TE}{pos:Pos}
theorem tU (ha:PE X a ta) (hb:PE X b tb) {pins:List (Addr×Obj)}{s:Shared}{σ:St}{H:Hp}{R:V→V→Hp→Prop}(I:Inv X pins σ H s)
  (h:ta σ H fun x H1=>tb σ H1 fun y H2=>R x y H2) {Q:Value→Shared→Prop}{f:Value→Value→Sem Value}
  (hf:∀v u s2 x y H2,Inv X pins σ H2 s2→RelV x v→RelV y u→R x y H2→wpAny (model X.prog X.w) X.A (f v u) Q X.xe s2):
  wpAny (model X.prog X.w) X.A (eval a X.env) (fun v az=>wpAny (model X.prog X.w) X.A (eval b X.env) (fun u gQ=>wpAny (model X.prog X.w) X.A (f v u) Q X.xe gQ) X.xe az) X.xe s:=by
 refine ao (ha pins s σ H _ I h) fun v s1 ⟨x,H1,I1,r1,q1⟩=> ?_
 refine ao (hb pins s1 σ H1 _ I1 q1) fun u s2 ⟨y,H2,I2,r2,q2⟩=> ?_
 exact hf v u s2 x y H2 I2 r1 r2 q2
theorem Zm {op:Operator}{r:R2}(ho:aW X (binaryOp op) r) (ha:PE X a ta) (hb:PE X b tb):PE X (.BinOp a op b pos) (gP r ta tb):=by
 intro pins s σ H Q I h
 exact wpAny_BinOp (tU ha hb I h fun v u s2 x y H2 I2 rx ry q=>ho pins s2 σ H2 x y v u Q I2 rx ry q)
theorem tX {op:UnaryOp}{r:V→Hp→VK→Prop}(ho:um X (unaryOp op) r) (ha:PE X a ta):PE X (.UnaryOp op a pos) (Ah r ta):=by
 intro pins s σ H Q I h
 exact UnaryOp_ (ao (ha pins s σ H _ I h) fun v s1 ⟨x,H1,I1,r1,q1⟩=>ho pins s1 σ H1 x v Q I1 r1 q1)
theorem oE {f:Value→Value→Sem Value}{C:Int→Int→Prop}{g:Int→Int→Int}
  (rule:∀(i j:Int) (t u:Tok) (s:Shared) (Q:Value→Shared→Prop) (E:Value→Shared→Prop),C i j→Q (.int (g i j) s.toks) {s with toks:=s.toks+1}→wpAny (model X.prog X.w) X.A (f (.int i t) (.int j u)) Q E s):
  aW X f (rI C fun i j=> .int (g i j)):=by
 intro pins s σ H x y v u Q I rx ry h
 obtain⟨i,j,rfl,rfl,hc,q⟩:=h
 obtain⟨t,rfl⟩:=rx
 obtain⟨t',rfl⟩:=ry
 exact rule i j t t' s _ _ hc ⟨.int (g i j),H,I.tok _,⟨_,rfl⟩,q⟩
theorem wm {f:Value→Value→Sem Value}{g:Int→Int→Int}
  (rule:∀(i j:Int) (t u:Tok) (s:Shared) (Q:Value→Shared→Prop) (E:Value→Shared→Prop),Q (.int (g i j) s.toks) {s with toks:=s.toks+1}→wpAny (model X.prog X.w) X.A (f (.int i t) (.int j u)) Q E s):
  aW X f (gY fun i j=> .int (g i j)):=by
 intro pins s σ H x y v u Q I rx ry h
 obtain⟨i,j,rfl,rfl,q⟩:=h
 obtain⟨t,rfl⟩:=rx
 obtain⟨t',rfl⟩:=ry
 exact rule i j t t' s _ _ ⟨.int (g i j),H,I.tok _,⟨_,rfl⟩,q⟩
theorem oF {f:Value→Value→Sem Value}{g:Int→Int→Bool}
  (rule:∀(i j:Int) (t u:Tok) (s:Shared) (Q:Value→Shared→Prop) (E:Value→Shared→Prop),Q (.bool (g i j)) s→wpAny (model X.prog X.w) X.A (f (.int i t) (.int j u)) Q E s):
  aW X f (gY fun i j=> .bl (g i j)):=by
 intro pins s σ H x y v u Q I rx ry h
 obtain⟨i,j,rfl,rfl,q⟩:=h
 obtain⟨t,rfl⟩:=rx
 obtain⟨t',rfl⟩:=ry
 exact rule i j t t' s _ _ ⟨.bl (g i j),H,I,rfl,q⟩
def K3 (i j:Int):Prop:=0<j∧j<1073741824
def K2 (i j:Int):Prop:=0≤j∧j≤1000000∧i.natAbs<2^64
def uL (i j:Int):Prop:=(-(2^64)<i∧i<2^64)∨(-(2^64)<j∧j<2^64)
theorem uL.ok {i j:Int}(h:uL i j):IntMulOk i j:=by
 rcases h with ⟨h1,h2⟩ |⟨h1,h2⟩
 ·exact .of_left (intBits_le_64 h1 h2)
 ·exact .of_right (intBits_le_64 h1 h2)
theorem Z6:aW X (binaryOp .Add) (gY fun i j=> .int (i+j)):=wm fun _ _ _ _ _ _ _ q=>add_int q
theorem W2:aW X (binaryOp .Sub) (gY fun i j=> .int (i - j)):=wm fun _ _ _ _ _ _ _ q=>sub_int q
theorem JV:aW X (binaryOp .Mult) (rI uL fun i j=> .int (i*j)):=oE fun _ _ _ _ _ _ _ hc q=>mul_int q hc.ok
theorem zy:aW X (binaryOp .FloorDiv) (rI K3 fun i j=> .int (i/j)):=oE fun i j _ _ _ _ _ hc q=>by
 have h1:(0:Int)<j:=hc.1
 have h2:j<1073741824:=hc.2
 exact floordiv_int (by omega) (by rw[Int.fdiv_eq_ediv_of_nonneg i (by omega)];exact q) (.inl (PyProof.noPylong_small (by omega)))
theorem Yw:aW X (binaryOp .Mod) (rI (fun _ j=>0<j) fun i j=> .int (i%j)):=oE fun i j _ _ _ _ _ hc q=>by
 have h1:(0:Int)<j:=hc
 exact mod_int' (by omega) (by rw[Int.fmod_eq_emod_of_nonneg i (by omega)];exact q)
theorem yU:aW X (binaryOp .Pow) (rI K2 fun i j=> .int (i^j.toNat)):=oE fun _ _ _ _ _ _ _ hc q=>pow_int_small hc.1 hc.2.1 hc.2.2 q
theorem zY {f:Value→Sem Value}{g:Int→Int}
  (rule:∀(i:Int) (t:Tok) (s:Shared) (Q:Value→Shared→Prop) (E:Value→Shared→Prop),Q (.int (g i) s.toks) {s with toks:=s.toks+1}→wpAny (model X.prog X.w) X.A (f (.int i t)) Q E s):
  um X f (rU fun i=> .int (g i)):=by
 intro pins s σ H x v Q I rx h
 obtain⟨i,rfl,q⟩:=h
 obtain⟨t,rfl⟩:=rx
 exact rule i t s _ _ ⟨.int (g i),H,I.tok _,⟨_,rfl⟩,q⟩
theorem U0:um X (unaryOp .USub) (rU fun i=> .int (-i)):=zY fun _ _ _ _ _ q=>neg_int q
end
def gR:V→V→Bool
 | .ae,.ae=>true | .ae,.int _=>true | .int _,.ae=>true | .ae,.bl _=>true | .bl _,.ae=>true | .ae,.str _=>true | .str _,.ae=>true
 | .int _,.int _=>true | .bl _,.bl _=>true | .str _,.str _=>true | .eY _,.eY _=>true
 | .int _,.str _=>true | .str _,.int _=>true | .bl _,.str _=>true | .str _,.bl _=>true
 |_,_=>false
def Bt:R2:=fun x y H Q=>gR x y=true∧Q (.bl (decide (x=y))) H
def Bo:R2:=fun x y H Q=>gR x y=true∧Q (.bl (!decide (x=y))) H
theorem Ud {i j:Int} :decide (V.int i=V.int j)=(i==j):=by
 rw[Bool.eq_iff_iff]
 simp
theorem yW {i j:Bool} :decide (V.bl i=V.bl j)=(i==j):=by
 rw[Bool.eq_iff_iff]
 simp
theorem zi {i j:Str} :decide (V.str i=V.str j)=(i==j):=by
 rw[Bool.eq_iff_iff]
 simp
theorem zh {i j:Array UInt8} :decide (V.eY i=V.eY j)=(i.toList==j.toList):=by
 rw[Bool.eq_iff_iff]
 cases i
 cases j
 simp
section
variable {X:Cx}{a b c:Expr}{ta tb tc:TE}{pos:Pos}
theorem ZB {pins:List (Addr×Obj)}{σ:St}{H:Hp}{s:Shared}{Q:VK}{k k':Bool}(I:Inv X pins σ H s) (q:Q (.bl k) H) (e:k=k'):EP X pins σ Q (.bool k') s:=by
 subst e
 exact⟨.bl k,H,I,rfl,q⟩
theorem YH:aW X (compareOp .Eq) Bt:=by
 intro pins s σ H x y v u Q I rx ry h
 obtain⟨hs,q⟩:=h
 cases x with
 |ae=>
  cases rx
  cases y with
  |ae=>cases ry;exact PySem.EqNone.eq_none_none (ZB I q (by simp))
  |bl j=>cases ry;exact PySem.EqNone.eq_none_bool (ZB I q (by simp))
  |int j=>obtain⟨t',rfl⟩:=ry;exact PySem.EqNone.eq_none_int (ZB I q (by simp))
  |str j=>obtain⟨t',rfl⟩:=ry;exact PySem.EqNone.eq_none_str (ZB I q (by simp))
  |_=>exact absurd (show false=true from hs) Bool.false_ne_true
 |bl i=>
  cases rx
  cases y with
  |ae=>cases ry;exact PySem.EqNone.eq_bool_none (ZB I q (by simp))
  |bl j=>cases ry;exact eq_bool (ZB I q yW)
  |str j=>obtain⟨t',rfl⟩:=ry;exact PySem.EqMixed.eq_bool_str (ZB I q (by simp))
  |_=>exact absurd (show false=true from hs) Bool.false_ne_true
 |int i=>
  obtain⟨t,rfl⟩:=rx
  cases y with
  |ae=>cases ry;exact PySem.EqNone.eq_int_none (ZB I q (by simp))
  |int j=>obtain⟨t',rfl⟩:=ry;exact eq_int (ZB I q Ud)
  |str j=>obtain⟨t',rfl⟩:=ry;exact PySem.EqMixed.eq_int_str (ZB I q (by simp))
  |_=>exact absurd (show false=true from hs) Bool.false_ne_true
 |str i=>
  obtain⟨t,rfl⟩:=rx
  cases y with
  |ae=>cases ry;exact PySem.EqNone.eq_str_none (ZB I q (by simp))
  |bl j=>cases ry;exact PySem.EqMixed.eq_str_bool (ZB I q (by simp))
  |int j=>obtain⟨t',rfl⟩:=ry;exact PySem.EqMixed.eq_str_int (ZB I q (by simp))
  |str j=>obtain⟨t',rfl⟩:=ry;exact eq_str (ZB I q zi)
  |_=>exact absurd (show false=true from hs) Bool.false_ne_true
 |eY i=>
  obtain⟨t,rfl⟩:=rx
  cases y with
  |eY j=>obtain⟨t',rfl⟩:=ry;exact PySem.W.eq_bytes (ZB I q zh)
  |_=>exact absurd (show false=true from hs) Bool.false_ne_true
 |_=>cases y<;>exact absurd (show false=true from hs) Bool.false_ne_true
theorem ue:aW X (compareOp .NotEq) Bo:=by
 intro pins s σ H x y v u Q I rx ry h
 obtain⟨hs,q⟩:=h
 cases x with
 |ae=>
  cases rx
  cases y with
  |ae=>cases ry;exact PySem.EqNone.ne_none_none (ZB I q (by simp))
  |bl j=>cases ry;exact PySem.EqNone.ne_none_bool (ZB I q (by simp))
  |int j=>obtain⟨t',rfl⟩:=ry;exact PySem.EqNone.ne_none_int (ZB I q (by simp))
  |str j=>obtain⟨t',rfl⟩:=ry;exact PySem.EqNone.ne_none_str (ZB I q (by simp))
  |_=>exact absurd (show false=true from hs) Bool.false_ne_true
 |bl i=>
  cases rx
  cases y with
  |ae=>cases ry;exact PySem.EqNone.ne_bool_none (ZB I q (by simp))
  |bl j=>cases ry;exact ne_bool (ZB I q (congrArg not yW))
  |str j=>obtain⟨t',rfl⟩:=ry;exact PySem.EqMixed.ne_bool_str (ZB I q (by simp))
  |_=>exact absurd (show false=true from hs) Bool.false_ne_true
 |int i=>
  obtain⟨t,rfl⟩:=rx
  cases y with
  |ae=>cases ry;exact PySem.EqNone.ne_int_none (ZB I q (by simp))
  |int j=>obtain⟨t',rfl⟩:=ry;exact ne_int (ZB I q (congrArg not Ud))
  |str j=>obtain⟨t',rfl⟩:=ry;exact PySem.EqMixed.ne_int_str (ZB I q (by simp))
  |_=>exact absurd (show false=true from hs) Bool.false_ne_true
 |str i=>
  obtain⟨t,rfl⟩:=rx
  cases y with
  |ae=>cases ry;exact PySem.EqNone.ne_str_none (ZB I q (by simp))
  |bl j=>cases ry;exact PySem.EqMixed.ne_str_bool (ZB I q (by simp))
  |int j=>obtain⟨t',rfl⟩:=ry;exact PySem.EqMixed.ne_str_int (ZB I q (by simp))
  |str j=>obtain⟨t',rfl⟩:=ry;exact ne_str (ZB I q (congrArg not zi))
  |_=>exact absurd (show false=true from hs) Bool.false_ne_true
 |eY i=>
  obtain⟨t,rfl⟩:=rx
  cases y with
  |eY j=>obtain⟨t',rfl⟩:=ry;exact PySem.W.ne_bytes (ZB I q (congrArg not zh))
  |_=>exact absurd (show false=true from hs) Bool.false_ne_true
 |_=>cases y<;>exact absurd (show false=true from hs) Bool.false_ne_true
theorem Gg:aW X (compareOp .Lt) (gY fun i j=> .bl (decide (i<j))):=oF fun _ _ _ _ _ _ _ q=>lt_int q
theorem pK:aW X (compareOp .LtE) (gY fun i j=> .bl (decide (i≤j))):=oF fun _ _ _ _ _ _ _ q=>le_int q
theorem yM:aW X (compareOp .Gt) (gY fun i j=> .bl (decide (j<i))):=oF fun _ _ _ _ _ _ _ q=>gt_int q
theorem Gf:aW X (compareOp .GtE) (gY fun i j=> .bl (decide (j≤i))):=oF fun _ _ _ _ _ _ _ q=>ge_int q
theorem aW.or {f:Value→Value→Sem Value}{r r':R2}(h:aW X f r) (h':aW X f r'):aW X f (fun x y H Q=>r x y H Q∨r' x y H Q):=by
 intro pins s σ H x y v u Q I rx ry q
 rcases q with q |q
 ·exact h pins s σ H x y v u Q I rx ry q
 ·exact h' pins s σ H x y v u Q I rx ry q
theorem bU (b:Expr) {op:CmpOp}(h:op≠.In:=by decide) (h2:op≠.NotIn:=by decide):behindInMarks op b=false:=by
 have e1:(op==CmpOp.In)=false:=by cases op<;>first |rfl |exact absurd rfl h
 have e2:(op==CmpOp.NotIn)=false:=by cases op<;>first |rfl |exact absurd rfl h2
 cases b<;>simp[behindInMarks,e1,e2]
theorem Yj {op:CmpOp}{r:R2}(ho:aW X (compareOp op) r) (ha:PE X a ta) (hb:PE X b tb) (hm:behindInMarks op b=false):PE X (.Compare a [op] [b] pos) (gP r ta tb):=by
 intro pins s σ H Q I h
 exact wpAny_Compare1 (tU ha hb I h fun v u s2 x y H2 I2 rx ry q=>ho pins s2 σ H2 x y v u Q I2 rx ry q) hm
def Aj (t:TE):TT:=fun σ H Q=>t σ H fun x H'=> ∃k,x=.bl k∧Q k H'
theorem ZU {op:CmpOp}{r:R2}(ho:aW X (compareOp op) r) (ha:PE X a ta) (hb:PE X b tb) (hm:behindInMarks op b=false):PT X (.Compare a [op] [b] pos) (Aj (gP r ta tb)):=by
 intro pins s σ H Q I h
 refine wpAny_isTrue_Compare1 (ao (ha pins s σ H _ I h) fun v s1 ⟨x,H1,I1,r1,q1⟩=>ao (hb pins s1 σ H1 _ I1 q1) fun u s2 ⟨y,H2,I2,r2,q2⟩=>
  ao (ho pins s2 σ H2 x y v u _ I2 r1 r2 q2) fun c s3 ⟨z,H3,I3,r3,k,e,q3⟩=> ?_) hm
 subst e
 cases r3
 exact wpAny_truthy_bool ⟨H3,I3,q3⟩
def AL (r r':R2) (ta tb tc:TE):TE:=fun σ H Q=>ta σ H fun x H1=>tb σ H1 fun y H2=>r x y H2 fun z H3=> ∃k,z=.bl k∧
 (if k=true then tc σ H3 fun w' H4=>r' y w' H4 Q else Q (.bl false) H3)
theorem Uu {op rf:CmpOp}{r r':R2}(ho:aW X (compareOp op) r) (bX:aW X (compareOp rf) r') (ha:PE X a ta) (hb:PE X b tb) (hc:PE X c tc)
  (hm:lastMarks [op,rf] [b,c]=false:=by with_unfolding_all rfl):PE X (.Compare a [op,rf] [b,c] pos) (AL r r' ta tb tc):=by
 intro pins s σ H Q I h
 refine Compare_chain (ao (ha pins s σ H _ I h) fun v s1 ⟨x,H1,I1,r1,q1⟩=>chain_link (ao (hb pins s1 σ H1 _ I1 q1) fun u s2 ⟨y,H2,I2,r2,q2⟩=>
  ao (ho pins s2 σ H2 x y v u _ I2 r1 r2 q2) fun d s3 ⟨z,H3,I3,r3,k,e,q3⟩=> ?_)) hm
 subst e
 cases r3
 refine wpAny_truthy_bool ?_
 cases k with
 |false=>exact ite_ff ⟨.bl false,H3,I3,rfl,q3⟩
 |true=>exact ite_tt (chain_last (ao (hc pins s3 σ H3 _ I3 q3) fun w' s4 ⟨z',H4,I4,r4,q4⟩=>bX pins s4 σ H4 y z' u w' Q I4 r2 r4 q4))
theorem jT:(sizeLine:Nat)<2^63:=by rw[sizeLine_eq];decide
theorem vals1 {x:V}{us:List Value}(r:Vals [x] us):∃u,us=[u]∧RelV x u:=by
 cases r with
 |cons r1 r2=>cases r2;exact⟨_,rfl,r1⟩
theorem vals2 {x y:V}{us:List Value}(r:Vals [x,y] us):∃u w',us=[u,w']∧RelV x u∧RelV y w':=by
 cases r with
 |cons r1 r2=>
  cases r2 with
  |cons r3 r4=>cases r4;exact⟨_,_,rfl,r1,r3⟩
theorem WM (hc:X.calm=true):cM X (.builtin "max") (fun xs H Q=> ∃i j,xs=[.int i,.int j]∧Q (.int (if j>i then j else i)) H):=by
 intro pins s σ H xs us Q I r h
 obtain⟨i,j,rfl,q⟩:=h
 obtain⟨u,w',rfl,⟨t,rfl⟩,⟨t',rfl⟩⟩:=vals2 r
 refine max_two_ints (I.ok.hd hc) fun h' tk k=> ⟨_,H,I.kept k,?_,q⟩
 by_cases hj:j>i
 ·rw[if_pos hj,if_pos hj];exact⟨_,rfl⟩
 ·rw[if_neg hj,if_neg hj];exact⟨_,rfl⟩
theorem Ig (hc:X.calm=true):cM X (.builtin "min") (fun xs H Q=> ∃i j,xs=[.int i,.int j]∧Q (.int (if j<i then j else i)) H):=by
 intro pins s σ H xs us Q I r h
 obtain⟨i,j,rfl,q⟩:=h
 obtain⟨u,w',rfl,⟨t,rfl⟩,⟨t',rfl⟩⟩:=vals2 r
 refine min_two_ints (I.ok.hd hc) fun h' tk k=> ⟨_,H,I.kept k,?_,q⟩
 by_cases hj:j<i
 ·rw[if_pos hj,if_pos hj];exact⟨_,rfl⟩
 ·rw[if_neg hj,if_neg hj];exact⟨_,rfl⟩
theorem ZS:cM X (.type "str") (fun xs H Q=> ∃i,xs=[.int i]∧i.natAbs.log2<1920∧Q (.str (toString i)) H):=by
 intro pins s σ H xs us Q I r h
 obtain⟨i,rfl,hz,q⟩:=h
 obtain⟨u,rfl,t,rfl⟩:=vals1 r
 exact PySem.P.str_of_int hz ⟨.str _,H,I.tok _,⟨_,rfl⟩,q⟩
end
structure ur (h:Heap) (x dx C:Addr) (mA:Str→Option Value):Prop where
 obj:h.get? x=some (PySem.W.instObj C dx)
 ns:h.Ns1 dx mA
 ne:dx≠x
theorem Kr {h:Heap}{dx:Addr}{mA:Str→Option Value}(n:h.Ns1 dx mA):∃od,h.get? dx=some od∧∀name,PySem.W.lookIn name od=some (mA name):=by
 obtain⟨o,es,ep,ho,hd,hk,_,hm⟩:=n
 refine⟨o,ho,fun name=> ?_⟩
 have e:=hm name
 unfold nsFind findBy at e
 rw[←Array.find?_toList]at e
 unfold PySem.W.lookIn
 rw[hd]
 dsimp only
 split
 ·rename_i y q
  rw[q]at e
  exact congrArg some e
 ·rename_i q
  rw[q]at e
  have a:es.toList.any (·.refKey)=false:=by
   rw[List.any_eq_false]
   intro y hy
   obtain⟨z,t,Dt⟩:=hk y (Array.mem_toList_iff.mp hy)
   simp[DictEntry.refKey,Dt]
  have a':¬es.toList.any (·.refKey)=true:=by rw[a];exact Bool.false_ne_true
  rw[if_neg a']
  exact congrArg some e
theorem ur.look {h:Heap}{x dx C:Addr}{mA:Str→Option Value}(I:ur h x dx C mA):∃od,PySem.W.InstAt h x (PySem.W.instObj C dx) C (some od)∧∀name,PySem.W.lookIn name od=some (mA name):=
 let ⟨od,ho,hl⟩:=Kr I.ns
 ⟨od,⟨I.obj,rfl,rfl,ho⟩,hl⟩
theorem eG.some_of {v:V}{o:Option Value}(r:eG (some v) o):∃u,o=some u∧RelV v u:=by
 cases o with
 |none=>exact(show False from r).elim
 |some u=>exact⟨u,rfl,r⟩
section
variable {P:Program}{w:World}{H H':Hp}{h h':Heap}{a C dx:Addr}{fs EB:List (Str×V)}
theorem Hm (ai:bg P w H h) (e:H a=some (.ins C dx fs)):∃mA,ur h a dx C mA∧(∀f,eG (fs.lookup f) (mA f))∧PySem.Within mA (fs.map (·.1))∧fs.length≤1000∧H dx=some (.own a):=by
 obtain⟨d,z,ne,ob,mA,n,r,q⟩:=(show ba P w H h a (.ins C dx fs) from ai a _ e)
 exact⟨mA,⟨ob,n,ne⟩,r,q,z,d⟩
end
structure uK (K:PySem.W.Frag) (C:Addr):Prop where
 pg:PySem.W.plainGet K C Str.empty=true
 hd:PySem.W.hasDictIn K C=true
 po:PySem.W.plainOver K C=true
 sa:PySem.W.findIn K (.ref C) "__setattr__" =some (some (.builtin "object.__setattr__"))
theorem uK.get {K:PySem.W.Frag}{C:Addr}(c:uK K C) (f:Str):PySem.W.plainGet K C f=true:=c.pg
structure Me (K:PySem.W.Frag) (C:Addr) (f:Str) (v:V) (u:Value):Prop where
 at_:PySem.W.findIn K (.ref C) f=some (some u)
 rel:RelV v u
 get:PySem.W.specialIn K u "__get__" =some none
 cp:PySem.W.copiedNames.contains f=false
structure Meth (K:PySem.W.Frag) (C:Addr) (m:Str) (f:Addr):Prop where
 at_:PySem.W.findIn K (.ref C) m=some (some (.ref f))
 fn:PySem.W.isFn K (.ref f)=true
 kp:PySem.W.keepIn K (.ref f)=true
section
variable {X:Cx}{pins:List (Addr×Obj)}{σ:St}{H:Hp}{s:Shared}{A:Around}{E:Value→Shared→Prop}{Q:Value→Shared→Prop}{c:Value}{b:Bool}
inductive cg (K:PySem.W.Frag) (H:Hp):V→Value→Prop where
 |ae:cg K H .ae (.type "NoneType")
 |bl (x:Bool):cg K H (.bl x) (.type "bool")
 |int (i:Int):cg K H (.int i) (.type "int")
 |str (x:Str):cg K H (.str x) (.type "str")
 |fA (x:UInt64):cg K H (.fA x) (.type "float")
 |lst {a:Addr}{xs:List V} (e:H a=some (.lst xs)):cg K H (.ref a) (.type "list")
 |bP {a:Addr}{o:Obj}{xs:List V} (e:H a=some (.bP o (.lst xs))):cg K H (.ref a) (.type "list")
 |tup {a:Addr}{xs:List V} (e:H a=some (.tup xs)):cg K H (.ref a) (.type "tuple")
 |dK {a:Addr}{ah:List (Key×V)} (e:H a=some (.dK ah)):cg K H (.ref a) (.type "dict")
 |dT {a:Addr}{ah:List (List Key×V)} (e:H a=some (.dT ah)):cg K H (.ref a) (.type "dict")
 |ins {a C dx:Addr}{fs:List (Str×V)} (e:H a=some (.ins C dx fs)) (cl:uK K C) (ha:PySem.W.findIn K (.ref C) "__class__" =some (some (.builtin "object.__class__")))
  (hn:PySem.W.specialIn K (.builtin "object.__class__") "__get__" =some (some (.builtin "getset_descriptor.__get__"))) (wY:PySem.W.takesIn K (.builtin "object.__class__")=some true)
  (hm:PySem.W.mroIn K C (.type "object")=some true):cg K H (.ref a) (.ref C)
theorem Il {x:V}{u t:Value}(I:Inv X pins σ H s) (rx:RelV x u) (ty:cg X.K H x t) (e:PySem.W.kitOne X.K t c=some b) (h:∀tk,Q (.bool b) {s with toks:=tk}):
  wpAny (model X.prog X.w) A (call (.builtin "isinstance") [u,c]) Q E s:=by
 cases ty with
 |ae=>cases (show u=Value.none from rx);exact PySem.W.kia_one PySem.W.kitx_none I.bC True.intro e (fun z=>nomatch z) h
 |bl y=>cases (show u=Value.bool y from rx);exact PySem.W.kia_one PySem.W.kitx_bool I.bC True.intro e (fun z=>nomatch z) h
 |int i=>obtain⟨t,q⟩:=(show ∃t,u=Value.int i t from rx);cases q;exact PySem.W.kia_one PySem.W.kitx_int I.bC True.intro e (fun z=>nomatch z) h
 |str y=>obtain⟨t,q⟩:=(show ∃t,u=Value.str y t from rx);cases q;exact PySem.W.kia_one PySem.W.kitx_str I.bC True.intro e (fun z=>nomatch z) h
 |fA y=>obtain⟨t,q⟩:=(show ∃t,u=Value.float y t from rx);cases q;exact PySem.W.kia_one PySem.W.kitx_float I.bC True.intro e (fun z=>nomatch z) h
 | @lst a xs ea=>
  cases (show u=Value.ref a from rx)
  obtain⟨_,_,n,_,h1⟩:=(show ba X.prog X.w H s.heap a (.lst xs) from I.ai a _ ea)
  exact PySem.W.kia_one PySem.W.kitx_list I.bC ⟨_,h1,rfl⟩ e (fun z=>nomatch z) h
 | @bP a ob xs ea=>
  cases (show u=Value.ref a from rx)
  obtain⟨_,_,_,n,_,h1⟩:=(show ba X.prog X.w H s.heap a (.bP ob (.lst xs)) from I.ai a _ ea)
  exact PySem.W.kia_one PySem.W.kitx_list I.bC ⟨_,h1,rfl⟩ e (fun z=>nomatch z) h
 | @tup a xs ea=>
  cases (show u=Value.ref a from rx)
  obtain⟨_,_,_,p,_⟩:=(show ba X.prog X.w H s.heap a (.tup xs) from I.ai a _ ea)
  obtain⟨o,h1,h2,_⟩:=p
  exact PySem.W.kia_one PySem.W.kitx_tuple I.bC ⟨o,h1,h2⟩ e (fun z=>nomatch z) h
 | @dK a ah ea=>
  cases (show u=Value.ref a from rx)
  obtain⟨_,_,vs,_,p⟩:=(show ba X.prog X.w H s.heap a (.dK ah) from I.ai a _ ea)
  obtain⟨o,es,ep,h1,h2,_⟩:=p
  exact PySem.W.kia_one PySem.W.kitx_dict I.bC ⟨o,h1,h2.1⟩ e (fun z=>nomatch z) h
 | @dT a ah ea=>
  cases (show u=Value.ref a from rx)
  obtain⟨_,_,xs,_,o,es,ep,h1,h2,_⟩:=(show ba X.prog X.w H s.heap a (.dT ah) from I.ai a _ ea)
  exact PySem.W.kia_one PySem.W.kitx_dict I.bC ⟨o,h1,h2.1⟩ e (fun z=>nomatch z) h
 | @ins a C dx fs ea cl ha hn wY hm=>
  cases (show u=Value.ref a from rx)
  obtain⟨mA,O,_⟩:=Hm I.ai ea
  obtain⟨od,J,_⟩:=O.look
  exact PySem.W.kia_one (PySem.W.kitx_own (cl.get _) cl.hd ha hn wY hm) I.bC J e (fun z=>nomatch z) h
end
structure bE (k:Nat) (A:Around):Prop where
 hd:A.handled=none
 dp:A.depth+3*k+5<recursionLimit
 un:A.units+16*k+200<cLine
 gd:A.guards=some []
theorem bE.mono {j k:Nat}{A:Around}(r:bE k A) (h:j≤k):bE j A:=⟨r.hd,by have:=r.dp;omega,by have:=r.un;omega,r.gd⟩
theorem bE.deeper {k:Nat}{A:Around}(r:bE (k+1) A) (env:Env):bE k (A.deeper env):=
 ⟨r.hd,by have:=r.dp;show A.depth+1+3*k+5<_;omega,by have:=r.un;show A.units+3+16*k+200<_;omega,r.gd⟩
theorem bE.depth {k:Nat}{A:Around}(r:bE k A):A.depth<recursionLimit:=by have:=r.dp;omega
theorem bE.units {k:Nat}{A:Around}(r:bE k A):A.units+64<cLine:=by have:=r.un;omega
theorem bE.uR {k:Nat}{A:Around}(r:bE k A):A.units<cLine:=by have:=r.un;omega
def kK:TA:=fun _ H Q=>Q [] H
def gk (ta:TE) (tr:TA):TA:=fun σ H Q=>ta σ H fun x H1=>tr σ H1 fun xs H2=>Q (x::xs) H2
section
variable {X:Cx}{e:Expr}{es:List Expr}{te:TE}{t:TA}{pos:Pos}
theorem Zb:PA X [] kK:=fun _ _ _ _ H Q I h=>Calls.spliced_nil ⟨[],H,I,.nil,h⟩
theorem Za (ha:PE X e te) (hr:PA X es t) (hs:starEach (e::es) X.env=(false,eval e X.env)::starEach es X.env:=by rfl):PA X (e::es) (gk te t):=by
 intro pos pins s σ H Q I h
 rw[hs]
 show wpAny _ _ (spliced ((false,eval e X.env)::backTo pos (starEach es X.env))) _ _ s
 refine Calls.spliced_cons (ao (ha pins s σ H _ I h) fun u s1 ⟨x,H1,I1,r1,q1⟩=> ?_)
 exact ao (hr pos pins s1 σ H1 _ I1 q1) fun us s2 ⟨xs,H2,I2,r2,q2⟩=> ⟨x::xs,H2,I2,.cons r1 r2,q2⟩
def va (t:TA):TE:=fun σ H Q=>t σ H fun xs H1=>xs.length≤sizeLine∧∀p,H1 p=none→Q (.ref p) (upd H1 p (.tup xs))
def qb (t:TA):TE:=fun σ H Q=>t σ H fun xs H1=>xs.length≤sizeLine∧∀p,H1 p=none→Q (.ref p) (upd H1 p (.lst xs))
theorem ZH {x1} (h:PA X es t):PE X (.Tuple es x1 pos) (va t):=by
 intro pins s σ H Q I hq
 refine wpAny_Tuple_spliced (ao (h pos pins s σ H _ I hq) fun us s1 ⟨xs,H1,I1,r,z,q⟩=> ⟨by rw[←r.length];exact z,?_⟩)
 have hf:H1 s1.heap.objs.size=none:=I1.ai.fresh (Nat.le_refl _)
 refine⟨.ref s1.heap.objs.size,upd H1 s1.heap.objs.size (.tup xs),I1.laid (t':=s1.toks) (fun b u e=>Heap.get?_push_of_some _ e) (Nat.le_refl _) ?_,rfl,q _ hf⟩
 exact⟨z,us,r,⟨_,Heap.get?_push_size _ rfl,rfl,_,rfl⟩,_,Heap.get?_push_size _ rfl,rfl⟩
theorem Zx (h:PA X es t):PE X (.List es pos) (qb t):=by
 intro pins s σ H Q I hq
 refine wpAny_List_spliced (ao (h pos pins s σ H _ I hq) fun us s1 ⟨xs,H1,I1,r,z,q⟩=> ⟨by rw[←r.length];exact z,?_⟩)
 have hf:H1 s1.heap.objs.size=none:=I1.ai.fresh (Nat.le_refl _)
 refine⟨.ref s1.heap.objs.size,upd H1 s1.heap.objs.size (.lst xs),I1.laid (t':=s1.toks) (fun b u e=>Heap.get?_push_of_some _ e) (Nat.le_refl _) ?_,rfl,q _ hf⟩
 exact⟨z,us,0,r,Heap.get?_push_size _ rfl⟩
end
abbrev Sp:=List V→Hp→VK→XK→Prop
abbrev f9:=List Env→Hp→Shared→XK→Value→Shared→Prop
structure nv (P:Program) (w:World) (K:PySem.W.Frag) (mg:Str→Option Value) (base:Heap) (A:Around) (outer:List Env) (s:Shared) (H:Hp):Prop where
 frames:A.frames=some outer
 mod:Mod K mg base
 bs:∀b o,base.get? b=some o→s.heap.get? b=some o∧H b=none
 fW:base.objs.size≤s.heap.objs.size
 cQ:s.heap.FunFrames base outer
 eU:∀b∈aN outer,H b=none
 ai:bg P w H s.heap
 bare:AllBare s.gens
def CE (outer:List Env) (P:Program) (w:World) (H:Hp) (s:Shared) (Q:VK) (u:Value) (s':Shared):Prop:=
 ∃v H',s'.os=s.os∧AllBare s'.gens∧Un (aN outer) [] H H' s.heap s'.heap∧bg P w H' s'.heap∧RelV v u∧Q v H'
def CR (CX:f9) (outer:List Env) (P:Program) (w:World) (H:Hp) (s:Shared) (Q:VK) (E:XK) (r:Result) (s':Shared):Prop:=
 match r with
 | .ok (.ret u)=>CE outer P w H s Q u s'
 | .ok _=>False
 | .error e=>CX outer H s E e s'
structure aC (P:Program) (w:World) (K:PySem.W.Frag) (mg:Str→Option Value) (base:Heap) (CX:f9) (k:Nat) (f:Addr) (fd:FuncData) (ps:List Str) (sp:Sp):Prop where
 len:∀vs H Q E,sp vs H Q E→vs.length=ps.length
 run:∀(A:Around) (outer:List Env) (s:Shared) (H:Hp) (args:Args) (us:List Value) (vs:List V) (Q:VK) (E:XK),bE k A→nv P w K mg base A outer s H→BindsTo s fd args (ps.zip us)→Vals vs us→sp vs H Q E→
  codeAny (model P w) A (.call (.ref f) args) (CR CX outer P w H s Q E) s
section
variable {X:Cx}{pins:List (Addr×Obj)}{σ:St}{H:Hp}{s s':Shared}
theorem Inv.yq (I:Inv X pins σ H s):nv X.prog X.w X.K X.mg X.base X.A X.stack s H:=
 ⟨I.ok.frames,I.ok.mod,I.bs,Nat.le_trans I.ok.fW I.sz,I.stack,I.kM,I.ai,I.bare⟩
theorem Inv.after {Q:VK}{u:Value}(I:Inv X pins σ H s) (h:CE X.stack X.prog X.w H s Q u s'):EP X pins σ Q u s':=by
 obtain⟨v,H',os,bare,un,ai,r,q⟩:=h
 obtain⟨hh,g,d,t,BG⟩:=s'
 obtain rfl:BG=s.os:=os
 exact⟨v,H',I.call (h':=hh) (g':=g) (d':=d) (t':=t) (ch:=[]) un ai bare (fun b z=>absurd z (by simp)),r,q⟩
end
def qc (sp:Sp) (iz:List V) (E:XK) (t:TA):TE:=fun σ H Q=>t σ H fun vs H1=>sp (vs++iz) H1 Q E
def Binds (K:PySem.W.Frag) (fd:FuncData) (ps:List Str) (ds:List Value):Prop:=
 ∀(s:Shared) (us:List Value),K.In s.heap→(us++ds).length=ps.length→BindsTo s fd ⟨us,[]⟩ (ps.zip (us++ds))
theorem Binds.all {K:PySem.W.Frag}{fd:FuncData}{ps:List Str}(h:∀us:List Value,us.length=ps.length→bindArgs fd ⟨us,[]⟩=pure (ps.zip us)):Binds K fd ps []:=fun s us _ hl=>by
 rw[List.append_nil]at hl ⊢
 exact .of_eq (h us hl)
def Passes (CX:f9) (X:Cx) (E:XK):Prop:=∀(pins:List (Addr×Obj)) (σ:St) (H:Hp) (s:Shared) (e:Value) (s':Shared),Inv X pins σ H s→CX X.stack H s E e s'→X.xe e s'
section
variable {X:Cx}{CX:f9}{k:Nat}{f C:Addr}{fd:FuncData}{ps:List Str}{sp:Sp}{iz:List V}{ds:List Value}{E:XK}{x m:Str}{p pos apos:Pos}{e o:Expr}{es:List Expr}{ta:TE}{t:TA}
theorem F4 {pins:List (Addr×Obj)}{σ:St}{H:Hp}{s:Shared}{Q:VK}{us:List Value}{vs:List V}(F:aC X.prog X.w X.K X.mg X.base CX k f fd ps sp) (hr:bE k X.A) (hb:Binds X.K fd ps ds) (hd:Vals iz ds) (hx:Passes CX X E)
  (I:Inv X pins σ H s) (r:Vals vs us) (h:sp (vs++iz) H Q E):wpAny (model X.prog X.w) X.A (call (.ref f) us) (EP X pins σ Q) X.xe s:=by
 have r2:Vals (vs++iz) (us++ds):=r.append hd
 have hl:(us++ds).length=ps.length:=by rw[←r2.length];exact F.len _ _ _ _ h
 refine wpAny_call (codeAny_mono (F.run X.A X.stack s H ⟨us,[]⟩ (us++ds) (vs++iz) Q E hr I.yq (hb s us I.bC hl) r2 h) fun r s' hq=> ?_)
 cases r with
 |error e=>exact hx pins σ H s e s' I hq
 |ok fl=>
  cases fl with
  |ret u=>exact I.after hq
  |next=>exact False.elim hq
  |brk=>exact False.elim hq
  |cont=>exact False.elim hq
theorem Y8 (F:aC X.prog X.w X.K X.mg X.base CX k f fd ps sp) (hr:bE k X.A) (hg:Gl X x) (hm:X.mg x=some (.ref f)) (hk:PySem.W.keepIn X.K (.ref f)=true) (hb:Binds X.K fd ps ds) (hd:Vals iz ds) (hx:Passes CX X E)
  (ha:PA X (e::es) t) (gD:(x==("__debug__" :Str))=false:=by decide) (he:starEach (e::es) X.env=(false,eval e X.env)::starEach es X.env:=by rfl) (cJ:(backTo pos (starEach es X.env)).any (·.1)=false:=by rfl):
  PE X (.Call (.Name x p) (e::es) [] pos) (qc sp iz E t):=by
 intro pins s σ H Q I h
 refine wpAny_Call_Name_kw (YQ I hg hm ?_ gD)
 refine PySem.W.callWith_K (h₀:=X.base) I.ok.mod.ja hk (ao (ha pos pins s σ H _ I h) fun us s1 ⟨vs,H1,I1,r,q⟩=> ⟨I1.bC,?_⟩) he cJ
 exact F4 F hr hb hd hx I1 r q
structure Mk (K:PySem.W.Frag) (C f:Addr):Prop where
 makes:PySem.W.makesIn K C=true
 init:PySem.W.findIn K (.ref C) "__init__" =some (some (.ref f))
 fn:PySem.W.isFn K (.ref f)=true
 kp:PySem.W.keepIn K (.ref C)=true
end
section
variable {X:Cx}{CX:f9}{k:Nat}{f C:Addr}{fd:FuncData}{ps ks:List Str}{sp:Sp}{E:XK}{x m:Str}{p pos apos Lu:Pos}{e o:Expr}{es:List Expr}{Ls:List Keyword}{te ta:TE}{t tk:TA}{nm:Option Str}
structure Md (K:PySem.W.Frag) (fd:FuncData) (ps ks:List Str) (g:List Value→List Value→List Value) (gV:List V→List V→List V):Prop where
 to:∀(s:Shared) (us ws:List Value),K.In s.heap→(g us ws).length=ps.length→BindsTo s fd ⟨us,ks.zip ws⟩ (ps.zip (g us ws))
 rel:∀{vs:List V}{us:List Value}{zs:List V}{ws:List Value},Vals vs us→Vals zs ws→Vals (gV vs zs) (g us ws)
variable {g:List Value→List Value→List Value}{gV:List V→List V→List V}
end
structure bu (N P:List Str) (sc:Scope):Prop where
 kind:sc.kind=.function
 co:sc.isCoroutine=false
 gen:sc.isGenerator=false
 nd:N.Nodup
 pre:N.take P.length=P
 par:∀x∈P,sc.names.lookup x=some .local∨sc.names.lookup x=some .cell
 BN:∀y∈sc.names,y.2≠.free
theorem WN {kindOf:Str→Option NameKind}{x:Str} :∀{binds:List (Str×Value)}{m:Str→Option Value},(∀v,(x,v)∉binds)→bindL kindOf binds m x=m x
 | [],_,_=>rfl
 |(n,v)::r,m,h=>by
  unfold bindL
  rw[WN fun w hw=>h w (List.mem_cons_of_mem _ hw)]
  split
  ·have:x≠n:=by rintro rfl;exact h v List.mem_cons_self
   simp[this]
  ·rfl
theorem WP {kindOf:Str→Option NameKind}{x:Str} :∀{binds:List (Str×Value)}{m:Str→Option Value},(∀v,(x,v)∉binds)→bindC kindOf binds m x=m x
 | [],_,_=>rfl
 |(n,v)::r,m,h=>by
  unfold bindC
  rw[WP fun w hw=>h w (List.mem_cons_of_mem _ hw)]
  split
  ·rfl
  ·have:x≠n:=by rintro rfl;exact h v List.mem_cons_self
   simp[this]
theorem WO {kindOf:Str→Option NameKind}{x:Str}{v:Value} :∀{P:List Str}{vs:List Value}{i:Nat}{m:Str→Option Value},P.Nodup→P[i]? =some x→vs[i]? =some v→kindOf x=some .local→
  bindL kindOf (P.zip vs) m x=some v
 | [],_,_,_,_,h,_,_=>by simp at h
 |_::_,[],_,_,_,_,h,_=>by simp at h
 |p::P,w::vs,0,m,nd,h1,h2,hk=>by
  simp at h1 h2;subst h1;subst h2
  show bindL kindOf ((p,w)::P.zip vs) m p=_
  unfold bindL
  rw[WN fun v hv=> (List.nodup_cons.mp nd).1 (List.of_mem_zip hv).1,if_pos hk]
  simp
 |p::P,w::vs,i+1,m,nd,h1,h2,hk=>by
  show bindL kindOf ((p,w)::P.zip vs) m x=_
  unfold bindL
  exact WO (i:=i) (List.nodup_cons.mp nd).2 (by simpa using h1) (by simpa using h2) hk
theorem WQ {kindOf:Str→Option NameKind}{x:Str}{v:Value} :∀{P:List Str}{vs:List Value}{i:Nat}{m:Str→Option Value},P.Nodup→P[i]? =some x→vs[i]? =some v→kindOf x≠some .local→
  bindC kindOf (P.zip vs) m x=some v
 | [],_,_,_,_,h,_,_=>by simp at h
 |_::_,[],_,_,_,_,h,_=>by simp at h
 |p::P,w::vs,0,m,nd,h1,h2,hk=>by
  simp at h1 h2;subst h1;subst h2
  show bindC kindOf ((p,w)::P.zip vs) m p=_
  unfold bindC
  rw[WP fun v hv=> (List.nodup_cons.mp nd).1 (List.of_mem_zip hv).1,if_neg hk]
  simp
 |p::P,w::vs,i+1,m,nd,h1,h2,hk=>by
  show bindC kindOf ((p,w)::P.zip vs) m x=_
  unfold bindC
  exact WQ (i:=i) (List.nodup_cons.mp nd).2 (by simpa using h1) (by simpa using h2) hk
def start (N:List Str) (vs:List V):St:=vs.map some++List.replicate (N.length - vs.length) none
def aG (CX:f9) (P:Program) (w:World) (K:PySem.W.Frag) (mg:Str→Option Value) (base:Heap) (N:List Str) (qual:Str) (scope:Scope) (f:Addr) (cd:Value) (A:Around) (outer:List Env) (s:Shared) (H:Hp) (E:XK):Cx where
 prog:=P
 w:=w
 K:=K
 mg:=mg
 base:=base
 A:=A.deeper (envOfC qual scope s.heap.objs.size f cd)
 N:=N
 bI:=s
 gK:=H
 env:=envOfC qual scope s.heap.objs.size f cd
 outer:=outer
 stack:=envOfC qual scope s.heap.objs.size f cd::outer
 ex:=[]
 calm:=true
 fn:=fun _=>true
 pn:=[]
 xe:=fun e s'=>wpAny (model P w) (A.deeper (envOfC qual scope s.heap.objs.size f cd)) (leaving (envOfC qual scope s.heap.objs.size f cd) e) (fun _ bA=>CX outer H s E e bA) (fun e' bA=>CX outer H s E e' bA) s'
theorem UW {sc:Scope}{n:Nat}{x:Str}(h:sc.names.lookup x=some .cell):∃c,(cellsFrom n sc.names []).lookup x=some c:=by
 have q:=PySem.W.cellsFrom_some sc.names n [] (.inl h)
 exact Option.isSome_iff_exists.mp q
theorem Ik {CX:f9}{P:Program}{w:World}{K:PySem.W.Frag}{mg:Str→Option Value}{base:Heap}{N ps:List Str}{qual:Str}{scope:Scope}{f:Addr}{cd:Value}{A:Around}{outer:List Env}{s s1:Shared}{H:Hp}{E:XK}{us:List Value}{vs:List V}
  (S:bu N ps scope) (hd:A.handled=none) (e0:nv P w K mg base A outer s H) (hl:vs.length=ps.length) (r:Vals vs us)
  (x:InCallC s s.heap.objs.size (bindL (envOfC qual scope s.heap.objs.size f cd).kindOf (ps.zip us) fun _=>none) (cellsFrom (s.heap.objs.size+1) scope.names []) (bindC (envOfC qual scope s.heap.objs.size f cd).kindOf (ps.zip us) fun _=>none) s1):
  Inv (aG CX P w K mg base N qual scope f cd A outer s H E) [] (start N vs) H s1:=by
 have cJ:ps.length≤N.length:=by have:=congrArg List.length S.pre;rw[List.length_take]at this;omega
 obtain⟨h1,tk,rfl,hk⟩:=x.done
 have dh:∀b:Addr,b∉(aG CX P w K mg base N qual scope f cd A outer s H E).ex:=fun b z=>absurd (show b∈([]:List Addr) from z) (by simp)
 refine⟨⟨e0.mod,S.kind,rfl,rfl,Nat.le_refl _,fun y z c h1 h2=> ?_,fun y hy=> ?_,fun y c _ h=> ?_,fun _=>hd,Around.frames_deeper e0.frames,.inr ⟨rfl,rfl⟩,fun b z=>absurd z (dh b),e0.bs,e0.fW,fun b _ _=>dh b,fun b z=>absurd z (dh b),e0.cQ,e0.eU⟩,
  rfl,e0.bare,Un.kept hk,⟨_,x.toInCall.ns,fun i y v h1 h2 h3=> ?_⟩,fun y c h=> ⟨_,x.cell y c h⟩,e0.ai.fresh (Nat.le_refl _),fun y c h=> ?_,fun p hp=>absurd (show p∈([]:List (Addr×Obj)) from hp) (by simp),e0.ai.kept hk,?_⟩
 ·exact name_of_addr x.apart (PySem.mem_of_lookup h1) (PySem.mem_of_lookup h2)
 ·have hy:scope.names.lookup y=some .cell∨scope.names.lookup y=some .free:=hy
  rcases hy with hy |hy
  ·exact UW hy
  ·exact absurd rfl (S.BN _ (PySem.mem_of_lookup hy))
 ·exact Nat.le_of_lt (x.above y c (PySem.mem_of_lookup h))
 ·have hi:i<vs.length:=by
   unfold start at h2
   by_cases hi:i<vs.length
   ·exact hi
   ·rw[List.getElem?_append_right (by simpa using hi)]at h2
    rw[List.getElem?_replicate]at h2
    split at h2<;>cases h2
  have ha:vs[i]? =some v:=by
   unfold start at h2
   rw[List.getElem?_append_left (by simpa using hi),List.getElem?_map]at h2
   cases e:vs[i]? with
   |none=>rw[e]at h2;cases h2
   |some a=>rw[e]at h2;cases h2;rfl
  obtain⟨u,hu,rv⟩:=r.get ha
  have hp:ps[i]? =some y:=by
   rw[←S.pre,List.getElem?_take_of_lt (by omega)];exact h1
  have wB:ps.Nodup:=by rw[←S.pre];exact S.nd.sublist (List.take_sublist _ _)
  refine⟨u,rv,?_⟩
  rcases S.par y (List.mem_of_getElem? hp) with k |k
  ·exact .inl ⟨k,WO wB hp hu k⟩
  ·obtain⟨c,e⟩:=UW (n:=s.heap.objs.size+1) k
   refine .inr ⟨.inl k,c,e,?_⟩
   have q:=x.cell y c e
   rw[WQ wB hp hu (by show scope.names.lookup y≠_;rw[k];decide)]at q
   exact q
 ·exact e0.ai.fresh (Nat.le_of_lt (x.above y c (PySem.mem_of_lookup h)))
 ·unfold start
  show _=N.length
  rw[List.length_append,List.length_map,List.length_replicate]
  omega
theorem ua {CX:f9}{P:Program}{w:World}{K:PySem.W.Frag}{mg:Str→Option Value}{base:Heap}{k:Nat}{f:Addr}{name qual:Str}{params:Arguments}{body:List Stmt}{scope:Scope}{dV kV doc pm aq ct oc:Value}{an od:Option Addr}
    {dv:Array (Option Value)}{N ps:List Str}{sp:Sp} (lk:K.lookup f=some ⟨oc,od,.func (PySem.W.fnOf name qual params body scope dV kV doc pm an aq ct),dv⟩) (bW:PySem.W.codeIn K aq qual=true) (S:bu N ps scope)
    (len:∀vs H Q E,sp vs H Q E→vs.length=ps.length)
    (sM:∀(A:Around) (outer:List Env) (s:Shared) (H:Hp) (vs:List V) (Q:VK) (E:XK),bE k (A.deeper (envOfC qual scope s.heap.objs.size f aq))→sp vs H Q E→
      ∃t,cC (aG CX P w K mg base N qual scope f aq A outer s H E) body t∧t {nx:=fun _ H'=>Q .ae H',rt:=Q} (start N vs) H):
    aC P w K mg base CX (k+1) f (PySem.W.fnOf name qual params body scope dV kV doc pm an aq ct) ps sp:=by
  refine⟨len,fun A outer s H args us vs Q E hr e0 hb r cH=> ?_⟩
  have hl:=len _ _ _ _ cH
  have KX:K.In s.heap:=e0.mod.ja.keeps fun b o e=> (e0.bs b o e).1
  have lim:s.heap.NoLimit:=e0.mod.nolimit.keeps fun b o e=> (e0.bs b o e).1
  have Ds:∀y∈ps.zip us,scope.names.lookup y.1=some .local∨(scope.names.lookup y.1=some .cell∧((cellsFrom (s.heap.objs.size+1) scope.names []).lookup y.1).isSome=true):=fun⟨n,v⟩ hy=>by
    rcases S.par n (List.of_mem_zip hy).1 with q |q
    · exact .inl q
    · exact .inr ⟨q,PySem.W.cellsFrom_some _ _ _ (.inl q)⟩
  refine codeAny_call_function hr.depth (KX _ _ lk) rfl S.co S.gen rfl (PySem.W.codeRec_of KX bW) (hb _ _ _ _ ?_)
  refine wpAny_newFunctionEnv_cells S.kind Ds fun env he s1 x=> ?_
  subst he
  refine⟨lim.keeps x.toInCall.keep,codeAny_func ?_⟩
  obtain⟨t,ht,hq⟩:=sM A outer s H vs Q E (hr.deeper _) cH
  have I:Inv (aG CX P w K mg base N qual scope f aq A outer s H E) [] (start N vs) H s1:=Ik S hr.hd e0 hl r x
  refine wpAny_mono (ht [] s1 (start N vs) H _ I hq) (fun fl s' hs=> ?_) fun e s' hs=>hs
  have fin:∀{af:St}{H':Hp}{v:V}{u:Value},Inv (aG CX P w K mg base N qual scope f aq A outer s H E) [] af H' s'→RelV v u→Q v H'→CE outer P w H s Q u s':=
    fun {af H' v u} J rv q=> ⟨v,H',J.os,J.bare,J.base,J.ai,rv,q⟩
  cases fl with
  |ret u=>
   obtain⟨v,af,H',J,rv,q⟩:=hs
   exact fin J rv q
  |next=>
   obtain⟨af,H',J,q⟩:=hs
   exact fin (v:=V.ae) (u:=Value.none) J rfl q
  |brk=>
   obtain⟨_,_,_,q⟩:=hs
   exact False.elim q
  |cont=>
   obtain⟨_,_,_,q⟩:=hs
   exact False.elim q
section
variable {X:Cx}{x:Str}{p pos:Pos}{e:Expr}{es:List Expr}{t:TA}{id T:String}{r:List V→Hp→VK→Prop}
def vh (r:List V→Hp→VK→Prop) (t:TA):TE:=fun σ H Q=>t σ H fun vs H1=>r vs H1 Q
theorem Zi (hc:cM X (.builtin id) r) (hg:Gl X x) (hm:X.mg x=none) (hv:bootBuiltins x=some (.builtin id)) (ha:PA X (e::es) t) (hn:x≠ "__name__" :=by decide) (gD:(x==("__debug__" :Str))=false:=by decide)
  (he:starEach (e::es) X.env=(false,eval e X.env)::starEach es X.env:=by rfl) (cJ:(backTo pos (starEach es X.env)).any (·.1)=false:=by rfl):PE X (.Call (.Name x p) (e::es) [] pos) (vh r t):=by
 intro pins s σ H Q I h
 refine wpAny_Call_Name_kw (Jp I hg hm hv ?_ hn gD)
 exact PyProof.Rows.callWith_builtin1 (ao (ha pos pins s σ H _ I h) fun us s1 ⟨vs,H1,I1,r1,q1⟩=>hc pins s1 σ H1 vs us Q I1 r1 q1) he cJ
theorem Zz (hc:cM X (.type T) r) (hg:Gl X x) (hm:X.mg x=none) (hv:bootBuiltins x=some (.type T)) (ha:PA X (e::es) t) (hn:x≠ "__name__" :=by decide) (gD:(x==("__debug__" :Str))=false:=by decide)
  (he:starEach (e::es) X.env=(false,eval e X.env)::starEach es X.env:=by rfl) (cJ:(backTo pos (starEach es X.env)).any (·.1)=false:=by rfl):PE X (.Call (.Name x p) (e::es) [] pos) (vh r t):=by
 intro pins s σ H Q I h
 refine wpAny_Call_Name_kw (Jp I hg hm hv ?_ hn gD)
 exact PyProof.Rows.callWith_type1 (ao (ha pos pins s σ H _ I h) fun us s1 ⟨vs,H1,I1,r1,q1⟩=>hc pins s1 σ H1 vs us Q I1 r1 q1) he cJ
end
end L2
namespace HT
open PySem PyProof.Rows
section
open PySem.SeqAt
open PySem.AutoSeq1 (wpAny_loadPart')
open PySem.MeetsSeq PySem.MeetsSeq2 PySem.MeetsSeq3
end
section
variable {prog:Program}{w:World}{A:Around}{E:Value→Shared→Prop}{s:Shared}
theorem Fh {t b:Addr}{vs ws:List Value}{Q:Value→Shared→Prop}(ht:IsTup s.heap t vs.toArray) (hb:IsTup s.heap b ws.toArray) (hv:vs≠[])
  (h1:ws=[]→Q (.ref t) s) (h2:ws≠[]→Q (.ref s.heap.objs.size) {s with heap:=s.heap.push {cls:=.type "tuple",data:=.seq (vs++ws).toArray} })
  (hsz:vs.length+ws.length≤sizeLine):wpAny (model prog w) A (binaryOp .Add (.ref t) (.ref b)) Q E s:=by
 obtain⟨⟨cls,dd,data,sl⟩,ho,hc,n,hd⟩:=id ht
 obtain⟨⟨Fg,pG,data2,iU⟩,fS,jl,n2,hd2⟩:=id hb
 simp only at hc hd jl hd2
 subst hc hd jl hd2
 have e:vs.toArray++ws.toArray=(vs++ws).toArray:=by simp
 by_cases hw:ws=[]
 ·exact concat_meets ⟨_,ho,rfl⟩ ⟨_,fS,rfl⟩ noFill_tuple_add seq_tuple_add PySem.F.slot_tuple_add PySem.F.entry_tuple_add (PySem.F.args_tuple_add_2 _ _)
   (tuple_addW1 t b vs.toArray ws.toArray n n2 dd pG sl iU (by simpa using hv) (by simp[hw])) ⟨ho,fS,h1 hw⟩
 ·refine concat_meets ⟨_,ho,rfl⟩ ⟨_,fS,rfl⟩ noFill_tuple_add seq_tuple_add PySem.F.slot_tuple_add PySem.F.entry_tuple_add (PySem.F.args_tuple_add_2 _ _)
   (tuple_addW2 t b vs.toArray ws.toArray n n2 dd pG sl iU (by simpa using hv) (by simpa using hw) (by rw[List.size_toArray,List.size_toArray];exact hsz)) ⟨ho,fS,?_⟩
  rw[e]
  exact h2 hw
def ay (n d:Nat):Option Int→Nat
 |none=>d
 |some v=>if v<0 then (v+(n:Int)).toNat else min v.toNat n
theorem qK (n d:Nat):ay n d none=d:=rfl
theorem ll (n d k:Nat):ay n d (some (k:Int))=min k n:=by
 show(if (k:Int)<0 then ((k:Int)+(n:Int)).toNat else min (k:Int).toNat n)=min k n
 rw[if_neg (by omega),Int.toNat_natCast]
theorem HH (n d:Nat) (hd:d≤n) (o:Option Int):ay n d o≤n:=by
 cases o with
 |none=>exact hd
 |some v=>
  show(if v<0 then (v+(n:Int)).toNat else min v.toNat n)≤n
  by_cases hv:v<0
  ·rw[if_pos hv];omega
  ·rw[if_neg hv];exact Nat.min_le_right _ _
theorem zf (v:Int) (n d:Nat):(if v<0 then max (v+(n:Int)) 0 else min v (n:Int))=((ay n d (some v):Nat):Int):=by
 show(if v<0 then max (v+(n:Int)) 0 else min v (n:Int))=(((if v<0 then (v+(n:Int)).toNat else min v.toNat n):Nat):Int)
 by_cases hv:v<0
 ·simp only[if_pos hv];omega
 ·simp only[if_neg hv];omega
theorem IT (lo hi:Option Int) (n:Nat):Builtin.Slice.sliceAdjust lo hi 1 (n:Int)=(((ay n 0 lo:Nat):Int),((ay n n hi:Nat):Int)):=by
 have h1:¬((1:Int)<0):=by omega
 unfold Builtin.Slice.sliceAdjust
 simp only[h1,if_false]
 refine Prod.ext ?_ ?_
 ·cases lo with
  |none=>rfl
  |some v=>exact zf v n 0
 ·cases hi with
  |none=>rfl
  |some v=>exact zf v n n
theorem Kf (i j:Nat):Builtin.Slice.slicePlaces (i:Int) (j:Int) 1=j - i:=by
 unfold Builtin.Slice.slicePlaces
 have h1:(1:Int)>0:=by omega
 simp only[h1,if_true,Int.ediv_one]
 split<;>omega
theorem JO {v:Value}{o:Option Int}{Q:Option Int→Shared→Prop}(p:IsPart v o) (h:Q o s):wpAny (model prog w) A (Builtin.Slice.slicePartIndex v) Q E s:=by
 cases p with
 |none=>exact slicePart_none h
 |int i t=>exact slicePart_int h
theorem Jj {sl:Addr}{vl vu:Value}{lo hi:Option Int}{n:Nat}{Q:Int×Int×Nat→Shared→Prop}(hs:s.heap.IsSliceOf sl vl vu .none) (pl:IsPart vl lo) (pu:IsPart vu hi)
  (h:Q (((ay n 0 lo:Nat):Int),1,ay n n hi - ay n 0 lo) s):wpAny (model prog w) A (Builtin.Slice.sliceApplied (.ref sl) (pure (n:Int))) Q E s:=by
 obtain⟨os,lS,xN,pk⟩:=id hs
 unfold Builtin.Slice.sliceApplied Builtin.Slice.sliceFields
 refine wpAny_bind (wpAny_bind (wpAny_field lS pk (x:=vl) rfl (wpAny_bind (wpAny_field lS pk (x:=vu) rfl (wpAny_bind (wpAny_field lS pk (x:=.none) rfl (wpAny_pure ?_)))))))
 refine wpAny_bind (slicePart_none ?_)
 show wpAny _ _ (if ((1:Int)==0)=true then _ else _) _ _ s
 rw[if_neg (by decide)]
 refine wpAny_bind (JO pl (wpAny_bind (JO pu (wpAny_bind (wpAny_pure ?_)))))
 show wpAny _ _ (match Builtin.Slice.sliceAdjust lo hi 1 (n:Int) with |(lo,hi)=>pure (lo,(1:Int),Builtin.Slice.slicePlaces lo hi 1)) _ _ s
 rw[IT lo hi n]
 show wpAny _ _ (pure (((ay n 0 lo:Nat):Int),(1:Int),Builtin.Slice.slicePlaces ((ay n 0 lo:Nat):Int) ((ay n n hi:Nat):Int) 1)) _ _ s
 rw[Kf]
 exact wpAny_pure h
theorem HY (xs:Array Value) (i k:Nat):((List.range k).filterMap fun(m:Nat)=>xs[((i:Int)+(m:Int)*1).toNat]?).toArray=((xs.toList.drop i).take k).toArray:=by
 have e:(fun(m:Nat)=>xs[((i:Int)+(m:Int)*1).toNat]?)=fun m=>xs[i+m]? :=by
  funext m
  have:((i:Int)+(m:Int)*1).toNat=i+m:=by omega
  rw[this]
 rw[e]
 have:=pick_run xs i k
 rw[List.filterMap_map]at this
 have e2:((fun x=>xs[x]?)∘fun x=>i+x)=fun m=>xs[i+m]? :=rfl
 rw[e2]at this
 rw[this]
theorem Es {t sl:Addr}{items:Array Value}{vl vu:Value}{lo hi:Option Int}{Q:Value→Shared→Prop}(ht:IsTup s.heap t items) (hs:s.heap.IsSliceOf sl vl vu .none) (pl:IsPart vl lo) (pu:IsPart vu hi)
  (hw:¬(ay items.size 0 lo=0∧ay items.size items.size hi=items.size))
  (h:Q (.ref s.heap.objs.size) {s with heap:=s.heap.push {cls:=.type "tuple",data:=.seq ((items.toList.drop (ay items.size 0 lo)).take (ay items.size items.size hi - ay items.size 0 lo)).toArray} })
  (hsz:items.size≤sizeLine):wpAny (model prog w) A (getItem (.ref t) (.ref sl)) Q E s:=by
 have oT:sizeOk (.seq ((items.toList.drop (ay items.size 0 lo)).take (ay items.size items.size hi - ay items.size 0 lo)).toArray):=by
  show((items.toList.drop (ay items.size 0 lo)).take (ay items.size items.size hi - ay items.size 0 lo)).toArray.size≤sizeLine
  rw[List.size_toArray,List.length_take,List.length_drop,Array.length_toList]
  omega
 have hj:ay items.size items.size hi≤items.size:=HH _ _ (Nat.le_refl _) hi
 obtain⟨os,lS,xN,pk⟩:=id hs
 have eu:s.TypeIs (.ref sl) "slice" :=⟨os,lS,xN⟩
 unfold getItem
 try with_reducible refine wpAny_holding ?_
 first |refine wpAny_bind (wpAny_pure ?_) |skip
 refine wpAny_bind (wpAny_sequenceKey ht.typeIs (by decide) ?_)
 refine wpAny_bind (wpAny_callSpecial?_slot (name:=Str.ofString "__getitem__") ht.typeIs PyProof.Rows.slot_tuple_getitem
  (wpAny_call_entry PyProof.Rows.slot_tuple_getitem ht.typeIs entry_tuple_getitem ?_ (args_tuple_getitem _ _)))
 show wpAny _ _ (Builtin.Tuple.tupleItemsOf (.ref t) >>=_) _ _ s
 refine wpAny_bind (tupleItemsOf_ ht ?_)
 refine wpAny_bind (wpAny_typeOf eu ?_)
 rw[if_pos (by decide)]
 refine wpAny_bind (Jj hs pl pu ?_)
 have fT:¬((((ay items.size 0 lo:Nat):Int)==0&&(1:Int)==1&&(ay items.size items.size hi - ay items.size 0 lo)==items.size)=true):=by
  intro q
  rw[Bool.and_eq_true,Bool.and_eq_true]at q
  have q1:((ay items.size 0 lo:Nat):Int)=0:=eq_of_beq q.1.1
  have q2:ay items.size items.size hi - ay items.size 0 lo=items.size:=eq_of_beq q.2
  exact hw ⟨by omega,by omega⟩
 show wpAny _ _ (if (((ay items.size 0 lo:Nat):Int)==0&&(1:Int)==1&&(ay items.size items.size hi - ay items.size 0 lo)==items.size)=true then _ else _) _ _ s
 rw[if_neg fT,HY]
 first
  |exact wpAny_bind (m:=Builtin.Tuple.tupleExact _) (wpAny_newObj_type (wpAny_pure ⟨_,rfl,wpAny_pure h⟩) oT)
  |exact wpAny_bind (m:=Builtin.Tuple.tupleExact _) (wpAny_newObj_type (wpAny_bind (wpAny_pure (wpAny_pure ⟨_,rfl,wpAny_pure h⟩))) oT)
  |exact wpAny_bind (wpAny_bind (m:=Builtin.Tuple.tupleExact _) (wpAny_newObj_type (wpAny_pure (wpAny_pure ⟨_,rfl,wpAny_pure h⟩)) oT))
  |exact wpAny_bind (wpAny_bind (m:=Builtin.Tuple.tupleExact _) (wpAny_newObj_type (wpAny_pure ⟨_,rfl,wpAny_pure h⟩) oT))
end
end HT
namespace L2
open PySem PySem.Spec PyProof.Rows
abbrev TO:=St→Hp→(Option Int→Hp→Prop)→Prop
def PO (X:Cx) (e:Option Expr) (t:TO):Prop:=
 ∀(pins:List (Addr×Obj)) (s:Shared) (σ:St) (H:Hp) (Q:Option Int→Hp→Prop),Inv X pins σ H s→t σ H Q→
  wpAny (model X.prog X.w) X.A (evalPart e X.env) (fun u s'=> ∃o H',Inv X pins σ H' s'∧IsPart u o∧Q o H') X.xe s
def kJ:TO:=fun _ H Q=>Q none H
def nT (t:TE):TO:=fun σ H Q=>t σ H fun x H1=> ∃i,x=.int i∧Q (some i) H1
theorem IW {ns:List Int} :∀{us:List Value},Vals (ns.map V.int) us→IntsAre us ns:=by
 induction ns with
 |nil=>intro us r;rw[List.map_nil]at r;cases r;exact .nil
 |cons n ns ih=>
  intro us r
  rw[List.map_cons]at r
  cases r with
  |cons r1 r2=>
   obtain⟨t,e⟩:=r1
   subst e
   exact .cons n t (ih r2)
section
variable {X:Cx}{e:Expr}{te:TE}{lo hi:Option Expr}{tl th:TO}{pos p2:Pos}
theorem ZP:PO X none kJ:=by
 intro pins s σ H Q I h
 rw[evalPart_none]
 exact wpAny_pure ⟨none,H,I,.none,h⟩
theorem ZL (h:PE X e te):PO X (some e) (nT te):=by
 intro pins s σ H Q I hw
 rw[evalPart_some]
 refine ao (h pins s σ H _ I hw) fun u s1 ⟨x,H1,I1,r1,q1⟩=> ?_
 obtain⟨i,rfl,q⟩:=q1
 obtain⟨t,rfl⟩:=r1
 exact⟨some i,H1,I1,.int i t,q⟩
def pM (X:Cx) (r:V→Option Int→Option Int→Hp→VK→Prop):Prop:=
 ∀(pins:List (Addr×Obj)) (s:Shared) (σ:St) (H:Hp) (x:V) (v vl vu:Value) (lo hi:Option Int) (sl:Addr) (Q:VK),Inv X pins σ H s→RelV x v→s.heap.IsSliceOf sl vl vu .none→IsPart vl lo→IsPart vu hi→r x lo hi H Q→
  ∃T id,typeLookup (.type T) "__getitem__" =pure (some (.builtin id))∧s.TypeIs v T∧wpAny (model X.prog X.w) X.A (getItem v (.ref sl)) (EP X pins σ Q) X.xe s
def nS (r:V→Option Int→Option Int→Hp→VK→Prop) (te:TE) (tl th:TO):TE:=fun σ H Q=>te σ H fun x H1=>tl σ H1 fun l H2=>th σ H2 fun u H3=>r x l u H3 Q
theorem ZD {r:V→Option Int→Option Int→Hp→VK→Prop}(hr:pM X r) (he:PE X e te) (hl:PO X lo tl) (hu:PO X hi th):PE X (.Subscript e (.Slice lo hi none p2) pos) (nS r te tl th):=by
 intro pins s σ H Q I h
 refine Subscript_ (ao (he pins s σ H _ I h) fun v s1 ⟨x,H1,I1,r1,q1⟩=> ?_)
 refine wpAny_Slice (ao (hl pins s1 σ H1 _ I1 q1) fun vl s2 ⟨l,H2,I2,pl,q2⟩=>ao (hu pins s2 σ H2 _ I2 q2) fun vu s3 ⟨u,H3,I3,pu,q3⟩=> ?_)
 rw[evalPart_none]
 refine wpAny_pure ?_
 have I4:Inv X pins σ H3 {s3 with heap:=s3.heap.push {cls:=.type "slice",data:=.fields #[vl,vu,.none]} } :=I3.kept (t':=s3.toks) fun b ob q=>Heap.get?_push_of_some _ q
 obtain⟨T,id,hT,ht,hg⟩:=hr pins {s3 with heap:=s3.heap.push {cls:=.type "slice",data:=.fields #[vl,vu,.none]} } σ H3 x v vl vu l u s3.heap.objs.size Q I4 r1 (Heap.IsSliceOf.new ..) pl pu q3
 show wpAny (model X.prog X.w) X.A (subscriptTail e (.Slice lo hi none p2) v (.ref s3.heap.objs.size)) (EP X pins σ Q) X.xe {s3 with heap:=s3.heap.push {cls:=.type "slice",data:=.fields #[vl,vu,.none]} }
 exact tail_any (ops:=[.ref s3.heap.objs.size,v]) ht hT hg (by with_unfolding_all rfl)
def da (xs:List V) (lo hi:Option Int):List V:=(xs.drop (HT.ay xs.length 0 lo)).take (HT.ay xs.length xs.length hi - HT.ay xs.length 0 lo)
theorem Jw (xs:List V) (lo hi:Option Int):(da xs lo hi).length≤xs.length:=by
 unfold da
 rw[List.length_take,List.length_drop]
 omega
def gX (K:PySem.W.Frag):V→Option Int→Option Int→Hp→VK→Prop:=fun x lo hi H Q=> ∃a xs,x=.ref a∧aj K H a xs∧
 ¬(HT.ay xs.length 0 lo=0∧HT.ay xs.length xs.length hi=xs.length)∧∀p,H p=none→Q (.ref p) (upd H p (.tup (da xs lo hi)))
theorem JP:pM X (gX X.K):=by
 intro pins s σ H x v vl vu lo hi sl Q I rx hs pl pu h
 obtain⟨a,xs,rfl,hx,hw,q⟩:=h
 cases rx
 obtain⟨aa,r,ht,hz⟩:=I.tuple hx
 have hlen:aa.toArray.size=xs.length:=by rw[List.size_toArray];exact r.length.symm
 refine⟨"tuple",_,PyProof.Rows.slot_tuple_getitem.lookup,ht.typeIs,?_⟩
 refine HT.Es ht hs pl pu (by rw[hlen];exact hw) ?_ (by rw[hlen];exact hz)
 rw[hlen]
 refine⟨.ref s.heap.objs.size,_,I.laid (t':=s.toks) (o:=.tup (da xs lo hi)) (fun b ob q=>Heap.get?_push_of_some _ q) (Nat.le_refl _) ?_,rfl,q _ (I.ai.fresh (Nat.le_refl _))⟩
 exact⟨Nat.le_trans (Jw xs lo hi) hz,_,(r.drop (HT.ay xs.length 0 lo)).take (HT.ay xs.length xs.length hi - HT.ay xs.length 0 lo),IsTup.new _ _,_,Heap.get?_push_size _ rfl,rfl⟩
def vT (K:PySem.W.Frag):R2:=fun x y H Q=> ∃a b xs ys,x=.ref a∧y=.ref b∧aj K H a xs∧aj K H b ys∧xs≠[]∧xs.length+ys.length≤sizeLine∧
 (ys=[]→Q (.ref a) H)∧(ys≠[]→∀p,H p=none→Q (.ref p) (upd H p (.tup (xs++ys))))
theorem Vals.rD {xs:List V}{us:List Value}(r:Vals xs us):us=[]↔xs=[]:=by
 cases r with
 |nil=>simp
 |cons _ _=>simp
theorem GN:aW X (binaryOp .Add) (vT X.K):=by
 intro pins s σ H x y v u Q I rx ry h
 obtain⟨a,b,xs,ys,rfl,rfl,ha,hb,hx,hz,q1,q2⟩:=h
 cases rx
 cases ry
 obtain⟨aa,r1,p1,_⟩:=I.tuple ha
 obtain⟨jb,r2,p2,_⟩:=I.tuple hb
 refine HT.Fh p1 p2 (fun z=>hx (r1.rD.mp z)) (fun z=> ⟨.ref a,H,I,rfl,q1 (r2.rD.mp z)⟩) (fun z=> ?_) (by rw[←r1.length,←r2.length];exact hz)
 refine⟨.ref s.heap.objs.size,_,I.laid (t':=s.toks) (o:=.tup (xs++ys)) (fun b ob q=>Heap.get?_push_of_some _ q) (Nat.le_refl _) ?_,rfl,q2 (fun w=>z (r2.rD.mpr w)) _ (I.ai.fresh (Nat.le_refl _))⟩
 exact⟨by rw[List.length_append];exact hz,_,r1.append r2,IsTup.new _ _,_,Heap.get?_push_size _ rfl,rfl⟩
end
def fv (n:Nat) (i:Int):Option Nat:=if 0≤i then (if i<n then some i.toNat else none) else if -(n:Int)≤i then some (i+n).toNat else none
def cR {α:Type} (xs:List α) (i:Int):Option α:=(fv xs.length i).bind fun j=>xs[j]?
theorem Ua {n:Nat}{i:Int}{j:Nat}(h:fv n i=some j):seqIndex? i n=some j∧j<n∧ -(n:Int)≤i∧i<n:=by
 unfold fv at h
 by_cases h0:0≤i
 ·rw[if_pos h0]at h
  by_cases h1:i<n
  ·rw[if_pos h1]at h
   have e:i.toNat=j:=Option.some.inj h
   exact⟨by rw[seqIndex_of h0 h1,e],by omega,by omega,h1⟩
  ·rw[if_neg h1]at h;cases h
 ·rw[if_neg h0]at h
  by_cases h1: -(n:Int)≤i
  ·rw[if_pos h1]at h
   have e:(i+n).toNat=j:=Option.some.inj h
   exact⟨by rw[seqIndex_neg (by omega) h1,e],by omega,h1,by omega⟩
  ·rw[if_neg h1]at h;cases h
theorem Uf {α:Type}{xs:List α}{i:Int}{v:α}(h:cR xs i=some v):∃j,seqIndex? i xs.length=some j∧xs[j]? =some v∧j<xs.length∧ -(xs.length:Int)≤i∧i<xs.length:=by
 unfold cR at h
 cases e:fv xs.length i with
 |none=>rw[e]at h;cases h
 |some j=>
  rw[e]at h
  obtain⟨h1,h2,h3,h4⟩:=Ua e
  exact⟨j,h1,h,h2,h3,h4⟩
theorem Yl {α:Type}{xs:List α}{j:Nat}{v:α}(h:xs[j]? =some v):cR xs (j:Int)=some v:=by
 have hj:j<xs.length:=(List.getElem?_eq_some_iff.mp h).1
 have e:fv xs.length (j:Int)=some j:=by
  unfold fv
  rw[if_pos (by omega),if_pos (by omega)];simp
 unfold cR;rw[e];exact h
def uq (b:Expr):Prop:=∀o i,subscripted b false o i=operate [o,i] (getItem o i)
def mZ (X:Cx) (r:R2):Prop:=
 ∀(value slice:Expr) (pins:List (Addr×Obj)) (s:Shared) (σ:St) (H:Hp) (x y:V) (v u:Value) (Q:VK),Inv X pins σ H s→RelV x v→RelV y u→r x y H Q→
  subscripted slice false v u=operate [v,u] (getItem v u)→wpAny (model X.prog X.w) X.A (subscriptTail value slice v u) (EP X pins σ Q) X.xe s
def zD (X:Cx) (id:String) (r:V→List V→Hp→VK→Prop):Prop:=
 ∀(pins:List (Addr×Obj)) (s:Shared) (σ:St) (H:Hp) (x:V) (xs:List V) (v:Value) (us:List Value) (Q:VK),Inv X pins σ H s→RelV x v→Vals xs us→r x xs H Q→
  wpAny (model X.prog X.w) X.A (call (.builtin id) (v::us)) (EP X pins σ Q) X.xe s
section
variable {X:Cx}{a b:Expr}{ta tb:TE}{pos:Pos}
theorem ZO {r:R2}(hr:mZ X r) (ha:PE X a ta) (hb:PE X b tb) (hs:uq b):PE X (.Subscript a b pos) (gP r ta tb):=by
 intro pins s σ H Q I h
 exact Subscript_ (tU ha hb I h fun v u s2 x y H2 I2 rx ry q=>hr a b pins s2 σ H2 x y v u Q I2 rx ry q (hs _ _))
def oD (K:PySem.W.Frag):R2:=fun x y H Q=> ∃p xs i v,x=.ref p∧y=.int i∧ak K H p xs∧cR xs i=some v∧Q v H
def Bp (K:PySem.W.Frag):R2:=fun x y H Q=> ∃p xs i v,x=.ref p∧y=.int i∧aj K H p xs∧cR xs i=some v∧Q v H
def Bq:R2:=fun x y H Q=> ∃z i c,x=.str z∧y=.int i∧z.length≤sizeLine∧cR z.cps.toList i=some c∧Q (.str ⟨#[c]⟩) H
theorem ZM:mZ X (oD X.K):=by
 intro value slice pins s σ H x y v u Q I rx ry h hs
 obtain⟨p,xs,i,z,rfl,rfl,hq,he,q⟩:=h
 cases rx
 obtain⟨t,rfl⟩:=ry
 obtain⟨aa,r,pl,hz⟩:=I.list hq
 obtain⟨j,h1,h2,h3,h4,h5⟩:=Uf he
 obtain⟨w,ew,cF⟩:=r.get h2
 have hl:=r.length
 have hn:=jT
 have fin:EP X pins σ Q w s:=⟨z,H,I,cF,q⟩
 by_cases h0:0≤i
 ·have hj:i.toNat=j:=by
   rw[seqIndex_of h0 h5]at h1
   exact Option.some.inj h1
  exact item_listR pl.isList h0 (by omega) (by rw[hj];simpa using ew) fin hs
 ·have hj:(i+(aa.toArray.size:Int)).toNat=j:=by
   rw[seqIndex_neg (by omega) h4]at h1
   rw[List.size_toArray,←hl]
   exact Option.some.inj h1
  exact subscriptTail_builtinR (x:=w) pl.isList.typeIs slot_list_getitem.lookup
   (wpAny_getItem_list_neg (Q:=fun r s'=>r=w∧EP X pins σ Q r s') pl.isList (by omega) (by rw[List.size_toArray]<;>omega) (by omega) (by rw[hj];simpa using ew) ⟨rfl,fin⟩) hs
theorem Yq:mZ X (Bp X.K):=by
 intro value slice pins s σ H x y v u Q I rx ry h hs
 obtain⟨p,xs,i,z,rfl,rfl,hq,he,q⟩:=h
 cases rx
 obtain⟨t,rfl⟩:=ry
 obtain⟨aa,r,pl,hz⟩:=I.tuple hq
 obtain⟨j,h1,h2,h3,h4,h5⟩:=Uf he
 obtain⟨w,ew,cF⟩:=r.get h2
 have hl:=r.length
 have hn:=jT
 have fin:EP X pins σ Q w s:=⟨z,H,I,cF,q⟩
 exact subscriptTail_builtinR (x:=w) pl.typeIs slot_tuple_getitem.lookup
  (getItem_tuple (j:=j) (Q:=fun r s'=>r=w∧EP X pins σ Q r s') pl (by omega) (by omega) (by rw[List.size_toArray,←hl];exact h1) (by simpa using ew) ⟨rfl,fin⟩) hs
theorem Gz:mZ X Bq:=by
 intro value slice pins s σ H x y v u Q I rx ry h hs
 obtain⟨z,i,c,rfl,rfl,hz,he,q⟩:=h
 obtain⟨t,rfl⟩:=rx
 obtain⟨t',rfl⟩:=ry
 obtain⟨j,h1,h2,h3,h4,h5⟩:=Uf he
 have hl:z.cps.toList.length=z.length:=by simp[Str.length]
 rw[hl]at h1 h4 h5
 have hn:=jT
 exact tail_any (typeIs_str s z t) slot_str_getitem.lookup (getItem_str (c:=c) (by
  have e1:decide (i< -(2^63:Int))=false:=decide_eq_false (by omega)
  have e2:decide (i≥2^63)=false:=decide_eq_false (by omega)
  rw[e1,e2,Bool.or_false]) (by rw[h1];simpa using h2) ⟨.str ⟨#[c]⟩,H,I.tok _,⟨_,rfl⟩,q⟩) hs
theorem Kb (aa:List Value) (n j:Nat) (u:Value):Obj.mapSeq (·.setIfInBounds j u) {cls:=.type "list",data:=.seq aa.toArray n} = {cls:=.type "list",data:=.seq (aa.set j u).toArray n} :=by
 simp[Obj.mapSeq]
theorem Inv.lst {pins:List (Addr×Obj)}{σ:St}{H:Hp}{s:Shared}{p:Addr}{xs:List V}(I:Inv X pins σ H s) (h:H p=some (.lst xs)):
  ∃(aa:List Value) (n:Nat),Vals xs aa∧s.heap.get? p=some {cls:=.type "list",data:=.seq aa.toArray n}∧xs.length≤sizeLine:=by
 obtain⟨z,aa,n,r,e⟩:=I.ai p _ h
 exact⟨aa,n,r,e,z⟩
theorem Inv.Cb {pins:List (Addr×Obj)}{σ:St}{H:Hp}{s:Shared}{p:Addr}{xs ys:List V}{aa its':List Value}{n n':Nat}{f:Obj→Obj}(I:Inv X pins σ H s) (h:H p=some (.lst xs))
  (ho:s.heap.get? p=some {cls:=.type "list",data:=.seq aa.toArray n}) (hf:f {cls:=.type "list",data:=.seq aa.toArray n} = {cls:=.type "list",data:=.seq its'.toArray n'}) (r:Vals ys its') (hz:ys.length≤sizeLine) (t:Nat):
  Inv X pins σ (upd H p (.lst ys)) {s with heap:=s.heap.update p f,toks:=t} :=by
 have e:(s.heap.update p f).get? p=some {cls:=.type "list",data:=.seq its'.toArray n'} :=by
  rw[Heap.get?_update_self f ho (by rw[hf]<;>rfl),hf]
 refine I.write (x:=p) (e:=p) (by rw[h];trivial) (.inl rfl) (fun b u hb q=> (Heap.get?_update_other _ _ (Ne.symm hb)).trans q) ⟨_,e⟩ ?_
 exact⟨hz,its',n',r,e⟩
def Bj:V→V→V→Hp→(Hp→Prop)→Prop:=fun o i v H Q=> ∃p xs k j,o=.ref p∧i=.int k∧H p=some (.lst xs)∧fv xs.length k=some j∧Q (upd H p (.lst (xs.set j v)))
theorem Uo:zA X Bj:=by
 intro pins s σ H o i v ov iv u Q I ro ri rv h
 obtain⟨p,xs,k,j,rfl,rfl,hp,hj,q⟩:=h
 cases ro
 obtain⟨t,rfl⟩:=ri
 obtain⟨aa,n,r,ho,hz⟩:=I.lst hp
 obtain⟨h1,h2,h3,h4⟩:=Ua hj
 have hl:=r.length
 have hn:=jT
 have I':Inv X pins σ (upd H p (.lst (xs.set j v))) {s with heap:=s.heap.update p (Obj.mapSeq (·.setIfInBounds j u))} :=
  I.Cb hp ho (Kb aa n j u) (r.set rv j) (by rw[List.length_set];exact hz) s.toks
 by_cases h0:0≤k
 ·have hk:k.toNat=j:=by
   rw[seqIndex_of h0 h4]at h1
   exact Option.some.inj h1
  exact PySem.W.ki_setAt ho h0 (by omega) (by rw[List.size_toArray,←hl];exact h4) (by rw[hk];exact⟨_,I',q⟩)
 ·have hk:(k+(aa.toArray.size:Int)).toNat=j:=by
   rw[seqIndex_neg (by omega) h3]at h1
   rw[List.size_toArray,←hl]
   exact Option.some.inj h1
  exact PySem.W.ki_setBack ho (by omega) (by rw[List.size_toArray,←hl];exact h3) (by omega) (by rw[hk];exact⟨_,I',q⟩)
theorem WS (lo hi:Option Int) (n:Nat):(sliceBounds lo hi none n).1=((HT.ay n 0 lo:Nat):Int)∧(sliceBounds lo hi none n).2.1=((HT.ay n n hi:Nat):Int)∧(sliceBounds lo hi none n).2.2=1:=by
 refine⟨?_,?_,rfl⟩
 ·cases lo with
  |none=>simp[sliceBounds,HT.ay]
  |some i=>
   simp only[sliceBounds,HT.ay,Option.getD_none,show(1:Int)>0 by decide,if_true]
   by_cases h:i<0
   ·simp only[h,if_true]<;>omega
   ·simp only[h,if_false]<;>omega
 ·cases hi with
  |none=>simp[sliceBounds,HT.ay]
  |some i=>
   simp only[sliceBounds,HT.ay,Option.getD_none,show(1:Int)>0 by decide,if_true]
   by_cases h:i<0
   ·simp only[h,if_true]<;>omega
   ·simp only[h,if_false]<;>omega
theorem Wg (aa:List Value) (lo hi:Option Int):slicePick aa.toArray lo hi none=((aa.drop (HT.ay aa.length 0 lo)).take (HT.ay aa.length aa.length hi - HT.ay aa.length 0 lo)).toArray:=by
 obtain⟨h1,h2,h3⟩:=WS lo hi aa.toArray.size
 unfold slicePick
 rw[h1,h2,h3]
 simp only[sliceRange_one,pick_run,List.size_toArray]<;>rfl
def vR (K:PySem.W.Frag):V→Option Int→Option Int→Hp→VK→Prop:=fun x lo hi H Q=> ∃a xs,x=.ref a∧ak K H a xs∧∀p,H p=none→Q (.ref p) (upd H p (.lst (da xs lo hi)))
theorem YE:pM X (vR X.K):=by
 intro pins s σ H x v vl vu lo hi sl Q I rx hs pl pu h
 obtain⟨a,xs,rfl,hx,q⟩:=h
 cases rx
 obtain⟨aa,r,ht,hz⟩:=I.list hx
 have hlen:=r.length
 refine⟨"list",_,slot_list_getitem.lookup,ht.isList.typeIs,?_⟩
 refine wpAny_getItem_list_slice ht.isList hs pl pu .none (by simp) ?_ (by rw[List.size_toArray]<;>omega)
 rw[Wg,←hlen]
 refine⟨.ref s.heap.objs.size,_,I.laid (t':=s.toks) (o:=.lst (da xs lo hi)) (fun b ob q=>Heap.get?_push_of_some _ q) (Nat.le_refl _) ?_,rfl,q _ (I.ai.fresh (Nat.le_refl _))⟩
 exact⟨Nat.le_trans (Jw xs lo hi) hz,_,0,(r.drop (HT.ay xs.length 0 lo)).take (HT.ay xs.length xs.length hi - HT.ay xs.length 0 lo),Heap.get?_push_size _ rfl⟩
def eV:V→Bool
 | .ae=>true
 | .bl _=>true
 | .int _=>true
 | .str _=>true
 |_=>false
def cf:V→V→Bool
 | .ae,.ae=>true
 | .bl a,.bl b=>a==b
 | .bl a,.int b=> (if a then 1 else 0)==b
 | .int a,.bl b=>a==(if b then 1 else 0)
 | .int a,.int b=>a==b
 | .str a,.str b=>a==b
 |_,_=>false
theorem yX {A:Around}{s:Shared}{y x:V}{u v:Value}(ry:RelV y u) (rx:RelV x v) (fy:eV y=true) (fx:eV x=true):SeqAt.EqAt A s u v (cf y x):=by
 cases y with
 |ae=>
  cases ry
  cases x with
  |ae=>cases rx;exact SeqAt.EqAt.same _
  |bl b=>cases rx;exact SeqAt.EqAt.none_bool b
  |int b=>obtain⟨t,rfl⟩:=rx;exact SeqAt.EqAt.none_int b t
  |str b=>obtain⟨t,rfl⟩:=rx;exact SeqAt.EqAt.none_str b t
  |_=>exact absurd (show false=true from fx) Bool.false_ne_true
 |bl a=>
  cases ry
  cases x with
  |ae=>cases rx;exact SeqAt.EqAt.bool_none a
  |bl b=>cases rx;exact SeqAt.EqAt.bool_bool a b
  |int b=>obtain⟨t,rfl⟩:=rx;exact SeqAt.EqAt.bool_int a b t
  |str b=>obtain⟨t,rfl⟩:=rx;exact SeqAt.EqAt.bool_str a b t
  |_=>exact absurd (show false=true from fx) Bool.false_ne_true
 |int a=>
  obtain⟨t',rfl⟩:=ry
  cases x with
  |ae=>cases rx;exact SeqAt.EqAt.int_none a t'
  |bl b=>cases rx;exact SeqAt.EqAt.int_bool a t' b
  |int b=>obtain⟨t,rfl⟩:=rx;exact SeqAt.EqAt.int_int a t' b t
  |str b=>obtain⟨t,rfl⟩:=rx;exact SeqAt.EqAt.int_str a t' b t
  |_=>exact absurd (show false=true from fx) Bool.false_ne_true
 |str a=>
  obtain⟨t',rfl⟩:=ry
  cases x with
  |ae=>cases rx;exact SeqAt.EqAt.str_none a t'
  |bl b=>cases rx;exact SeqAt.EqAt.str_bool a t' b
  |int b=>obtain⟨t,rfl⟩:=rx;exact SeqAt.EqAt.str_int a t' b t
  |str b=>obtain⟨t,rfl⟩:=rx;exact SeqAt.EqAt.str_str a t' b t
  |_=>exact absurd (show false=true from fx) Bool.false_ne_true
 |_=>exact absurd (show false=true from fy) Bool.false_ne_true
def gH (x:V) (u:Value):Bool:=match u with
 | .none=>cf .ae x
 | .bool b=>cf (.bl b) x
 | .int i _=>cf (.int i) x
 | .str z _=>cf (.str z) x
 |_=>false
theorem yY {x y:V}{u:Value}(r:RelV y u) (f:eV y=true):gH x u=cf y x:=by
 cases y with
 |ae=>cases r;rfl
 |bl b=>cases r;rfl
 |int i=>obtain⟨t,rfl⟩:=r;rfl
 |str z=>obtain⟨t,rfl⟩:=r;rfl
 |_=>exact absurd (show false=true from f) Bool.false_ne_true
theorem Ug {x:V} :∀{xs:List V}{us:List Value},Vals xs us→xs.all eV=true→us.any (gH x)=xs.any fun y=>cf y x
 |_,_,.nil,_=>rfl
 |y::xs,u::us,.cons r t,f=>by
  rw[List.all_cons,Bool.and_eq_true]at f
  rw[List.any_cons,List.any_cons,yY r f.1,Ug t f.2]
theorem JZ {A:Around}{s:Shared}{x:V}{v:Value}(rx:RelV x v) (fx:eV x=true):∀{xs:List V}{us:List Value},Vals xs us→xs.all eV=true→∀u∈us,SeqAt.EqAt A s u v (gH x u)
 |_,_,.nil,_=>fun u hu=>by cases hu
 |y::xs,u::us,.cons r t,f=>fun u' hu=>by
  rw[List.all_cons,Bool.and_eq_true]at f
  rcases List.mem_cons.mp hu with rfl |hu
  ·rw[yY r f.1];exact yX r rx f.1 fx
  ·exact JZ rx fx t f.2 u' hu
def jW (x:V) (xs:List V):Bool:=xs.any fun y=>cf y x
def Br (K:PySem.W.Frag) (neg:Bool):R2:=fun x y H Q=> ∃p xs,y=.ref p∧(ak K H p xs∨aj K H p xs)∧eV x=true∧xs.all eV=true∧Q (.bl (if neg then !jW x xs else jW x xs)) H
theorem Kz:aW X (compareOp .In) (Br X.K false):=by
 intro pins s σ H x y v u Q I rx ry h
 obtain⟨p,xs,rfl,hq,fx,fs,q⟩:=h
 cases ry
 rcases hq with hq |hq
 ·obtain⟨aa,r,pl,hz⟩:=I.list hq
  refine SeqAt.in_listAt (gH x) pl.isList (fun w hw=>JZ rx fx r fs w (by simpa using hw)) ⟨.bl _,H,I,rfl,?_⟩
  rw[show aa.toArray.any (gH x)=aa.any (gH x) by simp,Ug r fs]
  exact q
 ·obtain⟨aa,r,pl,hz⟩:=I.tuple hq
  refine SeqAt.in_tupleAt (gH x) pl (fun w hw=>JZ rx fx r fs w (by simpa using hw)) ⟨.bl _,H,I,rfl,?_⟩
  rw[show aa.toArray.any (gH x)=aa.any (gH x) by simp,Ug r fs]
  exact q
theorem Zy:cM X (.builtin "len") (fun xs H Q=> ∃p ys,xs=[.ref p]∧(ak X.K H p ys∨aj X.K H p ys)∧Q (.int ys.length) H):=by
 intro pins s σ H xs us Q I r h
 obtain⟨p,ys,rfl,hq,q⟩:=h
 obtain⟨u,rfl,rx⟩:=vals1 r
 cases rx
 have hn:=jT
 rcases hq with hq |hq
 ·obtain⟨aa,r',pl,hz⟩:=I.list hq
  have hlen:=r'.length
  exact Calls.call_len_list pl.isList (by simp only[List.size_toArray]<;>omega) ⟨.int ys.length,H,I.tok _,⟨s.toks+1,by rw[List.size_toArray,hlen]⟩,q⟩
 ·obtain⟨aa,r',pl,hz⟩:=I.tuple hq
  have hlen:=r'.length
  exact len_tuple pl (by simp only[List.size_toArray]<;>omega) ⟨.int ys.length,H,I.tok _,⟨s.toks+1,by rw[List.size_toArray,hlen]⟩,q⟩
theorem Jg:cM X (.builtin "len") (fun xs H Q=> ∃z,xs=[.str z]∧z.length≤sizeLine∧Q (.int z.length) H):=by
 intro pins s σ H xs us Q I r h
 obtain⟨z,rfl,hz,q⟩:=h
 obtain⟨u,rfl,t,rfl⟩:=vals1 r
 have hn:=jT
 exact len_str (by omega) ⟨.int z.length,H,I.tok _,⟨_,rfl⟩,q⟩
theorem Ue:cM X (.type "list") (fun xs H Q=> ∃p ys,xs=[.ref p]∧(ak X.K H p ys∨aj X.K H p ys)∧∀l,H l=none→Q (.ref l) (upd H l (.lst ys))):=by
 intro pins s σ H xs us Q I r h
 obtain⟨p,ys,rfl,hq,q⟩:=h
 obtain⟨u,rfl,rx⟩:=vals1 r
 cases rx
 have fin:∀(aa:List Value),Vals ys aa→ys.length≤sizeLine→∀(h':Heap) (c':Nat),(∀b o',s.heap.get? b=some o'→h'.get? b=some o')→
   h'.get? s.heap.objs.size=some {cls:=.type "list",dict:=none,data:=.seq aa.toArray c',slots:= #[]}→EP X pins σ Q (.ref s.heap.objs.size) {s with heap:=h'} :=fun aa r' hz h' c' kp e=>
  ⟨.ref s.heap.objs.size,_,I.laid (t':=s.toks) kp (Nat.le_refl _) (show ba X.prog X.w _ h' _ (.lst ys) from ⟨hz,aa,c',r',e⟩),rfl,q _ (I.ai.fresh (Nat.le_refl _))⟩
 rcases hq with hq |hq
 ·obtain⟨aa,r',pl,hz⟩:=I.list hq
  have hlen:=r'.length
  obtain⟨o,ho,hc,n,hd⟩:=pl.isList
  exact call_list_seq p (.inl rfl) ho hc hd (fun h' c' kp e=>fin aa r' hz h' c' kp e) (by simp only[List.size_toArray]<;>omega)
 ·obtain⟨aa,r',pl,hz⟩:=I.tuple hq
  have hlen:=r'.length
  obtain⟨o,ho,hc,n,hd⟩:=pl
  exact call_list_seq p (.inr rfl) ho hc hd (fun h' c' kp e=>fin aa r' hz h' c' kp e) (by simp only[List.size_toArray]<;>omega)
theorem Z3:cM X (.type "tuple") (fun xs H Q=> ∃p ys,xs=[.ref p]∧((ak X.K H p ys∧∀l,H l=none→Q (.ref l) (upd H l (.tup ys)))∨(aj X.K H p ys∧Q (.ref p) H))):=by
 intro pins s σ H xs us Q I r h
 obtain⟨p,ys,rfl,h⟩:=h
 obtain⟨u,rfl,rx⟩:=vals1 r
 cases rx
 rcases h with ⟨hq,q⟩ |⟨hq,q⟩
 ·obtain⟨aa,r',pl,hz⟩:=I.list hq
  have hlen:=r'.length
  refine call_tuple_list pl.isList (fun h' kp=> ?_) (by simp only[List.size_toArray]<;>omega)
  have I1:Inv X pins σ H {s with heap:=h'} :=I.kept (t':=s.toks) kp
  have I2:Inv X pins σ (upd H h'.objs.size (.tup ys)) {s with heap:=h'.push {cls:=.type "tuple",data:=.seq aa.toArray} } :=
   I1.laid (t':=s.toks) (fun b o e=>Heap.get?_push_of_some _ e) (Nat.le_refl _) (show ba X.prog X.w _ _ _ (.tup ys) from ⟨hz,aa,r',IsTup.new _ _,_,Heap.get?_push_size _ rfl,rfl⟩)
  exact⟨.ref h'.objs.size,_,I2,rfl,q _ (I1.ai.fresh (Nat.le_refl _))⟩
 ·obtain⟨aa,r',pl,hz⟩:=I.tuple hq
  exact call_tuple_same pl ⟨.ref p,H,I,rfl,q⟩
def uS (K:PySem.W.Frag) (T:String) (x:V) (H:Hp):Prop:=match x with
 | .str _=>T= "str"
 | .int _=>T= "int"
 | .ref p=> (T= "list" ∧∃xs,ak K H p xs)∨(T= "tuple" ∧((∃o,K.lookup p=some o∧o.cls=.type "tuple" ∧o.dict=none)∨∃xs,H p=some (.tup xs)))∨
   (T= "dict" ∧((∃ah,H p=some (.dK ah))∨∃ah,H p=some (.dT ah)))∨(T= "set" ∧∃S n,H p=some (.set S n))
 |_=>False
theorem HN {pins:List (Addr×Obj)}{σ:St}{H:Hp}{s:Shared}{T:String}{x:V}{v:Value}(I:Inv X pins σ H s) (r:RelV x v) (ty:uS X.K T x H):
  s.TypeIs v T∧∀a,v=.ref a→∃ob,s.heap.get? a=some ob∧ob.dict=none:=by
 cases x with
 |str z=>
  obtain⟨t,rfl⟩:=r
  cases (show T= "str" from ty)
  exact⟨typeIs_str s z t,fun _ e=>nomatch e⟩
 |int i=>
  obtain⟨t,rfl⟩:=r
  cases (show T= "int" from ty)
  exact⟨typeIs_int s i t,fun _ e=>nomatch e⟩
 |ref p=>
  cases r
  rcases ty with ⟨rfl,xs,hq⟩ |⟨rfl,⟨o,hk,hc,hd⟩ |⟨xs,hx⟩⟩ |⟨rfl,hk⟩ |⟨rfl,S,n,hk⟩
  ·obtain⟨aa,_,pl,_⟩:=I.list hq
   refine⟨pl.isList.typeIs,fun a e=> ?_⟩
   cases e
   obtain⟨o,n,e,c,hd,_⟩:=pl
   exact⟨o,e,hd⟩
  ·refine⟨⟨o,I.bC p o hk,hc⟩,fun a e=> ?_⟩
   cases e
   exact⟨o,I.bC _ o hk,hd⟩
  ·obtain⟨_,_,_,⟨o,e,c,_⟩,o2,e2,hd⟩:=(show ba X.prog X.w H s.heap p (.tup xs) from I.ai p _ hx)
   refine⟨⟨o,e,c⟩,fun a e3=> ?_⟩
   cases e3
   exact⟨o2,e2,hd⟩
  ·have z:∃o,s.heap.get? p=some o∧o.ExactDict:=by
    rcases hk with ⟨ah,hk⟩ |⟨ah,hk⟩
    ·obtain⟨_,_,_,_,o,_,_,e,ex,_⟩:=I.ai p _ hk
     exact⟨o,e,ex⟩
    ·obtain⟨_,_,_,_,o,_,_,e,ex,_⟩:=I.ai p _ hk
     exact⟨o,e,ex⟩
   obtain⟨o,e,ex⟩:=z
   refine⟨⟨o,e,ex.1⟩,fun a e2=> ?_⟩
   cases e2
   exact⟨o,e,ex.2.1⟩
  ·obtain⟨o,_,_,_,e,ex,_⟩:=I.ai p _ hk
   refine⟨⟨o,e,ex.1⟩,fun a e2=> ?_⟩
   cases e2
   exact⟨o,e,ex.2.1⟩
 |_=>exact False.elim ty
def qd (K:PySem.W.Frag) (T:String) (r:V→List V→Hp→VK→Prop) (to:TE) (t:TA):TE:=fun σ H Q=>to σ H fun x H1=>uS K T x H1∧t σ H1 fun xs H2=>r x xs H2 Q
variable {o e:Expr}{es:List Expr}{to:TE}{t:TA}{name:Str}{apos bG:Pos}{T id:String}{r:V→List V→Hp→VK→Prop}
theorem Yi (pa:PlainAttrs T) (slot:Slot T name id) (CQ:typeOf (.builtin id)=pure (.type "method_descriptor")) (hm:zD X id r) (ho:PE X o to) (ha:PA X (e::es) t)
    (DQ:attributeBase o name X.env (eval o X.env)=eval o X.env:=by rfl)
    (hfew:((backTo bG (starEach (e::es) X.env)).all (fun x=> !x.1)&&(backToKw bG (keywordEach [] X.env)).all (fun x=>x.1.isSome)
      &&decide ((e::es).length+([]:List Keyword).length+(if ([]:List Keyword).isEmpty then 0 else 1)<30))=true:=by rfl)
    (hline:(apos.endLine==bG.line)=true:=by rfl) (hs:starEach (e::es) X.env=(false,eval e X.env)::starEach es X.env:=by rfl) (C9:(backTo bG (starEach es X.env)).any (·.1)=false:=by rfl):
    PE X (.Call (.Attribute o name apos) (e::es) [] bG) (qd X.K T r to t):=by
  intro pins s σ H Q I h
  refine wpAny_Call_method_late DQ hfew hline rfl (ao (ho pins s σ H _ I h) fun v s1 ⟨x,H1,I1,r1,ty,q1⟩=> ?_)
  obtain⟨h1,h2⟩:=HN I1 r1 ty
  refine⟨T,id,pa,slot,CQ,h1,h2,?_⟩
  have hA:=ha bG pins s1 σ H1 _ I1 q1
  rw[hs]at hA ⊢
  refine Calls.callWith_builtin (by show(false||(backTo bG (starEach es X.env)).any (·.1))=false;rw[C9]<;>rfl) (Calls.evalArgs_plain ?_)
  exact ao hA fun us s2 ⟨vs,H2,I2,r2,q2⟩=>hm pins s2 σ H2 x vs v us Q I2 r1 r2 q2
end
def mV (X:Cx) (id:String) (r:V→List V→Hp→VK→Prop):Prop:=
 ∀(pins:List (Addr×Obj)) (s:Shared) (σ:St) (H:Hp) (x:V) (xs:List V) (v:Value) (us:List Value) (Q:VK),Inv X pins σ H s→RelV x v→Vals xs us→r x xs H Q→
  wpAny (model X.prog X.w) X.A (call (.builtin id) (v::us)) (EP X pins σ Q) X.xe s
theorem Vals.one:∀{x:V}{us:List Value},Vals [x] us→∃u,us=[u]∧RelV x u
 |_,_,.cons r .nil=> ⟨_,rfl,r⟩
theorem Vals.eraseIdx:∀{xs:List V}{us:List Value}(i:Nat),Vals xs us→Vals (xs.eraseIdx i) (us.eraseIdx i)
 |_,_,_,.nil=> .nil
 |_,_,0,.cons _ t=>t
 |_,_,i+1,.cons r t=> .cons r (Vals.eraseIdx i t)
theorem WD {α:Type} :∀(l:List α) (i:Nat),(l.eraseIdx i).length≤l.length
 | [],_=>Nat.le_refl _
 |_::_,0=>Nat.le_succ _
 |_::r,i+1=>Nat.succ_le_succ (WD r i)
section
variable {X:Cx}{pins:List (Addr×Obj)}{σ:St}{H:Hp}{s:Shared}{l b:Addr}{xs ys zs:List V}
theorem Inv.wH {aa its':List Value}{n:Nat}{f:Array Value→Array Value}{t':Nat}(I:Inv X pins σ H s) (hH:H l=some (.lst xs))
  (e:s.heap.get? l=some {cls:=.type "list",data:=.seq aa.toArray n}) (hf:f aa.toArray=its'.toArray) (hv:Vals ys its') (hz:ys.length≤sizeLine):
  Inv X pins σ (upd H l (.lst ys)) {s with heap:=s.heap.update l (Obj.mapSeq f),toks:=t'} :=by
 have q:=PySem.IsL.update e f
 rw[hf]at q
 refine I.write (x:=l) (e:=l) (by rw[hH];exact trivial) (.inl rfl) (fun b' u hb hu=> (Heap.get?_update_other s.heap (Obj.mapSeq f) (Ne.symm hb)).trans hu) ⟨_,q⟩ ?_
 exact⟨hz,its',_,hv,q⟩
theorem Inv.Cd {aa:List Value}{t':Nat}(I:Inv X pins σ H s) (hv:Vals ys aa) (hz:ys.length≤sizeLine):
  Inv X pins σ (upd H s.heap.objs.size (.lst ys)) {s with heap:=s.heap.push {cls:=.type "list",data:=.seq aa.toArray},toks:=t'} :=
 I.laid (fun _ _ q=>Heap.get?_push_of_some _ q) (Nat.le_refl _) ⟨hz,aa,0,hv,Heap.get?_push_size _ rfl⟩
theorem Inv.fresh (I:Inv X pins σ H s):H s.heap.objs.size=none:=I.ai.fresh (Nat.le_refl _)
theorem Inv.oN (I:Inv X pins σ H s) (hH:H l=some (.lst xs)):xs.length≤sizeLine∧∃(aa:List Value) (n:Nat),Vals xs aa∧xs.length=aa.length∧s.heap.get? l=some {cls:=.type "list",data:=.seq aa.toArray n} :=by
 obtain⟨z,aa,n,r,e⟩:=I.ai l _ hH
 exact⟨z,aa,n,r,r.length,e⟩
end
section
variable {X:Cx}
def vV:V→List V→Hp→VK→Prop:=fun x vs H Q=> ∃l xs y,x=.ref l∧vs=[y]∧H l=some (.lst xs)∧xs.length<sizeLine∧Q .ae (upd H l (.lst (xs++[y])))
theorem YO:mV X "list.append" vV:=by
 intro pins s σ H x vs v us Q I rx rv h
 obtain⟨l,xs,y,rfl,rfl,hH,hz,q⟩:=h
 cases rx
 obtain⟨u,rfl,ru⟩:=rv.one
 obtain⟨z,aa,n,r,hl,e⟩:=I.oN hH
 refine call_meets F.slot_list_append ⟨_,e,rfl⟩ F.entry_list_append (F.args_list_append_2 _ _) (PySem.list_append l aa.toArray n u (by rw[List.size_toArray];omega)) ⟨e,?_⟩
 refine⟨.ae,_,I.wH (its':=aa++[u]) hH e (by simp) (r.append (.cons ru .nil)) ?_,rfl,q⟩
 rw[List.length_append,List.length_singleton]
 omega
def Bn:V→List V→Hp→VK→Prop:=fun x vs H Q=> ∃l xs i k y,x=.ref l∧vs=[.int i]∧H l=some (.lst xs)∧ -(2^63)≤i∧i<2^63∧seqIndex? i xs.length=some k∧xs[k]? =some y∧Q y (upd H l (.lst (xs.eraseIdx k)))
theorem IA:mV X "list.pop" Bn:=by
 intro pins s σ H x vs v us Q I rx rv h
 obtain⟨l,xs,i,k,y,rfl,rfl,hH,h1,h2,hk,hy,q⟩:=h
 cases rx
 obtain⟨u,rfl,ru⟩:=rv.one
 obtain⟨t,rfl⟩:=ru
 obtain⟨z,aa,n,r,hl,e⟩:=I.oN hH
 obtain⟨w,hw,cF⟩:=r.get hy
 refine call_meets F.slot_list_pop ⟨_,e,rfl⟩ F.entry_list_pop (F.args_list_pop_2 _ _)
  (MeetsSeq.list_pop_at l aa.toArray n i t k w (fitsIndex_both h1 h2) (by rw[List.size_toArray,←hl];exact hk) (by rw[←Array.getElem?_toList];exact hw) (by rw[List.size_toArray];omega)) ⟨e,?_⟩
 refine⟨y,_,I.wH (its':=aa.eraseIdx k) hH e ?_ (r.eraseIdx k) ?_,cF,q⟩
 ·show aa.toArray.eraseIdxIfInBounds k=(aa.eraseIdx k).toArray
  rw[List.eraseIdxIfInBounds_toArray]
 ·have:=WD xs k
  omega
def vU:R2:=fun x y H Q=> ∃l b xs zs,x=.ref l∧y=.ref b∧H l=some (.lst xs)∧H b=some (.lst zs)∧xs.length+zs.length≤sizeLine∧∀p,H p=none→Q (.ref p) (upd H p (.lst (xs++zs)))
theorem ZZ:aW X (binaryOp .Add) vU:=by
 intro pins s σ H x y v u Q I rx ry h
 obtain⟨l,b,xs,zs,rfl,rfl,hH,hB,hz,q⟩:=h
 cases rx
 cases ry
 obtain⟨z,aa,n,r,hl,e⟩:=I.oN hH
 obtain⟨z2,jb,n2,r2,gA,e2⟩:=I.oN hB
 refine PySem.P.add_list e e2 ?_ (by rw[List.size_toArray,List.size_toArray];omega)
 have ea:aa.toArray++jb.toArray=(aa++jb).toArray:=by simp
 rw[ea]
 exact⟨.ref _,_,I.Cd (t':=s.toks) (r.append r2) (by rw[List.length_append];omega),rfl,q _ I.fresh⟩
end
end L2
namespace zL
open PySem PySem.W PySem.Calls PyProof.Rows
theorem Jz {P:Params}{h:Heap} :∀(ns:List Int) (vs:List Value),WellAll P h vs (ns.map WData.int)→IntsAre vs ns:=by
 intro ns
 induction ns with
 |nil=>
  intro vs w
  rw[List.map_nil]at w
  cases w
  exact .nil
 |cons n ns ih=>
  intro vs w
  rw[List.map_cons]at w
  cases w with
  |cons a b=>
   cases a
   exact .cons _ _ (ih _ b)
theorem Kj {l:OpenLaw}{n:Nat}(hn:l.most=some n) {P:Params}{h:Heap}{args:List WData}{vals:List Value}
  (oW:l.row.toRowW.claim.pre args=true) (oS:WellAll P h vals args):
  ∃a vs ns,vals=[Value.ref a]∧args=[WData.list (ns.map WData.int)]∧h.get? a=some {cls:=.type "list",data:=.seq vs.toArray}∧IntsAre vs ns∧ns.length≤n:=by
 have C3:WShape.hasAll [] args [.list .int]=true:=(pre_splitW oW).1
 have hc:l.pre.holds [] {args:=args} =true:=(pre_splitW oW).2
 obtain⟨d,r,rfl,h1,h2⟩:=hasAllW_cons C3
 obtain rfl:=hasAllW_nil h2
 obtain⟨xs,rfl,h3⟩:=hasW_list h1
 obtain⟨ns,rfl⟩:=items_int h3
 have hlen:ns.length≤n:=by
  unfold OpenLaw.pre at hc
  have h4:(WTm.not (.lt (.lit (.int (n:Int))) (.len (.arg 0)))).holds [] {args:=[.list (ns.map .int)]} =true:=by
   have h4:=(holds_andW hc).1
   rw[hn]at h4
   exact h4
  have h5:=condW_of h4 (w_not (w_lt w_lit (w_len_list (w_arg rfl))))
  rw[List.length_map]at h5
  refine Nat.le_of_not_lt fun q=> ?_
  have q':(n:Int)< ((ns.length:Nat):Int):=by omega
  first
   |(rw[decide_eq_true q']at h5;exact absurd h5 (by decide))
   |(simp at h5;omega)
 cases oS with
 |cons w1 w2=>
  cases w2
  cases w1 with
  |list ho mf=>exact⟨_,_,ns,rfl,rfl,ho,Jz ns _ mf,hlen⟩
theorem Kh (l:OpenLaw) (args:List WData):l.row.toRowW.claim.post args (.bool true) args=true:=
 postW_of (r:=l.row.toRowW) (X:=(true==true))
  (show WShape.has [] (.bool true) .bool=true by first |rfl |decide |simp[WShape.has,WShape.arms,WShape.armsAll])
  (show(WTm.eq .res (.lit (.bool true))).value [] {args:=args,res:=some (.bool true),after:=args} =some (.bool (true==true)) from w_eq_bool (w_res rfl) w_lit) rfl
theorem Ft {l:OpenLaw}{n:Nat}{q:Program}{loose:List Str}{XP:(Str→Option Value)→Heap→Prop}{YP:World→Heap→Prop}{d:DefRec}
    (hn:l.most=some n) (sI:d.params.defaults=[])
    (call:∀(w:World) (bI az:Shared) (mg mb:Str→Option Value) (fa:Addr) (o:Obj) (pm cd doc:Value) (a:Addr) (vs:List Value) (ns:List Int),
      Ground q loose [] XP w bI mg mb az.heap→YP w az.heap→
      az.heap.get? fa=some o→o.data=.func (docDef d.name d.params d.body d.scope pm cd doc)→az.heap.CodeRec cd d.name→mg d.name=some (.ref fa)→
      az.heap.get? a=some {cls:=.type "list",data:=.seq vs.toArray}→IntsAre vs ns→ns.length≤n→az.gens= #[]→
      codeAny (model l.prog w) callerA (.call (.ref fa) ⟨[.ref a],[]⟩) (fun r s'=>r=.ok (.ret (.bool true))∧OldK az.heap s'.heap∧s'.os=az.os∧AllBare s'.gens) az):
    WalkO q loose XP YP l.row.toRowW d [] (fun f vs=>PySem.call f vs):=by
  intro w bI az mg mb G Y fa o pm cd doc dV kV ho hd bW hD hmg hg args vals as oW LH LA oS r8
  obtain rfl:dV=.none:=Dflts.none hD sI
  obtain rfl:kV=.none:=Dflts.noKw hD
  obtain⟨a,vs,ns,rfl,rfl,rX,hints,hlen⟩:=Kj hn oW oS
  refine enter_call (codeAny_mono (call w bI az mg mb fa o pm cd doc a vs ns G Y ho (fd_plain hd) bW hmg rX hints hlen hg) fun r s' hq=> ?_)
  obtain⟨rfl,h2,h3,h4⟩:=hq
  exact⟨.inl ⟨.bool true,.bool true,[],rfl,fun _=>rfl,.bool true,Kh l _,fun _=> ⟨List.Pairwise.nil,fun _ hm=> (nomatch hm)⟩⟩,h2,h3,h4⟩
end zL
namespace L2
open PySem PySem.Spec PyProof.Rows
theorem Wp:∀{vs:List Value}{ns:List Int},IntsAre vs ns→Vals (ns.map V.int) vs
 |_,_,.nil=> .nil
 |_,_,.cons n t h=> .cons ⟨t,rfl⟩ (Wp h)
def dP (s:Stmt):Arguments:=match s with
 | .FunctionDef _ a _ _ _ _ _ _ _ _=>a
 |_=> {posonlyargs:=[],args:=[],vararg:=none,kwonlyargs:=[],kw_defaults:=[],kwarg:=none,defaults:=[]}
def bD (s:Stmt):List Stmt:=match s with
 | .FunctionDef _ _ b _ _ _ _ _ _ _=>b
 |_=> []
def ar (s:Stmt):Scope:=match s with
 | .FunctionDef _ _ _ _ _ _ sc _ _ _=>sc
 |_=> {kind:=.function,names:=[],isGenerator:=false,isCoroutine:=false}
abbrev av:f9:=fun _ _ _ _ _ _=>False
abbrev E0:XK:=fun _ _ _=>False
theorem BE {X:Cx} :Passes av X E0:=fun _ _ _ _ _ _ _ h=>h.elim
structure aP (K:PySem.W.Frag) (x qual:Str) (st:Stmt) (f:Addr) (fd:FuncData):Prop where
 ex:∃(oc:Value) (od:Option Addr) (kV doc pm:Value) (an:Option Addr) (aq ct:Value) (dv:Array (Option Value)),
  fd=PySem.W.fnOf x qual (dP st) (bD st) (ar st) .none kV doc pm an aq ct∧K.lookup f=some ⟨oc,od,.func fd,dv⟩∧PySem.W.codeIn K aq qual=true
 kp:PySem.W.keepIn K (.ref f)=true
section
variable {P:Program}{w:World}{K:PySem.W.Frag}{mg:Str→Option Value}{base:Heap}
theorem aP.ok {x qual:Str}{st:Stmt}{f:Addr}{fd:FuncData}{N ps:List Str}{k:Nat}{sp:Sp}(F:aP K x qual st f fd) (S:bu N ps (ar st)) (len:∀vs H Q E,sp vs H Q E→vs.length=ps.length)
    (sM:∀(aq:Value) (A:Around) (outer:List Env) (s:Shared) (H:Hp) (vs:List V) (Q:VK) (E:XK),bE k (A.deeper (envOfC qual (ar st) s.heap.objs.size f aq))→sp vs H Q E→
      ∃t,cC (aG av P w K mg base N qual (ar st) f aq A outer s H E).aV (bD st) t∧t {nx:=fun _ H'=>Q .ae H',rt:=Q} (start N vs) H):aC P w K mg base av (k+1) f fd ps sp:=by
  obtain⟨oc,od,kV,doc,pm,an,aq,ct,dv,rfl,lk,bW⟩:=F.ex
  refine ua lk bW S len fun A outer s H vs Q E hr cH=> ?_
  obtain⟨t,h,q⟩:=sM aq A outer s H vs Q E hr cH
  exact⟨t,h.aV,q⟩
theorem aP.binds {x qual:Str}{st:Stmt}{f:Addr}{fd:FuncData}{ps:List Str}(F:aP K x qual st f fd)
  (h:∀(kV doc pm:Value) (an:Option Addr) (aq ct:Value) (us:List Value),us.length=ps.length→bindArgs (PySem.W.fnOf x qual (dP st) (bD st) (ar st) .none kV doc pm an aq ct) ⟨us,[]⟩=pure (ps.zip us)):Binds K fd ps []:=by
 obtain⟨oc,od,kV,doc,pm,an,aq,ct,dv,rfl,lk,bW⟩:=F.ex
 exact .all (h kV doc pm an aq ct)
theorem Gp {x qual:Str}{st:Stmt}{f:Addr}{oc:Value}{od an:Option Addr}{dv:Array (Option Value)}{kV doc pm aq ct:Value}(l:K.lookup f=some ⟨oc,od,.func (PySem.W.fnOf x qual (dP st) (bD st) (ar st) .none kV doc pm an aq ct),dv⟩)
  (c:PySem.W.codeIn K aq qual=true) (k:PySem.W.keepIn K (.ref f)=true):aP K x qual st f (PySem.W.fnOf x qual (dP st) (bD st) (ar st) .none kV doc pm an aq ct):=⟨⟨oc,od,kV,doc,pm,an,aq,ct,dv,rfl,l,c⟩,k⟩
end
theorem uc {A:Around}{k:Nat}(hr:bE k A):A.units+1<cLine:=Nat.lt_of_le_of_lt (Nat.add_le_add_left (by decide:1≤64) _) hr.units
theorem qp {n:Nat}(h:n≤1000):n<sizeLine:=Nat.lt_of_le_of_lt h (by decide)
section
variable {X:Cx}
theorem pv (i:Nat) {x:Str}{pos:Pos}(hN:X.N[i]? =some x:=by rfl) (hv:mQ X.env.scope x:=by first |exact Or.inl rfl |exact Or.inr (Or.inl rfl) |exact Or.inr (Or.inr rfl)) (hd:(x==("__debug__" :Str))=false:=by decide)
  (bW:(x==("__classdict__" :Str))=false:=by decide):PE X (.Name x pos) (nR i):=Jn hN hv hd bW
end
theorem aF {A B:Prop}(h:B):if false=true then A else B:=by
 rw[if_neg Bool.false_ne_true]
 exact h
theorem aw {A B:Prop}(h:A):if true=true then A else B:=by
 rw[if_pos rfl]
 exact h
theorem rL {c A B:Prop} [Decidable c] (h1:c→A) (h2:¬c→B):if c then A else B:=by
 by_cases h:c
 ·rw[if_pos h]
  exact h1 h
 ·rw[if_neg h]
  exact h2 h
def ag (H H':Hp):Prop:=∀b o,H b=some o→H' b=some o
theorem ag.refl (H:Hp):ag H H:=fun _ _ h=>h
theorem ag.trans {H H1 H2:Hp}(a:ag H H1) (b:ag H1 H2):ag H H2:=fun c o h=>b c o (a c o h)
theorem ag.free {H H':Hp}(e:ag H H') {l:Addr}(h:H' l=Option.none):H l=Option.none:=by
 cases q:H l with
 |none=>rfl
 |some o=>
  rw[e l o q]at h
  cases h
section
variable {κ:Type} [DecidableEq κ]
def bH (ah:List (κ×V)) (k:κ):Option V:=(ah.find? fun kv=>decide (kv.1=k)).map (·.2)
def putK (ah:List (κ×V)) (k:κ) (v:V):List (κ×V):=
 if (ah.any fun kv=>decide (kv.1=k))=true then ah.map (fun kv=>if kv.1=k then (kv.1,v) else kv) else ah++[(k,v)]
theorem ZX {p:κ×V}{r:List (κ×V)}{k:κ}(e:p.1=k):bH (p::r) k=some p.2:=by simp[bH,List.find?_cons,e]
theorem ZY {p:κ×V}{r:List (κ×V)}{k:κ}(e:¬p.1=k):bH (p::r) k=bH r k:=by simp[bH,List.find?_cons,e]
theorem JL (k:κ):∀ah:List (κ×V),(ah.any fun kv=>decide (kv.1=k))=(bH ah k).isSome
 | []=>rfl
 |p::r=>by
  rw[List.any_cons]
  by_cases e:p.1=k
  ·simp only[ZX e,decide_eq_true e,Bool.true_or,Option.isSome_some]
  ·rw[ZY e,decide_eq_false e,Bool.false_or];exact JL k r
theorem Uk (k j:κ) (y:V):∀ah:List (κ×V),bH (ah.map fun kv=>if kv.1=k then (kv.1,y) else kv) j=(bH ah j).map fun x=>if j=k then y else x
 | []=>rfl
 |p::r=>by
  have ih:=Uk k j y r
  rw[List.map_cons]
  by_cases h:p.1=k
  ·rw[if_pos h]
   by_cases e:p.1=j
   ·rw[ZX (p:=(p.1,y)) e,ZX e,Option.map_some,if_pos (e.symm.trans h)]
   ·rw[ZY (p:=(p.1,y)) e,ZY e,ih]
  ·rw[if_neg h]
   by_cases e:p.1=j
   ·rw[ZX (p:=p) e,ZX e,Option.map_some,if_neg (fun z=>h (e.trans z))]
   ·rw[ZY (p:=p) e,ZY e,ih]
theorem Wq (k j:κ) (y:V):∀ah:List (κ×V),bH ah k=none→bH (ah++[(k,y)]) j=if j=k then some y else bH ah j
 | [],_=>by
  by_cases e:k=j
  ·rw[if_pos e.symm];exact ZX (p:=(k,y)) e
  ·rw[if_neg (fun z=>e z.symm)];exact ZY (p:=(k,y)) e
 |p::r,hn=>by
  rw[List.cons_append]
  have hk:¬p.1=k:=fun z=>by rw[ZX z]at hn;cases hn
  rw[ZY hk]at hn
  have ih:=Wq k j y r hn
  by_cases e:p.1=j
  ·rw[ZX e,ZX e,if_neg (fun z=>hk (e.trans z))]
  ·rw[ZY e,ZY e,ih]
theorem Uj (ah:List (κ×V)) (k j:κ) (y:V):bH (putK ah k y) j=if j=k then some y else bH ah j:=by
 unfold putK
 by_cases a:(ah.any fun kv=>decide (kv.1=k))=true
 ·rw[if_pos a,Uk]
  rw[JL]at a
  by_cases e:j=k
  ·obtain⟨x,hx⟩:=Option.isSome_iff_exists.mp a
   rw[if_pos e,e,hx,Option.map_some,if_pos rfl]
  ·rw[if_neg e]
   cases bH ah j with
   |none=>rfl
   |some x=>rw[Option.map_some,if_neg e]
 ·rw[if_neg a]
  refine Wq k j y ah ?_
  rw[JL]at a
  cases q:bH ah k with
  |none=>rfl
  |some x=>rw[q]at a;exact(a rfl).elim
theorem Ju (ah:List (κ×V)) (k:κ) (v:V):(putK ah k v).length≤ah.length+1:=by
 unfold putK
 split
 ·rw[List.length_map];omega
 ·rw[List.length_append,List.length_cons,List.length_nil];omega
theorem eG.wL {o:Option V}{u:Option Value}(r:eG o u):o.isSome=u.isSome:=by
 cases o with
 |none=>cases u with
  |none=>rfl
  |some _=>exact(show False from r).elim
 |some _=>cases u with
  |none=>exact(show False from r).elim
  |some _=>rfl
theorem eG.getD {o:Option V}{u:Option Value}{d:V}{d':Value}(r:eG o u) (rd:RelV d d'):RelV (o.getD d) (u.getD d'):=by
 cases o with
 |none=>cases u with
  |none=>exact rd
  |some _=>exact(show False from r).elim
 |some _=>cases u with
  |none=>exact(show False from r).elim
  |some _=>exact r
theorem KV.val {ah:List (κ×V)}{vs:List (κ×Value)}(r:KV ah vs) (k:κ):eG (bH ah k) (valueAt vs k):=by
 unfold KV at r
 induction r with
 |nil=>exact True.intro
 | @cons p q ps qs h t ih=>
  obtain⟨h1,h2⟩:=h
  by_cases e:p.1=k
  ·have e':q.1=k:=h1.symm.trans e
   have b:valueAt (q::qs) k=some q.2:=by simp[valueAt,List.find?_cons,e']
   rw[ZX e,b];exact h2
  ·have e':¬q.1=k:=fun z=>e (h1.trans z)
   have b:valueAt (q::qs) k=valueAt qs k:=by simp[valueAt,List.find?_cons,e']
   rw[ZY e,b];exact ih
theorem KV.any {ah:List (κ×V)}{vs:List (κ×Value)}(r:KV ah vs) (k:κ):(ah.any fun kv=>decide (kv.1=k))=vs.any fun kv=>decide (kv.1=k):=by
 unfold KV at r
 induction r with
 |nil=>rfl
 |cons h t ih=>rw[List.any_cons,List.any_cons,ih,h.1]
theorem KV.Bh {ah:List (κ×V)}{vs:List (κ×Value)}(r:KV ah vs) (k:κ) {y:V}{u:Value}(ry:RelV y u):
  KV (ah.map fun kv=>if kv.1=k then (kv.1,y) else kv) (vs.map fun kv=>if kv.1=k then (kv.1,u) else kv):=by
 unfold KV at r ⊢
 induction r with
 |nil=>exact .nil
 | @cons p q ps qs h t ih=>
  rw[List.map_cons,List.map_cons]
  refine .cons ?_ ih
  obtain⟨h1,h2⟩:=h
  by_cases e:p.1=k
  ·rw[if_pos e,if_pos (h1.symm.trans e)];exact⟨h1,ry⟩
  ·rw[if_neg e,if_neg (fun z=>e (h1.trans z))];exact⟨h1,h2⟩
theorem KV.put {ah:List (κ×V)}{vs:List (κ×Value)}(r:KV ah vs) (k:κ) {y:V}{u:Value}(ry:RelV y u):KV (putK ah k y) (stored vs k u):=by
 unfold putK stored
 rw[r.any k]
 by_cases e:(vs.any fun kv=>decide (kv.1=k))=true
 ·rw[if_pos e,if_pos e];exact r.Bh k ry
 ·rw[if_neg e,if_neg e];exact Paired.snoc r ⟨rfl,ry⟩
theorem KV.length {ah:List (κ×V)}{vs:List (κ×Value)}(r:KV ah vs):ah.length=vs.length:=Paired.length r
end
theorem WF {P:Program}{w:World}{k:Key}{u:Value}(r:RelV (kV k) u):(dj P w).is k u=true:=by
 cases k with
 |inl i=>obtain⟨t,e⟩:=(show ∃t,u=Value.int i t from r);subst e;exact Uz P w i t
 |inr x=>obtain⟨t,e⟩:=(show ∃t,u=Value.str x t from r);subst e;exact Uy P w x t
theorem WG {P:Program}{w:World} :∀{ks:List Key}{us:List Value},Vals (ks.map kV) us→ItemsAre (dj P w) ks us
 | [],_,r=>by rw[List.map_nil]at r;cases r;exact .nil
 |k::ks,_,r=>by
  rw[List.map_cons]at r
  cases r with
  |cons h t=>exact .cons (WF h) (WG t)
abbrev KT (H:Hp):List (List Key×V)→List (List Key×Addr×Value)→Prop:=Paired fun p q=>p.1=q.1∧H q.2.1=some (.tup (p.1.map kV))∧RelV p.2 q.2.2
theorem KT.val {H:Hp}{ah:List (List Key×V)}{xs:List (List Key×Addr×Value)}(r:KT H ah xs) (k:List Key):eG (bH ah k) ((atKey xs k).map (·.2)):=by
 induction r with
 |nil=>exact True.intro
 | @cons p q ps qs h t ih=>
  obtain⟨h1,_,h2⟩:=h
  by_cases e:p.1=k
  ·have e':q.1=k:=h1.symm.trans e
   have b:atKey (q::qs) k=some q.2:=by simp[atKey,List.find?_cons,e']
   rw[ZX e,b];exact h2
  ·have e':¬q.1=k:=fun z=>e (h1.trans z)
   have b:atKey (q::qs) k=atKey qs k:=by simp[atKey,List.find?_cons,e']
   rw[ZY e,b];exact ih
section
variable {P:Program}{w:World}{H:Hp}{h:Heap}{a:Addr}
theorem yI {u:HO}(ok:bg P w H h) (e:Rd H a u):ba P w H h a u:=e.ok ok
theorem UR {ah:List (Key×V)}(ok:bg P w H h) (e:Rd H a (.dK ah)):ah.length≤sizeLine∧(a==sysModules)=false∧∃vs,KV ah vs∧h.DictOf (dj P w) a vs:=
 show ba P w H h a (.dK ah) from yI ok e
theorem W8 {ks:List Key}(ok:bg P w H h) (e:H a=some (.tup (ks.map kV))):(tupleKind (dj P w)).is h ks a:=by
 obtain⟨_,aa,r,⟨o,h1,h2,n,h3⟩,_⟩:=(show ba P w H h a (.tup (ks.map kV)) from ok a _ e)
 exact⟨o,aa.toArray,n,h1,h2,h3,by simpa using WG r⟩
theorem UQ {ah:List (List Key×V)}(ok:bg P w H h) (e:Rd H a (.dT ah)):ah.length≤sizeLine∧(a==sysModules)=false∧
  ∃xs,KT H ah xs∧h.DictOfH (tupleKind (dj P w)) a xs:=by
 obtain⟨z,y,xs,r,o,es,ep,h1,h2,h3,h4,h5⟩:=(show ba P w H h a (.dT ah) from yI ok e)
 refine⟨z,y,xs,r,o,es,ep,h1,h2,h3,h4,fun x hx=> ?_,h5⟩
 have all:∀{l:List (List Key×V)}{m:List (List Key×Addr×Value)},KT H l m→∀x∈m,(tupleKind (dj P w)).is h x.1 x.2.1:=by
  intro l m q
  induction q with
  |nil=>intro x hx;exact nomatch hx
  | @cons p q ps qs hq t ih=>
   intro x hx
   rcases List.mem_cons.mp hx with e |hx
   ·subst e
    exact W8 ok (by rw[←hq.1];exact hq.2.1)
   ·exact ih x hx
 exact all r x hx
end
def fc (H:Hp) (a:Addr) (y:V) (r:Option V):Prop:=
 (∃ah k,Rd H a (.dK ah)∧y=kV k∧r=bH ah k)∨∃ah k b,Rd H a (.dT ah)∧y=.ref b∧H b=some (.tup (k.map kV))∧r=bH ah k
theorem fc.k {H:Hp}{a:Addr}{ah:List (Key×V)}{k:Key}(e:H a=some (.dK ah)):fc H a (kV k) (bH ah k):=.inl ⟨ah,k,.inl e,rfl,rfl⟩
section
variable {X:Cx}{pins:List (Addr×Obj)}{σ:St}{H:Hp}{s:Shared}{a:Addr}{y v:V}{u r:Value}{o:Option V}{A:Around}{E:Value→Shared→Prop}
theorem Inv.big (I:Inv X pins σ H s):sysModules<s.heap.objs.size:=by
 have h:mainGlobals<s.heap.objs.size:=(I.mod.glob.keeps I.bk).lt
 exact Nat.lt_trans (by decide) h
theorem Ii {Q:Value→Shared→Prop}(hu:A.units+1<cLine) (I:Inv X pins σ H s) (g:fc H a y (some v)) (ry:RelV y u) (h:∀w' s',Inv X pins σ H s'→RelV v w'→Q w' s'):
  wpAny (model X.prog X.w) A (getItem (.ref a) u) Q E s:=by
 rcases g with ⟨ah,k,e,ey,l⟩ |⟨ah,k,b,e,ey,eb,l⟩
 ·subst ey
  obtain⟨z,hd,vs,rel,dd⟩:=UR I.ai e
  obtain⟨w',hw,cF⟩:=eG.some_of (v:=v) (o:=valueAt vs k) (by rw[l];exact rel.val k)
  exact wpAny_getItem_of (WF ry) dd.mapOf hw (h w' _ (I.tok _) cF)
 ·subst ey
  cases (show u=Value.ref b from ry)
  obtain⟨z,hd,xs,rel,dd⟩:=UQ I.ai e
  obtain⟨w',hw,cF⟩:=eG.some_of (v:=v) (o:=(atKey xs k).map (·.2)) (by rw[l];exact rel.val k)
  obtain⟨p,hp,j4⟩:=Option.map_eq_some_iff.mp hw
  refine wpAny_getItem_heap (tupleKind_room_in1 hu) (W8 I.ai eb) dd hp ?_
  rw[j4]
  exact h w' _ (I.tok _) cF
theorem Hk {Q:Value→Shared→Prop}(hu:A.units+1<cLine) (I:Inv X pins σ H s) (g:fc H a y o) (ry:RelV y u) (h:∀s',Inv X pins σ H s'→Q (.bool (!o.isSome)) s'):
  wpAny (model X.prog X.w) A (compareOp .NotIn u (.ref a)) Q E s:=by
 rcases g with ⟨ah,k,e,ey,l⟩ |⟨ah,k,b,e,ey,eb,l⟩
 ·subst ey
  obtain⟨z,hd,vs,rel,dd⟩:=UR I.ai e
  refine wpAny_notIn_of (WF ry) hd dd.mapOf ?_
  rw[←(rel.val k).wL,←l]
  exact h _ (I.tok _)
 ·subst ey
  cases (show u=Value.ref b from ry)
  obtain⟨z,hd,xs,rel,dd⟩:=UQ I.ai e
  refine wpAny_notIn_heap (tupleKind_room_in1 hu) (W8 I.ai eb) hd dd ?_
  have q:=(rel.val k).wL
  rw[Option.isSome_map]at q
  rw[←q,←l]
  exact h _ (I.tok _)
theorem Gn {P:Program}{w:World}{H':Hp}{h':Heap}{ah:List (Key×V)}{vs:List (Key×Value)}(z:ah.length≤sizeLine) (hd:(a==sysModules)=false) (rel:KV ah vs) (dd:h'.DictOf (dj P w) a vs):
  ba P w H' h' a (.dK ah):=⟨z,hd,vs,rel,dd⟩
end
def zC (i:Expr):Prop:=∀ov iv,subscripted i false ov iv=operate [ov,iv] (getItem ov iv)
theorem G5 {prog:Program}{w:World}{A:Around}{E:Value→Shared→Prop}{s:Shared}{env:Env}{value slice:Expr}{pos:Pos}{T id:String}{Q:Value→Shared→Prop}
  (hl:typeLookup (.type T) "__getitem__" =pure (some (.builtin id))) (hs:zC slice)
  (h:wpAny (model prog w) A (eval value env) (fun o az=>wpAny (model prog w) A (eval slice env) (fun i gQ=>gQ.TypeIs o T∧wpAny (model prog w) A (getItem o i) Q E gQ) E az) E s):
  wpAny (model prog w) A (eval (.Subscript value slice pos) env) Q E s:=by
 refine Subscript_ (wpAny_mono h (fun o az dY=>wpAny_mono dY (fun i gQ rO=> ?_) fun _ _ x=>x) fun _ _ x=>x)
 obtain⟨hT,rO⟩:=rO
 unfold subscriptTail
 refine wpAny_bind ?_
 rw[getitemInPython_of_ne hT.not_modules]
 refine wpAny_bind (wpAny_specialOf hT hl ?_)
 have fin:wpAny (model prog w) A (subscripted slice false o i) (fun r jE=>wpAny (model prog w) A (letTemporaryGo value o r >>=fun _=>pure r) Q E jE) E gQ:=by
  rw[hs o i]
  exact wpAny_operating (wpAny_mono rO (fun r jE CC=>wpAny_bind (wpAny_letTemporaryGo (wpAny_pure CC))) fun _ _ x=>x)
 first
  |exact wpAny_pure (wpAny_bind fin)
  |exact wpAny_bind (wpAny_pure (wpAny_bind fin))
  |exact wpAny_bind fin
theorem US {X:Cx}{pins:List (Addr×Obj)}{σ:St}{H:Hp}{s:Shared}{a:Addr}{y:V}{o:Option V}(I:Inv X pins σ H s) (g:fc H a y o):s.TypeIs (.ref a) "dict" :=by
 rcases g with ⟨ah,k,e,_,_⟩ |⟨ah,k,b,e,_,_,_⟩
 ·obtain⟨_,_,vs,_,dd⟩:=UR I.ai e
  exact dd.typeIs
 ·obtain⟨_,_,xs,_,dd⟩:=UQ I.ai e
  exact dd.typeIs
def AI (td ty:TE):TE:=fun σ H Q=>td σ H fun x H1=>ty σ H1 fun y H2=> ∃a v,x=.ref a∧fc H2 a y (some v)∧Q v H2
def AF (ty td:TE):TE:=fun σ H Q=>ty σ H fun y H1=>td σ H1 fun x H2=> ∃a o,x=.ref a∧fc H2 a y o∧Q (.bl (!o.isSome)) H2
section
variable {X:Cx}{o i e value:Expr}{pos pos' K8:Pos}{td ty tv:TE}
theorem GU (hu:X.A.units+1<cLine) (ho:PE X o td) (hi:PE X i ty) (hs:zC i):PE X (.Subscript o i pos) (AI td ty):=by
 intro pins s σ H Q I h
 refine G5 PySem.F.slot_dict_getitem.lookup hs (ao (ho pins s σ H _ I h) fun u s1 ⟨x,H1,I1,rx,q1⟩=>ao (hi pins s1 σ H1 _ I1 q1) fun iv s2 ⟨y,H2,I2,ry,a,v,ex,g,q2⟩=> ?_)
 subst ex
 obtain rfl:u=Value.ref a:=rx
 exact⟨US I2 g,Ii hu I2 g ry fun w' s3 I3 cF=> ⟨v,H2,I3,cF,q2⟩⟩
theorem Kg (hu:X.A.units+1<cLine) (hi:PE X i ty) (ho:PE X o td):PC X .NotIn i o (AF ty td):=by
 intro pins s σ H Q I h
 refine ao (hi pins s σ H _ I h) fun iv s1 ⟨y,H1,I1,ry,q1⟩=>ao (ho pins s1 σ H1 _ I1 q1) fun u s2 ⟨x,H2,I2,rx,a,ov,ex,g,q2⟩=> ?_
 subst ex
 obtain rfl:u=Value.ref a:=rx
 exact Hk hu I2 g ry fun s3 I3=> ⟨.bl (!ov.isSome),H2,I3,rfl,q2⟩
end
theorem IM {P:Program}{w:World}{H:Hp}(h:Heap) (hb:sysModules<h.objs.size):ba P w H (h.push {cls:=.type "dict",data:=.dict #[]}) h.objs.size (.dK []):=
 ⟨Nat.zero_le _,beq_eq_false_iff_ne.mpr (Ne.symm (Nat.ne_of_lt hb)),[],.nil,Heap.DictOf.new h⟩
def AG:TE:=fun _ H Q=> ∀p,H p=none→Q (.ref p) (upd H p (.dK []))
section
variable {X:Cx}{pos:Pos}
theorem Ut:PE X (.Dict [] [] pos) AG:=fun pins s σ H Q I h=>
 wpAny_Dict_empty ⟨.ref s.heap.objs.size,_,I.laid (a:=s.heap.objs.size) (o:=.dK []) (t':=s.toks) (fun _ _ q=>Heap.get?_push_of_some _ q) (Nat.le_refl _) (IM s.heap I.big),rfl,h _ (I.ai.fresh (Nat.le_refl _))⟩
end
def eI (ah more:List (Key×V)):List (Key×V):=more.foldl (fun acc kv=>putK acc kv.1 kv.2) ah
theorem KV.merge:∀{more:List (Key×V)}{rs:List (Key×Value)}{ah:List (Key×V)}{vs:List (Key×Value)},KV more rs→KV ah vs→KV (eI ah more) (merged vs rs):=by
 intro more rs ah vs r
 unfold KV at r
 induction r generalizing ah vs with
 |nil=>intro q;exact q
 | @cons p q ps qs h t ih=>
  intro r0
  have e:KV (putK ah p.1 p.2) (stored vs q.1 q.2):=by
   have:=r0.put p.1 h.2
   rw[←h.1];exact this
  exact ih e
theorem YX:∀(more ah:List (Key×V)),(eI ah more).length≤ah.length+more.length
 | [],ah=>by show ah.length≤ah.length+0;omega
 |p::r,ah=>by
  have h1:=YX r (putK ah p.1 p.2)
  have h2:=Ju ah p.1 p.2
  show(eI (putK ah p.1 p.2) r).length≤_
  rw[List.length_cons];omega
structure M1 (X:Cx) (o:Expr) (m:Str) (apos:Pos) (e:Expr) (bG:Pos):Prop where
 base:attributeBase o m X.env (eval o X.env)=eval o X.env
 yk:((backTo bG (starEach [e] X.env)).all (fun x=> !x.1)&&(backToKw bG (keywordEach [] X.env)).all (fun x=>x.1.isSome)
  &&decide (([e]:List Expr).length+([]:List Keyword).length+(if ([]:List Keyword).isEmpty then 0 else 1)<30))=true
 line:(apos.endLine==bG.line)=true
 trees:backTo bG (starEach [e] X.env)=[(false,eval e X.env)]
structure M2 (X:Cx) (o:Expr) (m:Str) (apos:Pos) (e f:Expr) (bG:Pos):Prop where
 base:attributeBase o m X.env (eval o X.env)=eval o X.env
 yk:((backTo bG (starEach [e,f] X.env)).all (fun x=> !x.1)&&(backToKw bG (keywordEach [] X.env)).all (fun x=>x.1.isSome)
  &&decide (([e,f]:List Expr).length+([]:List Keyword).length+(if ([]:List Keyword).isEmpty then 0 else 1)<30))=true
 line:(apos.endLine==bG.line)=true
 trees:backTo bG (starEach [e,f] X.env)=[(false,eval e X.env),(false,eval f X.env)]
def zG (H:Hp) (a:Addr):Prop:=(∃ah,Rd H a (.dK ah))∨∃ah,Rd H a (.dT ah)
theorem Gy {X:Cx}{pins:List (Addr×Obj)}{σ:St}{H:Hp}{s:Shared}{a:Addr}(I:Inv X pins σ H s) (d:zG H a):
  s.TypeIs (.ref a) "dict" ∧(∀b,Value.ref a=.ref b→∃ob,s.heap.get? b=some ob∧ob.dict=none)∧(a==sysModules)=false:=by
 rcases d with ⟨ah,e⟩ |⟨ah,e⟩
 ·obtain⟨_,hd,vs,_,dd⟩:=UR I.ai e
  refine⟨dd.typeIs,fun b q=> ?_,hd⟩
  cases q
  obtain⟨ob,_,_,h1,h2,_⟩:=dd
  exact⟨ob,h1,h2.2.1⟩
 ·obtain⟨_,hd,xs,_,dd⟩:=UQ I.ai e
  refine⟨dd.typeIs,fun b q=> ?_,hd⟩
  cases q
  obtain⟨ob,_,_,h1,h2,_⟩:=dd
  exact⟨ob,h1,h2.2.1⟩
section
variable {X:Cx}{pins:List (Addr×Obj)}{σ:St}{H:Hp}{s:Shared}{a:Addr}{y d:V}{u r:Value}{o:Option V}{A:Around}{E:Value→Shared→Prop}
theorem Gm {Q:Value→Shared→Prop}(hu:A.units+1<cLine) (I:Inv X pins σ H s) (g:fc H a y o) (ry:RelV y u) (h:∀w' s',Inv X pins σ H s'→RelV (o.getD .ae) w'→Q w' s'):
  wpAny (model X.prog X.w) A (call (.builtin "dict.get") [.ref a,u]) Q E s:=by
 rcases g with ⟨ah,k,e,ey,l⟩ |⟨ah,k,b,e,ey,eb,l⟩
 ·subst ey
  obtain⟨z,hd,vs,rel,dd⟩:=UR I.ai e
  refine call_meetsIn PySem.F.slot_dict_get dd.typeIs PySem.F.entry_dict_get (PySem.F.args_dict_get_2 _ _) (meets_dict_get (dj X.prog X.w) a (WF ry) hd) ⟨_,dd.mapOf,h _ _ (I.tok _) ?_⟩
  rw[l]
  exact(rel.val k).getD rfl
 ·subst ey
  cases (show u=Value.ref b from ry)
  obtain⟨z,hd,xs,rel,dd⟩:=UQ I.ai e
  refine call_meetsIn PySem.F.slot_dict_get dd.typeIs PySem.F.entry_dict_get (PySem.F.args_dict_get_2 _ _) (meetsH_dict_get (tupleKind (dj X.prog X.w)) a b hd) ⟨tupleKind_room_in1 hu,k,xs,W8 I.ai eb,dd,h _ _ (I.tok _) ?_⟩
  rw[l]
  exact(rel.val k).getD rfl
end
def AH (td ty:TE):TE:=fun σ H Q=>td σ H fun x H1=> ∃a,x=.ref a∧zG H1 a∧ty σ H1 fun y H2=> ∃o,fc H2 a y o∧Q (o.getD .ae) H2
section
variable {X:Cx}{o e f:Expr}{apos bG:Pos}{td ty tx:TE}
theorem HW (hu:X.A.units+1<cLine) (ho:PE X o td) (he:PE X e ty) (m:M1 X o "get" apos e bG):PE X (.Call (.Attribute o "get" apos) [e] [] bG) (AH td ty):=by
 intro pins s σ H Q I h
 refine wpAny_Call_method m.base m.yk m.line PySem.F.plainAttrs_dict PySem.F.slot_dict_get PySem.F.type_dict_get (ao (ho pins s σ H _ I h) fun u s1 ⟨x,H1,I1,rx,a,ex,d,q1⟩=> ?_)
 subst ex
 obtain rfl:u=Value.ref a:=rx
 obtain⟨t1,t2,_⟩:=Gy I1 d
 refine⟨t1,t2,?_⟩
 rw[m.trees]
 refine Calls.callWith_builtin rfl (Calls.evalArgs_plain (Calls.spliced_cons (ao (he pins s1 σ H1 _ I1 q1) fun iv s2 ⟨y,H2,I2,ry,ov,g,q2⟩=>Calls.spliced_nil ?_)))
 exact Gm hu I2 g ry fun w' s3 I3 cF=> ⟨_,H2,I3,cF,q2⟩
end
def bQ (scope:Scope) (env:Env):List (Str×Addr):=scope.names.foldl (fun cs y=>if y.2==.free then (y.1,(env.cells.lookup y.1).getD 0)::cs else cs) []
theorem Z1 {scope:Scope}{env:Env}(h:∀y∈scope.names,y.2=.free→∃c,env.cells.lookup y.1=some c):closureFor scope env=pure (bQ scope env):=by
 unfold closureFor bQ
 have key:∀(l:List (Str×NameKind)) (cs:List (Str×Addr)),(∀y∈l,y.2=.free→∃c,env.cells.lookup y.1=some c)→
   (forIn l cs (fun x r=>match x with |(name,kind)=>if (kind==NameKind.free)=true then do let c ←cellOf env name;pure (ForInStep.yield ((name,c)::r)) else pure (ForInStep.yield r)):Sem (List (Str×Addr)))
    =pure (l.foldl (fun cs y=>if y.2==.free then (y.1,(env.cells.lookup y.1).getD 0)::cs else cs) cs):=by
  intro l
  induction l with
  |nil=>intro cs _;rfl
  |cons y l ih=>
   intro cs hl
   obtain⟨n,k⟩:=y
   rw[List.forIn_cons,List.foldl_cons]
   by_cases hk:k=.free
   ·subst hk
    obtain⟨c,hc⟩:=hl (n,.free) List.mem_cons_self rfl
    have bj:env.cells.lookup n=some c:=hc
    have e1:cellOf env n=pure c:=by unfold cellOf;rw[bj]
    simp only[beq_self_eq_true,if_true,e1,bj,Option.getD_some,pure_bind]
    exact ih _ fun y hy=>hl y (List.mem_cons_of_mem _ hy)
   ·have hb:(k==NameKind.free)=false:=by simpa using hk
    simp only[hb,Bool.false_eq_true,if_false,pure_bind]
    exact ih _ fun y hy=>hl y (List.mem_cons_of_mem _ hy)
 simp only[key scope.names [] h,pure_bind]
 all_goals rfl
theorem Z2 {scope:Scope}{env:Env}{x:Str}{c:Addr}(h:(bQ scope env).lookup x=some c):c=(env.cells.lookup x).getD 0∧(x,NameKind.free)∈scope.names:=by
 unfold bQ at h
 have key:∀(l:List (Str×NameKind)) (cs:List (Str×Addr)),(l.foldl (fun cs y=>if y.2==.free then (y.1,(env.cells.lookup y.1).getD 0)::cs else cs) cs).lookup x=some c→
   (c=(env.cells.lookup x).getD 0∧(x,NameKind.free)∈l)∨cs.lookup x=some c:=by
  intro l
  induction l with
  |nil=>intro cs h;exact .inr h
  |cons y l ih=>
   intro cs h
   obtain⟨n,k⟩:=y
   rw[List.foldl_cons]at h
   rcases ih _ h with ⟨h1,h2⟩ |h'
   ·exact .inl ⟨h1,List.mem_cons_of_mem _ h2⟩
   ·by_cases hk:k=.free
    ·subst hk
     simp only[beq_self_eq_true,if_true]at h'
     rw[List.lookup_cons]at h'
     cases hx:x==n with
     |true=>
      rw[hx]at h'
      have e:x=n:=by simpa using hx
      subst e
      have e':(env.cells.lookup x).getD 0=c:=Option.some.inj h'
      exact .inl ⟨e'.symm,List.mem_cons_self⟩
     |false=>rw[hx]at h';exact .inr h'
    ·have hb:(k==NameKind.free)=false:=by simpa using hk
     simp only[hb,Bool.false_eq_true,if_false]at h'
     exact .inr h'
 rcases key _ _ h with h |h
 ·exact h
 ·simp at h
theorem J8 {scope:Scope}{env:Env}{x:Str}(h:(x,NameKind.free)∈scope.names):∃c,(bQ scope env).lookup x=some c:=by
 unfold bQ
 have key:∀(l:List (Str×NameKind)) (cs:List (Str×Addr)),((x,NameKind.free)∈l∨∃c,cs.lookup x=some c)→∃c,(l.foldl (fun cs y=>if y.2==.free then (y.1,(env.cells.lookup y.1).getD 0)::cs else cs) cs).lookup x=some c:=by
  intro l
  induction l with
  |nil=>
   intro cs h
   rcases h with h |h
   ·simp at h
   ·exact h
  |cons y l ih=>
   intro cs h
   obtain⟨n,k⟩:=y
   rw[List.foldl_cons]
   refine ih _ ?_
   by_cases hk:k=.free
   ·subst hk
    simp only[beq_self_eq_true,if_true]
    rw[List.lookup_cons]
    cases hx:x==n with
    |true=>exact .inr ⟨_,rfl⟩
    |false=>
     rcases h with h |h
     ·rcases List.mem_cons.mp h with e |h
      ·have e1:x=n:=congrArg Prod.fst e
       simp[e1]at hx
      ·exact .inl h
     ·exact .inr h
   ·have hb:(k==NameKind.free)=false:=by simpa using hk
    simp only[hb,Bool.false_eq_true,if_false]
    rcases h with h |h
    ·rcases List.mem_cons.mp h with e |h
     ·exact absurd (congrArg Prod.snd e).symm hk
     ·exact .inl h
    ·exact .inr h
 exact key _ _ (.inl h)
def rl (env:Env) (y:Str×NameKind):Str×NameKind:=if (y.2==NameKind.free&&env.scope.kind==.function&&env.kindOf y.1==some .cell) then (y.1,NameKind.cell) else y
theorem yQ (env:Env) (y:Str×NameKind):(rl env y).1=y.1:=by unfold rl;split<;>rfl
theorem G0 {env:Env}{y:Str×NameKind}(h:y.2=.free):(rl env y).2=.cell∨(rl env y).2=.free:=by
 unfold rl;split
 ·exact .inl rfl
 ·exact .inr h
theorem F3 {env:Env}{y:Str×NameKind}(h:y.2≠.free):rl env y=y:=by
 have hb:(y.2==NameKind.free)=false:=by simpa using h
 unfold rl;rw[hb];simp
theorem YW (scope:Scope) (env:Env):(relabel scope env).names=scope.names.map (rl env):=rfl
theorem WT {scope:Scope}{env:Env}{x:Str}(hc:∀y∈scope.names,y.2≠.cell) (h:(relabel scope env).names.lookup x=some .cell∨(relabel scope env).names.lookup x=some .free):(x,NameKind.free)∈scope.names:=by
 rw[YW]at h
 have key:∀(l:List (Str×NameKind)),(∀y∈l,y.2≠.cell)→(∃k,(k=NameKind.cell∨k=.free)∧(l.map (rl env)).lookup x=some k)→(x,NameKind.free)∈l:=by
  intro l
  induction l with
  |nil=>rintro _ ⟨k,_,h⟩;simp at h
  |cons y l ih=>
   rintro hl ⟨k',dk,h⟩
   obtain⟨n,k⟩:=y
   have e1:(rl env (n,k))=(n,(rl env (n,k)).2):=Prod.ext (yQ env _) rfl
   rw[List.map_cons,e1,List.lookup_cons]at h
   cases hx:x==n with
   |true=>
    have e:x=n:=by simpa using hx
    subst e
    by_cases hk:k=.free
    ·subst hk;exact List.mem_cons_self
    ·rw[hx]at h
     rw[F3 (env:=env) (y:=(x,k)) hk]at h
     have e:k=k':=Option.some.inj h
     subst e
     rcases dk with z |z
     ·exact absurd z (hl _ List.mem_cons_self)
     ·exact absurd z hk
   |false=>
    rw[hx]at h
    exact List.mem_cons_of_mem _ (ih (fun y hy=>hl y (List.mem_cons_of_mem _ hy)) ⟨k',dk,h⟩)
 refine key _ hc ?_
 rcases h with h |h
 ·exact⟨_,.inl rfl,h⟩
 ·exact⟨_,.inr rfl,h⟩
theorem YV {scope:Scope}{env:Env}{x:Str}(h:scope.names.lookup x=some .free):(relabel scope env).names.lookup x=some .cell∨(relabel scope env).names.lookup x=some .free:=by
 rw[YW]
 have key:∀(l:List (Str×NameKind)),l.lookup x=some .free→(l.map (rl env)).lookup x=some .cell∨(l.map (rl env)).lookup x=some .free:=by
  intro l
  induction l with
  |nil=>intro h;simp at h
  |cons y l ih=>
   intro h
   obtain⟨n,k⟩:=y
   have e1:(rl env (n,k))=(n,(rl env (n,k)).2):=Prod.ext (yQ env _) rfl
   rw[List.map_cons,e1,List.lookup_cons]
   rw[List.lookup_cons]at h
   cases hx:x==n with
   |true=>
    rw[hx]at h
    have e:k=.free:=Option.some.inj h
    rcases G0 (env:=env) (y:=(n,k)) e with z |z
    ·exact .inl (congrArg some z)
    ·exact .inr (congrArg some z)
   |false=>rw[hx]at h;exact ih h
 exact key _ h
def aI (X:Cx) (N':List Str) (scope:Scope) (C:Addr) (s2:Shared) (H2:Hp) (fp:List Addr):Cx:=
 {X with N:=N',bI:=s2,gK:=H2,env:=compEnvC scope (bQ scope X.env) C X.env,outer:=X.stack,stack:=X.stack,ex:=fp,fn:=fun _=>false,pn:=[],xe:=fun _ _=>False}
def km (so si:Scope) (N N':List Str) (ts:Nat) (aM:List Nat):Bool:=
 decide (si.kind=.function)&&si.names.all (fun y=>y.2 !=.cell)&&si.names.all (fun y=>y.2 !=.local||si.names.lookup y.1==some .local)
 &&si.names.all (fun y=>y.2 !=.free||so.names.lookup y.1==some .cell||so.names.lookup y.1==some .free)
 &&decide N'.Nodup&&decide (N'.length=ts+aM.length)
 &&(List.range aM.length).all (fun k=> (N'[ts+k]? ==(aM[k]?.bind fun j=>N[j]?))&&(N'[ts+k]?.isSome)&&(N'[ts+k]?.all fun x=>so.names.lookup x !=some .local&&si.names.lookup x==some .free))
def eX (ts:Nat) (aM:List Nat) (σ:St):St:=List.replicate ts none++aM.map fun j=> (σ[j]?).join
structure pT (X:Cx) (N':List Str) (ts:Nat) (aM:List Nat) (scope:Scope):Prop where
 kind:scope.kind=.function
 dg:∀y∈scope.names,y.2≠.cell
 names:∀y∈scope.names,y.2=.local→scope.names.lookup y.1=some .local
 free:∀y∈scope.names,y.2=.free→X.env.kindOf y.1=some .cell∨X.env.kindOf y.1=some .free
 nd:N'.Nodup
 len:N'.length=ts+aM.length
 yw:∀k j,aM[k]? =some j→∃x,N'[ts+k]? =some x∧X.N[j]? =some x∧X.env.kindOf x≠some .local∧scope.names.lookup x=some .free
theorem Y0 {x:Str}{k:NameKind} :∀{l:List (Str×NameKind)},l.lookup x=some k→(x,k)∈l
 | [],h=>by simp at h
 |(n,j)::l,h=>by
  rw[List.lookup_cons]at h
  cases hx:x==n with
  |true=>
   rw[hx]at h
   have e:x=n:=by simpa using hx
   have e':j=k:=Option.some.inj h
   subst e e'
   exact List.mem_cons_self
  |false=>rw[hx]at h;exact List.mem_cons_of_mem _ (Y0 h)
theorem Je {X:Cx}{N':List Str}{ts:Nat}{aM:List Nat}{scope:Scope}(h:km X.env.scope scope X.N N' ts aM=true):pT X N' ts aM scope:=by
 unfold km at h
 simp only[Bool.and_eq_true]at h
 obtain⟨⟨⟨⟨⟨⟨h1,h2⟩,h3⟩,h4⟩,h5⟩,h6⟩,h7⟩:=h
 refine⟨of_decide_eq_true h1,fun y hy z=> ?_,fun y hy z=> ?_,fun y hy z=> ?_,of_decide_eq_true h5,of_decide_eq_true h6,fun k j hk=> ?_⟩
 ·have q:=List.all_eq_true.mp h2 y hy
  rw[z]at q;exact absurd q (by decide)
 ·have q:=List.all_eq_true.mp h3 y hy
  rw[z]at q
  simpa using q
 ·have q:=List.all_eq_true.mp h4 y hy
  rw[z]at q
  simpa[Env.kindOf] using q
 ·have aA:k<aM.length:=(List.getElem?_eq_some_iff.mp hk).1
  have q:=List.all_eq_true.mp h7 k (List.mem_range.mpr aA)
  simp only[Bool.and_eq_true]at q
  obtain⟨⟨q1,q2⟩,q3⟩:=q
  obtain⟨x,hx⟩:=Option.isSome_iff_exists.mp q2
  rw[hx]at q1 q3
  rw[hk]at q1
  have e1:some x=X.N[j]? :=by simpa using q1
  have qZ:(X.env.scope.names.lookup x !=some .local&&scope.names.lookup x==some .free)=true:=q3
  simp only[Bool.and_eq_true]at qZ
  refine⟨x,hx,e1.symm,?_,by simpa using qZ.2⟩
  have z:=qZ.1
  intro e
  have e':X.env.scope.names.lookup x=some .local:=e
  rw[e']at z
  exact absurd z (by decide)
section
variable {X:Cx}{pins:List (Addr×Obj)}{σ:St}{H:Hp}{s:Shared}
theorem zp {N':List Str}{ts:Nat}{aM:List Nat}{scope:Scope}{fp:List Addr}{h':Heap}{t':Nat}{m:Str→Option Value}{C:Addr}(S:pT X N' ts aM scope) (I:Inv X pins σ H s) (hf:∀b∈fp,aJ X pins H b)
  (ho:∀b∈fp,∃o,s.heap.get? b=some o) (hC:s.heap.objs.size≤C) (hn:h'.Ns C m) (k:∀b o,s.heap.get? b=some o→h'.get? b=some o):
  Inv (aI X N' scope C s H fp) [] (eX ts aM σ) H {s with heap:=h',toks:=t'} :=by
 have sub:∀x c,(bQ scope X.env).lookup x=some c→X.env.cells.lookup x=some c:=fun x c e=>by
  obtain⟨e1,e2⟩:=Z2 e
  obtain⟨c',bj⟩:=I.ok.has x (S.free _ e2 rfl)
  rw[bj]at e1
  rw[bj,e1];rfl
 have cO:∀b o,s.heap.get? b=some o→b≠C:=fun b o e=>Nat.ne_of_lt (Nat.lt_of_lt_of_le (Heap.lt_size e) hC)
 refine⟨⟨I.ok.mod,?_,I.ok.glob,I.ok.blt,hC,fun x y c e1 e2=>I.ok.inj x y c (sub x c e1) (sub y c e2),fun x hx=> ?_,fun x c z _=>absurd z Bool.false_ne_true,I.ok.hd,I.ok.frames,.inl rfl,fun b hb=> ?_,fun b o e=>I.bs b o e,Nat.le_trans I.ok.fW I.sz,fun b o e hb=> ?_,fun b hb=> ?_,I.stack,I.kM⟩,
  rfl,I.bare,Un.kept k,⟨m,hn,fun i x v e1 e2 e3=> ?_⟩,fun x c e=> ?_,I.ai.fresh hC,fun x c e=>I.dO x c (sub x c e),fun p hp=>absurd (show p∈([]:List (Addr×Obj)) from hp) (by simp),I.ai.kept k,?_⟩
 ·show(relabel scope X.env).kind=.function
  exact S.kind
 ·exact J8 (WT S.dg hx)
 ·obtain⟨o,e⟩:=ho b hb
  refine⟨cO b o e,fun x c ec=> ?_⟩
  exact(hf b hb).2.2.2.2.1 x c (sub x c ec)
 ·obtain⟨e1,e2⟩:=I.bs b o e
  obtain⟨f0,f1,f2,f3,f4,f5⟩:=hf b hb
  rcases f3 with z |z
  ·exact I.ok.i7 b o e z
  ·exact absurd (Nat.lt_of_lt_of_le (Heap.lt_size (I.ok.bs b o e).1) z) (Nat.lt_irrefl _)
 ·intro z
  obtain⟨f0,f1,f2,f3,f4,f5⟩:=hf b hb
  rcases List.mem_cons.mp (I.nW b z) with q |q
  ·exact f1 q
  ·exact f2 q
 ·-- Lb Ln values
  have hlen:¬i<ts:=fun aA=>by
   unfold eX at e2
   rw[List.getElem?_append_left (by simpa using aA),List.getElem?_replicate]at e2
   split at e2<;>cases e2
  have mE:(aM.map fun j=> (σ[j]?).join)[i - ts]? =some (some v):=by
   unfold eX at e2
   rw[List.getElem?_append_right (by simpa using hlen),List.length_replicate]at e2
   exact e2
  rw[List.getElem?_map]at mE
  cases hc:aM[i - ts]? with
  |none=>rw[hc]at mE;cases mE
  |some j=>
   rw[hc]at mE
   have pF:(σ[j]?).join=some v:=Option.some.inj mE
   have e4:σ[j]? =some (some v):=by
    cases q:σ[j]? with
    |none=>rw[q]at pF;cases pF
    |some o=>rw[q]at pF;exact congrArg some pF
   obtain⟨x',n1,n2,n3,n4⟩:=S.yw _ _ hc
   have ei:ts+(i - ts)=i:=by omega
   rw[ei]at n1
   have ex:x=x':=by
    have tN:N'[i]? =some x:=e1
    rw[n1]at tN;exact(Option.some.inj tN).symm
   subst ex
   obtain⟨mX,LG,hl⟩:=I.loc
   have zV:mQ X.env.scope x:=by
    rcases S.free _ (Y0 n4) rfl with z |z
    ·exact .inr (.inl z)
    ·exact .inr (.inr z)
   obtain⟨u,ru,lk⟩:=hl j x v n2 e4 zV
   refine⟨u,ru,?_⟩
   rcases lk with ⟨z,_⟩ |⟨z,c,ec,ip⟩
   ·exact absurd z n3
   ·obtain⟨c',bj⟩:=J8 (env:=X.env) (Y0 n4)
    have:=sub x c' bj
    rw[ec]at this
    cases this
    refine .inr ⟨?_,c,bj,ip.keeps k⟩
    exact YV n4
 ·obtain⟨v,z⟩:=I.cell x c (sub x c e)
  exact⟨v,z.keeps k⟩
 ·show(eX ts aM σ).length=N'.length
  unfold eX
  rw[List.length_append,List.length_replicate,List.length_map,S.len]
end
def AccAt (h:Heap) (D:Addr) (ys:List V):Prop:=ys.length≤sizeLine∧∃(aa:List Value) (n:Nat),Vals ys aa∧h.get? D=some {cls:=.type "list",data:=.seq aa.toArray n}
theorem AccAt.keep {h h':Heap}{D:Addr}{ys:List V}(a:AccAt h D ys) (k:∀o,h.get? D=some o→h'.get? D=some o):AccAt h' D ys:=by
 obtain⟨z,aa,n,r,e⟩:=a
 exact⟨z,aa,n,r,k _ e⟩
abbrev TC:=List V→St→Hp→(List V→St→Hp→Prop)→Prop
def fb (Y:Cx) (D:Addr) (m:Sem PySem.Fin→Sem PySem.Fin) (t:TC):Prop:=
 ∀(pins:List (Addr×Obj)) (s:Shared) (σ:St) (H:Hp) (ys:List V) (Q:List V→St→Hp→Prop) (k:Sem PySem.Fin) (R:PySem.Fin→Shared→Prop),Inv Y pins σ H s→aJ Y pins H D→AccAt s.heap D ys→t ys σ H Q→
  (∀s' aE af H',Inv Y pins af H' s'→aJ Y pins H' D→AccAt s'.heap D aE→Q aE af H'→wpAny (model Y.prog Y.w) Y.A k R (fun _ _=>False) s')→wpAny (model Y.prog Y.w) Y.A (m k) R (fun _ _=>False) s
def p8 (ifs:List Expr) (env:Env):Sem Bool:=forIn ifs true fun c r=>if r=true then do let ok ←isTrue c env (eval c env);pure (ForInStep.yield ok) else pure (ForInStep.yield r)
def fX (Y:Cx) (ifs:List Expr) (t:TT):Prop:=
 ∀(pins:List (Addr×Obj)) (s:Shared) (σ:St) (H:Hp) (Q:Bool→Hp→Prop),Inv Y pins σ H s→t σ H Q→wpAny (model Y.prog Y.w) Y.A (p8 ifs Y.env) (TP Y pins σ Q) Y.xe s
def gj:TT:=fun _ H Q=>Q true H
section
variable {Y:Cx}{D:Addr}
theorem Z4:fX Y [] gj:=fun pins s σ H Q I h=>wpAny_tests_nil ⟨H,I,h⟩
theorem WW {c:Expr}{t:TT}(hc:PT Y c t):fX Y [c] t:=fun pins s σ H Q I h=>wpAny_tests_one (hc pins s σ H Q I h)
def nU (te:TE):TC:=fun ys σ H Q=>te σ H fun v H1=>ys.length<sizeLine∧Q (ys++[v]) σ H1
theorem AccAt.dg {h:Heap}{ys:List V}(a:AccAt h D ys):∀b∈[D],∃o,h.get? b=some o∧∀v,o.data≠.cell v:=fun b hb=>by
 have e:b=D:=by simpa using hb
 subst e
 obtain⟨z,aa,n,r,e⟩:=a
 exact⟨_,e,fun v z=>by
  have z':Data.seq aa.toArray n=Data.cell v:=z
  cases z'⟩
theorem AccAt.through {h:Heap}{pins:List (Addr×Obj)}{af:St}{H':Hp}{s':Shared}{ys:List V}(a:AccAt h D ys) (I:Inv Y (pins++dN [D] h) af H' s'):AccAt s'.heap D ys∧H' D=none:=by
 obtain⟨z,aa,n,r,e⟩:=a
 have q:=I.pin (D,_) (List.mem_append_right _ (List.mem_append_right _ (ZC (List.mem_singleton.mpr rfl) e)))
 exact⟨⟨z,aa,n,r,q.1⟩,q.2.1⟩
theorem df {elt:Expr}{te:TE}(hx:Y.xe=fun _ _=>False) (he:PE Y elt te):
    fb Y D (fun k=> (do let _ ←call (.builtin "list.append") [.ref D,←eval elt Y.env]) >>=fun _=>k) (nU te):=by
  intro pins s σ H ys Q k R I f a h hk
  refine wpAny_bind (wpAny_mono (Q:=fun _ s'=> ∃aE af H',Inv Y pins af H' s'∧aJ Y pins H' D∧AccAt s'.heap D aE∧Q aE af H') ?_ (fun _ s' ⟨aE,af,H',q1,q2,q3,q4⟩=>hk s' aE af H' q1 q2 q3 q4) fun _ _ z=>z)
  have I':=I.pinned (fp:=[D]) (fun b hb=>by have e:b=D:=by simpa using hb
                                            subst e;exact f) a.dg
  refine wpAny_bind (wpAny_mono (he _ s σ H _ I' h) (fun u s1 ⟨v,H1,I1,ru,hz,q⟩=> ?_) fun e s1 z=>by rw[hx]at z;exact z)
  obtain⟨a1,n1⟩:=a.through I1
  have f1:aJ Y pins H1 D:=⟨n1,f.2⟩
  obtain⟨z,aa,n,r,e⟩:=a1
  have hl:=r.length
  refine wpAny_bind (call_meets F.slot_list_append ⟨_,e,rfl⟩ F.entry_list_append (F.args_list_append_2 _ _) (PySem.list_append D aa.toArray n u (by rw[List.size_toArray];omega)) ⟨e,wpAny_pure ?_⟩)
  have q2:=PySem.IsL.update e (·.push u)
  obtain⟨f0,g1,g2,g3,g4,g5⟩:=f1
  have I2:Inv Y pins σ H1 {s1 with heap:=s1.heap.update D (Obj.mapSeq (·.push u))} :=I1.dq.turned (t':=s1.toks) (it:=D) (fun b o hb eb=> (Heap.get?_update_other s1.heap _ (Ne.symm hb)).trans eb) f0 g1 g3 g4 g5
  refine⟨ys++[v],σ,H1,I2,⟨f0,g1,g2,g3,g4,g5⟩,⟨by rw[List.length_append,List.length_singleton];omega,aa++[u],(if ((aa.toArray.push u).size==aa.toArray.size)=true then n else n+1),r.append (.cons ru .nil),?_⟩,q⟩
  have e3:aa.toArray.push u=(aa++[u]).toArray:=by simp
  rw[←e3]
  exact q2
def inner (elt:Expr) (gens:List Comprehension) (scope:Scope) (pos:Pos) (d:Nat) (acc:Value) (env:Env) (k:Sem PySem.Fin):Sem PySem.Fin:=
 match gens[d+1]? with
 |some g'=>eval g'.iter env >>=fun x=>standAt g'.iter.pos >>=fun _=>foldedSetIterable g'.iter env x >>=fun x=>holding [x] (pyIter x) >>=fun eJ=>
  runOwn (.compStart (.ListComp elt gens scope pos) (d+1) eJ acc env) env >>=fun _=>k
 |none=> (do let _ ←call (.builtin "list.append") [acc,←eval elt env]) >>=fun _=>k
set_option maxHeartbeats 400000 in
theorem tR (elt tg iter:Expr) (ifs:List Expr) (gens:List Comprehension) (scope:Scope) (pos:Pos) (d:Nat) (it acc:Value) (env:Env) (hg:gens[d]? =some ⟨tg,iter,ifs,0⟩) (h2:∀g',gens[d+1]? =some g'→g'.is_async=0):
  compTurn (.ListComp elt gens scope pos) d it acc env=(standAt iter.pos >>=fun _=>pyNext it >>=fun r=>match r with
   |none=>pure (.done .next)
   |some v=>letOwnedTupleGo tg it v >>=fun _=>assign tg env v >>=fun _=>p8 ifs env >>=fun ok=>
    if ok=true then inner elt gens scope pos d acc env (again (.compLoop (.ListComp elt gens scope pos) d it acc env)) else again (.compLoop (.ListComp elt gens scope pos) d it acc env)):=by
 unfold compTurn inner
 dsimp only
 rw[hg]
 generalize hn:gens[d+1]? =o
 cases o with
 |none=>rfl
 |some g'=>
  have e:=h2 g' hn
  obtain⟨t',i',f',a'⟩:=g'
  have e':a'=0:=e
  subst e'
  rfl
def fi (g:TG) (tt:TT) (ti:TC) (J:It):TC:=fun ys σ H Q=> ∃W:Nat→Nat→List V→St→Hp→Prop,(∃m,W 0 m ys σ H)∧∀i m ys σ H,W i m ys σ H→
 (J.stop i H∧Q ys σ H)∨(J.go i H∧∃N:List V→St→Hp→Prop,(∀aE af H',N aE af H'→∃m',m'<m∧W (i+1) m' aE af H')∧
  ∀x H',J.jC i H x H'→g x σ H' fun aX H2=>tt aX H2 fun b H3=>if b=true then ti ys aX H3 N else N ys aX H3)
theorem tQ {elt tg iter:Expr}{ifs:List Expr}{gens:List Comprehension}{scope:Scope}{pos:Pos}{d:Nat}{it:Addr}{fp:List Addr}{tn:Nat→Heap→Prop}{J:It}{g:TG}{tt:TT}{ti:TC}{pins:List (Addr×Obj)}{s:Shared}{σ:St}{H:Hp}{ys:List V}{Q:List V→St→Hp→Prop}
    (hx:Y.xe=fun _ _=>False) (hc:Y.calm=true) (hg:gens[d]? =some ⟨tg,iter,ifs,0⟩) (T:Turn Y.prog Y.w Y.K tg J fp it tn) (hf:∀b∈fp,aJ Y pins H b) (st:tn 0 s.heap) (hD:D∉fp)
    (h2:∀g',gens[d+1]? =some g'→g'.is_async=0) (pg:PG Y tg g) (pt:fX Y ifs tt) (pi:fb Y D (inner elt gens scope pos d (.ref D) Y.env) ti)
    (I:Inv Y pins σ H s) (f:aJ Y pins H D) (a:AccAt s.heap D ys) (h:fi g tt ti J ys σ H Q):
    codeAny (model Y.prog Y.w) Y.A (.compLoop (.ListComp elt gens scope pos) d (.ref it) (.ref D) Y.env) (fun r s'=>match r with
      | .ok _=> ∃aE af H',Inv Y pins af H' s'∧aJ Y pins H' D∧AccAt s'.heap D aE∧Q aE af H'
      | .error _=>False) s:=by
  obtain⟨W,⟨m0,w0⟩,turn⟩:=h
  have stat:∀{H':Hp},(∀b∈fp,H' b=none)→∀b∈fp,aJ Y pins H' b:=fun hn b hb=> ⟨hn b hb,(hf b hb).2⟩
  refine codeAny_loop rfl (fun n s'=> ∃i aE af H',Inv Y pins af H' s'∧aJ Y pins H' D∧AccAt s'.heap D aE∧tn i s'.heap∧(∀b∈fp,H' b=none)∧W i n aE af H') (fun n s3 hI=> ?_) m0 ⟨0,ys,σ,H,I,f,a,st,fun b hb=> (hf b hb).1,w0⟩
  obtain⟨i,fe,cV,H3,I3,f3,a3,cj,kj,w3⟩:=hI
  show wpAny _ Y.A ((compTurn (.ListComp elt gens scope pos) d (.ref it) (.ref D) Y.env).onRaise (fun x=>do noteFrame x Y.env;theTreesLotGoes x)) _ _ s3
  refine wpAny_noted (wpAny_mono (E:=fun _ _=>False) ?_ (fun _ _ q=>q) fun _ _ z=>z.elim)
  rw[tR elt tg iter ifs gens scope pos d (.ref it) (.ref D) Y.env hg h2]
  refine wpAny_bind (wpAny_standAt (wpAny_bind ?_))
  have aD:∀{h h':Heap},(∀b o,b∉fp→h.get? b=some o→h'.get? b=some o)→∀{zs},AccAt h D zs→AccAt h' D zs:=fun k _ q=>q.keep fun o e=>k D o hD e
  have nh:=I3.pinned (fp:=[D]) (fun b hb=>by have e:b=D:=by simpa using hb
                                             subst e;exact f3) a3.dg
  have kN:∀b∈fp,aJ Y (pins++dN [D] s3.heap) H3 b:=fun b hb=>by
    obtain⟨g0,g1,g2,g3,g4,g5⟩:=stat kj b hb
    refine⟨g0,g1,g2,g3,g4,fun p hp=> ?_⟩
    rcases List.mem_append.mp hp with z |z
    · exact g5 p (List.mem_append_left _ z)
    · rcases List.mem_append.mp z with z |z
      · exact g5 p (List.mem_append_right _ z)
      · intro q
        have e:p.1=D:=by simpa using (YA z).1
        exact hD (by rw[←e,q];exact hb)
  rcases turn i n fe cV H3 w3 with ⟨stop,qn⟩ |⟨go,N,hN,step⟩
  · refine wpAny_mono (T.done Y rfl rfl rfl hc i _ s3 cV H3 (fun _ _=>False) nh kN cj stop) (fun r s4 ⟨hr,I4⟩=> ?_) fun _ _ z=>z
    subst hr
    obtain⟨a4,n4⟩:=a3.through I4
    exact wpAny_pure ⟨fe,cV,H3,I4.dq,f3,a4,qn⟩
  · refine wpAny_mono (T.item Y rfl rfl rfl hc i _ s3 cV H3 (fun _ _=>False) nh kN cj go) (fun r s4 ⟨u,hr,h4⟩=> ?_) fun _ _ z=>z
    subst hr
    refine wpAny_bind (wpAny_mono h4 (fun _ s5 ⟨x,H5,I5,r5,y5,bF,mx⟩=> ?_) fun _ _ z=>z)
    obtain⟨a5,n5⟩:=a3.through I5
    have f5:aJ Y pins H5 D:=⟨n5,f3.2⟩
    have rY:∀b∈D::fp,∃o,s5.heap.get? b=some o∧∀v,o.data≠.cell v:=fun b hb=>by
      rcases List.mem_cons.mp hb with e |hb
      · exact a5.dg b (by simp[e])
      · exact T.obj _ _ bF b hb
    have ng:=I5.dq.pinned (fp:=D::fp) (fun b hb=>by
      rcases List.mem_cons.mp hb with e |hb
      · rw[e];exact f5
      · exact stat mx b hb) rY
    refine wpAny_bind (wpAny_mono (pg _ s5 cV H5 x u _ ng r5 (step x H5 y5)) (fun _ s6 ⟨gf,H6,I6,q6⟩=> ?_) fun _ _ z=>by rw[hx]at z;exact z)
    refine wpAny_bind (wpAny_mono (pt _ s6 gf H6 _ I6 q6) (fun b s7 ⟨H7,I7,q7⟩=> ?_) fun _ _ z=>by rw[hx]at z;exact z)
    have lH:∀{bV:St}{H7:Hp}{s7:Shared},Inv Y (pins++dN (D::fp) s5.heap) bV H7 s7→AccAt s7.heap D fe∧H7 D=none:=fun {bV H7 s7} J=>by
      obtain⟨z,aa,n,r,e⟩:=id a5
      have q:=J.pin (D,_) (List.mem_append_right _ (List.mem_append_right _ (ZC List.mem_cons_self e)))
      exact⟨⟨z,aa,n,r,q.1⟩,q.2.1⟩
    have lG:∀{bV:St}{H7:Hp}{s7:Shared},Inv Y (pins++dN (D::fp) s5.heap) bV H7 s7→tn (i+1) s7.heap∧∀b∈fp,H7 b=none:=fun {bV H7 s7} J=>by
      refine⟨T.keep _ _ _ bF fun b hb o e=> (J.pin (b,o) (List.mem_append_right _ (List.mem_append_right _ (ZC (List.mem_cons_of_mem _ hb) e)))).1,fun b hb=> ?_⟩
      obtain⟨o,e,dd⟩:=T.obj _ _ bF b hb
      exact(J.pin (b,o) (List.mem_append_right _ (List.mem_append_right _ (ZC (List.mem_cons_of_mem _ hb) e)))).2.1
    cases b with
    |false=>
     simp only[Bool.false_eq_true,if_false]at q7 ⊢
     obtain⟨m',hm,w7⟩:=hN _ _ _ q7
     obtain⟨a7,n7⟩:=lH I7
     obtain⟨t7,r7⟩:=lG I7
     exact wpAny_pure ⟨rfl,m',hm,i+1,fe,gf,H7,I7.dq,⟨n7,f3.2⟩,a7,t7,r7,w7⟩
    |true=>
     simp only[if_true]at q7 ⊢
     obtain⟨a7,n7⟩:=lH I7
     obtain⟨t7,r7⟩:=lG I7
     have uw:=I7.dq.pinned (fp:=fp) (stat r7) (T.obj _ _ t7)
     have f7:aJ Y (pins++dN fp s7.heap) H7 D:=by
       obtain⟨g0,g1,g2,g3,g4,g5⟩:=f3
       refine⟨n7,g1,g2,g3,g4,fun p hp=> ?_⟩
       rcases List.mem_append.mp hp with z |z
       · exact g5 p (List.mem_append_left _ z)
       · rcases List.mem_append.mp z with z |z
         · exact g5 p (List.mem_append_right _ z)
         · intro q
           exact hD (by rw[←q];exact(YA z).1)
     refine pi _ s7 gf H7 fe N _ _ uw f7 a7 q7 fun s8 pU jA H8 I8 f8 a8 q8=> ?_
     obtain⟨m',hm,w8⟩:=hN _ _ _ q8
     refine wpAny_pure ⟨rfl,m',hm,i+1,pU,jA,H8,I8.dq,⟨f8.1,f3.2⟩,a8,T.keep _ _ _ t7 fun b hb o e=> (I8.pin (b,o) (List.mem_append_right _ (List.mem_append_right _ (ZC hb e)))).1,fun b hb=> ?_,w8⟩
     obtain⟨o,e,dd⟩:=T.obj _ _ t7 b hb
     exact(I8.pin (b,o) (List.mem_append_right _ (List.mem_append_right _ (ZC hb e)))).2.1
theorem tP {elt tg iter:Expr}{ifs:List Expr}{gens:List Comprehension}{scope:Scope}{pos:Pos}{d:Nat}{it:Addr}{R:Result→Shared→Prop}{s:Shared}{A:Around}{prog:Program}{w:World}{env:Env}{acc:Value}{fp:List Addr}{tn:Nat→Heap→Prop}{J:It}{K:PySem.W.Frag}
  (hg:gens[d]? =some ⟨tg,iter,ifs,0⟩) (T:Turn prog w K tg J fp it tn) {i:Nat} (st:tn i s.heap) (h:codeAny (model prog w) A (.compLoop (.ListComp elt gens scope pos) d (.ref it) acc env) R s):
  codeAny (model prog w) A (.compStart (.ListComp elt gens scope pos) d (.ref it) acc env) R s:=by
 refine codeAny_of_tree ?_
 show wpAny _ _ ((compStart (.ListComp elt gens scope pos) d (.ref it) acc env).onRaise (fun x=>do noteFrame x env;standAt theWindowsPlace)) _ _ s
 refine wpAny_notedAt ?_
 have il:(clausesOf (.ListComp elt gens scope pos))[d]? =some ⟨tg,iter,ifs,0⟩:=hg
 unfold compStart
 rw[il]
 show wpAny _ _ (ask >>=_) _ _ s
 refine wpAny_bind (wpAny_askSetting (wpAny_ite ?_))
 split
 ·first
   |exact wpAny_bind (wpAny_pure (wpAny_pure (And.intro rfl h)))
   |exact wpAny_pure (And.intro rfl h)
 ·refine wpAny_bind (wpAny_rule ?_)
  show wpAny _ _ (standAt iter.pos >>=_) _ _ s
  exact wpAny_bind (wpAny_standAt (wpAny_bind (T.self A i s _ _ st (wpAny_pure (And.intro rfl h)))))
end
section
variable {X:Cx}{pins:List (Addr×Obj)}{σ:St}{H H':Hp}{s s':Shared}
theorem mI {N':List Str}{scope:Scope}{C D:Addr}{fp:List Addr}{af:St}{ys:List V}{pl:List (Addr×Obj)}{h':Heap}(I:Inv X pins σ H s) (hf:∀b∈fp,aJ X pins H b) (hC:s.heap.objs.size≤C) (hD:s.heap.objs.size≤D) (dn:D≠C)
  (J:Inv (aI X N' scope C s H fp) pl af H' s') (n:H' D=none) (a:AccAt s'.heap D ys) (sb:Heap.SameBut C s'.heap h'):Inv X pins σ (upd H' D (.lst ys)) {s' with heap:=h'} :=by
 have cO:∀b o,s.heap.get? b=some o→b≠C:=fun b o e=>Nat.ne_of_lt (Nat.lt_of_lt_of_le (Heap.lt_size e) hC)
 have rE:∀b o,s.heap.get? b=some o→b≠D:=fun b o e=>Nat.ne_of_lt (Nat.lt_of_lt_of_le (Heap.lt_size e) hD)
 have i8:∀b o,H b=some o→b≠D:=fun b o e=>Nat.ne_of_lt (Nat.lt_of_lt_of_le (I.ai.lt e) hD)
 have fC:H' C=none:=J.free
 have u:Un (aN X.stack) fp H H' s.heap s'.heap:=J.base
 refine I.tT (s':= {s' with heap:=h'}) (ch:=fp) J.os ⟨fun b o e nb hb hx=> (sb.2 b (cO b o e)).trans (u.keep b o e nb hb hx),fun b o e nb hb hx=> ?_,fun b o e nb hx=>by rw[Zh (rE b o e)];exact u.free b o e nb hx,fun b o e hx=> ?_,
  fun b xs e=>by rw[Zh (i8 b _ e)];exact u.dG b xs e,fun b o xs e=>by rw[Zh (i8 b _ e)];exact u.dC b o xs e,fun b ps e=>by rw[Zh (i8 b _ e)];exact u.dr b ps e⟩ (fun b v e=> ?_) J.bare fun b hb=> ?_
 ·obtain⟨sl,q⟩:=u.slot b o e nb hb hx
  exact⟨sl,(sb.2 b (cO b o e)).trans q⟩
 ·obtain⟨o',q⟩:=u.there b o e hx
  exact⟨o',(sb.2 b (cO b o e)).trans q⟩
 ·by_cases hb:b=D
  ·subst hb
   rw[Zc]at e
   cases e
   obtain⟨z,aa,k,r,q⟩:=a
   exact⟨z,aa,k,r,(sb.2 b dn).trans q⟩
  ·rw[Zh hb]at e
   refine(J.ai b v e).bK (fun c w hc q=> (sb.2 c ?_).trans q) (fun c q=>by rw[Zh (Zg q n)];exact q) fun c xs q=>by rw[Zh (Zg q n)];exact q
   rcases hc with z |z
   ·rw[z];exact Zg e fC
   ·exact Zg z fC
 ·obtain⟨f0,f1,f2,f3,f4,f5⟩:=hf b hb
  exact⟨f3,f1,f4,f5⟩
theorem mF {elt tg iter:Expr}{ifs:List Expr}{rest:List Comprehension}{scope:Scope}{pos:Pos}{N':List Str}{ts:Nat}{aM:List Nat}{it:Addr}{fp:List Addr}{tn:Nat→Heap→Prop}{J:It}{g:TG}{tt:TT}{ti:TC}{Q:List V→Hp→Prop}{E:Value→Shared→Prop}{RR:Value→Addr→Result→Shared→Prop}
  (S:pT X N' ts aM scope) (hc:X.calm=true) (I:Inv X pins σ H s) (T:Turn X.prog X.w X.K tg J fp it tn) (st:tn 0 s.heap) (hf:∀b∈fp,aJ X pins H b)
  (h2:∀g',(Comprehension.mk tg iter ifs 0::rest)[0+1]? =some g'→g'.is_async=0)
  (pg:∀C,PG (aI X N' scope C s H fp) tg g) (pt:∀C,fX (aI X N' scope C s H fp) ifs tt)
  (pi:∀C D,fb (aI X N' scope C s H fp) D (inner elt (⟨tg,iter,ifs,0⟩::rest) scope pos 0 (.ref D) (aI X N' scope C s H fp).env) ti)
  (h:fi g tt ti J [] (eX ts aM σ) H fun ys _ H2=>Q ys H2)
  (sW:∀C D s' af H' ys fl,s.heap.objs.size≤C→s.heap.objs.size≤D→D≠C→Inv (aI X N' scope C s H fp) [] af H' s'→H' D=none→AccAt s'.heap D ys→Q ys H'→RR (.ref D) C (.ok fl) s'):
  wpAny (model X.prog X.w) X.A (newList []) (fun acc jE=>wpAny (model X.prog X.w) X.A (newFunctionEnv scope X.env.globals (bQ scope X.env) [] X.env.qual none .none (some X.env)) (fun mG qe=>
   codeAny (model X.prog X.w) X.A (.compStart (.ListComp elt (⟨tg,iter,ifs,0⟩::rest) scope pos) 0 (.ref it) acc {mG with scope:=relabel scope X.env}) (RR acc mG.locals) qe) E jE) E s:=by
 refine wpAny_newObj_type (wpAny_newFunctionEnv S.dg (by intro y hy;simp at hy) (fun dY jh fQ=> ?_) S.kind)
 dsimp only at jh fQ ⊢
 generalize ir:s.heap.push {cls:=.type "list",dict:=none,data:=.seq ([]:List Value).toArray} =h0 at jh fQ ⊢
 have hC:h0.objs.size=s.heap.objs.size+1:=by rw[←ir,Heap.size_push]
 have dn:s.heap.objs.size≠h0.objs.size:=by rw[hC];exact Nat.ne_of_lt (Nat.lt_succ_self _)
 have jr:s.heap.objs.size≤h0.objs.size:=by rw[hC];exact Nat.le_succ _
 have cO:∀b o,s.heap.get? b=some o→b≠h0.objs.size:=fun b o e=>Nat.ne_of_lt (Nat.lt_of_lt_of_le (Heap.lt_size e) jr)
 have old:∀b o,s.heap.get? b=some o→dY.get? b=some o:=fun b o e=>fQ.extBut b o (cO b o e) (Heap.get?_push_of_some _ (ir▸Heap.get?_push_of_some _ e))
 have kg:dY.get? s.heap.objs.size=some {cls:=.type "list",data:=.seq ([]:List Value).toArray 0} :=fQ.extBut _ _ dn (Heap.get?_push_of_some _ (ir▸Heap.get?_push_size _ rfl))
 have ho:∀b∈fp,∃o,s.heap.get? b=some o:=fun b hb=>let ⟨o,e,_⟩:=T.obj _ _ st b hb;⟨o,e⟩
 have I1:Inv (aI X N' scope h0.objs.size s H fp) [] (eX ts aM σ) H {s with heap:=dY,toks:=s.toks+([]:List (Str×Value)).length} :=zp S I hf ho jr jh old
 have fresh:=I.ai.fresh (a:=s.heap.objs.size) (Nat.le_refl _)
 have tG:∀b∈fp,aJ (aI X N' scope h0.objs.size s H fp) [] H b:=fun b hb=>by
  obtain⟨f0,f1,f2,f3,f4,f5⟩:=hf b hb
  refine⟨f0,(I1.ok.ix b hb).1,I1.ok.iw b hb,.inl hb,(I1.ok.ix b hb).2,fun p hp=>absurd (show p∈([]:List (Addr×Obj)) from hp) (by simp)⟩
 have fD:aJ (aI X N' scope h0.objs.size s H fp) [] H s.heap.objs.size:=by
  refine⟨fresh,dn,fun z=> ?_,.inr (Nat.le_refl _),fun x c e z=> ?_,fun p hp=>absurd (show p∈([]:List (Addr×Obj)) from hp) (by simp)⟩
  ·obtain⟨_,o,bX,_⟩:=I.stack.mem z
   exact absurd (Heap.lt_size bX) (Nat.lt_irrefl _)
  ·obtain⟨e1,e2⟩:=Z2 e
   obtain⟨c',bj⟩:=I.ok.has x (S.free _ e2 rfl)
   obtain⟨v,q⟩:=I.cell x c' bj
   rw[bj]at e1
   have e3:c=c':=e1
   have l:=q.lt
   rw[←e3,z]at l
   exact absurd l (Nat.lt_irrefl _)
 have aD:AccAt dY s.heap.objs.size []:=⟨Nat.zero_le _,[],0,.nil,kg⟩
 have sY:s.heap.objs.size∉fp:=fun z=>by obtain⟨o,e⟩:=ho _ z;exact absurd (Heap.lt_size e) (Nat.lt_irrefl _)
 have ck:tn 0 dY:=T.keep _ _ _ st fun b _ o e=>old b o e
 have run:=tP (elt:=elt) (gens:=⟨tg,iter,ifs,0⟩::rest) (scope:=scope) (pos:=pos) (d:=0) rfl T ck
  (tQ (Y:=aI X N' scope h0.objs.size s H fp) (D:=s.heap.objs.size) (Q:=fun ys _ H2=>Q ys H2) (elt:=elt) (gens:=⟨tg,iter,ifs,0⟩::rest) (scope:=scope) (pos:=pos) (d:=0) rfl hc rfl T tG ck sY h2 (pg _) (pt _) (pi _ _) I1 fD aD h)
 refine codeAny_mono run fun r s' hr=> ?_
 cases r with
 |error e=>exact hr.elim
 |ok fl=>
  obtain⟨aE,af,H',q1,q2,q3,q4⟩:=hr
  exact sW _ _ s' af H' aE fl jr (Nat.le_refl _) dn q1 q2.1 q3 q4
end
def vg (wi:TI) (ts:Nat) (aM:List Nat) (g:TG) (tt:TT) (ti:TC):TE:=fun σ H Q=>wi σ H fun J H1=>fi g tt ti J [] (eX ts aM σ) H1 fun ys _ H2=> ∀p,H2 p=none→Q (.ref p) (upd H2 p (.lst ys))
section
variable {X:Cx}{elt tg iter:Expr}{ifs:List Expr}{rest:List Comprehension}{scope:Scope}{pos:Pos}{wi:TI}{g:TG}{tt:TT}{ti:TC}
theorem Ye (N':List Str) (ts:Nat) (aM:List Nat) (hi:PI X tg iter wi) (pg:∀C s H fp,PG (aI X N' scope C s H fp) tg g) (pt:∀C s H fp,fX (aI X N' scope C s H fp) ifs tt)
  (pi:∀C s H fp D,fb (aI X N' scope C s H fp) D (inner elt (⟨tg,iter,ifs,0⟩::rest) scope pos 0 (.ref D) (aI X N' scope C s H fp).env) ti)
  (ok:km X.env.scope scope X.N N' ts aM=true:=by rfl) (hc:X.calm=true:=by rfl) (h2:∀g',(Comprehension.mk tg iter ifs 0::rest)[0+1]? =some g'→g'.is_async=0:=by(intro g' h;cases h<;>rfl))
  (hs:∀x,foldedSetIterable iter X.env x=pure x:=by intro _;rfl):
  PE X (.ListComp elt (⟨tg,iter,ifs,0⟩::rest) scope pos) (vg wi ts aM g tt ti):=by
 intro pins s σ H Q I h
 have S:=Je ok
 rw[eval_ListComp]
 refine wpAny_comprehension_free (use:=none) rfl hs (Z1 fun y hy e=>I.ok.has _ (S.free y hy e)) S.kind S.names (ao (hi pins s σ H _ I h) fun v s1 h1=>ao h1 fun eJ s2 dB=> ?_)
 obtain⟨it,fp,tn,J,H2,e,I2,T,bM,f2,q2⟩:=dB
 subst e
 refine mF (RR:=fun acc C=>compPost (model X.prog X.w) X.A X.xe none _ acc C) S hc I2 T bM f2 h2 (fun C=>pg C _ _ _) (fun C=>pt C _ _ _) (fun C D=>pi C _ _ _ D) q2 ?_
 intro C D s' af H' ys fl hC hD dn J' n a q
 obtain⟨m,hn,_⟩:=J'.loc
 exact⟨m,hn,fun h' sb=> ⟨.ref D,_,mI I2 f2 hC hD dn J' n a sb,rfl,q D n⟩⟩
theorem WX (N':List Str) (ts:Nat) (aM:List Nat) {i:Nat}{x:Str}{px kS:Pos}(hN:X.N.Nodup) (ej:X.N[i]? =some x) (hx:Loc X.env.scope x) (hi:PI X tg iter wi) (pg:∀C s H fp,PG (aI X N' scope C s H fp) tg g) (pt:∀C s H fp,fX (aI X N' scope C s H fp) ifs tt)
  (pi:∀C s H fp D,fb (aI X N' scope C s H fp) D (inner elt (⟨tg,iter,ifs,0⟩::rest) scope pos 0 (.ref D) (aI X N' scope C s H fp).env) ti)
  (lP:swapsWith (.ListComp elt (⟨tg,iter,ifs,0⟩::rest) scope pos) (some (.Name x px)) kS.line X.env=pure true:=by rfl)
  (ok:km X.env.scope scope X.N N' ts aM=true:=by rfl) (hc:X.calm=true:=by rfl) (h2:∀g',(Comprehension.mk tg iter ifs 0::rest)[0+1]? =some g'→g'.is_async=0:=by(intro g' h;cases h<;>rfl))
  (hs:∀x,foldedSetIterable iter X.env x=pure x:=by intro _;rfl) (eo:X.fn x=true∨X.env.scope.names.lookup x=some .local:=by first |exact .inl rfl |exact .inr rfl |assumption):
  PS X (.Assign [.Name x px] (.ListComp elt (⟨tg,iter,ifs,0⟩::rest) scope pos) kS) (kL (vg wi ts aM g tt ti) (iu i)):=by
 intro pins s σ H D I h
 have S:=Je ok
 rw[exec_Assign_Name_used _ _ _ _ lP]
 refine wpAny_bind (wpAny_standAt (wpAny_bind ?_))
 show wpAny _ X.A (do let _ ←comprehension (.ListComp elt (⟨tg,iter,ifs,0⟩::rest) scope pos) scope X.env _ (newList []) false (eval iter X.env) (some (assign (.Name x px) X.env))) _ _ s
 refine wpAny_bind (wpAny_mono (wpAny_comprehension_free (use:=some (assign (.Name x px) X.env)) (Q:=fun _ s'=> ∃af H',Inv X pins af H' s'∧D.nx af H') rfl hs (Z1 fun y hy e=>I.ok.has _ (S.free y hy e)) S.kind S.names
  (ao (hi pins s σ H _ I h) fun v s1 h1=>ao h1 fun eJ s2 dB=> ?_)) (fun _ s' hq=>wpAny_pure (wpAny_pure hq)) fun _ _ e=>e)
 obtain⟨it,fp,tn,J,H2,e,I2,T,bM,f2,q2⟩:=dB
 subst e
 refine mF (RR:=fun acc C=>compPost (model X.prog X.w) X.A X.xe (some (assign (.Name x px) X.env)) _ acc C) S hc I2 T bM f2 h2 (fun C=>pg C _ _ _) (fun C=>pt C _ _ _) (fun C D=>pi C _ _ _ D) q2 ?_
 intro C B s' af H' ys fl hC hB mw J' n a q
 obtain⟨m,hn,_⟩:=J'.loc
 have IX:Inv X pins σ (upd H' B (.lst ys)) s':=mI I2 f2 hC hB mw J' n a (Heap.SameBut.refl C s'.heap)
 have fC:=I2.kl (H':=upd H' B (.lst ys)) (b:=C) hC (by rw[Zh (Ne.symm mw)];exact J'.free)
 obtain⟨f0,f1,EF,f3,f4,f5⟩:=fC
 show wpAny _ X.A (assign (.Name x px) X.env (.ref B)) _ _ s'
 refine wpAny_assign_Name (Jh (v:=.ref B) (u:=.ref B) IX hN ej hx rfl (fun bA uz ⟨c,sb,eQ⟩=> ?_) eo)
 have tj:C≠c:=by
  rcases eQ with z |z
  ·rw[z];exact f1
  ·exact(f4 x c z).symm
 refine⟨m,Heap.Ns.sameBut hn sb tj,fun h' qx=> ?_⟩
 refine⟨σ.set i (some (.ref B)),_,uz.turned (t':=bA.toks) (it:=C) (fun b o hb e=> (qx.2 b hb).trans e) f0 f1 f3 f4 f5,q B n⟩
end
section
variable {X:Cx}
theorem Zq {c:String} :cM X (.builtin "isinstance") (fun xs H Q=> ∃x t b,xs=[x,.ty c]∧cg X.K H x t∧PySem.W.kitOne X.K t (.type c)=some b∧Q (.bl b) H):=by
 intro pins s σ H xs us Q I r h
 obtain⟨x,t,b,rfl,ty,e,q⟩:=h
 obtain⟨u,v,rfl,ru,rv⟩:=vals2 r
 cases rv
 exact Il I ru ty e fun tk=> ⟨.bl b,H,I.tok tk,rfl,q⟩
theorem J9 (hc:X.calm=true:=by rfl):cM X (.builtin "all") (fun xs H Q=> ∃(p:Addr) (bs:List Bool),xs=[.ref p]∧ak X.K H p (bs.map V.bl)∧Q (.bl (bs.all id)) H):=by
 intro pins s σ H xs us Q I r h
 obtain⟨p,bs,rfl,hp,q⟩:=h
 obtain⟨u,rfl,ru⟩:=vals1 r
 cases ru
 obtain⟨aa,rv,pl,hz⟩:=I.list hp
 have hb:∀(i:Nat) (v:Value),aa.toArray[i]? =some v→v=.bool (bs.getD i false):=fun i v e=>by
  have e':aa[i]? =some v:=by simpa using e
  have hl:=rv.length
  have hi:i<aa.length:=(List.getElem?_eq_some_iff.mp e').1
  have jj:i< (bs.map V.bl).length:=by omega
  obtain⟨u,hu,ru⟩:=rv.get (i:=i) (x:=(bs.map V.bl)[i]) (by simp)
  rw[e']at hu
  cases hu
  rw[List.getElem_map]at ru
  have Dx:i<bs.length:=by simpa using jj
  have e2:bs.getD i false=bs[i]:=by simp[List.getD_eq_getElem?_getD,Dx]
  rw[e2]
  exact ru
 refine call_all_walk (wpAny_pyIter_list pl.isList ?_)
 have cK:p≠s.heap.objs.size:=Nat.ne_of_lt (by obtain⟨o,n,e,_⟩:=pl;exact Heap.lt_size e)
 refine⟨s.heap.objs.size,_,_,_,_,_,fun i=>bs.getD i false,rfl,Walks.list (A:=X.A.in1) (show X.A.in1.handled=none from I.ok.hd hc) s.heap.objs.size p cK aa.toArray,⟨⟨_,Heap.get?_push_size _ rfl,rfl,rfl⟩,pl.isList.at fun o e=>Heap.get?_push_of_some _ e⟩,fun i v s' Q' E' hP hQ=> ?_,fun h' tk hk=> ?_⟩
 ·rw[hb i v hP]
  exact wpAny_truthy_bool hQ
 ·have e:(List.range aa.toArray.size).all (fun i=>bs.getD i false)=bs.all id:=by
   have hl:aa.toArray.size=bs.length:=by have:=rv.length;rw[List.length_map]at this;simpa using this.symm
   rw[hl,Bool.eq_iff_iff,List.all_eq_true,List.all_eq_true]
   constructor
   ·intro h b hb
    obtain⟨i,hi,e⟩:=List.mem_iff_getElem.mp hb
    have:=h i (List.mem_range.mpr hi)
    rw[List.getD_eq_getElem?_getD,List.getElem?_eq_getElem hi,Option.getD_some,e]at this
    exact this
   ·intro h i hi
    have jj:=List.mem_range.mp hi
    rw[List.getD_eq_getElem?_getD,List.getElem?_eq_getElem jj,Option.getD_some]
    exact h _ (List.getElem_mem jj)
  rw[e]
  refine⟨.bl (bs.all id),H,I.kept fun b o eb=>hk b o ?_ (Heap.get?_push_of_some _ eb),rfl,q⟩
  intro z
  have e1:b=s.heap.objs.size:=by simpa using z
  exact absurd (Heap.lt_size eb) (by rw[e1];exact Nat.lt_irrefl _)
def jM (ns:List Int):Nat:=(PyProof.Rows.firstMet (fun i=>ns.getD i 0) ns.length).length
theorem Wi (hc:X.calm=true:=by rfl):cM X (.type "set") (fun xs H Q=> ∃(p:Addr) (ns:List Int),xs=[.ref p]∧ak X.K H p (ns.map V.int)∧ns.length≤1000∧∀q S,H q=none→Q (.ref q) (upd H q (.set S (jM ns)))):=by
 intro pins s σ H xs us Q I r h
 obtain⟨p,ns,rfl,hp,hn,q⟩:=h
 obtain⟨u,rfl,ru⟩:=vals1 r
 cases ru
 obtain⟨aa,rv,pl,hz⟩:=I.list hp
 have hl:=rv.length
 rw[List.length_map]at hl
 refine call_set_list (I.ok.hd hc) pl.isList (IW rv) (by rw[List.size_toArray,←hl];unfold scanBound;omega) fun h' tk hs hk=> ?_
 have e:aa.toArray.size=ns.length:=by simp[hl]
 rw[e]at hs
 exact⟨.ref s.heap.objs.size,_,I.laid (a:=s.heap.objs.size) (o:=.set _ (jM ns)) (fun b o eb=>hk b o (Heap.lt_size eb) eb) (Nat.le_refl _) hs,rfl,q _ _ I.fresh⟩
theorem Wk:cM X (.builtin "len") (fun xs H Q=> ∃p S n,xs=[.ref p]∧H p=some (.set S n)∧Q (.int n) H):=by
 intro pins s σ H xs us Q I r h
 obtain⟨p,S,n,rfl,hp,q⟩:=h
 obtain⟨u,rfl,ru⟩:=vals1 r
 cases ru
 obtain⟨o,es,ep,t,h1,h2,h3,h4,h5,h6,h7,h8⟩:=(show ba X.prog X.w H s.heap p (.set S n) from I.ai p _ hp)
 refine call_len_set h1 h2 h3 h7 (by have:scanBound=4096:=rfl;omega) ⟨.int n,H,I.tok _,⟨_,by rw[h8]⟩,q⟩
theorem UX:cM X (.type "range") (fun xs H Q=> ∃j:Int,xs=[.int j]∧∀q,H q=none→Q (.ref q) (upd H q (.dX 0 j))):=by
 intro pins s σ H xs us Q I r h
 obtain⟨j,rfl,q⟩:=h
 obtain⟨u,rfl,ru⟩:=vals1 r
 obtain⟨t,rfl⟩:=ru
 refine call_range_1 ?_
 exact⟨.ref s.heap.objs.size,_,I.laid (a:=s.heap.objs.size) (o:=.dX 0 j) (fun b o eb=>Heap.get?_push_of_some _ eb) (Nat.le_refl _) ⟨_,_,_,Heap.get?_push_size _ rfl⟩,rfl,q _ I.fresh⟩
def upTo (n:Nat):List V:=(List.range n).map fun(i:Nat)=>V.int (i:Int)
theorem Uc {acc:Array Value}{n:Nat}(h:ItemsOf (fun i v=> ∃t,v=.int (0+i*1) t) acc n):Vals (upTo n) acc.toList:=by
 obtain⟨h1,h2⟩:=h
 obtain⟨l⟩:=acc
 have h1:l.length=n:=h1
 have h2:∀(j:Nat) (v:Value),l[j]? =some v→∃t,v=.int (j:Int) t:=fun j v e=>by
  obtain⟨t,q⟩:=h2 j v (by simpa using e)
  exact⟨t,by rw[q];congr 1;omega⟩
 have key:∀(l:List Value) (k:Nat),(∀(j:Nat) (v:Value),l[j]? =some v→∃t,v=.int ((k+j:Nat):Int) t)→Vals ((List.range' k l.length).map fun(i:Nat)=>V.int (i:Int)) l:=by
  intro l
  induction l with
  |nil=>intro k _;exact .nil
  |cons v l ih=>
   intro k h
   rw[List.length_cons,List.range'_succ,List.map_cons]
   obtain⟨t,e⟩:=h 0 v rfl
   refine .cons ⟨t,by rw[e];simp⟩ (ih (k+1) fun j w q=> ?_)
   obtain⟨t',e'⟩:=h (j+1) w (by simpa using q)
   exact⟨t',by rw[e'];congr 1;omega⟩
 have:=key l 0 (fun j v e=>by simpa using h2 j v e)
 unfold upTo
 rw[←h1,List.range_eq_range']
 exact this
theorem Wj (hc:X.calm=true:=by rfl):cM X (.type "list") (fun xs H Q=> ∃(p:Addr) (j:Int),xs=[.ref p]∧H p=some (.dX 0 j)∧0≤j∧j≤1000∧∀q,H q=none→Q (.ref q) (upd H q (.lst (upTo j.toNat)))):=by
 intro pins s σ H xs us Q I r h
 obtain⟨p,j,rfl,hp,h0,h1,q⟩:=h
 obtain⟨u,rfl,ru⟩:=vals1 r
 cases ru
 obtain⟨t,u,v,e⟩:=(show ba X.prog X.w H s.heap p (.dX 0 j) from I.ai p _ hp)
 refine call_list_range (n:=j.toNat) (I.ok.hd hc) e (small_one (by omega) (by omega) (by omega) (by omega)) (by rw[rangeSize_one];split<;>omega) (by omega) fun h' tk acc c' hk hS kg=> ?_
 have r2:=Uc kg
 have hlen:(upTo j.toNat).length≤sizeLine:=by unfold upTo;rw[List.length_map,List.length_range,sizeLine_eq];omega
 exact⟨.ref s.heap.objs.size,_,I.laid (a:=s.heap.objs.size) (o:=.lst (upTo j.toNat)) hk (Nat.le_refl _) ⟨hlen,acc.toList,c',r2,by simpa using hS⟩,rfl,q _ I.fresh⟩
theorem IJ:aW X (binaryOp .Add) (fun x y H Q=> ∃a b ys,x=.ref a∧y=.ref b∧aj X.K H a []∧aj X.K H b ys∧Q (.ref b) H):=by
 intro pins s σ H x y u v Q I rx ry h
 obtain⟨a,b,ys,rfl,rfl,ha,hb,q⟩:=h
 cases rx
 cases ry
 obtain⟨aa,rv,pl,hz⟩:=I.tuple ha
 obtain⟨jb,fO,dM,cb⟩:=I.tuple hb
 cases rv
 obtain⟨⟨cls,dd,data,sl⟩,ho,dm,n,hd⟩:=id pl
 obtain⟨⟨Fg,pG,data2,iU⟩,fS,jl,n2,hd2⟩:=id dM
 simp only at dm hd jl hd2
 subst dm hd jl hd2
 exact concat_meets ⟨_,ho,rfl⟩ ⟨_,fS,rfl⟩ noFill_tuple_add seq_tuple_add PySem.F.slot_tuple_add PySem.F.entry_tuple_add (PySem.F.args_tuple_add_2 _ _)
   (tuple_addW0 a b #[] jb.toArray n n2 dd pG sl iU rfl) ⟨ho,fS,⟨.ref b,H,I,rfl,q⟩⟩
end
theorem Y9 {K:PySem.W.Frag}{a:Addr}{xs:List V}{g:TG}{tt:TT}{ti:TC}{ys:List V}{σ:St}{H:Hp}{Q:List V→St→Hp→Prop}(Pv:Nat→List V→St→Hp→Prop) (h0:Pv 0 ys σ H)
  (hl:∀i ys σ H,i≤xs.length→Pv i ys σ H→aj K H a xs)
  (hs:∀i x ys σ H,xs[i]? =some x→Pv i ys σ H→g x σ H fun aX H2=>tt aX H2 fun b H3=>if b=true then ti ys aX H3 (Pv (i+1)) else Pv (i+1) ys aX H3)
  (hd:∀ys σ H,Pv xs.length ys σ H→Q ys σ H):fi g tt ti (kr K a) ys σ H Q:=by
 refine⟨fun i m ys σ H=>m=xs.length - i∧i≤xs.length∧Pv i ys σ H,⟨xs.length,by simp,Nat.zero_le _,h0⟩,?_⟩
 rintro i m ys σ H ⟨rfl,hi,p⟩
 have q:=hl i ys σ H hi p
 by_cases aA:i<xs.length
 ·refine .inr ⟨⟨xs,xs[i],q,by simp[aA]⟩,Pv (i+1),fun aE af H' p'=> ⟨xs.length - (i+1),by omega,rfl,aA,p'⟩,fun x H' y=> ?_⟩
  obtain⟨e,y⟩:=y
  subst e
  exact hs i x ys σ _ (y xs q) p
 ·have e:i=xs.length:=by omega
  subst e
  exact .inl ⟨⟨xs,q,Nat.le_refl _⟩,hd ys σ H p⟩
theorem Ym {K:PySem.W.Frag}{a:Addr}{xs:List V}{g:TG}{tt:TT}{ti:TC}{ys:List V}{σ:St}{H:Hp}{Q:List V→St→Hp→Prop}(Pv:Nat→List V→St→Hp→Prop) (h0:Pv 0 ys σ H)
  (hl:∀i ys σ H,i≤xs.length→Pv i ys σ H→ak K H a xs)
  (hs:∀i x ys σ H,xs[i]? =some x→Pv i ys σ H→g x σ H fun aX H2=>tt aX H2 fun b H3=>if b=true then ti ys aX H3 (Pv (i+1)) else Pv (i+1) ys aX H3)
  (hd:∀ys σ H,Pv xs.length ys σ H→Q ys σ H):fi g tt ti (ku K a) ys σ H Q:=by
 refine⟨fun i m ys σ H=>m=xs.length - i∧i≤xs.length∧Pv i ys σ H,⟨xs.length,by simp,Nat.zero_le _,h0⟩,?_⟩
 rintro i m ys σ H ⟨rfl,hi,p⟩
 have q:=hl i ys σ H hi p
 by_cases aA:i<xs.length
 ·refine .inr ⟨⟨xs,xs[i],q,by simp[aA]⟩,Pv (i+1),fun aE af H' p'=> ⟨xs.length - (i+1),by omega,rfl,aA,p'⟩,fun x H' y=> ?_⟩
  obtain⟨e,y⟩:=y
  subst e
  exact hs i x ys σ _ (y xs q) p
 ·have e:i=xs.length:=by omega
  subst e
  exact .inl ⟨⟨xs,q,Nat.le_refl _⟩,hd ys σ H p⟩
theorem YG {lo:Int}{n:Nat}{g:TG}{tt:TT}{ti:TC}{ys:List V}{σ:St}{H:Hp}{Q:List V→St→Hp→Prop}(Pv:Nat→List V→St→Hp→Prop) (h0:Pv 0 ys σ H)
  (hs:∀i ys σ H,i<n→Pv i ys σ H→g (.int (lo+i)) σ H fun aX H2=>tt aX H2 fun b H3=>if b=true then ti ys aX H3 (Pv (i+1)) else Pv (i+1) ys aX H3)
  (hd:∀ys σ H,Pv n ys σ H→Q ys σ H):fi g tt ti (iI lo n) ys σ H Q:=by
 refine⟨fun i m ys σ H=>m=n - i∧i≤n∧Pv i ys σ H,⟨n,by simp,Nat.zero_le _,h0⟩,?_⟩
 rintro i m ys σ H ⟨rfl,hi,p⟩
 by_cases aA:i<n
 ·refine .inr ⟨aA,Pv (i+1),fun aE af H' p'=> ⟨n - (i+1),by omega,rfl,aA,p'⟩,fun x H' y=> ?_⟩
  obtain⟨e,y⟩:=y
  subst e y
  exact hs i ys σ _ aA p
 ·have e:i=n:=by omega
  subst e
  exact .inl ⟨Nat.le_refl _,hd ys σ H p⟩
theorem pb {X:Cx}{N':List Str}{scope:Scope}{C:Addr}{s:Shared}{H:Hp}{fp:List Addr}(i:Nat) {x:Str}{pos:Pos}(hN:N'.Nodup:=by decide+kernel) (hi:N'[i]? =some x:=by rfl) (hx:(relabel scope X.env).names.lookup x=some .local:=by rfl):
  PG (aI X N' scope C s H fp) (.Name x pos) (iu i):=ZI (X:=aI X N' scope C s H fp) hN hi (.inl hx) (.inr hx)
def Def (P:Program) (w:World) (K:PySem.W.Frag) (mg:Str→Option Value) (base:Heap) (k:Nat) (x:Str) (ps:List Str) (sp:Sp):Prop:=
 ∃f fd,aC P w K mg base av k f fd ps sp∧mg x=some (.ref f)∧PySem.W.keepIn K (.ref f)=true∧Binds K fd ps []
section
variable {X:Cx}{k:Nat}{x:Str}{ps:List Str}{sp:Sp}{e:Expr}{es:List Expr}{t:TA}{p pos:Pos}
theorem Zj (d:Def X.prog X.w X.K X.mg X.base k x ps sp) (hr:bE k X.A) (ha:PA X (e::es) t) (hg:Gl X x:=by rfl) (gD:(x==("__debug__" :Str))=false:=by decide)
  (he:starEach (e::es) X.env=(false,eval e X.env)::starEach es X.env:=by rfl) (cJ:(backTo pos (starEach es X.env)).any (·.1)=false:=by rfl):
  PE X (.Call (.Name x p) (e::es) [] pos) (qc sp [] E0 t):=by
 obtain⟨f,fd,F,hm,hk,hb⟩:=d
 exact Y8 F hr hg hm hk hb .nil BE ha gD he cJ
end
def cw (K:PySem.W.Frag) (H:Hp) (x:V):Prop:=∃T,cg K H x (.type T)
def whole:V→Bool
 | .int _=>true
 |_=>false
def aQ:V→Int→Int→Bool
 | .int i,a,b=>decide (a≤i)&&decide (i≤b)
 |_,_,_=>false
def p7:Option HO→Option (List V)
 |some (.tup xs)=>some xs
 |_=>none
def aS (H:Hp):V→Option (List V)
 | .ref a=>p7 (H a)
 |_=>none
theorem Zs {H:Hp}{a:Addr} :aS H (.ref a)=p7 (H a):=rfl
theorem Zo {H:Hp}{a:Addr}{xs:List V}(h:H a=some (.tup xs)):aS H (.ref a)=some xs:=by rw[Zs,h];rfl
theorem Km {o:Option HO}{xs:List V}(h:p7 o=some xs):o=some (.tup xs):=by
 cases o with
 |none=>cases h
 |some o=>cases o<;>first |(cases h;rfl) |cases h
theorem ZF {H:Hp}{x:V}{xs:List V}(h:aS H x=some xs):∃a,x=.ref a∧H a=some (.tup xs):=by
 cases x with
 |ref a=>exact⟨a,rfl,Km h⟩
 |_=>cases h
theorem ag.aS {H H':Hp}(s:ag H H') {x:V}{xs:List V}(h:L2.aS H x=some xs):L2.aS H' x=some xs:=by
 obtain⟨a,rfl,q⟩:=ZF h
 exact Zo (s _ _ q)
theorem ag.jP {K:PySem.W.Frag}{H H':Hp}(s:ag H H') {x:V}(h:cw K H x):cw K H' x:=by
 obtain⟨T,t⟩:=h
 cases t with
 |ae=>exact⟨_,.ae⟩
 |bl y=>exact⟨_,.bl y⟩
 |int i=>exact⟨_,.int i⟩
 |str y=>exact⟨_,.str y⟩
 |fA y=>exact⟨_,.fA y⟩
 |lst e=>exact⟨_,.lst (s _ _ e)⟩
 |bP e=>exact⟨_,.bP (s _ _ e)⟩
 |tup e=>exact⟨_,.tup (s _ _ e)⟩
 |dK e=>exact⟨_,.dK (s _ _ e)⟩
 |dT e=>exact⟨_,.dT (s _ _ e)⟩
def rM:V→Bool
 | .int _=>true
 | .bl _=>true
 |_=>false
def wM:V→Bool
 | .bl _=>true
 |_=>false
theorem zr {K:PySem.W.Frag}{H:Hp}{x:V}{T:String}(t:cg K H x (.type T)):PySem.W.kitOne K (.type T) (.type "int")=some (rM x):=by cases t<;>rfl
theorem UE {K:PySem.W.Frag}{H:Hp}{x:V}{T:String}(t:cg K H x (.type T)):PySem.W.kitOne K (.type T) (.type "bool")=some (wM x):=by cases t<;>rfl
theorem WE {K:PySem.W.Frag}{H:Hp}{x:V}{T:String}(t:cg K H x (.type T)):PySem.W.kitOne K (.type T) (.type "tuple")=some (aS H x).isSome:=by
 cases t with
 |tup e=>rw[Zo e];rfl
 |lst e=>rw[Zs,e];rfl
 |bP e=>rw[Zs,e];rfl
 |dK e=>rw[Zs,e];rfl
 |dT e=>rw[Zs,e];rfl
 |_=>rfl
theorem UH (x:V):whole x=(rM x&& !wM x):=by cases x<;>rfl
def Ao (i j k:Nat) (ta:TA):TS:=fun D σ H=>ta σ H fun vs H1=> ∃v w z,vs=[v,w,z]∧D.nx (((σ.set k (some z)).set j (some w)).set i (some v)) H1
theorem WY {X:Cx}{pos:Pos}{i j k:Nat}{x y z:Str}{a b c:Expr}{ta:TA}{px py pz pt:Pos}{kt k2 iX} (hc:X.calm=true) (hN:X.N.Nodup) (hi:X.N[i]? =some x) (hj:X.N[j]? =some y) (hk:X.N[k]? =some z)
  (hx:X.env.scope.names.lookup x=some .local) (hy:X.env.scope.names.lookup y=some .local) (hz:X.env.scope.names.lookup z=some .local) (ha:PA X [a,b,c] ta)
  (hw:swappedStores [.Tuple [.Name x px,.Name y py,.Name z pz] kt pt] (.Tuple [a,b,c] k2 iX) X.env=pure (some [x,y,z]):=by rfl)
  (hs:swapsWithSole [.Tuple [.Name x px,.Name y py,.Name z pz] kt pt] (.Tuple [a,b,c] k2 iX) pos.line X.env=pure false:=by rfl):
  PS X (.Assign [.Tuple [.Name x px,.Name y py,.Name z pz] kt pt] (.Tuple [a,b,c] k2 iX) pos) (Ao i j k ta):=by
 intro pins s σ H D I h
 rw[exec_Assign_arm]
 refine wpAny_bind (wpAny_standAt ?_)
 rw[hs]
 refine wpAny_bind (wpAny_pure ?_)
 rw[if_neg (by decide)]
 refine wpAny_bind (Tuple_ (ao (ha _ pins s σ H _ I h) fun us s1 ⟨vs,H1,I1,r1,q1⟩=> ?_))
 obtain⟨v,w,t,e1,q1⟩:=q1
 subst e1
 obtain⟨u1,u2,u3,rfl,rv,cF,rt⟩:∃u1 u2 u3,us=[u1,u2,u3]∧RelV v u1∧RelV w u2∧RelV t u3:=by
  cases r1 with
  |cons p q=>
   cases q with
   |cons p' q'=>
    cases q' with
    |cons BF Bw=>
     cases Bw
     exact⟨_,_,_,rfl,p,p',BF⟩
 refine wpAny_newObj_type ?_ (by show 3≤sizeLine;decide)
 have I2:Inv X pins σ H1 {s1 with heap:=s1.heap.push {cls:=.type "tuple",data:=.seq [u1,u2,u3].toArray} } :=I1.kept (t':=s1.toks) fun b o e=>Heap.get?_push_of_some _ e
 rw[hw]
 refine wpAny_bind (wpAny_pure ?_)
 show wpAny (model X.prog X.w) X.A (do rule "assign.swapped-stores";let items ←unpackItems (.ref s1.heap.objs.size) 3 none;assignInOrder [fun v=>bindName X.env z v,fun v=>bindName X.env y v,fun v=>bindName X.env x v] items.reverse;pure Flow.next) _ _ _
 refine wpAny_bind (wpAny_rule (wpAny_bind (unpackItems_tuple (items:= #[u1,u2,u3]) (I.ok.hd hc) (IsTup.new s1.heap _) fun h' jX=> ?_)))
 have I3:=I2.kept (h':=h') (t':=s1.toks) fun b o e=>jX b o (Nat.ne_of_lt (Heap.lt_size e)) e
 show wpAny _ _ (assignInOrder [fun v=>bindName X.env z v,fun v=>bindName X.env y v,fun v=>bindName X.env x v] [u3,u2,u1] >>=fun _=>pure Flow.next) _ _ _
 refine wpAny_bind (assignInOrder_cons (wpAny_bindName (Z8 I3 hN hk (.inl hz) rt (fun s2 I4=> ?_) (.inr hz))))
 refine assignInOrder_cons (wpAny_bindName (Z8 I4 hN hj (.inl hy) cF (fun s3 I5=> ?_) (.inr hy)))
 refine assignInOrder_cons (wpAny_bindName (Z8 I5 hN hi (.inl hx) rv (fun s4 I6=>assignInOrder_nil (wpAny_pure ?_)) (.inr hx)))
 exact⟨_,H1,I6,q1⟩
def au (p:Addr) (H H':Hp):Prop:=∀b o,H b=some o→b≠p→H' b=some o
theorem au.refl (p:Addr) (H:Hp):au p H H:=fun _ _ h _=>h
theorem au.trans {p:Addr}{H H1 H2:Hp}(a:au p H H1) (b:au p H1 H2):au p H H2:=fun c o h n=>b c o (a c o h n) n
theorem ag.x {p:Addr}{H H1:Hp}(a:ag H H1):au p H H1:=fun c o h _=>a c o h
theorem au.upd {p:Addr}{H:Hp}{o:HO} :au p H (L2.upd H p o):=fun b u h n=>by rw[Zh n];exact h
theorem FX {X:Cx}(hu:X.A.units<cLine):aW X (compareOp .Eq) (fun x y H Q=> ∃(a b:Addr) (xs:List V),x=.ref a∧y=.ref b∧ak X.K H a xs∧ak X.K H b []∧Q (.bl xs.isEmpty) H):=by
 intro pins s σ H x y u v Q I rx ry h
 obtain⟨a,b,xs,rfl,rfl,ha,hb,q⟩:=h
 cases rx
 cases ry
 obtain⟨aa,rv,pl,hz⟩:=I.list ha
 obtain⟨jb,fO,dM,cb⟩:=I.list hb
 cases fO
 cases rv with
 |nil=>exact SeqAt.eq_listAt (e:=fun _=>true) pl.isList dM.isList rfl hu (fun j h1 h2=>absurd h2 (by simp)) ⟨.bl true,H,I,rfl,q⟩
 |cons r t=>exact SeqAt.eq_list_lengthsAt pl.isList dM.isList (by simp) hu ⟨.bl false,H,I,rfl,q⟩
theorem FZ {X:Cx}(hu:X.A.units<cLine):aW X (compareOp .NotEq) (fun x y H Q=> ∃(a b:Addr) (xs:List V),x=.ref a∧y=.ref b∧ak X.K H a xs∧ak X.K H b []∧Q (.bl (!xs.isEmpty)) H):=by
 intro pins s σ H x y u v Q I rx ry h
 obtain⟨a,b,xs,rfl,rfl,ha,hb,q⟩:=h
 cases rx
 cases ry
 obtain⟨aa,rv,pl,hz⟩:=I.list ha
 obtain⟨jb,fO,dM,cb⟩:=I.list hb
 cases fO
 cases rv with
 |nil=>exact SeqAt.RcNeAt.lists (e:=fun _=>true) pl.isList dM.isList rfl hu (fun j h1 h2=>absurd h2 (by simp)) _ _ _ _ ⟨.bl false,H,I,rfl,q⟩
 |cons r t=>exact SeqAt.RcNeAt.lists_lengths pl.isList dM.isList (by simp) hu _ _ _ _ ⟨.bl true,H,I,rfl,q⟩
section
variable {X:Cx}{pins:List (Addr×Obj)}{σ:St}{H:Hp}{s:Shared}{fp:List Addr}{h':Heap}{tk:Nat}
theorem JD (hf:∀b∈fp,aJ X pins H b) (b:Addr) (o:HO) (q:H b=some o):b∉fp:=fun hm=>by
 rw[(hf b hm).1]at q;cases q
theorem Hn (I:Inv X pins σ H s) (hf:∀b∈fp,aJ X pins H b) (hk:∀b o,b∉fp→s.heap.get? b=some o→h'.get? b=some o):Inv X pins σ H {s with heap:=h',toks:=tk} :=by
 refine I.call (g':=s.gens) (d':=s.drawn) (t':=tk) (h':=h') (ch:=fp) ⟨fun b o q _ _ hx=>hk b o hx q,fun b o q _ _ hx=> ⟨o.slots,hk b o hx q⟩,fun b o q n hx=>n,fun b o q hx=> ⟨o,hk b o hx q⟩,fun b ys q=>q,fun b o u q=>q,fun b ps q=> ⟨#[],by rw[q];simp⟩⟩ (fun b o q=> ?_) I.bare fun b hb=> ?_
 ·refine(I.ai b o q).bK (fun c ob bj q'=>hk c ob ?_ q') (fun _ q'=>q') fun _ _ q'=>q'
  rcases bj with z' |z'
  ·rw[z'];exact JD hf b o q
  ·exact JD hf c _ z'
 ·obtain⟨f0,f1,f2,f3,f4,f5⟩:=hf b hb
  exact⟨f3,f1,f4,f5⟩
theorem Iu {T:Addr}{x y:V}{u v:Value}(I:Inv X pins σ H s) (hf:∀b∈fp,aJ X pins H b) (hk:∀b o,b∉fp→s.heap.get? b=some o→h'.get? b=some o) (eu:s.heap.objs.size≤T) (sV:h'.IsTuple T #[u,v]) (ru:RelV x u) (rv:RelV y v):
  Inv X pins σ (upd H T (.par [x,y])) {s with heap:=h',toks:=tk} :=by
 have DV:H T=none:=I.ai.fresh eu
 have neT:∀b o,s.heap.get? b=some o→b≠T:=fun b o q=>Nat.ne_of_lt (Nat.lt_of_lt_of_le (Heap.lt_size q) eu)
 have lJ:∀b o,H b=some o→b≠T:=fun b o q=>Zg q DV
 refine I.call (g':=s.gens) (d':=s.drawn) (t':=tk) (h':=h') (ch:=fp) ⟨fun b o q _ _ hx=>hk b o hx q,fun b o q _ _ hx=> ⟨o.slots,hk b o hx q⟩,fun b o q n hx=>by rw[Zh (neT b o q)];exact n,fun b o q hx=> ⟨o,hk b o hx q⟩,
  fun b ys q=>by rw[Zh (lJ b _ q)];exact q,fun b o u q=>by rw[Zh (lJ b _ q)];exact q,fun b ps q=> ⟨#[],by rw[Zh (lJ b _ q),q];simp⟩⟩ (fun b o q=> ?_) I.bare fun b hb=> ?_
 ·by_cases hb:b=T
  ·subst hb
   rw[Zc]at q
   cases q
   exact⟨by show 2≤sizeLine;decide,[u,v],.cons ru (.cons rv .nil),sV⟩
  ·rw[Zh hb]at q
   refine(I.ai b o q).bK (fun c ob bj q'=>hk c ob ?_ q') (fun c q'=>by rw[Zh (lJ c _ q')];exact q') fun c ys q'=>by rw[Zh (lJ c _ q')];exact q'
   rcases bj with z' |z'
   ·rw[z'];exact JD hf b o q
   ·exact JD hf c _ z'
 ·obtain⟨f0,f1,f2,f3,f4,f5⟩:=hf b hb
  exact⟨f3,f1,f4,f5⟩
end
structure Fl (P:Program) (w:World) (outer:List Env) (H:Hp) (s:Shared) (e C:Addr) (H':Hp) (s':Shared):Prop where
 os:s'.os=s.os
 bare:AllBare s'.gens
 un:Un (aN outer) [] H H' s.heap s'.heap
 ai:bg P w H' s'.heap
 tH:∃B a0,Heap.FlyingW B outer e (.ref C) a0 s'.heap∧(∀b o,s.heap.get? b=some o→b∉aN outer→∃u,B.get? b=some u)∧∀b o,H' b=some o→∃u,B.get? b=some u
def bz (P:Program) (w:World):f9:=fun outer H s E ev s'=> ∃e C H',ev=.ref e∧Fl P w outer H s e C H' s'∧E (.ref e) (some C) H'
section
variable {P:Program}{w:World}{base:Heap}{env:Env}{outer:List Env}{s0 s1 s2:Shared}{H0 H1 H2:Hp}{e C L:Addr}{A:Around}
theorem YT {B h1 h2:Heap}{H:Hp}(x:bg P w H h1) (bt:∀b o,H b=some o→∃u,B.get? b=some u) (k1:B.StaysIn h1) (k2:B.StaysIn h2):bg P w H h2:=fun a o ha=>
  (x a o ha).bK (fun b u hb hq=>by
    have:∃u',B.get? b=some u':=by
      rcases hb with rfl |hb
      · exact bt _ _ ha
      · exact bt _ _ hb
    obtain⟨u',hu⟩:=this
    have e1:=k1 b u' hu
    rw[hq]at e1
    cases e1
    exact k2 b _ hu) (fun _ q=>q) fun _ _ q=>q
theorem JM {B h':Heap}(u0:Un (aN outer) [] H0 H1 s0.heap s1.heap) (u1:Un (aN (env::outer)) [] H1 H2 s1.heap s2.heap) (hf:env.frame=some L) (ab:s0.heap.objs.size≤L) (fu:s0.heap.FunFrames base outer) (fz:∀b∈aN outer,H0 b=none)
  (bt:∀b o,s1.heap.get? b=some o→b∉aN (env::outer)→∃u,B.get? b=some u) (k1:B.StaysIn s2.heap) (k2:B.StaysIn h') (up:s2.heap.UpToSlots h'):Un (aN outer) [] H0 H2 s0.heap h':=by
 have gz:∀b,b∈aN (env::outer)↔b=L∨b∈aN outer:=fun b=>by
  show b∈(env::outer).filterMap (·.frame)↔_
  rw[List.filterMap_cons_some (f:=fun(x:Env)=>x.frame) (a:=env) (b:=L) hf,List.mem_cons]
  exact Iff.rfl
 have out:∀b o,s0.heap.get? b=some o→b∉aN outer→b∉aN (env::outer):=fun b o hb hn hm=>by
  rcases (gz b).mp hm with q |q
  ·rw[q]at hb
   exact absurd (Nat.lt_of_lt_of_le (Heap.lt_size hb) ab) (Nat.lt_irrefl _)
  ·exact hn q
 have rK:∀b o u,s2.heap.get? b=some o→B.get? b=some u→h'.get? b=some o:=fun b o u hb hu=>by
  have e1:=k1 b u hu
  rw[hb]at e1
  cases e1
  exact k2 b _ hu
 have jL:∀b o,s0.heap.get? b=some o→b∈aN outer→∃sl,h'.get? b=some {o with slots:=sl} :=fun b o hb hm=>by
  obtain⟨_,o',bX,nf⟩:=fu.mem hm
  rw[hb]at bX
  cases bX
  obtain⟨AX,e1⟩:=u0.slot b o hb (fz b hm) hm (by simp)
  have n1:=u0.free b o hb (fz b hm) (by simp)
  obtain⟨iU,e2⟩:=u1.slot b _ e1 n1 ((gz b).mpr (.inr hm)) (by simp)
  obtain⟨AW,e3⟩:=up b _ e2 nf
  exact⟨AW,e3⟩
 refine⟨fun b o hb hn xm _=> ?_,fun b o hb hn hm _=>jL b o hb hm,fun b o hb hn hx=> ?_,fun b o hb _=> ?_,fun b xs hb=>u1.dG b xs (u0.dG b xs hb),fun b o u hb=>u1.dC b o u (u0.dC b o u hb),fun b ps hb=> ?_⟩
 ·have e1:=u0.keep b o hb hn xm (by simp)
  have n1:=u0.free b o hb hn (by simp)
  have eR:=out b o hb xm
  have e2:=u1.keep b o e1 n1 eR (by simp)
  obtain⟨u,hu⟩:=bt b o e1 eR
  exact rK b o u e2 hu
 ·obtain⟨o1,e1⟩:=u0.there b o hb (by simp)
  have n1:=u0.free b o hb hn (by simp)
  exact u1.free b o1 e1 n1 (by simp)
 ·by_cases hm:b∈aN outer
  ·obtain⟨sl,q⟩:=jL b o hb hm
   exact⟨_,q⟩
  ·obtain⟨o1,e1⟩:=u0.there b o hb (by simp)
   obtain⟨u,hu⟩:=bt b o1 e1 (out b o hb hm)
   exact⟨u,k2 b u hu⟩
 ·obtain⟨m1,q1⟩:=u0.dr b ps hb
  obtain⟨m2,q2⟩:=u1.dr b _ q1
  exact⟨m1++m2,by rw[q2,Array.append_assoc]⟩
end
theorem BD {P:Program}{w:World}{K:PySem.W.Frag}{mg:Str→Option Value}{base:Heap}{N:List Str}{qual:Str}{scope:Scope}{f:Addr}{cd:Value}{A:Around}{outer:List Env}{s:Shared}{H:Hp}{E:XK} :
  Passes (bz P w) (aG (bz P w) P w K mg base N qual scope f cd A outer s H E) E:=by
 intro pins σ H1 s1 ev s2 I h
 obtain⟨e,C,H',rfl,F,hE⟩:=h
 obtain⟨B,a0,fl,bt,dQ⟩:=F.tH
 refine wpAny_leaves_onW (L:=s.heap.objs.size) I.ok.frames rfl fl fun h' js up=> ?_
 refine⟨e,C,H',rfl,⟨F.os.trans I.os,F.bare,JM (base:=base) (L:=s.heap.objs.size) I.base F.un rfl (Nat.le_refl _) I.ok.cQ I.ok.eU bt fl.1 js.1 up,YT F.ai dQ fl.1 js.1,B,a0,js,fun b o hb hn=> ?_,dQ⟩,hE⟩
 obtain⟨o1,e1⟩:=I.base.there b o hb (by simp[aG])
 refine bt b o1 e1 fun hm=> ?_
 have cY:b∈(envOfC qual scope s.heap.objs.size f cd::outer).filterMap (·.frame):=hm
 rw[List.filterMap_cons_some (f:=fun(x:Env)=>x.frame) (a:=envOfC qual scope s.heap.objs.size f cd) (b:=s.heap.objs.size) rfl]at cY
 rcases List.mem_cons.mp cY with q |q
 ·rw[q]at hb
  exact absurd (Heap.lt_size hb) (Nat.lt_irrefl _)
 ·exact hn q
theorem Hl {K:PySem.W.Frag}{h:Heap}{C:Addr}{mH:List Value}{newId:String}(X:K.In h) (q:PySem.W.excIn K C mH newId=true):
  ∃bm N nm qn bs hdct sn sub ab col dd k0 k1 k2 k3 k5 mN,h.get? C=some (excClassObj nm qn C N bs bm hdct sn sub ab col dd k0 k1 k2 k3 k5 newId)∧h.Ns N mN∧mN "__init__" =none∧OwnTail h mH bm:=by
 unfold PySem.W.excIn at q
 split at q
 ·rename_i dd cd sl lk
  split at q
  ·rename_i c2 bm j0 j1 j2 j3 nn j5 em es
   rw[Bool.and_eq_true,Bool.and_eq_true,Bool.and_eq_true,Bool.and_eq_true,Bool.and_eq_true]at q
   obtain⟨⟨⟨⟨⟨q1,q2⟩,q3⟩,q4⟩,q5⟩,q6⟩:=q
   have z1:=beq_iff_eq.mp q1
   have z2:=beq_iff_eq.mp q2
   have z6:=beq_iff_eq.mp q6
   subst z1 z2
   have ob:=X _ _ lk
   have z3:cd.hasDel=false:=by revert q3;cases cd.hasDel<;>simp
   have zs:sl= #[j0,j1,j2,j3,some (.builtin nn),j5]:=by
    apply Array.toList_inj.mp
    rw[es]
   refine⟨bm,cd.ns,cd.name,cd.qualname,cd.bases,cd.hasDict,cd.slotNames,cd.subclasses,cd.abstract,cd.collection,dd,j0,j1,j2,j3,j5,h.nsMap cd.ns,?_,.of_isNs (PySem.W.isNs_of_in X q5),PySem.W.nsMap_none_of_in X q5 z6,PySem.W.tail_of_in X q4⟩
   rw[ob,zs]
   obtain⟨a1,a2,a3,a4,a5,a6,a7,a8,a9,a10,a11⟩:=cd
   cases em
   cases z3
   rfl
  ·cases q
 ·cases q
def An (C:Addr) (E:XK) (ta:TA):TS:=fun _ σ H=>ta σ H fun vs H1=>vs.length≤sizeLine∧∀e,E (.ref e) (some C) H1
theorem UA {P:Program}{w:World}{K:PySem.W.Frag}{mg:Str→Option Value}{base:Heap}{N:List Str}{qual:Str}{scope:Scope}{f:Addr}{cd:Value}{A:Around}{outer:List Env}{s s1:Shared}{H H1:Hp}{E:XK}
  {pins:List (Addr×Obj)}{σ:St}{h':Heap}{e C:Addr}{vs:List Value} (I:Inv (aG (bz P w) P w K mg base N qual scope f cd A outer s H E) pins σ H1 s1) (mk:Heap.MadeExcOf s1.heap h' e (.ref C) vs) (hE:E (.ref e) (some C) H1):
  (aG (bz P w) P w K mg base N qual scope f cd A outer s H E).xe (.ref e) {s1 with heap:=h'} :=by
 have gC:∀env∈(envOfC qual scope s.heap.objs.size f cd::outer),∀b,env.frame=some b→b∈aN (envOfC qual scope s.heap.objs.size f cd::outer):=fun env he b hb=>List.mem_filterMap.mpr ⟨env,he,hb⟩
 have st:=I.stack
 refine wpAny_leaves_madeW (L:=s.heap.objs.size) (base:=PySem.W.hideAll s1.heap (aN (envOfC qual scope s.heap.objs.size f cd::outer))) (h:=s1.heap) I.ok.frames rfl (fun b o q=>PySem.W.of_hideAll _ q) (PySem.W.funFrames_hide st gC) mk fun h2 t fl tp _ up=> ?_
 have bt:∀b o,s1.heap.get? b=some o→b∉aN (envOfC qual scope s.heap.objs.size f cd::outer)→∃u,(PySem.W.hideAll s1.heap (aN (envOfC qual scope s.heap.objs.size f cd::outer))).get? b=some u:=fun b o hb hn=> ⟨o,PySem.W.hideAll_get _ hb hn⟩
 have dQ:∀b o,H1 b=some o→∃u,(PySem.W.hideAll s1.heap (aN (envOfC qual scope s.heap.objs.size f cd::outer))).get? b=some u:=fun b o hb=>by
  have hl:=I.ai.lt hb
  have hx:∃u,s1.heap.get? b=some u:=by
   have ok:=I.ai b o hb
   cases o with
   |lst xs=>obtain⟨_,_,_,_,q⟩:=ok;exact⟨_,q⟩
   |tup xs=>obtain⟨_,_,_,⟨ob,q,_⟩,_⟩:=ok;exact⟨_,q⟩
   |par xs=>obtain⟨_,_,_,ob,q,_⟩:=ok;exact⟨_,q⟩
   |dK ah=>obtain⟨_,_,_,_,ob,_,_,q,_⟩:=ok;exact⟨_,q⟩
   |dT ah=>obtain⟨_,_,_,_,ob,_,_,q,_⟩:=ok;exact⟨_,q⟩
   |set S n=>obtain⟨ob,_,_,_,q,_⟩:=ok;exact⟨_,q⟩
   |ins C dx fs=>obtain⟨_,_,_,q,_⟩:=ok;exact⟨_,q⟩
   |own y=>exact ok
   |xd fs=>obtain⟨_,⟨_,_,_,q,_⟩,_⟩:=ok;exact⟨_,q⟩
   |dX lo hi=>obtain⟨_,_,_,q⟩:=ok;exact⟨_,q⟩
   |bP ob u=>exact⟨_,ok.1⟩
   |bS ps=>exact⟨_,(show s1.heap.get? b=some _ from ok)⟩
   |met f y=>exact⟨_,(show s1.heap.get? b=some _ from ok)⟩
   |ext φ=>exact ok.2.1
  obtain⟨u,hu⟩:=hx
  exact bt b u hu fun hm=>by
   have:=I.kM b hm
   rw[this]at hb
   cases hb
 have k1:Heap.StaysIn (PySem.W.hideAll s1.heap (aN (envOfC qual scope s.heap.objs.size f cd::outer))) h':=fun b o q=>mk.keeps b o (PySem.W.of_hideAll _ q)
 refine⟨e,C,H1,rfl,⟨I.os,I.bare,JM (s1:=s1) (s2:= {s1 with heap:=h'}) (base:=base) (L:=s.heap.objs.size) I.base (Un.kept mk.keeps) rfl (Nat.le_refl _) I.ok.cQ I.ok.eU bt k1 fl.1 up,YT (I.ai.kept mk.keeps) dQ k1 fl.1,_,_,fl,fun b o hb hn=> ?_,dQ⟩,hE⟩
 obtain⟨o1,e1⟩:=I.base.there b o hb (by simp[aG])
 refine bt b o1 e1 fun hm=> ?_
 have cY:b∈(envOfC qual scope s.heap.objs.size f cd::outer).filterMap (·.frame):=hm
 rw[List.filterMap_cons_some (f:=fun(x:Env)=>x.frame) (a:=envOfC qual scope s.heap.objs.size f cd) (b:=s.heap.objs.size) rfl]at cY
 rcases List.mem_cons.mp cY with q |q
 ·rw[q]at hb
  exact absurd (Heap.lt_size hb) (Nat.lt_irrefl _)
 ·exact hn q
theorem Y6 {P:Program}{w:World}{K:PySem.W.Frag}{mg:Str→Option Value}{base:Heap}{N:List Str}{qual:Str}{scope:Scope}{f:Addr}{cd:Value}{A:Around}{outer:List Env}{s:Shared}{H:Hp}{E:XK}{x:Str}{C:Addr}{B newId Cu:String}{mH:List Value}
  {jt:Expr}{rest:List Expr}{np bG pos:Pos}{ta:TA} (FB:ExcBaseFacts B newId Cu mH) (hmg:mg x=some (.ref C)) (hex:PySem.W.excIn K C mH newId=true) (hg:Gl (aG (bz P w) P w K mg base N qual scope f cd A outer s H E) x)
  (ha:PA (aG (bz P w) P w K mg base N qual scope f cd A outer s H E) (jt::rest) ta)
  (he:starEach (jt::rest) (envOfC qual scope s.heap.objs.size f cd)=(false,eval jt (envOfC qual scope s.heap.objs.size f cd))::starEach rest (envOfC qual scope s.heap.objs.size f cd):=by rfl)
  (cJ:(backTo bG (starEach rest (envOfC qual scope s.heap.objs.size f cd))).any (·.1)=false:=by rfl) (hd:(x==("__debug__" :Str))=false:=by decide):
  PS (aG (bz P w) P w K mg base N qual scope f cd A outer s H E) (.Raise (some (.Call (.Name x np) (jt::rest) [] bG)) none pos) (An C E ta):=by
 intro pins s1 σ H1 D I h
 obtain⟨bm,Nn,nm,qn,bs,hdct,sn,sub,ab,col,dd,k0,k1,k2,k3,k5,mN,hC,hN,Df,T⟩:=Hl I.mod.ja hex
 refine wpAny_Raise_call_subT (C:=C) (nm:=nm) (q:=qn) (N:=Nn) (bs:=bs) (bm:=bm) (hdct:=hdct) (sn:=sn) (sub:=sub) (ab:=ab) (col:=col) (dd:=dd) (k0:=k0) (k1:=k1) (k2:=k2) (k3:=k3) (k5:=k5)
  FB (mN:=mN) (T.hasType FB.hasBase) (I.ok.hd rfl) ?_ Df (YQ I hg hmg ⟨rfl,?_⟩ hd)
 ·show(backTo bG (starEach (jt::rest) (envOfC qual scope s.heap.objs.size f cd))).any (·.1)=false
  rw[he]
  show(false||(backTo bG (starEach rest (envOfC qual scope s.heap.objs.size f cd))).any (·.1))=false
  rw[cJ]
  rfl
 ·have q:=ha bG pins s1 σ H1 _ I h
  show wpAny _ _ (evalArgs (.ref C) true (backTo bG (starEach (jt::rest) (envOfC qual scope s.heap.objs.size f cd))) []) _ _ _
  have q':wpAny (model P w) (A.deeper (envOfC qual scope s.heap.objs.size f cd)) (spliced (backTo bG (starEach (jt::rest) (envOfC qual scope s.heap.objs.size f cd)))) _ _ s1:=q
  rw[he]at q' ⊢
  refine Calls.evalArgs_plain (wpAny_mono q' (fun us s2 h2=> ?_) fun _ _ y=>y)
  obtain⟨vs,H2,I2,r,hz,hE⟩:=h2
  refine⟨rfl,by rw[←r.length];exact hz,I2.bk _ _ hC,hN.keeps I2.bk,T.keeps I2.bk,fun h' e mk=> ?_⟩
  exact UA I2 mk (hE e)
section
variable {X:Cx}
def AB (ta tb:TE):TE:=fun σ H Q=>ta σ H fun v H1=> ∃x,v=.str x∧(Str.empty++x).length≤sizeLine∧tb σ H1 fun u H2=> ∃n:Int,u=.int n∧n.natAbs.log2<1920∧(Str.empty++x++(Str.ofString (toString n))).length≤sizeLine∧∀z,Q (.str z) H2
theorem GV {a b:Expr}{ta tb:TE}{p pos:Pos}(ha:PE X a ta) (hb:PE X b tb):PE X (.JoinedStr [a,.FormattedValue b (-1) none p] pos) (AB ta tb):=by
 intro pins s σ H Q I h
 refine JoinedStr_many (joinParts_cons (wpAny_mono (ha pins s σ H _ I h) (fun u s1 h1=> ?_) fun _ _ y=>y))
 obtain⟨v,H1,I1,r1,x,rfl,hz,h2⟩:=h1
 obtain⟨t,rfl⟩:=r1
 refine⟨hz,joinParts_cons (FormattedValue_plain (wpAny_mono (hb pins s1 σ H1 _ I1 h2) (fun u s2 h3=> ?_) fun _ _ y=>y))⟩
 obtain⟨v,H2,I2,r2,n,rfl,hn,cb,q⟩:=h3
 obtain⟨t2,rfl⟩:=r2
 refine formatField_int_small hn ⟨cb,?_⟩
 refine joinParts_nil ?_ cb
 exact⟨.str _,H2,(I2.tok _).tok _,⟨_,rfl⟩,q _⟩
end
section
variable {P:Program}{w:World}{K:PySem.W.Frag}{mg:Str→Option Value}{base:Heap}
theorem aP.jR {x qual:Str}{st:Stmt}{f:Addr}{fd:FuncData}{N ps:List Str}{k:Nat}{sp:Sp}(F:aP K x qual st f fd) (S:bu N ps (ar st)) (len:∀vs H Q E,sp vs H Q E→vs.length=ps.length)
    (hb:∀(aq:Value) (A:Around) (outer:List Env) (s:Shared) (H:Hp) (vs:List V) (Q:VK) (E:XK),bE k (A.deeper (envOfC qual (ar st) s.heap.objs.size f aq))→sp vs H Q E→
      ∃t,cC (aG (bz P w) P w K mg base N qual (ar st) f aq A outer s H E) (bD st) t∧t {nx:=fun _ H'=>Q .ae H',rt:=Q} (start N vs) H):aC P w K mg base (bz P w) (k+1) f fd ps sp:=by
  obtain⟨oc,od,kV,doc,pm,an,aq,ct,dv,rfl,lk,bW⟩:=F.ex
  exact ua lk bW S len fun A outer s H vs Q E hr cH=>hb aq A outer s H vs Q E hr cH
def bJ (P:Program) (w:World) (K:PySem.W.Frag) (mg:Str→Option Value) (base:Heap) (k:Nat) (x:Str) (ps:List Str) (sp:Sp):Prop:=
 ∃f fd,aC P w K mg base (bz P w) k f fd ps sp∧mg x=some (.ref f)∧PySem.W.keepIn K (.ref f)=true∧Binds K fd ps []
theorem JU {N:List Str}{qual:Str}{scope:Scope}{f:Addr}{cd:Value}{A:Around}{outer:List Env}{s:Shared}{H:Hp}{E:XK}{k:Nat}{x:Str}{ps:List Str}{sp:Sp}{e:Expr}{es:List Expr}{t:TA}{p pos:Pos}
  (d:bJ P w K mg base k x ps sp) (hr:bE k (A.deeper (envOfC qual scope s.heap.objs.size f cd))) (ha:PA (aG (bz P w) P w K mg base N qual scope f cd A outer s H E) (e::es) t) (hg:Gl (aG (bz P w) P w K mg base N qual scope f cd A outer s H E) x:=by rfl)
  (gD:(x==("__debug__" :Str))=false:=by decide)
  (he:starEach (e::es) (envOfC qual scope s.heap.objs.size f cd)=(false,eval e (envOfC qual scope s.heap.objs.size f cd))::starEach es (envOfC qual scope s.heap.objs.size f cd):=by rfl)
  (cJ:(backTo pos (starEach es (envOfC qual scope s.heap.objs.size f cd))).any (·.1)=false:=by rfl):
  PE (aG (bz P w) P w K mg base N qual scope f cd A outer s H E) (.Call (.Name x p) (e::es) [] pos) (qc sp [] E t):=by
 obtain⟨g,fd,F,hm,hk,hb⟩:=d
 exact Y8 F hr hg hm hk hb .nil BD ha gD he cJ
end
end L2
namespace L2
open PySem PySem.Spec PyProof.Rows PySem.Builtin PySem.Builtin.ObjectAttr PySem.Builtin.Getset_descriptor
def iy (e C:Addr):HO:=.ext fun h=> ∃o,h.get? e=some o∧o.cls=.ref C
structure iL (K:PySem.W.Frag) (C:Addr):Prop where
 ga:PySem.W.findIn K (.ref C) "__getattribute__" =some (some (.builtin "BaseException.__getattribute__"))
 hook:PySem.W.findIn K (.ref C) "__getattr__" =some none
 cl:PySem.W.findIn K (.ref C) "__class__" =some (some (.builtin "object.__class__"))
 ob:PySem.W.mroIn K C (.type "object")=some true
 bx:PySem.W.mroIn K C (.type "BaseException")=some true
 cls:(PySem.W.clsIn K C).isSome=true
section
variable {prog:Program}{w:World}{A:Around}{E:Value→Shared→Prop}{s:Shared}{K:PySem.W.Frag}{e C:Addr}{o:Obj}{R:Result→Shared→Prop}
theorem Jr {M:Model}{h:Heap}(hx:h.get? e=some o) (hc:o.cls=.ref C):PySem.W.Looks M h (typeOf (.ref e)) (.ref C):=hc▸(PySem.W.Looks.ld hx).andThen .now
theorem Ip {tp:Value}(X:K.In s.heap) (hx:s.heap.get? e=some o) (hc:o.cls=.ref C) (Z:iL K C) (h:R (.ok (.ret (.ref C))) s):
  codeAny (model prog w) A (.call (.builtin "getset_descriptor.__get__") ⟨[.builtin "object.__class__",.ref e,tp],[]⟩) R s:=by
 obtain⟨h0,g0,d0,t0,o0⟩:=s
 have LT:=Jr (M:=model prog w) hx hc
 have LM:=PySem.W.looks_mroIn (M:=model prog w) X Z.ob
 refine codeAny_call_builtin PySem.W.KF.slot_gs.plain PySem.W.KF.entry_gs (PySem.W.KF.slot_gs.check _ _ _ _ _ _ _ _ PySem.W.KF.type_class (PySem.W.KF.args_gs _ _ _) ?_)
 unfold Builtin.«getset_descriptor.__get__» descrGet
 rw[PySem.W.dga_obj]
 refine wpAny_bind (wpAny_pure ?_)
 unfold descrGetter descrCheckInstance descrNameAndClass isInstance
 simp only[PySem.W.KF.owner_class]
 repeat lk
 refine⟨Code.quiet_builtin _ (by decide+kernel),codeAny_builtin PySem.W.KF.entry_class ?_⟩
 unfold Builtin.«object.__class__» shownTypeOf
 repeat lk
 exact h
theorem Ij {tk:Tok}{Q:PySem.Fin→Shared→Prop}(X:K.In s.heap) (hx:s.heap.get? e=some o) (hc:o.cls=.ref C) (Z:iL K C) (hq:Q (.done (.ret (.ref C))) s):
  wpAny (model prog w) A (Builtin.«object.__getattribute__» ⟨[.ref e,.str "__class__" tk],[]⟩) Q E s:=by
 obtain⟨h0,g0,d0,t0,o0⟩:=s
 have LT:=Jr (M:=model prog w) hx hc
 have LC:=PySem.W.looks_findIn (M:=model prog w) X Z.cl
 have LO:(⟨h0,g0,d0,t0,o0⟩:Shared).TypeIs (.builtin "object.__class__") "getset_descriptor" :=F.typeOf_object_class
 have f5:=F.typeOf_object_class
 have f6:=F.slot_gs_get.lookup
 have f7:=F.slot_gs_set.lookup
 repeat (any_goals (first |assumption |with_reducible refine LT.at ?_ |with_reducible refine LC.at ?_ |wp_step))
 refine Ip (s:=⟨h0,g0,d0,t0,o0⟩) X hx hc Z ?_
 exact wpAny_pure hq
theorem IS {tk:Tok}(X:K.In s.heap) (hx:s.heap.get? e=some o) (hc:o.cls=.ref C) (Z:iL K C) (hq:R (.ok (.ret (.ref C))) s):
  codeAny (model prog w) A (.call (.builtin "BaseException.__getattribute__") ⟨[.ref e,.str "__class__" tk],[]⟩) R s:=by
 refine codeAny_call_builtin F.attr_ValueError.ga.plain F.entry_bexc_ga ?_
 obtain⟨h0,g0,d0,t0,o0⟩:=s
 have LT:=Jr (M:=model prog w) hx hc
 have LB:=PySem.W.looks_mroIn (M:=model prog w) X Z.bx
 have hk:builtinKind "BaseException.__getattribute__" =some .slot:=by decide+kernel
 have cH:splitId "BaseException.__getattribute__" =some ("BaseException", "__getattribute__"):=by decide+kernel
 have ha:=F.args_bexc_ga (.ref e) (.str "__class__" tk)
 simp only[checkBuiltinCall,hk,cH]
 have LI:PySem.W.Looks (model prog w) h0 (isInstance (.ref e) (.type "BaseException")) true:=LT.andThen LB
 refine wpAny_bind (LI.at ?_)
 repeat (first |exact Ij (s:=⟨h0,g0,d0,t0,o0⟩) X hx hc Z hq |assumption |wp_step)
theorem IQ {Q:Option Value→Shared→Prop}(X:K.In s.heap) (hx:s.heap.get? e=some o) (hc:o.cls=.ref C) (Z:iL K C) (hq:Q (some (.ref C)) {s with toks:=s.toks+1}):
  wpAny (model prog w) A (getAttr? (.ref e) "__class__") Q E s:=by
 obtain⟨h0,g0,d0,t0,o0⟩:=s
 have LT:=Jr (M:=model prog w) hx hc
 have L1:=PySem.W.looks_findIn (M:=model prog w) X Z.ga
 have L2:=PySem.W.looks_findIn (M:=model prog w) X Z.hook
 have f3:=F.attr_ValueError.ga.bind (.ref e)
 have rP:(Value.builtin "BaseException.__getattribute__" ==Value.builtin "object.__getattribute__")=false:=by decide+kernel
 have wV:(onTheHeap (Value.ref C)&&Value.builtin "BaseException.__getattribute__" ==Value.builtin "object.__getattribute__")=false:=by rw[rP];rfl
 unfold getAttr? getAttrBy? getAttrBy
 refine wpAny_bind (wpAny_mkText (wpAny_bind (wpAny_attempt (wpAny_holding (wpAny_bind (LT.at (wpAny_bind (L1.at ?_))))))))
 repeat (any_goals (first |assumption |with_reducible refine L2.at ?_ |wp_step))
 refine IS (s:=⟨h0,g0,d0,t0+1,o0⟩) X hx hc Z ?_
 repeat (any_goals (first |assumption |wp_step))
theorem Iw (Z:iL K C):PySem.W.KitX K (.ref e) (.ref C) (fun h=> ∃o,h.get? e=some o∧o.cls=.ref C) where
 ty:=fun M h _ ⟨o,hx,hc⟩=>Jr hx hc
 it:=fun M h X _=>by
  obtain⟨cd,bW⟩:=Option.isSome_iff_exists.mp Z.cls
  unfold PySem.W.clsIn at bW
  split at bW
  ·rename_i lk
   intro A2 Q2 E2 s2 k q
   unfold isType loadHead
   exact wpAny_bind (wpAny_loadPart (k _ _ (X _ _ lk)) (wpAny_pure q))
  ·cases bW
 ne:=fun h tp dd aa n sl X wX=>by
  obtain⟨cd,bW⟩:=Option.isSome_iff_exists.mp Z.cls
  refine Bool.eq_false_iff.mpr fun q=> ?_
  have z:C=tp:=Value.ref.inj (beq_iff_eq.mp q)
  rw[←z]at wX
  unfold PySem.W.clsIn at bW
  split at bW
  ·rename_i lk
   have y:=(X _ _ lk).symm.trans wX
   cases y
  ·cases bW
 ca:=fun X ⟨o,hx,hc⟩ k=>IQ X hx hc Z k
end
section
variable {X:Cx}
theorem Zr:cM X (.builtin "isinstance") (fun xs H Q=> ∃e C y c b,xs=[.ref e,y]∧H e=some (iy e C)∧iL X.K C∧(∀u,RelV y u→u=c)∧PySem.W.kitOne X.K (.ref C) c=some b∧Q (.bl b) H):=by
 rintro pins s σ H vs us Q I r ⟨e,C,y,c,b,rfl,he,Z,hy,hk,q⟩
 cases r with
 |cons r1 r2=>
  cases r2 with
  |cons r3 r4=>
   cases r4
   rw[hy _ r3]
   rw[show _=Value.ref e from r1]
   obtain⟨p,_,_⟩:=(show ba X.prog X.w H s.heap e (iy e C) from I.ai e _ he)
   exact PySem.W.kia_one (Iw Z) I.bC p hk (fun z=>nomatch z) fun tk=> ⟨.bl b,H,I.tok _,rfl,q⟩
end
end L2
namespace L2
open PySem PySem.Spec PyProof.Rows
abbrev Cx.dZ (X:Cx) (e:Value):Cx:= {X with A:=X.A.mark (some e),calm:=false,xe:=fun _ _=>False}
section
variable {X:Cx}{pins:List (Addr×Obj)}{σ:St}{H H':Hp}{s s':Shared}
theorem Inv.dZ (I:Inv X pins σ H s) (e:Value):Inv (X.dZ e) pins σ H s:=
 ⟨⟨I.ok.mod,I.ok.kind,I.ok.glob,I.ok.blt,I.ok.above,I.ok.inj,I.ok.has,I.ok.iA,fun h=>Bool.noConfusion h,I.ok.frames,I.ok.jF,I.ok.ix,I.ok.bs,I.ok.fW,I.ok.i7,I.ok.iw,I.ok.cQ,I.ok.eU⟩,I.os,I.bare,I.base,I.loc,I.cell,I.free,I.dO,I.pin,I.ai,I.len⟩
theorem Inv.zX {e:Value}(I:Inv (X.dZ e) pins σ H s) (hd:X.calm=true→X.A.handled=none):Inv X pins σ H s:=
 ⟨⟨I.ok.mod,I.ok.kind,I.ok.glob,I.ok.blt,I.ok.above,I.ok.inj,I.ok.has,I.ok.iA,hd,I.ok.frames,I.ok.jF,I.ok.ix,I.ok.bs,I.ok.fW,I.ok.i7,I.ok.iw,I.ok.cQ,I.ok.eU⟩,I.os,I.bare,I.base,I.loc,I.cell,I.free,I.dO,I.pin,I.ai,I.len⟩
theorem Inv.yv {e C:Addr}{B h':Heap}{o:Obj}(I:Inv X pins σ H s) (un:Un (aN X.stack) [] H H' s.heap s'.heap) (os:s'.os=s.os) (bare:AllBare s'.gens) (ai:bg X.prog X.w H' s'.heap)
  (bt:∀b o,s.heap.get? b=some o→b∉aN X.stack→∃u,B.get? b=some u) (dQ:∀b o,H' b=some o→∃u,B.get? b=some u) (be:B.get? e=none) (k1:B.StaysIn s'.heap) (k2:B.StaysIn h') (up:s'.heap.UpToSlots h')
  (he:h'.get? e=some o) (hc:o.cls=.ref C) (hd:∃vs,o.data=.fields vs):Inv X pins σ (upd H' e (iy e C)) {s' with heap:=h'}∧H' e=none:=by
 have n0:H' e=none:=by
  cases q:H' e with
  |none=>rfl
  |some u=>
   obtain⟨u',hu⟩:=dQ e u q
   rw[be]at hu
   cases hu
 have jL:∀b o,s.heap.get? b=some o→b∈aN X.stack→∃sl,h'.get? b=some {o with slots:=sl} :=fun b o hb hm=>by
  obtain⟨_,o',bX,nf⟩:=I.stack.mem hm
  rw[hb]at bX
  cases bX
  obtain⟨AX,e1⟩:=un.slot b o hb (I.kM b hm) hm (by simp)
  obtain⟨iU,e2⟩:=up b _ e1 nf
  exact⟨iU,e2⟩
 have BL:∀b u,s.heap.get? b=some u→b≠e:=fun b u hb z=>by
  rw[z]at hb
  by_cases hm:e∈aN X.stack
  ·obtain⟨_,o',bX,nf⟩:=I.stack.mem hm
   rw[hb]at bX
   cases bX
   obtain⟨sl,q⟩:=jL e u hb hm
   rw[he]at q
   cases q
   obtain⟨vs,hv⟩:=hd
   exact nf vs hv
  ·obtain⟨u',hu⟩:=bt e u hb hm
   rw[be]at hu
   cases hu
 have rK:∀b o u,s'.heap.get? b=some o→B.get? b=some u→h'.get? b=some o:=fun b o u hb hu=>by
  have e1:=k1 b u hu
  rw[hb]at e1
  cases e1
  exact k2 b _ hu
 refine⟨I.tT (s':= {s' with heap:=h'}) (ch:=[]) os ⟨fun b u hb hn hf _=> ?_,fun b u hb hn hm _=>jL b u hb hm,fun b u hb hn _=> ?_,fun b u hb _=> ?_,fun b xs hb=> ?_,fun b u v hb=> ?_,fun b ps hb=> ?_⟩ ?_ bare (fun b hb=>absurd hb (by simp)),n0⟩
 ·have e1:=un.keep b u hb hn hf (by simp)
  obtain⟨u',hu⟩:=bt b u hb hf
  exact rK b u u' e1 hu
 ·rw[Zh (BL b u hb)]
  exact un.free b u hb hn (by simp)
 ·by_cases hm:b∈aN X.stack
  ·obtain⟨sl,q⟩:=jL b u hb hm
   exact⟨_,q⟩
  ·obtain⟨u',hu⟩:=bt b u hb hm
   exact⟨u',k2 b u' hu⟩
 ·have q:=un.dG b xs hb
  rw[Zh (Zg q n0)]
  exact q
 ·have q:=un.dC b u v hb
  rw[Zh (Zg q n0)]
  exact q
 ·obtain⟨m,q⟩:=un.dr b ps hb
  exact⟨m,by rw[Zh (Zg q n0)];exact q⟩
 ·intro b u hb
  by_cases fV:b=e
  ·subst fV
   rw[Zc]at hb
   cases hb
   refine⟨⟨o,he,hc⟩,⟨o,he⟩,fun h1 h2 p k=> ?_⟩
   obtain⟨o1,q1,q2⟩:=p
   exact⟨o1,k _ q1,q2⟩
  ·rw[Zh fV]at hb
   have x:=YT ai dQ k1 k2 b u hb
   refine x.bK (fun c w' eQ q=>q) (fun c q=> ?_) fun c xs q=> ?_
   ·rw[Zh (Zg q n0)];exact q
   ·rw[Zh (Zg q n0)];exact q
end
def Ai (X:Cx) (ic ie:Nat) (cS:Addr) (k:Nat) (ts:TS):TS:=fun D σ H=> ∃f fd sp,σ[ic]? =some (some (.ref f))∧(∀s,bg X.prog X.w H s→PySem.W.FnAt f s)∧aC X.prog X.w X.K X.mg X.base (bz X.prog X.w) k f fd [] sp∧(∀s,BindsTo s fd ⟨[],[]⟩ [])∧
 sp [] H (fun _ _=>False) fun ev c H'=> ∃e C,ev=.ref e∧c=some C∧PySem.W.exmOne X.K (.ref C) (.ref cS)=some true∧(H' e=none→ts {nx:=fun af H2=>D.nx (af.set ie none) H2,rt:=fun _ _=>False} (σ.set ie (some (.ref e))) (upd H' e (iy e C)))
theorem U9 {X:Cx}{ic ie k:Nat}{c n S:Str}{cS:Addr}{b0:Stmt}{vt:List Stmt}{ts:TS}{p1 p2 p3 p4 p5 p6:Pos}(LL:X.calm=true) (je:X.stack=X.env::X.outer) (ek:X.env.frame=some X.env.locals) (hN:X.N.Nodup) (Dv:X.N[ic]? =some c) (CK:mQ X.env.scope c)
  (pd:X.N[ie]? =some n) (j6:X.env.scope.names.lookup n=some .local) (hS:X.mg S=some (.ref cS)) (DA:Gl X S) (hr:bE k X.A) (C0:∀e,cC (X.dZ (.ref e)) (b0::vt) ts)
  (DH:(c==("__debug__" :Str))=false:=by decide) (DG:(c==("__classdict__" :Str))=false:=by decide) (DI:(S==("__debug__" :Str))=false:=by decide)
  (lP:swapsWith (.Call (.Name c p1) [] [] p2) none p3.line X.env=pure false:=by rfl):
  PS X (.Try [.Expr (.Call (.Name c p1) [] [] p2) p3] [.ExceptHandler (some (.Name S p4)) (some n) (b0::vt) p5] [] [] p6) (Ai X ic ie cS k ts):=by
 intro pins s σ H D I h
 obtain⟨f,fd,sp,gv,eo,F,hb,cH⟩:=h
 refine wpAny_Try_except ?_
 refine wpAny_execs_cons (wpAny_Expr_any ?_ I.quiet lP)
 refine wpAny_Call_Name_kw ?_
 have nm:=Jn (X:=X.eH (fun _ _=>False)) (i:=ic) (x:=c) (pos:=p1) Dv CK DH DG pins s σ H (fun v H2=>v=.ref f∧H2=H) (I.eH _) ⟨_,gv,rfl,rfl⟩
 refine wpAny_mono nm (fun u s1 h1=> ?_) (fun _ _ z=>z.elim)
 obtain⟨v,H1,I1,r1,rfl,rfl⟩:=h1
 have I1:=I1.gh
 obtain rfl:u=Value.ref f:=r1
 refine PySem.W.callWith_F0 (eo _ I1.ai) ?_
 refine wpAny_call (codeAny_mono (F.run X.A X.stack s1 H1 ⟨[],[]⟩ [] [] _ _ hr I1.yq (hb s1) .nil cH) fun r s2 hq=> ?_)
 cases r with
 |ok fl=>
  cases fl with
  |ret u=>obtain⟨_,_,_,_,_,_,_,z⟩:=hq;exact z.elim
  |next=>exact hq.elim
  |brk=>exact hq.elim
  |cont=>exact hq.elim
 |error ev=>
  obtain⟨e,C,H2,rfl,FL,e',C',q1,q2,hx,hk⟩:=hq
  cases q1
  cases q2
  obtain⟨B,a0,fl,bt,dQ⟩:=FL.tH
  rw[je]at fl
  show wpAny (model X.prog X.w) X.A (noteFrame (.ref e) X.env) _ X.xe s2
  have tF:X.A.frames=some (X.env::X.outer):=by rw[←je];exact I.ok.frames
  refine wpAny_looks_onW (L:=X.env.locals) tF ek fl fun h4 held uQ=> ?_
  refine wpAny_landsW held fun h5 tI uP=> ?_
  have eF:∃o vs,h5.get? e=some o∧o.cls=.ref C∧o.data=.fields vs:=by
   obtain⟨oe,vs,g1,g2,g3,_⟩:=tI.first
   exact⟨oe,vs,g1,g2,g3⟩
  obtain⟨o5,K7,ye,yd,EA⟩:=eF
  have c5:=I1.yv (h':=h5) FL.un FL.os FL.bare FL.ai bt dQ fl.2.1 fl.1 tI.1 (uQ.trans uP) ye yd ⟨_,EA⟩
  have I5:=c5.1.dZ (.ref e)
  refine wpAny_handleBy_cons (codeAny_handlers_test ?_) (by intro q;cases q)
  refine YQ (X:=X.dZ (.ref e)) I5 DA hS ?_ DI
  have LX:=PySem.W.exm_one (M:=model X.prog X.w) (c:=.ref cS) (e:=e) I5.bC (Jr ye yd) hx
  refine LX.at ?_
  refine codeAny_handlers_suite_as ?_
  refine lands_againW (s:= {s2 with heap:=h5}) tI fun h6 yj zW=> ?_
  obtain⟨o6,kG,Ez,Ey,Ex,_⟩:=yj.first
  obtain⟨I6,n6⟩:=I1.yv (h':=h6) FL.un FL.os FL.bare FL.ai bt dQ fl.2.1 fl.1 yj.1 ((uQ.trans uP).trans zW) Ez Ey ⟨_,Ex⟩
  have I6:=I6.dZ (.ref e)
  have CS:=hk n6
  refine Z8 (X:=X.dZ (.ref e)) (i:=ie) I6 hN pd (.inl j6) (v:=.ref e) (u:=.ref e) rfl (fun s7 I7=> ?_) (.inr j6)
  refine wpAny_mono (C0 e pins s7 _ _ _ I7 CS) (fun EC s8 h8=> ?_) fun _ _ z=>z.elim
  cases EC with
  |ret u=>obtain⟨_,_,_,_,_,z⟩:=h8;exact z.elim
  |brk=>obtain⟨_,_,_,z⟩:=h8;exact z.elim
  |cont=>obtain⟨_,_,_,z⟩:=h8;exact z.elim
  |next=>
   obtain⟨jA,H8,I8,q8⟩:=h8
   have I8:=I8.zX (fun z=>I.ok.hd z)
   obtain⟨m8,xn,Dr⟩:=I8.loc
   have sL:(X.env.scope.kind==.class||(X.env.scope.kind==.module&&X.env.locals !=X.env.globals))=false:=by rw[I8.ok.kind];rfl
   refine wpAny_nameGoes_keeps j6 xn sL fun h9 v9 Dg jf=> ?_
   have st:=Z8 (M:=model X.prog X.w) (A:=X.A) (E:=fun _ _=>False) (X:=X) (i:=ie) I8 hN pd (.inl j6) (v:=.ae) (u:=.none) rfl (Q:=fun _ _=>True) (fun _ _=>trivial) (.inr j6)
   refine⟨jA.set ie none,H8,?_,q8⟩
   have aA:ie<jA.length:=by rw[I8.len];exact(List.getElem?_eq_some_iff.mp pd).1
   obtain⟨oL,_,_,hoL,_⟩:=id xn
   have eW:=I8.eW
   refine⟨I8.ok,I8.os,I8.bare,⟨fun b o eb nb hb hx=> ?_,fun b o eb nb hb hx=> ?_,I8.base.free,fun b o eb hx=> ?_,I8.base.dG,I8.base.dC,I8.base.dr⟩,⟨_,Dg,fun j y v' e1 e2 e3=> ?_⟩,fun y cc ec=> ?_,I8.free,I8.dO,fun p hp=> ?_,fun b ob eb=> ?_,by simpa using I8.len⟩
   ·exact(jf.2 b (Nat.ne_of_lt (Nat.lt_of_lt_of_le (Heap.lt_size eb) I8.ok.above))).trans (I8.base.keep b o eb nb hb hx)
   ·obtain⟨sl,q⟩:=I8.base.slot b o eb nb hb hx
    exact⟨sl,(jf.2 b (Nat.ne_of_lt (Nat.lt_of_lt_of_le (Heap.lt_size eb) I8.ok.above))).trans q⟩
   ·obtain⟨o',q⟩:=I8.base.there b o eb hx
    exact⟨o',(jf.2 b (Nat.ne_of_lt (Nat.lt_of_lt_of_le (Heap.lt_size eb) I8.ok.above))).trans q⟩
   ·by_cases hj:j=ie
    ·subst hj
     rw[List.getElem?_set_self aA]at e2
     cases e2
    ·rw[List.getElem?_set_ne (Ne.symm hj)]at e2
     obtain⟨u',r',q⟩:=Dr j y v' e1 e2 e3
     refine⟨u',r',?_⟩
     rcases q with ⟨kk,q⟩ |⟨kk,c',ec,z⟩
     ·refine .inl ⟨kk,?_⟩
      have ne:y≠n:=fun z=>hj (JX hN e1 (z▸pd))
      simp[ne,q]
     ·exact .inr ⟨kk,c',ec,z.sameBut jf (eW y c' ec)⟩
   ·obtain⟨w',z⟩:=I8.cell y cc ec
    exact⟨w',z.sameBut jf (eW y cc ec)⟩
   ·obtain⟨e1,n1,ne1,BS,d1⟩:=I8.pin p hp
    exact⟨(jf.2 p.1 ne1).trans e1,n1,ne1,BS,d1⟩
   ·refine(I8.ai b ob eb).bK (fun cc w' eQ q=> (jf.2 cc ?_).trans q) (fun _ q=>q) fun _ _ q=>q
    rintro rfl
    rcases eQ with rfl |eQ
    ·rw[I8.free]at eb;cases eb
    ·rw[I8.free]at eQ;cases eQ
def eE (c:Addr) (q:Str):HO:=.ext fun h=>h.CodeRec (.ref c) q
def i9 (f:Addr) (q:Str) (params:Arguments) (body:Expr) (scope:Scope) (cl:List (Str×Addr)) (pm:Value) (c:Addr) (ct:Value):HO:=.ext fun h=>h.get? f=some (PySem.W.kla_obj "<lambda>" q params body scope cl pm c ct)
def fG (H:Hp) (f:Addr) (q:Str) (params:Arguments) (body:Expr) (scope:Scope) (cl:List (Str×Addr)):Prop:=∃pm c ct,H f=some (i9 f q params body scope cl pm c ct)∧H c=some (eE c q)
theorem fG.same {H H':Hp}{f:Addr}{q:Str}{params:Arguments}{body:Expr}{scope:Scope}{cl:List (Str×Addr)}(x:fG H f q params body scope cl) (s:ag H H'):fG H' f q params body scope cl:=by
 obtain⟨pm,c,ct,h1,h2⟩:=x
 exact⟨pm,c,ct,s _ _ h1,s _ _ h2⟩
def KA (H:Hp) (q:Str) (ps:Array Value):Prop:=TriplesOk ps.toList∧∀pos cv,codeAmong pos ps.toList=some cv→∃c,cv=.ref c∧H c=some (eE c q)
def TabAt (H:Hp) (P:Addr) (q:Str):Prop:=∃ps,H P=some (.bS ps)∧KA H q ps
theorem Jf {h h':Heap}{c:Addr}{q:Str}(x:h.CodeRec (.ref c) q) (k:∀o,h.get? c=some o→h'.get? c=some o):h'.CodeRec (.ref c) q:=by
 obtain⟨c2,oc,vs,tq,e,g1,g2,g3⟩:=x
 cases e
 exact⟨c,oc,vs,tq,rfl,k _ g1,g2,g3⟩
theorem IL {P:Program}{w:World}{H:Hp}{h:Heap}{c:Addr}{q:Str}(x:h.CodeRec (.ref c) q):ba P w H h c (eE c q):=by
 obtain⟨c2,oc,vs,tq,e,g1,g2,g3⟩:=id x
 cases e
 exact⟨x,⟨_,g1⟩,fun h1 h2 p k=>Jf p k⟩
theorem zu {P:Program}{w:World}{H:Hp}{h:Heap}{f:Addr}{q:Str}{params:Arguments}{body:Expr}{scope:Scope}{cl:List (Str×Addr)}{pm:Value}{c:Addr}{ct:Value}(x:h.get? f=some (PySem.W.kla_obj "<lambda>" q params body scope cl pm c ct)):
  ba P w H h f (i9 f q params body scope cl pm c ct):=⟨x,⟨_,x⟩,fun h1 h2 p k=>k _ p⟩
theorem Wd {pos p2:Pos}{c cv:Value} :∀(l:List Value),TriplesOk l→codeAmong p2 (l++[rawInt pos.line,rawInt pos.col,c])=some cv→codeAmong p2 l=some cv∨cv=c
 | [],_,h=>by
  have h':(if (pos.line:Int)==(p2.line:Int)&&(pos.col:Int)==(p2.col:Int) then some c else codeAmong p2 [])=some cv:=h
  split at h'
  ·exact .inr (Option.some.inj h').symm
  ·cases h'
 | .int a t:: .int b u::x::r,ht,h=>by
  have h':(if a==p2.line&&b==p2.col then some x else codeAmong p2 (r++[rawInt pos.line,rawInt pos.col,c]))=some cv:=h
  show(if a==p2.line&&b==p2.col then some x else codeAmong p2 r)=some cv∨cv=c
  split at h'
  ·rename_i hq
   rw[if_pos hq]
   exact .inl h'
  ·rename_i hq
   rw[if_neg hq]
   exact Wd r ht h'
theorem Y3 {pos:Pos}{c:Value} :∀(l:List Value),TriplesOk l→TriplesOk (l++[rawInt pos.line,rawInt pos.col,c])
 | [],_=>trivial
 | .int _ _:: .int _ _::_::r,h=>Y3 r h
structure zF (X:Cx) (c P:Addr):Prop where
 code:X.env.code=.ref c
 hd:PySem.W.CodeHd X.base c P
 bm:∃bm ob,X.mg "__builtins__" =some (.ref bm)∧bm≠builtinsNs∧X.base.get? bm=some ob∧ob.cls=.type "module" ∧ob.dict=some builtinsNs∧ob.data=.plain
def Aw (X:Cx) (P:Addr) (params:Arguments) (body:Expr) (scope:Scope):TE:=fun σ H Q=>TabAt H P (X.env.qual++ "<lambda>")∧∀f H',au P H H'→H f=none→TabAt H' P (X.env.qual++ "<lambda>")→fG H' f (X.env.qual++ "<lambda>") params body scope (bQ scope X.env)→Q (.ref f) H'
theorem uj {X:Cx}{c P:Addr}{params:Arguments}{body:Expr}{scope:Scope}{pos:Pos}(L:zF X c P) (sJ:defaultsOf params X.env=([],[])) (ek:∀y∈scope.names,y.2=.free→X.env.kindOf y.1=some .cell∨X.env.kindOf y.1=some .free):
  PE X (.Lambda params body scope pos) (Aw X P params body scope):=by
 intro pins s σ H Q I h
 obtain⟨⟨ps,hP,hT,hC⟩,q⟩:=h
 have oP:s.heap.get? P=some (PySem.W.tabObj ps):=I.ai P _ hP
 have dm:=Z1 (scope:=scope) (env:=X.env) fun y hy e=>I.ok.has _ (ek y hy e)
 have pB:s.heap.Ns mainGlobals X.mg:=I.mod.glob.keeps I.bk
 obtain⟨bm,ob,b1,b2,b3,b4,b5,b6⟩:=L.bm
 have DB:mainGlobals≠P:=fun z=>by
  obtain⟨o,es,ep,e,d,_⟩:=pB
  rw[z,oP]at e
  cases e
  cases d
 have jn:bm≠P:=fun z=>by
  have e:=I.bk _ _ b3
  rw[z,oP]at e
  cases e
  cases b4
 have DR:bm≠mainGlobals:=fun z=>by
  obtain⟨o,es,ep,e,d,_⟩:=pB
  have e2:=I.bk _ _ b3
  rw[z,e]at e2
  cases e2
  rw[d]at b6
  cases b6
 have BA:s.heap.BuiltinsAt X.mg P:=⟨bm,ob,b1,b2,DR,jn,I.bk _ _ b3,b4,b5,b6⟩
 refine PySem.W.kla_eval sJ ?_
 cases hf:codeAmong pos ps.toList with
 |some cv=>
  obtain⟨c',rfl,bj⟩:=hC pos cv hf
  refine PySem.W.kla_makeFunctionHit dm I.ok.glob pB L.code (L.hd.keeps I.bk) oP hT hf BA fun ju h' tk hk hsz=> ?_
  have nf:H h'.objs.size=none:=I.ai.fresh hsz
  have s1:ag H (upd H h'.objs.size (i9 h'.objs.size (X.env.qual++ "<lambda>") params body scope (bQ scope X.env) ((X.mg "__name__").getD .none) c' ju)):=fun b o hb=>by rw[Zh (Zg hb nf)];exact hb
  refine⟨.ref h'.objs.size,_,I.laid (t':=tk) (a:=h'.objs.size) (fun b u e=>Heap.get?_push_of_some _ (hk b u e)) hsz (zu (Heap.get?_push_size _ rfl)),rfl,?_⟩
  exact q _ _ (fun b o hb _=>s1 b o hb) nf ⟨ps,s1 _ _ hP,hT,fun p2 tO z=>by obtain⟨c2,e2,h2⟩:=hC p2 tO z;exact⟨c2,e2,s1 _ _ h2⟩⟩ ⟨_,c',ju,Zc,s1 _ _ bj⟩
 |none=>
  refine PySem.W.kla_makeFunction dm I.ok.glob pB L.code (L.hd.keeps I.bk) oP hT hf DB BA fun c' ju h' tk hx pf aA C6 rR=> ?_
  have oM:∀b o,s.heap.get? b=some o→b<c':=fun b o e=>Nat.lt_of_lt_of_le (Heap.lt_size e) pf
  have Lq:∀b o,H b=some o→b<c':=fun b o e=>Nat.lt_of_lt_of_le (I.ai.lt e) pf
  have nc:H c'=none:=I.ai.fresh pf
  have nf:H h'.objs.size=none:=I.ai.fresh (Nat.le_trans pf (Nat.le_of_lt aA))
  have Bz:P≠c':=Zg hP nc
  have wg:P≠h'.objs.size:=Zg hP nf
  have cnf:c'≠h'.objs.size:=Nat.ne_of_lt aA
  generalize xI:h'.objs.size=f at nf wg cnf
  generalize rV:ps++ #[rawInt pos.line,rawInt pos.col,Value.ref c']=iY at rR
  generalize r8:i9 f (X.env.qual++ "<lambda>") params body scope (bQ scope X.env) ((X.mg "__name__").getD .none) c' ju=lo
  have keep:∀b o,b≠P→s.heap.get? b=some o→(h'.push (PySem.W.kla_obj "<lambda>" (X.env.qual++ "<lambda>") params body scope (bQ scope X.env) ((X.mg "__name__").getD .none) c' ju)).get? b=some o:=fun b o hb e=>Heap.get?_push_of_some _ (hx b o hb e)
  have bZ:∀b o,H b=some o→b≠P→upd (upd (upd H P (.bS iY)) c' (eE c' (X.env.qual++ "<lambda>"))) f lo b=some o:=fun b o hb cK=>by
   rw[Zh (Zg hb nf),Zh (Zg hb nc),Zh cK]
   exact hb
  have tW:upd (upd (upd H P (.bS iY)) c' (eE c' (X.env.qual++ "<lambda>"))) f lo P=some (.bS iY):=by rw[Zh wg,Zh Bz,Zc]
  have atC:upd (upd (upd H P (.bS iY)) c' (eE c' (X.env.qual++ "<lambda>"))) f lo c'=some (eE c' (X.env.qual++ "<lambda>")):=by rw[Zh cnf,Zc]
  have yE:upd (upd (upd H P (.bS iY)) c' (eE c' (X.env.qual++ "<lambda>"))) f lo f=some lo:=Zc
  have J:Inv X pins σ (upd (upd (upd H P (.bS iY)) c' (eE c' (X.env.qual++ "<lambda>"))) f lo) {s with heap:=h'.push (PySem.W.kla_obj "<lambda>" (X.env.qual++ "<lambda>") params body scope (bQ scope X.env) ((X.mg "__name__").getD .none) c' ju),toks:=tk} :=by
   refine I.un (t':=tk) ⟨fun b o e n _ _=>keep b o (fun z=>by rw[z,hP]at n;cases n) e,fun b o e n _ _=> ⟨o.slots,keep b o (fun z=>by rw[z,hP]at n;cases n) e⟩,fun b o e n _=> ?_,fun b o e _=> ?_,fun b xs e=>bZ b _ e (fun z=>by rw[z,hP]at e;cases e),fun b o u e=>bZ b _ e (fun z=>by rw[z,hP]at e;cases e),fun b qs e=> ?_⟩ ?_
   ·have hl:=oM b o e
    rw[Zh (by rw[←xI];exact Nat.ne_of_lt (Nat.lt_trans hl aA)),Zh (Nat.ne_of_lt hl),Zh (fun z=>by rw[z,hP]at n;cases n)]
    exact n
   ·by_cases hb:b=P
    ·rw[hb];exact⟨_,Heap.get?_push_of_some _ rR⟩
    ·exact⟨o,keep b o hb e⟩
   ·by_cases hb:b=P
    ·rw[hb,hP]at e
     cases e
     exact⟨_,by rw[hb,tW,rV]⟩
    ·exact⟨#[],by rw[bZ b _ e hb];simp⟩
   ·intro b o hb
    by_cases h1:b=f
    ·rw[h1,yE]at hb
     cases hb
     rw[h1,←r8]
     refine zu ?_
     rw[←xI]
     exact Heap.get?_push_size _ rfl
    ·by_cases h2:b=c'
     ·rw[h2,atC]at hb
      cases hb
      rw[h2]
      exact IL (Jf C6 fun o e=>Heap.get?_push_of_some _ e)
     ·by_cases h3:b=P
      ·rw[h3,tW]at hb
       cases hb
       rw[h3]
       exact Heap.get?_push_of_some _ rR
      ·have eR:H b=some o:=by rw[Zh h1,Zh h2,Zh h3]at hb;exact hb
       refine(I.ai b o eR).bK (fun z u hz e=>keep z u ?_ e) (fun z e=> ?_) fun z xs e=> ?_
       ·rcases hz with hz |hz
        ·rw[hz];exact h3
        ·intro cb;rw[cb,hP]at hz;cases hz
       ·exact bZ z _ e fun cb=>by rw[cb,hP]at e;cases e
       ·exact bZ z _ e fun cb=>by rw[cb,hP]at e;cases e
  refine⟨.ref f,_,J,rfl,?_⟩
  refine q f _ (fun b o hb cK=>bZ b o hb cK) nf ⟨iY,tW,?_,fun p2 tO z=> ?_⟩ ⟨_,c',ju,by rw[yE,←r8],atC⟩
  ·rw[←rV,Array.toList_append]
   exact Y3 _ hT
  ·rw[←rV,Array.toList_append]at z
   rcases Wd _ hT z with z |z
   ·obtain⟨c2,e2,h2⟩:=hC p2 tO z
    exact⟨c2,e2,bZ _ _ h2 fun cb=>by rw[cb,hP]at h2;cases h2⟩
   ·exact⟨c',z,atC⟩
theorem ra {X:Cx}{E:XK}(CI:∀e s',wpAny (model X.prog X.w) X.A (leaving X.env e) (fun _ bA=>bz X.prog X.w X.outer X.gK X.bI E e bA) (fun e' bA=>bz X.prog X.w X.outer X.gK X.bI E e' bA) s'→X.xe e s')
  (je:X.stack=X.env::X.outer) (ek:X.env.frame=some X.env.locals) (hex:X.ex=[]):Passes (bz X.prog X.w) X E:=by
 intro pins σ H1 s1 ev s2 I h
 obtain⟨e,C,H',rfl,F,hE⟩:=h
 obtain⟨B,a0,fl,bt,dQ⟩:=F.tH
 have un:=F.un
 rw[je]at fl bt un
 have ib:Un (aN X.outer) [] X.gK H1 X.bI.heap s1.heap:=by have:=I.base;rw[hex]at this;exact this
 have tF:X.A.frames=some (X.env::X.outer):=by rw[←je];exact I.ok.frames
 refine CI _ _ (wpAny_leaves_onW (L:=X.env.locals) tF ek fl fun h' js up=> ?_)
 refine⟨e,C,H',rfl,⟨F.os.trans I.os,F.bare,JM (base:=X.base) (L:=X.env.locals) ib un ek I.ok.above I.ok.cQ I.ok.eU bt fl.1 js.1 up,YT F.ai dQ fl.1 js.1,B,a0,js,fun b o hb hn=> ?_,dQ⟩,hE⟩
 obtain⟨o1,e1⟩:=ib.there b o hb (by simp)
 refine bt b o1 e1 fun hm=> ?_
 have cY:b∈(X.env::X.outer).filterMap (·.frame):=hm
 rw[List.filterMap_cons_some (f:=fun(x:Env)=>x.frame) (a:=X.env) (b:=X.env.locals) ek]at cY
 rcases List.mem_cons.mp cY with q |q
 ·rw[q]at hb
  exact absurd (Nat.lt_of_lt_of_le (Heap.lt_size hb) I.ok.above) (Nat.lt_irrefl _)
 ·exact hn q
def gI (P:Program) (w:World) (K:PySem.W.Frag) (mg:Str→Option Value) (base:Heap) (N:List Str) (q:Str) (scope:Scope) (f:Addr) (cd:Value) (cl:List (Str×Addr)) (A:Around) (outer:List Env) (s:Shared) (H:Hp) (E:XK):Cx where
 prog:=P
 w:=w
 K:=K
 mg:=mg
 base:=base
 A:=A.deeper (PySem.W.envX q scope s.heap.objs.size f cd cl)
 N:=N
 bI:=s
 gK:=H
 env:=PySem.W.envX q scope s.heap.objs.size f cd cl
 outer:=outer
 stack:=PySem.W.envX q scope s.heap.objs.size f cd cl::outer
 ex:=[]
 calm:=true
 fn:=fun _=>false
 pn:=[]
 xe:=fun e s'=>wpAny (model P w) (A.deeper (PySem.W.envX q scope s.heap.objs.size f cd cl)) (leaving (PySem.W.envX q scope s.heap.objs.size f cd cl) e) (fun _ bA=>bz P w outer H s E e bA) (fun e' bA=>bz P w outer H s E e' bA) s'
structure L9 (base:Heap) (scope:Scope) (cl:List (Str×Addr)) (x y:Str) (vx vy:V):Prop where
 kx:scope.names.lookup x=some .free
 ky:scope.names.lookup y=some .free
 only:∀z,scope.names.lookup z=some .cell∨scope.names.lookup z=some .free→z=x∨z=y
 ne:x≠y
 cx:∃c u,cl.lookup x=some c∧base.IsCell c (some u)∧RelV vx u
 cy:∃c u,cl.lookup y=some c∧base.IsCell c (some u)∧RelV vy u
 mem:∀z c,cl.lookup z=some c→z=x∨z=y
 inj:∀c,cl.lookup x=some c→cl.lookup y=some c→False
theorem Jd {h b1 b2:Heap} :∀{l:List Env},h.FunFrames b1 l→(∀b∈aN l,b2.get? b=none)→h.FunFrames b2 l
 | [],_,_=>trivial
 |env::r,⟨hk,⟨L,o,hf,_,ho,hd⟩,hr⟩,hn=> ⟨hk,⟨L,o,hf,hn L (List.mem_filterMap.mpr ⟨env,.head _,hf⟩),ho,hd⟩,Jd hr fun b hb=>hn b (by
  obtain⟨e,he,q⟩:=List.mem_filterMap.mp hb
  exact List.mem_filterMap.mpr ⟨e,.tail _ he,q⟩)⟩
theorem Inv.rebase {X:Cx}{pins:List (Addr×Obj)}{σ:St}{H:Hp}{s:Shared}(I:Inv X pins σ H s):
  ∃bR,X.base.StaysIn bR∧nv X.prog X.w X.K X.mg bR X.A X.stack s H∧∀b o,s.heap.get? b=some o→H b=none→b∉aN X.stack→bR.get? b=some o:=by
 have bt:∀b o,s.heap.get? b=some o→H b=none→b∉aN X.stack→(PySem.W.hideAll (eO s.heap H) (aN X.stack)).get? b=some o:=fun b o e n hf=>PySem.W.hideAll_get _ (UK e n) hf
 have st:X.base.StaysIn (PySem.W.hideAll (eO s.heap H) (aN X.stack)):=fun b o e=>bt b o (I.bs b o e).1 (I.bs b o e).2 fun hm=>by
  have:=(I.stack.mem hm).1
  rw[e]at this
  cases this
 refine⟨_,st,⟨I.ok.frames,⟨I.mod.ja.keeps st,I.mod.glob.keeps st,?_,I.mod.nolimit.keeps st⟩,fun b o e=>zx (PySem.W.of_hideAll _ e),?_,Jd I.stack fun b hb=>PySem.W.hideAll_none _ hb,I.kM,I.ai,I.bare⟩,bt⟩
 ·obtain⟨mb,h1,h2⟩:=I.mod.blt
  exact⟨mb,h1.keeps st,h2⟩
 ·rw[PySem.W.hideAll_size,WH]
  exact Nat.le_refl _
def AK (wi:TI) (ts:Nat) (aM:List Nat) (g:TG) (tt:TT) (ti:St→TC):TE:=fun σ H Q=>wi σ H fun J H1=>fi g tt (ti σ) J [] (eX ts aM σ) H1 fun ys _ H2=> ∀p,H2 p=none→Q (.ref p) (upd H2 p (.lst ys))
theorem HV {X:Cx}{elt tg iter:Expr}{ifs:List Expr}{rest:List Comprehension}{scope:Scope}{pos:Pos}{wi:TI}{g:TG}{tt:TT}{ti:St→TC}(N':List Str) (ts:Nat) (aM:List Nat) (hi:PI X tg iter wi) (pg:∀C s H fp,PG (aI X N' scope C s H fp) tg g) (pt:∀C s H fp,fX (aI X N' scope C s H fp) ifs tt)
  (pi:∀pins σ C s H fp D,Inv X pins σ H s→(∀b∈fp,aJ X pins H b)→fb (aI X N' scope C s H fp) D (inner elt (⟨tg,iter,ifs,0⟩::rest) scope pos 0 (.ref D) (aI X N' scope C s H fp).env) (ti σ))
  (ok:km X.env.scope scope X.N N' ts aM=true:=by rfl) (hc:X.calm=true:=by rfl) (h2:∀g',(Comprehension.mk tg iter ifs 0::rest)[0+1]? =some g'→g'.is_async=0:=by(intro g' h;cases h<;>rfl))
  (hs:∀x,foldedSetIterable iter X.env x=pure x:=by intro _;rfl):
  PE X (.ListComp elt (⟨tg,iter,ifs,0⟩::rest) scope pos) (AK wi ts aM g tt ti):=by
 intro pins s σ H Q I h
 have S:=Je ok
 rw[eval_ListComp]
 refine wpAny_comprehension_free (use:=none) rfl hs (Z1 fun y hy e=>I.ok.has _ (S.free y hy e)) S.kind S.names (ao (hi pins s σ H _ I h) fun v s1 h1=>ao h1 fun eJ s2 dB=> ?_)
 obtain⟨it,fp,tn,J,H2,e,I2,T,bM,f2,q2⟩:=dB
 subst e
 refine mF (RR:=fun acc C=>compPost (model X.prog X.w) X.A X.xe none _ acc C) S hc I2 T bM f2 h2 (fun C=>pg C _ _ _) (fun C=>pt C _ _ _) (fun C D=>pi pins σ C _ _ _ D I2 f2) q2 ?_
 intro C D s' af H' ys fl hC hD dn J' n a q
 obtain⟨m,hn,_⟩:=J'.loc
 exact⟨m,hn,fun h' sb=> ⟨.ref D,_,mI I2 f2 hC hD dn J' n a sb,rfl,q D n⟩⟩
def Ff:Const→Option V
 | .int n=>some (.int n)
 | .bool b=>some (.bl b)
 | .str x=>some (.str x)
 | .none=>some .ae
 |_=>none
def kY:Expr→Option V
 | .Constant c _ _=>Ff c
 | .UnaryOp .USub (.Constant (.int n) _ _) _=>some (.int (-n))
 | .BinOp (.Constant (.int a) _ _) .Pow (.Constant (.int b) _ _) _=>if 0≤b∧b≤1000000∧a.natAbs<2^64 then some (.int (a^b.toNat)) else none
 |_=>none
def kX:List Expr→Option (List V)
 | []=>some []
 |e::r=>match kY e,kX r with
  |some v,some vs=>some (v::vs)
  |_,_=>none
inductive Lit where
 |sc (v:V)
 |tup (xs:List V)
 |lst (xs:List V)
 |fB
def dF (H:Hp) (v:V):Lit→Prop
 | .sc u=>v=u
 | .tup xs=> ∃a:Addr,v=.ref a∧H a=some (.tup xs)
 | .lst xs=> ∃a:Addr,v=.ref a∧H a=some (.lst xs)
 | .fB=> ∃a:Addr,v=.ref a∧H a=some (.dK [])
theorem dF.same {H H':Hp}{v:V} :∀{l:Lit},dF H v l→ag H H'→dF H' v l
 | .sc _,h,_=>h
 | .tup _,⟨a,e,h⟩,s=> ⟨a,e,s _ _ h⟩
 | .lst _,⟨a,e,h⟩,s=> ⟨a,e,s _ _ h⟩
 | .fB,⟨a,e,h⟩,s=> ⟨a,e,s _ _ h⟩
def litOf:Expr→Option Lit
 | .Tuple es _ _=>match kX es with
  |some xs=>if xs.length≤1000 then some (.tup xs) else none
  |none=>none
 | .List es _=>match kX es with
  |some xs=>if xs.length≤1000 then some (.lst xs) else none
  |none=>none
 | .Dict [] [] _=>some .fB
 |e=> (kY e).map .sc
def litsOf:List Expr→Option (List Lit)
 | []=>some []
 |e::r=>match litOf e,litsOf r with
  |some v,some vs=>some (v::vs)
  |_,_=>none
section
variable {X:Cx}
theorem yN {e:Expr}{v:V}(h:kY e=some v):PE X e (tC v)∧(∀es,starEach (e::es) X.env=(false,eval e X.env)::starEach es X.env)∧∀a:Addr,v≠.ref a:=by
 unfold kY at h
 split at h
 ·rename_i c j p
  cases c with
  |int n=>cases h;exact⟨Zf,fun _=>rfl,fun a z=>by cases z⟩
  |bool b=>cases h;exact⟨Uv,fun _=>rfl,fun a z=>by cases z⟩
  |str x=>cases h;exact⟨Zv,fun _=>rfl,fun a z=>by cases z⟩
  |none=>cases h;exact⟨Z5,fun _=>rfl,fun a z=>by cases z⟩
  |_=>cases h
 ·cases h
  refine⟨fun pins s σ H Q I q=>tX U0 Zf pins s σ H Q I ⟨_,rfl,q⟩,fun _=>rfl,fun a z=>by cases z⟩
 ·split at h
  ·rename_i hc
   cases h
   refine⟨fun pins s σ H Q I q=>Zm yU Zf Zf pins s σ H Q I ⟨_,_,rfl,rfl,hc,q⟩,fun _=>rfl,fun a z=>by cases z⟩
  ·cases h
 ·cases h
theorem ui:∀{es:List Expr}{vs:List V},kX es=some vs→PA X es (fun _ H Q=>Q vs H)
 | [],vs,h=>by cases h;exact Zb
 |e::r,vs,h=>by
  unfold kX at h
  split at h
  ·rename_i v ws h1 h2
   cases h
   obtain⟨p1,p2,_⟩:=yN (X:=X) h1
   exact fun pos pins s σ H Q I q=>Za p1 (ui h2) (p2 r) pos pins s σ H Q I q
  ·cases h
theorem F0 {e:Expr}{l:Lit}(h:litOf e=some l):PE X e (fun _ H Q=> ∀v H',ag H H'→dF H' v l→(∀a:Addr,v=.ref a→H a=none)→Q v H')∧∀es,starEach (e::es) X.env=(false,eval e X.env)::starEach es X.env:=by
 unfold litOf at h
 split at h
 ·split at h
  ·rename_i xs hx
   split at h
   ·rename_i hl
    cases h
    refine⟨fun pins s σ H Q I q=>ZH (ui hx) pins s σ H Q I ⟨Nat.le_of_lt (qp hl),fun p hp=>q _ _ (fun b o hb=>by rw[Zh (Zg hb hp)];exact hb) ⟨p,rfl,Zc⟩ fun a z=>by cases z;exact hp⟩,fun _=>rfl⟩
   ·cases h
  ·cases h
 ·split at h
  ·rename_i xs hx
   split at h
   ·rename_i hl
    cases h
    refine⟨fun pins s σ H Q I q=>Zx (ui hx) pins s σ H Q I ⟨Nat.le_of_lt (qp hl),fun p hp=>q _ _ (fun b o hb=>by rw[Zh (Zg hb hp)];exact hb) ⟨p,rfl,Zc⟩ fun a z=>by cases z;exact hp⟩,fun _=>rfl⟩
   ·cases h
  ·cases h
 ·cases h
  exact⟨fun pins s σ H Q I q=>Ut pins s σ H Q I fun p hp=>q _ _ (fun b o hb=>by rw[Zh (Zg hb hp)];exact hb) ⟨p,rfl,Zc⟩ fun a z=>by cases z;exact hp,fun _=>rfl⟩
 ·rename_i x0 h1 h2 h3
  cases hs:kY e with
  |none=>rw[hs]at h;cases h
  |some v=>
   rw[hs]at h
   cases h
   obtain⟨p1,p2,p3⟩:=yN (X:=X) hs
   exact⟨fun pins s σ H Q I q=>p1 pins s σ H Q I (q v H (ag.refl H) rfl fun a z=>absurd z (p3 a)),p2⟩
theorem YN:∀{es:List Expr}{ls:List Lit},litsOf es=some ls→PA X es (fun _ H Q=> ∀vs H',ag H H'→Paired (dF H') vs ls→(∀a,V.ref a∈vs→H a=none)→Q vs H')
 | [],ls,h=>by cases h;exact fun pos pins s σ H Q I q=>Zb pos pins s σ H Q I (q [] H (ag.refl H) .nil fun a z=>nomatch z)
 |e::r,ls,h=>by
  unfold litsOf at h
  split at h
  ·rename_i v ws h1 h2
   cases h
   obtain⟨p1,p2⟩:=F0 (X:=X) h1
   exact fun pos pins s σ H Q I q=>Za p1 (YN h2) (p2 r) pos pins s σ H Q I fun v1 H1 s1 l1 n1 vs H2 s2 pr n2=>q (v1::vs) H2 (s1.trans s2) (.cons (l1.same s2) pr) fun a z=>by
    rcases List.mem_cons.mp z with z |z
    ·exact n1 a z.symm
    ·exact s1.free (n2 a z)
  ·cases h
end
theorem Kp (n l1 l2:Nat) (h1:l1<n) (h2:l2<n):ZipApart (n+4) (n+2) (n+3) n (n+1) l1 l2:=by
 constructor<;>intro z<;>refine absurd (show @Eq Nat _ _ from z) ?_<;>omega
end L2
namespace L2
open PySem PySem.Spec PyProof.Rows SeqAt
def rN (items:Array Value) (x:Value) (i:Nat) (_:Option PySem.Fin×Unit):Sem (ForInStep (Option PySem.Fin×Unit)):=
 match items[i]? with
 |some y=> (do
  let b ←eqBool y x
  if b=true then (do let v ←retInt (i:Int);pure (ForInStep.done (some v,()))) else pure (ForInStep.yield (none,())))
 |_=>pure (ForInStep.yield (none,()))
theorem UJ {prog:Program}{w:World}{A:Around}{E:Value→Shared→Prop}{s:Shared}{items:Array Value}{x:Value}{e:Value→Bool}{j:Nat}{Q:Option PySem.Fin×Unit→Shared→Prop}(hj:j<items.size) (hit:e items[j]=true) (fT:∀m (hm:m<items.size),m<j→e items[m]=false)
  (he:∀y,y∈items→EqAt A s y x (e y)) (h:Q (some (.done (.ret (.int j s.toks))),()) {s with toks:=s.toks+1}):
  ∀k i,i+k=items.size→i≤j→wpAny (model prog w) A (forIn (List.range' i k) ((none:Option PySem.Fin),()) (rN items x)) Q E s
 |0,i,hk,hi=>by omega
 |k+1,i,hk,hi=>by
  have aA:i<items.size:=by omega
  rw[List.range'_succ,List.forIn_cons]
  refine wpAny_bind ?_
  unfold rN
  rw[Array.getElem?_eq_getElem aA]
  refine wpAny_bind (he _ (Array.getElem_mem aA) prog w _ _ ?_)
  by_cases sv:i=j
  ·subst sv
   rw[hit,if_pos rfl]
   refine wpAny_bind ?_
   wp_walk
   exact h
  ·rw[fT i aA (by omega),if_neg Bool.false_ne_true]
   refine wpAny_pure ?_
   exact UJ hj hit fT he h k (i+1) (by omega) (by omega)
theorem Wf (l:Addr) (items:Array Value) (n:Nat) (dd:Option Addr) (sl:Array (Option Value)) (x:Value) (e:Value→Bool) (j:Nat) (hj:j<items.size) (hit:e items[j]=true) (fT:∀m (hm:m<items.size),m<j→e items[m]=false):
  Meets (Builtin.«tuple.index» ⟨[.ref l,x],[]⟩)
   (fun A R s=>s.heap.get? l=some {cls:=.type "tuple",dict:=dd,data:=.seq items n,slots:=sl}∧(∀y,y∈items→EqAt A.in1 s y x (e y))∧R (.ok (.ret (.int j s.toks))) {s with toks:=s.toks+1}):=
 .of_wp fun prog w A R s h=>by
  obtain⟨hp,g,d,tk,os⟩:=s;obtain⟨hl,he,h⟩:=h
  wp_walk using AutoSeq1.wpAny_loadPart' hl
  show wpAny (model prog w) A.in1 (forIn (m:=Sem) [:min items.size items.size] ((none:Option PySem.Fin),()) (rN items x)) _ _ _
  rw[Std.Legacy.Range.forIn_eq_forIn_range']
  refine UJ hj hit fT he ?_ _ _ (by simp[Std.Legacy.Range.size]) (Nat.zero_le _)
  exact wpAny_pure ⟨_,rfl,h⟩
def Bi (K:PySem.W.Frag):V→List V→Hp→VK→Prop:=fun v vs H Q=> ∃(a:Addr) (xs:List V) (x:V) (j:Nat),v=.ref a∧vs=[x]∧aj K H a xs∧eV x=true∧xs.all eV=true∧(∃y,xs[j]? =some y∧cf y x=true)∧(∀m y,m<j→xs[m]? =some y→cf y x=false)∧Q (.int (j:Int)) H
theorem Kt {X:Cx} :zD X "tuple.index" (Bi X.K):=by
 intro pins s σ H v vs u us Q I rv Bg h
 obtain⟨a,xs,x,j,rfl,rfl,hq,fx,fs,⟨y,hy,ey⟩,fT,q⟩:=h
 cases rv
 obtain⟨ux,rfl,rx⟩:=vals1 Bg
 obtain⟨aa,r,pl,hz⟩:=I.tuple hq
 obtain⟨o,ho,hc,n,hd⟩:=id pl
 obtain⟨cls,dd,dt,sl⟩:=o
 replace hc:cls=.type "tuple" :=hc
 replace hd:dt=.seq aa.toArray n:=hd
 subst hc hd
 obtain⟨uy,CP,Le⟩:=r.get hy
 have sk:j<aa.length:=(List.getElem?_eq_some_iff.mp CP).1
 have mK:∀k (hk:k<aa.length),∃z,xs[k]? =some z∧RelV z aa[k]:=fun k hk=>by
  have j8:k<xs.length:=by rw[r.length];exact hk
  obtain⟨w,hw,cF⟩:=r.get (List.getElem?_eq_getElem j8)
  rw[List.getElem?_eq_getElem hk]at hw
  cases hw
  exact⟨_,List.getElem?_eq_getElem j8,cF⟩
 have eqs:∀(A:Around) (k:Nat) (hk:k<aa.length) z,xs[k]? =some z→EqAt A s aa[k] ux (cf z x):=fun A k hk z dA=>by
  obtain⟨z',cb,rz⟩:=mK k hk
  rw[dA]at cb
  cases cb
  exact yX rz rx (List.all_eq_true.mp fs z (List.mem_of_getElem? dA)) fx
 have vd:∀k l' (hk:k<aa.length) (hl:l'<aa.length) zk zl,xs[k]? =some zk→xs[l']? =some zl→aa[k]=aa[l']→cf zk x=cf zl x:=fun k l' hk hl zk zl h1 h2 he=>by
  obtain⟨z1,e1,r1⟩:=mK k hk
  obtain⟨z2,e2,r2⟩:=mK l' hl
  rw[h1]at e1;rw[h2]at e2
  cases e1;cases e2
  rw[he]at r1
  have f1:=List.all_eq_true.mp fs zk (List.mem_of_getElem? h1)
  have f2:=List.all_eq_true.mp fs zl (List.mem_of_getElem? h2)
  have:zk=zl:=by
   generalize aa[l']=val at r1 r2
   cases zk<;>cases zl<;>first
    |rfl
    |(exact absurd f1 Bool.false_ne_true)
    |(exact absurd f2 Bool.false_ne_true)
    |(cases r1;cases r2;rfl)
    |(cases r1;cases r2;done)
    |(obtain⟨_,rfl⟩:=r1;obtain⟨_,e⟩:=r2;cases e;rfl)
    |(obtain⟨_,rfl⟩:=r1;obtain⟨_,e⟩:=r2;cases e;done)
    |(obtain⟨_,rfl⟩:=r1;cases r2;done)
    |(cases r1;obtain⟨_,e⟩:=r2;cases e;done)
  rw[this]
 classical
 refine call_meets F.slot_tuple_index ⟨_,ho,rfl⟩ F.entry_tuple_index (F.args_tuple_index_2 _ _)
  (Wf a aa.toArray n dd sl ux (fun val=>decide (∃(k:Nat) (z:V),aa[k]? =some val∧xs[k]? =some z∧cf z x=true)) j (by simpa using sk) ?_ ?_) ⟨ho,fun val CM=> ?_,?_⟩
 ·refine decide_eq_true ⟨j,y,?_,hy,ey⟩
  simp[sk]
 ·intro m hm Dk
  refine decide_eq_false ?_
  rintro⟨k,z,hk,dA,ez⟩
  have cY:m<aa.length:=by simpa using hm
  obtain⟨zm,wQ,_⟩:=mK m cY
  have dk:=(List.getElem?_eq_some_iff.mp hk)
  obtain⟨j7,lW⟩:=dk
  have e2:=vd k m j7 cY z zm dA wQ (by rw[lW];simp)
  rw[ez,fT m zm Dk wQ]at e2
  cases e2
 ·have CL:val∈aa:=by simpa using CM
  obtain⟨k,j7,lW⟩:=List.getElem_of_mem CL
  obtain⟨z,dA,rz⟩:=mK k j7
  have ee:=eqs X.A.in1 k j7 z dA
  rw[lW]at ee
  have:decide (∃(k:Nat) (z:V),aa[k]? =some val∧xs[k]? =some z∧cf z x=true)=cf z x:=by
   cases hb:cf z x with
   |true=>exact decide_eq_true ⟨k,z,by rw[List.getElem?_eq_getElem j7,lW],dA,hb⟩
   |false=>
    refine decide_eq_false ?_
    rintro⟨k2,z2,h1,h2,h3⟩
    obtain⟨gA,kc⟩:=List.getElem?_eq_some_iff.mp h1
    have:=vd k2 k gA j7 z2 z h2 dA (by rw[kc,lW])
    rw[h3,hb]at this
    cases this
  rw[this]
  exact ee
 ·exact⟨.int (j:Int),H,I.tok _,⟨_,rfl⟩,q⟩
theorem Wv {α β:Type}{F:α→β→Prop} :∀{g9:List α}{g8:List β}{i:Nat}{x:α},Paired F g9 g8→g9[i]? =some x→∃y,g8[i]? =some y∧F x y
 |_,_,_,_,.nil,h=>by simp at h
 |_,_,0,_,.cons r _,h=>by simp at h;subst h;exact⟨_,rfl,r⟩
 |_,_,i+1,_,.cons _ t,h=>by
  obtain⟨y,e,q⟩:=Wv t (i:=i) (by simpa using h)
  exact⟨y,by simpa using e,q⟩
section
variable {X:Cx}
theorem YS {ns:List Int}{us:List Value}(r:Vals (ns.map V.int) us) (j:Nat) (h:j<us.length):∃t,us[j]=.int (ns.getD j 0) t:=by
 have hl:=r.length
 rw[List.length_map]at hl
 have hj:j<ns.length:=by omega
 obtain⟨u,hu,t,ru⟩:=r.get (i:=j) (x:=.int ns[j]) (by rw[List.getElem?_map,List.getElem?_eq_getElem hj];rfl)
 rw[List.getElem?_eq_getElem h]at hu
 cases hu
 exact⟨t,by rw[ru];simp[hj]⟩
end
end L2
namespace L2
open PySem PySem.Spec PyProof.Rows
structure One (base:Heap) (scope:Scope) (cl:List (Str×Addr)) (x:Str) (vx:V):Prop where
 kx:scope.names.lookup x=some .free
 only:∀z,scope.names.lookup z=some .cell∨scope.names.lookup z=some .free→z=x
 cx:∃c u,cl.lookup x=some c∧base.IsCell c (some u)∧RelV vx u
 mem:∀z c,cl.lookup z=some c→z=x
structure Src (prog:Program) (w:World) (i l:Addr) (n:Nat) (f:Nat→Value) (S:Nat→Heap→Prop):Prop where
 here:∀k h,S k h→∃o,h.get? i=some o
 bK:∀k h h',S k h→(∀c,c=i∨c=l→∀o,h.get? c=some o→h'.get? c=some o)→S k h'
 item:∀(A:Around) k (s:Shared) (Q:Value→Shared→Prop) (E:Value→Shared→Prop),k<n→S k s.heap→(∀h',S (k+1) h'→Heap.SameBut i s.heap h'→Q (f k) {s with heap:=h'})→wpAny (model prog w) A (Builtin.SmallTypes.nextOf (.ref i)) Q E s
 stop:∀(A:Around) (s:Shared) (Q:Value→Shared→Prop) (E:Value→Shared→Prop),A.handled=none→S n s.heap→(∀h' e,Heap.ExtBut i s.heap h'→(∃o,h'.get? e=some o∧o.cls=.type "StopIteration")→E (.ref e) {s with heap:=h'})→wpAny (model prog w) A (Builtin.SmallTypes.nextOf (.ref i)) Q E s
theorem YL (prog:Program) (w:World) {i l:Addr}(aa:Array Value) (cK:l≠i):Src prog w i l aa.size (fun k=>aa.getD k .none) (fun k h=>IsTupIter h i l k∧IsTup h l aa) where
 here:=fun k h ⟨⟨o,ho,_⟩,_⟩=> ⟨o,ho⟩
 bK:=fun k h h' ⟨⟨o,ho,r⟩,⟨u,hu,r'⟩⟩ st=> ⟨⟨o,st i (.inl rfl) o ho,r⟩,⟨u,st l (.inr rfl) u hu,r'⟩⟩
 item:=fun A k s Q E hk ⟨hi,ht⟩ q=>by
  obtain⟨oi,gi,ci,di⟩:=id hi
  obtain⟨ot,gt,ct,nt,dt⟩:=id ht
  have hx:aa[k]? =some (aa.getD k .none):=by simp[hk]
  unfold Builtin.SmallTypes.nextOf
  refine wpAny_bind (wpAny_callSpecial?_slot (name:=Str.ofString "__next__") hi.typeIs slot_tupleiter_next (wpAny_call_entry slot_tupleiter_next hi.typeIs entry_tupleiter_next ?_ (args_tupleiter_next _)))
  refine(show wpAny _ _ (field (.ref i) 0 >>=_) _ _ s from wpAny_bind (wpAny_field gi di (x:=.ref l) rfl ?_))
  refine(show wpAny _ _ (if (Value.ref l==Value.none)=true then _ else _) _ _ s from ?_)
  rw[if_neg (by exact Bool.false_ne_true)]
  refine(show wpAny _ _ (field (.ref i) 1 >>=_) _ _ s from wpAny_bind (wpAny_field gi di (x:=.int k 0) rfl ?_))
  refine(show wpAny _ _ (seqItems? (.ref l) >>=_) _ _ s from wpAny_bind (wpAny_seqItems gt dt ?_))
  simp only[Int.toNat_natCast,hx]
  refine wpAny_bind (wpAny_setField gi di (by simp) (wpAny_pure ⟨_,rfl,wpAny_pure (q _ ⟨⟨_,Heap.get?_update_self _ gi (Obj.isFreed_of_fields (Obj.data_mapFields di _)),(Obj.cls_mapFields ..).trans ci,?_⟩,?_⟩ (Heap.SameBut.update ..))⟩))
  ·rw[Obj.data_mapFields di];simp[rawInt]
  ·exact⟨ot,(Heap.SameBut.update ..).extBut _ _ cK gt,ct,nt,dt⟩
 stop:=fun A s Q E hh ⟨hi,ht⟩ q=>by
  obtain⟨oi,gi,ci,di⟩:=id hi
  obtain⟨ot,gt,ct,nt,dt⟩:=id ht
  have hx:aa[aa.size]? =none:=by simp
  unfold Builtin.SmallTypes.nextOf
  refine wpAny_bind (wpAny_callSpecial?_slot (name:=Str.ofString "__next__") hi.typeIs slot_tupleiter_next (wpAny_call_entry slot_tupleiter_next hi.typeIs entry_tupleiter_next ?_ (args_tupleiter_next _)))
  refine(show wpAny _ _ (field (.ref i) 0 >>=_) _ _ s from wpAny_bind (wpAny_field gi di (x:=.ref l) rfl ?_))
  refine(show wpAny _ _ (if (Value.ref l==Value.none)=true then _ else _) _ _ s from ?_)
  rw[if_neg (by exact Bool.false_ne_true)]
  refine(show wpAny _ _ (field (.ref i) 1 >>=_) _ _ s from wpAny_bind (wpAny_field gi di (x:=.int aa.size 0) rfl ?_))
  refine(show wpAny _ _ (seqItems? (.ref l) >>=_) _ _ s from wpAny_bind (wpAny_seqItems gt dt ?_))
  simp only[Int.toNat_natCast,hx]
  refine wpAny_bind (wpAny_rule (wpAny_bind (wpAny_setField gi di (by simp) ?_)))
  refine(show wpAny _ _ (newExc (.type "StopIteration") [] >>=_) _ _ _ from wpAny_bind ?_)
  simp only[newExc,newTuple]
  refine wpAny_bind (wpAny_newObj_type ?_ (by size_fits))
  refine wpAny_bind (m:=firstArgMember _ _) (wpAny_of_eq (a:=Value.none) (by first |rfl |(simp only[firstArgMember];rfl)) ?_)
  refine wpAny_newObj_type ?_ (by size_fits)
  simp only[raiseNew]
  refine wpAny_bind (wpAny_handled ?_)
  first |rw[show A.in1.handled=none from hh] |rw[hh]
  refine wpAny_bind (wpAny_pure (wpAny_throw ?_))
  exact q _ _ (((Heap.SameBut.update ..).extBut.push _).push _) ⟨_,Heap.get?_push_size _ rfl,rfl⟩
section
variable {prog:Program}{w:World}{A:Around}{E:Value→Shared→Prop}{s:Shared}{z TI TO i1 i2 l1 l2:Addr}{n k:Nat}{f g:Nat→Value}{S1 S2:Nat→Heap→Prop}
theorem G9 {a b:Value}{Q:Value→Shared→Prop}(U1:Src prog w i1 l1 n f S1) (U2:Src prog w i2 l2 n g S2) (D:ZipApart z TI TO i1 i2 l1 l2) (hk:k<n) (hz:IsZip s.heap z TI TO .none) (hI:IsPair s.heap TI (.ref i1) (.ref i2)) (hO:IsPair s.heap TO a b) (h1:S1 k s.heap) (h2:S2 k s.heap)
    (q:∀h',IsZip h' z TI TO (rawInt s.heap.objs.size)→IsPair h' TO (f k) (g k)→S1 (k+1) h'→S2 (k+1) h'→IsPair h' s.heap.objs.size (f k) (g k)→h'.objs.size=s.heap.objs.size+1→
      (∀c o,c≠z→c≠TO→c≠i1→c≠i2→s.heap.get? c=some o→h'.get? c=some o)→Q (.ref s.heap.objs.size) {s with heap:=h'}):
    wpAny (model prog w) A (Builtin.«zip.__next__» ⟨[.ref z],[]⟩) (fun fin s'=> ∃v,fin=.done (.ret v)∧Q v s') E s:=by
  refine(show wpAny _ _ (field (.ref z) 2 >>=_) _ _ _ from wpAny_bind (wpAny_field hz rfl (x:=.bool false) rfl ?_))
  refine(show wpAny _ _ (field (.ref z) 3 >>=_) _ _ _ from wpAny_bind (wpAny_field hz rfl (x:=.ref TI) rfl (wpAny_bind (wpAny_seqItems hI rfl ?_))))
  refine(show wpAny _ _ (Builtin.SmallTypes.ownedTupleIsFree (.ref z) >>=_) _ _ _ from wpAny_bind ?_)
  unfold Builtin.SmallTypes.ownedTupleIsFree
  refine wpAny_bind (wpAny_field hz rfl (x:=.none) rfl (wpAny_pure ?_))
  simp only[if_true]
  refine wpAny_bind (wpAny_rule (wpAny_bind (wpAny_field hz rfl (x:=.ref TO) rfl (wpAny_bind (wpAny_setField_rec hz (by simp) fun m1 iN e1=> ?_)))))
  replace iN:IsZip m1 z TI TO .ellipsis:=iN
  have b1:=e1.extBut
  refine wpAny_bind ?_
  simp only[List.zipIdx_cons,List.zipIdx_nil,List.forIn_cons,List.forIn_nil]
  refine wpAny_bind (wpAny_bind (wpAny_onRaise ?_))
  have ck:S1 k m1:=U1.bK _ _ _ h1 fun c hc o ho=>by rcases hc with rfl |rfl<;>first |exact b1 _ _ D.i1z ho |exact b1 _ _ D.l1z ho
  refine(show wpAny _ _ (Builtin.SmallTypes.nextOf (.ref i1) >>=_) _ _ _ from wpAny_bind (U1.item _ k _ _ _ hk ck fun m2 bM e2=>wpAny_pure ?_))
  have b2:=e2.extBut
  have o2:IsPair m2 TO a b:=b2 _ _ D.TOi1 (b1 _ _ D.TOz hO)
  refine wpAny_bind (wpAny_seqItems o2 rfl (wpAny_bind (wpAny_updateSeq_pair o2 fun m3 o3 e3=> ?_)))
  replace o3:IsPair m3 TO (f k) b:=o3
  have b3:=e3.extBut
  refine wpAny_bind (wpAny_letGo (wpAny_pure (wpAny_bind (wpAny_bind (wpAny_onRaise ?_)))))
  have w3:S2 k m3:=U2.bK _ _ _ h2 fun c hc o ho=>by
    rcases hc with rfl |rfl
    · exact b3 _ _ D.TOi2.symm (b2 _ _ D.i12.symm (b1 _ _ D.i2z ho))
    · exact b3 _ _ D.l2TO (b2 _ _ D.l2i1 (b1 _ _ D.l2z ho))
  refine(show wpAny _ _ (Builtin.SmallTypes.nextOf (.ref i2) >>=_) _ _ _ from wpAny_bind (U2.item _ k _ _ _ hk w3 fun m4 w4 e4=>wpAny_pure ?_))
  have b4:=e4.extBut
  have o4:IsPair m4 TO (f k) b:=b4 _ _ D.TOi2 o3
  refine wpAny_bind (wpAny_seqItems o4 rfl (wpAny_bind (wpAny_updateSeq_pair o4 fun m5 o5 e5=> ?_)))
  replace o5:IsPair m5 TO (f k) (g k):=o5
  have b5:=e5.extBut
  refine wpAny_bind (wpAny_letGo (wpAny_pure (wpAny_pure (wpAny_bind (wpAny_seqItems o5 rfl (wpAny_bind (wpAny_newTuple ?_)))))))
  have sz:m5.objs.size=s.heap.objs.size:=by rw[e5.1,e4.1,e3.1,e2.1,e1.1]
  have z5:IsZip m5 z TI TO .ellipsis:=b5 _ _ D.TOz.symm (b4 _ _ D.i2z.symm (b3 _ _ D.TOz.symm (b2 _ _ D.i1z.symm iN)))
  have kp:∀c o,c≠z→c≠TO→c≠i1→c≠i2→s.heap.get? c=some o→m5.get? c=some o:=fun c o c1 c2 c3 c4 e=>b5 _ _ c2 (b4 _ _ c4 (b3 _ _ c2 (b2 _ _ c3 (b1 _ _ c1 e))))
  have bF:S1 (k+1) m5:=U1.bK _ _ _ bM fun c hc o ho=>by
    rcases hc with rfl |rfl
    · exact b5 _ _ D.TOi1.symm (b4 _ _ D.i12 (b3 _ _ D.TOi1.symm ho))
    · exact b5 _ _ D.l1TO (b4 _ _ D.l1i2 (b3 _ _ D.l1TO ho))
  have w5:S2 (k+1) m5:=U2.bK _ _ _ w4 fun c hc o ho=>by rcases hc with rfl |rfl<;>first |exact b5 _ _ D.TOi2.symm ho |exact b5 _ _ D.l2TO ho
  have uM:z<m5.objs.size:=Heap.lt_size z5
  refine(show wpAny _ _ (Builtin.SmallTypes.ownedTupleHandOut (.ref z) (.ref m5.objs.size) >>=_) _ _ _ from wpAny_bind ?_)
  unfold Builtin.SmallTypes.ownedTupleHandOut
  have z6:IsZip (m5.push {cls:=.type "tuple",data:=.seq #[f k,g k]}) z TI TO .ellipsis:=Heap.get?_push_of_some _ z5
  refine wpAny_bind (wpAny_setField_rec z6 (by simp) fun m7 z7 e7=> ?_)
  replace z7:IsZip m7 z TI TO (rawInt m5.objs.size):=z7
  refine wpAny_setField_rec z7 (by simp) fun m8 z8 e8=> ?_
  replace z8:IsZip m8 z TI TO (rawInt m5.objs.size):=z8
  have up:∀c o,c≠z→m5.get? c=some o→m8.get? c=some o:=fun c o c1 e=>e8.extBut _ _ c1 (e7.extBut _ _ c1 (Heap.get?_push_of_some _ e))
  have t8:IsPair m8 m5.objs.size (f k) (g k):=e8.extBut _ _ (Nat.ne_of_gt uM) (e7.extBut _ _ (Nat.ne_of_gt uM) (Heap.get?_push_size _ rfl))
  have s8:m8.objs.size=m5.objs.size+1:=by rw[e8.1,e7.1,Heap.size_push]
  rw[sz]at z8 t8 s8
  refine wpAny_pure ⟨_,rfl,?_⟩
  show Q (.ref m5.objs.size) _
  rw[sz]
  refine q m8 z8 (up _ _ D.TOz o5) (U1.bK _ _ _ bF fun c hc o ho=> ?_) (U2.bK _ _ _ w5 fun c hc o ho=> ?_) t8 s8 fun c o c1 c2 c3 c4 e=>up c o c1 (kp c o c1 c2 c3 c4 e)
  · rcases hc with rfl |rfl<;>first |exact up _ _ D.i1z ho |exact up _ _ D.l1z ho
  · rcases hc with rfl |rfl<;>first |exact up _ _ D.i2z ho |exact up _ _ D.l2z ho
theorem HP {a b:Value}{Q:PySem.Fin→Shared→Prop}(hh:A.handled=none) (U1:Src prog w i1 l1 n f S1) (D:ZipApart z TI TO i1 i2 l1 l2) (hz:IsZip s.heap z TI TO .none) (hI:IsPair s.heap TI (.ref i1) (.ref i2)) (hO:IsPair s.heap TO a b) (h1:S1 n s.heap)
  (q:∀h' e,(∀c o,c≠z→c≠TO→c≠i1→c≠i2→s.heap.get? c=some o→h'.get? c=some o)→(∃o,h'.get? e=some o∧o.cls=.type "StopIteration")→E (.ref e) {s with heap:=h'}):
  wpAny (model prog w) A (Builtin.«zip.__next__» ⟨[.ref z],[]⟩) Q E s:=by
 refine(show wpAny _ _ (field (.ref z) 2 >>=_) _ _ _ from wpAny_bind (wpAny_field hz rfl (x:=.bool false) rfl ?_))
 refine(show wpAny _ _ (field (.ref z) 3 >>=_) _ _ _ from wpAny_bind (wpAny_field hz rfl (x:=.ref TI) rfl (wpAny_bind (wpAny_seqItems hI rfl ?_))))
 refine(show wpAny _ _ (Builtin.SmallTypes.ownedTupleIsFree (.ref z) >>=_) _ _ _ from wpAny_bind ?_)
 unfold Builtin.SmallTypes.ownedTupleIsFree
 refine wpAny_bind (wpAny_field hz rfl (x:=.none) rfl (wpAny_pure ?_))
 simp only[if_true]
 refine wpAny_bind (wpAny_rule (wpAny_bind (wpAny_field hz rfl (x:=.ref TO) rfl (wpAny_bind (wpAny_setField_rec hz (by simp) fun m1 iN e1=> ?_)))))
 replace iN:IsZip m1 z TI TO .ellipsis:=iN
 have b1:=e1.extBut
 refine wpAny_bind ?_
 simp only[List.zipIdx_cons,List.zipIdx_nil,List.forIn_cons,List.forIn_nil]
 refine wpAny_bind (wpAny_bind (wpAny_onRaise ?_))
 have ck:S1 n m1:=U1.bK _ _ _ h1 fun c hc o ho=>by rcases hc with rfl |rfl<;>first |exact b1 _ _ D.i1z ho |exact b1 _ _ D.l1z ho
 refine(show wpAny _ _ (Builtin.SmallTypes.nextOf (.ref i1) >>=_) _ _ _ from wpAny_bind (U1.stop _ _ _ _ hh ck fun m2 e e2 he=> ?_))
 obtain⟨oe,ge,ce⟩:=he
 have z2:IsZip m2 z TI TO .ellipsis:=e2 _ _ D.i1z.symm iN
 have BU:e≠z:=fun y=>by subst y;rw[z2]at ge;cases ge;simp at ce
 refine wpAny_setField_rec z2 (by simp) fun m3 _ e3=>q m3 e (fun c o c1 _ c3 _ x=>e3.extBut _ _ c1 (e2 _ _ c3 (b1 _ _ c1 x))) ⟨oe,e3.extBut _ _ BU ge,ce⟩
end
section
variable {prog:Program}{w:World}{A:Around}{z TI TO i1 i2 l1 l2:Addr}{n:Nat}{f g:Nat→Value}{S1 S2:Nat→Heap→Prop}
theorem Ui (hh:A.handled=none) (U1:Src prog w i1 l1 n f S1) (U2:Src prog w i2 l2 n g S2) (D:ZipApart z TI TO i1 i2 l1 l2):
  WalksT prog w A z [z,TI,TO,i1,i2,l1,l2] [z,TO,i1,i2] n (fun k vals=>vals= #[f k,g k])
   (fun k h=>IsZip h z TI TO .none∧IsPair h TI (.ref i1) (.ref i2)∧(∃a b,IsPair h TO a b)∧S1 k h∧S2 k h)
   (fun k T h=>IsZip h z TI TO (rawInt T)∧IsPair h TI (.ref i1) (.ref i2)∧(∃a b,IsPair h TO a b)∧S1 (k+1) h∧S2 (k+1) h∧T∉[z,TO,i1,i2]) where
 sub:=fun c hc=>by
  simp only[List.mem_cons,List.not_mem_nil,or_false]at hc ⊢
  rcases hc with rfl |rfl |rfl |rfl<;>simp
 frame:=fun k h h' ⟨a1,a2,⟨a,b,a3⟩,a4,a5⟩ kp=> ⟨kp z (by simp) _ a1,kp TI (by simp) _ a2,⟨a,b,kp TO (by simp) _ a3⟩,U1.bK _ _ _ a4 fun c hc o=>kp c (by rcases hc with rfl |rfl<;>simp) o,U2.bK _ _ _ a5 fun c hc o=>kp c (by rcases hc with rfl |rfl<;>simp) o⟩
 item:=fun k s Q E hk ⟨a1,a2,⟨a,b,a3⟩,a4,a5⟩ q=>by
  have ty:s.TypeIs (.ref z) "zip" :=⟨_,a1,rfl⟩
  have ne:∀{c o},s.heap.get? c=some o→s.heap.objs.size≠c:=fun e=>Nat.ne_of_gt (Heap.lt_size e)
  obtain⟨o1,g1⟩:=U1.here _ _ a4
  obtain⟨o2,g2⟩:=U2.here _ _ a5
  unfold pyNext
  refine wpAny_bind (wpAny_attempt (wpAny_callSpecial?_slot (name:=Str.ofString "__next__") ty F.slot_zip_next (wpAny_call_entry F.slot_zip_next ty F.entry_zip_next (G9 U1 U2 D hk a1 a2 a3 a4 a5 fun h' c1 c2 c3 c4 c5 c6 c7=>wpAny_pure ?_) (F.args_zip_next_1 _))))
  refine q s.heap.objs.size #[f k,g k] h' s.toks rfl (Nat.le_refl _) ⟨_,c5,rfl,_,rfl⟩ ⟨c1,c7 _ _ D.TIz D.TITO D.TIi1 D.TIi2 a2,⟨_,_,c2⟩,c3,c4,fun m=> ?_⟩ fun c o hc e=>c7 c o (fun x=>hc (by simp[x])) (fun x=>hc (by simp[x])) (fun x=>hc (by simp[x])) (fun x=>hc (by simp[x])) e
  simp only[List.mem_cons,List.not_mem_nil,or_false]at m
  rcases m with m |m |m |m
  ·exact ne a1 m
  ·exact ne a3 m
  ·exact ne g1 m
  ·exact ne g2 m
 go:=fun elts kk pos k T s Q E ⟨a1,a2,⟨a,b,a3⟩,a4,a5,_⟩ q=>wpAny_letOwnedTupleGo_zip a1 fun h' z' s'=>by
  have ex:=s'.extBut
  refine q h' ⟨z',ex _ _ D.TIz a2,⟨a,b,ex _ _ D.TOz a3⟩,U1.bK _ _ _ a4 fun c hc o ho=> ?_,U2.bK _ _ _ a5 fun c hc o ho=> ?_⟩ fun c o hc e=>ex _ _ (fun x=>hc (by simp[x])) e
  ·rcases hc with rfl |rfl<;>first |exact ex _ _ D.i1z ho |exact ex _ _ D.l1z ho
  ·rcases hc with rfl |rfl<;>first |exact ex _ _ D.i2z ho |exact ex _ _ D.l2z ho
 apart:=fun k T h ⟨_,_,_,_,_,t⟩=>t
 done:=fun s Q E ⟨a1,a2,⟨a,b,a3⟩,a4,a5⟩ q=>by
  have ty:s.TypeIs (.ref z) "zip" :=⟨_,a1,rfl⟩
  unfold pyNext
  refine wpAny_bind (wpAny_attempt (wpAny_callSpecial?_slot (name:=Str.ofString "__next__") ty F.slot_zip_next (wpAny_call_entry F.slot_zip_next ty F.entry_zip_next (HP hh U1 D a1 a2 a3 a4 fun h' e kp he=> ?_) (F.args_zip_next_1 _))))
  obtain⟨o,ho,hc⟩:=he
  refine wpAny_bind (wpAny_isInstance (T:= "StopIteration") (b:=true) ⟨o,ho,hc⟩ isSubtype_stop (wpAny_pure (q _ s.toks fun c o hc e=> ?_)))
  exact kp c o (fun x=>hc (by simp[x])) (fun x=>hc (by simp[x])) (fun x=>hc (by simp[x])) (fun x=>hc (by simp[x])) e
 self:=fun k s Q E st q=>wpAny_pyIter_zip st.1 q
end
abbrev nM (h:Heap) (l1:Addr):Heap:=h.push {cls:=.type "tuple_iterator",data:=.fields #[.ref l1,.int 0 0]}
abbrev nK (h:Heap) (l1 l2:Addr):Heap:=(nM h l1).push {cls:=.type "tuple_iterator",data:=.fields #[.ref l2,.int 0 0]}
abbrev nJ (h:Heap) (l1 l2:Addr):Heap:=(nK h l1 l2).push {cls:=.type "tuple",data:=.seq #[.ref h.objs.size,.ref (nM h l1).objs.size]}
abbrev nI (h:Heap) (l1 l2:Addr):Heap:=(nJ h l1 l2).push {cls:=.type "tuple",data:=.seq #[.none,.none]}
abbrev jB (h:Heap) (l1 l2:Addr):Heap:=(nI h l1 l2).push {cls:=.type "zip",data:=.fields #[.none,.bool false,.bool false,.ref (nK h l1 l2).objs.size,.ref (nJ h l1 l2).objs.size]}
theorem IY {h:Heap}{l:Addr}{xs:Array Value}(t:IsTup h l xs) (o:Obj):IsTup (h.push o) l xs:=let ⟨u,hu,r⟩:=t;⟨u,Heap.get?_push_of_some _ hu,r⟩
theorem HQ (l1 l2:Addr) (xs ys:Array Value):Meets (Builtin.«zip.__new__» ⟨[.type "zip",.ref l1,.ref l2],[]⟩) (fun _ R s=>IsTup s.heap l1 xs∧IsTup s.heap l2 ys∧R (.ok (.ret (.ref (nI s.heap l1 l2).objs.size))) {s with heap:=jB s.heap l1 l2}):=
 .of_wp fun prog w A R s h=>by
  obtain⟨hp,gg,d,tk,os⟩:=s
  obtain⟨t1,t2,h⟩:=h
  have Ly:=sub_zip
  have T1:IsTup (Shared.heap ⟨hp,gg,d,tk,os⟩) l1 xs:=t1
  have T2:IsTup (Shared.heap ⟨hp.push {cls:=.type "tuple_iterator",data:=.fields #[.ref l1,.int 0 0]},gg,d,tk,os⟩) l2 ys:=IY t2 _
  wp_walk using iter_tuple T1,iter_tuple T2
  exact⟨_,rfl,h⟩
theorem Hi {prog:Program}{w:World}{A:Around}{E:Value→Shared→Prop}{s:Shared}{l1 l2:Addr}{xs ys:Array Value}{Q:Value→Shared→Prop}(t1:IsTup s.heap l1 xs) (t2:IsTup s.heap l2 ys)
    (q:∀h',IsZip h' (s.heap.objs.size+4) (s.heap.objs.size+2) (s.heap.objs.size+3) .none→IsPair h' (s.heap.objs.size+2) (.ref s.heap.objs.size) (.ref (s.heap.objs.size+1))→IsPair h' (s.heap.objs.size+3) .none .none→
      IsTupIter h' s.heap.objs.size l1 0→IsTupIter h' (s.heap.objs.size+1) l2 0→(∀c o,s.heap.get? c=some o→h'.get? c=some o)→Q (.ref (s.heap.objs.size+4)) {s with heap:=h'}):
    wpAny (model prog w) A (call (.type "zip") [.ref l1,.ref l2]) Q E s:=by
  refine callType_new F.called_zip (by decide) (F.typeCall_zip_2 _ _) (F.newCall_zip_2 _ _) (fun obj=>F.args_object_init_3 obj _ _) F.entry_zip_new (HQ l1 l2 xs ys) ⟨t1,t2,?_⟩
  have y1:(nM s.heap l1).objs.size=s.heap.objs.size+1:=Heap.size_push ..
  have y2:(nK s.heap l1 l2).objs.size=s.heap.objs.size+2:=by rw[Heap.size_push,y1]
  have y3:(nJ s.heap l1 l2).objs.size=s.heap.objs.size+3:=by rw[Heap.size_push,y2]
  have y4:(nI s.heap l1 l2).objs.size=s.heap.objs.size+4:=by rw[Heap.size_push,y3]
  have p:∀{h:Heap}{c:Addr}{o u:Obj},h.get? c=some o→(h.push u).get? c=some o:=fun e=>Heap.get?_push_of_some _ e
  have x5:(jB s.heap l1 l2).get? (nI s.heap l1 l2).objs.size=some _:=Heap.get?_push_size _ rfl
  have x4:(jB s.heap l1 l2).get? (nJ s.heap l1 l2).objs.size=some _:=p (Heap.get?_push_size _ rfl)
  have x3:(jB s.heap l1 l2).get? (nK s.heap l1 l2).objs.size=some _:=p (p (Heap.get?_push_size _ rfl))
  have x2:(jB s.heap l1 l2).get? (nM s.heap l1).objs.size=some _:=p (p (p (Heap.get?_push_size _ rfl)))
  have x1:(jB s.heap l1 l2).get? s.heap.objs.size=some _:=p (p (p (p (Heap.get?_push_size _ rfl))))
  show _∧_
  rw[y2,y3,y4]at x5
  rw[y1,y2]at x3
  rw[y3]at x4
  rw[y1]at x2
  rw[y4]
  exact⟨⟨_,x5,rfl⟩,q _ x5 x3 x4 ⟨_,x1,rfl,rfl⟩ ⟨_,x2,rfl,rfl⟩ fun c o x=>p (p (p (p (p x))))⟩
section
variable {X:Cx}{pins:List (Addr×Obj)}{σ:St}{H:Hp}{s:Shared}{fp:List Addr}
theorem HR {T:Addr}{o:HO}(hf:∀b∈fp,aJ X pins H b) (eu:s.heap.objs.size≤T) (De:∀b∈fp,∃o,s.heap.get? b=some o∧∀v,o.data≠.cell v) (b:Addr) (hb:b∈fp):upd H T o b=none:=by
 obtain⟨o,ho,_⟩:=De b hb
 rw[Zh (Nat.ne_of_lt (Nat.lt_of_lt_of_le (Heap.lt_size ho) eu))]
 exact(hf b hb).1
end
theorem WR {z TI TO i1 i2 b:Addr}(hb:b∉[z,TI,TO,i1,i2]):b∉[z,TO,i1,i2]:=fun hm=>hb (by
 simp only[List.mem_cons,List.not_mem_nil,or_false]at hm ⊢
 rcases hm with h |h |h |h
 ·exact .inl h
 ·exact .inr (.inr (.inl h))
 ·exact .inr (.inr (.inr (.inl h)))
 ·exact .inr (.inr (.inr (.inr h))))
theorem wG {z TI TO i1 i2:Addr}{P:Addr→Prop}(h1:P z) (h2:P TI) (h3:P TO) (h4:P i1) (h5:P i2):∀b∈[z,TI,TO,i1,i2],P b:=fun b hb=>by
 simp only[List.mem_cons,List.not_mem_nil,or_false]at hb
 rcases hb with rfl |rfl |rfl |rfl |rfl
 ·exact h1
 ·exact h2
 ·exact h3
 ·exact h4
 ·exact h5
def uv (K:PySem.W.Frag) (l1 l2:Addr):It:=
 ⟨fun i H=> ∃xs ys x y,aj K H l1 xs∧aj K H l2 ys∧xs.length=ys.length∧xs[i]? =some x∧ys[i]? =some y,
  fun i H v H'=> ∃(T:Addr) (x y:V),v=.ref T∧H T=none∧H'=upd H T (.par [x,y])∧∀xs ys,aj K H l1 xs→aj K H l2 ys→xs[i]? =some x∧ys[i]? =some y,
  fun i H=> ∃xs ys,aj K H l1 xs∧aj K H l2 ys∧xs.length=i∧ys.length=i⟩
theorem Ko {P:Program}{w:World}{K:PySem.W.Frag}{elts:List Expr}{kk:Nat}{pos:Pos}(z TI TO i1 i2 l1 l2:Addr) (D:ZipApart z TI TO i1 i2 l1 l2):
  Turn P w K (.Tuple elts kk pos) (uv K l1 l2) [z,TI,TO,i1,i2] z (fun i h=>IsZip h z TI TO .none∧IsPair h TI (.ref i1) (.ref i2)∧(∃a b,IsPair h TO a b)∧IsTupIter h i1 l1 i∧IsTupIter h i2 l2 i) where
 mem:=by simp
 obj:=fun i h st b hb=>by
  obtain⟨a1,a2,⟨u,v,a3⟩,⟨o4,h4,_,d4⟩,⟨o5,h5,_,d5⟩⟩:=st
  exact wG (P:=fun b=> ∃o,h.get? b=some o∧∀v,o.data≠.cell v) ⟨_,a1,fun v z=>by cases z⟩ ⟨_,a2,fun v z=>by cases z⟩ ⟨_,a3,fun v z=>by cases z⟩ ⟨_,h4,fun v z=>by rw[d4]at z;cases z⟩ ⟨_,h5,fun v z=>by rw[d5]at z;cases z⟩ b hb
 keep:=fun i h h' st k=>by
  obtain⟨a1,a2,⟨u,v,a3⟩,a4,a5⟩:=st
  exact⟨k z (by simp) _ a1,k TI (by simp) _ a2,⟨u,v,k TO (by simp) _ a3⟩,(let ⟨o,ho,r⟩:=a4;⟨o,k i1 (by simp) o ho,r⟩),let ⟨o,ho,r⟩:=a5;⟨o,k i2 (by simp) o ho,r⟩⟩
 item:=by
  intro X hP hw hK hc i pins s σ H E I hf st hg
  subst hP hw hK
  obtain⟨xs,ys,x,y,hJ,eK,j6,hx,hy⟩:=hg
  obtain⟨gu,lD,jQ,wU⟩:=I.tuple hJ
  obtain⟨jc,fO,dM,cb⟩:=I.tuple eK
  obtain⟨u,hu,ru⟩:=lD.get hx
  obtain⟨v,hv,rv⟩:=fO.get hy
  have rT:jc.toArray.size=gu.toArray.size:=by
   have e1:=lD.length
   have e2:=fO.length
   simp only[List.size_toArray]
   omega
  have Du:i<gu.toArray.size:=by
   have e1:=(List.getElem?_eq_some_iff.mp hu).1
   simp only[List.size_toArray]
   omega
  have U2:=YL X.prog X.w jc.toArray D.l2i2
  rw[rT]at U2
  have W:=Ui (A:=X.A) (I.ok.hd hc) (YL X.prog X.w gu.toArray D.l1i1) U2 D
  obtain⟨a1,a2,a3,a4,a5⟩:=st
  refine W.item i s _ _ Du ⟨a1,a2,a3,⟨a4,jQ⟩,⟨a5,dM⟩⟩ fun T vals h' tk hP eu DU xp hk=> ⟨_,rfl,W.go elts kk pos i T _ _ _ xp fun tu kQ xE=> ?_⟩
  have rP:gu.toArray.getD i .none=u:=by simp[List.getD_eq_getElem?_getD,hu]
  have CH:jc.toArray.getD i .none=v:=by simp[List.getD_eq_getElem?_getD,hv]
  rw[rP,CH]at hP
  subst hP
  have both:∀b o,b∉[z,TI,TO,i1,i2]→s.heap.get? b=some o→tu.get? b=some o:=fun b o hb q=>xE b o (WR hb) (hk b o (WR hb) q)
  have sV:tu.IsTuple T #[u,v]:=DU.at fun o q=>xE T o (W.apart _ _ _ xp) q
  refine⟨.ref T,upd H T (.par [x,y]),Iu (s:=s) (h':=tu) (tk:=tk) I hf both eu sV ru rv,rfl,⟨T,x,y,rfl,I.ai.fresh eu,rfl,fun as bs ha hb=>by rw[I.nO ha hJ,I.nO hb eK];exact⟨hx,hy⟩⟩,⟨kQ.1,kQ.2.1,kQ.2.2.1,kQ.2.2.2.1.1,kQ.2.2.2.2.1⟩,HR hf eu ?_⟩
  obtain⟨u',v',Fz⟩:=a3
  obtain⟨o4,h4,_,d4⟩:=a4
  obtain⟨o5,h5,_,d5⟩:=a5
  exact wG (P:=fun b=> ∃o,s.heap.get? b=some o∧∀v,o.data≠.cell v) ⟨_,a1,fun v z=>by cases z⟩ ⟨_,a2,fun v z=>by cases z⟩ ⟨_,Fz,fun v z=>by cases z⟩ ⟨_,h4,fun v z=>by rw[d4]at z;cases z⟩ ⟨_,h5,fun v z=>by rw[d5]at z;cases z⟩
 done:=by
  intro X hP hw hK hc i pins s σ H E I hf st hg
  subst hP hw hK
  obtain⟨xs,ys,hJ,eK,hx,hy⟩:=hg
  obtain⟨gu,lD,jQ,wU⟩:=I.tuple hJ
  obtain⟨jc,fO,dM,cb⟩:=I.tuple eK
  have e1:=lD.length
  have e2:=fO.length
  have rT:jc.toArray.size=gu.toArray.size:=by simp only[List.size_toArray];omega
  have U2:=YL X.prog X.w jc.toArray D.l2i2
  rw[rT]at U2
  have W:=Ui (A:=X.A) (I.ok.hd hc) (YL X.prog X.w gu.toArray D.l1i1) U2 D
  have hn:i=gu.toArray.size:=by simp only[List.size_toArray];omega
  obtain⟨a1,a2,a3,a4,a5⟩:=st
  rw[hn]at a4 a5
  exact W.done s _ _ ⟨a1,a2,a3,⟨a4,jQ⟩,⟨a5,dM⟩⟩ fun h' tk hk=> ⟨rfl,Hn (s:=s) (h':=h') (tk:=tk) I hf fun b o hb q=>hk b o (WR hb) q⟩
 self:=fun A i s Q E st h=>wpAny_pyIter_zip st.1 h
section
variable {X:Cx}{elts:List Expr}{kk:Nat}{tp:Pos}
def Cv (K:PySem.W.Frag) (ta:TA):TI:=fun σ H R=>ta σ H fun vs H1=> ∃l1 l2,vs=[.ref l1,.ref l2]∧(∃xs ys,aj K H1 l1 xs∧aj K H1 l2 ys)∧R (uv K l1 l2) H1
theorem GZ {a b:Expr}{ta:TA}{p pos:Pos}(hg:Gl X "zip") (hm:X.mg "zip" =none) (ha:PA X [a,b] ta) (hs:starEach [a,b] X.env=[(false,eval a X.env),(false,eval b X.env)]:=by rfl) (jY:starEach [b] X.env=[(false,eval b X.env)]:=by rfl):
  PI X (.Tuple elts kk tp) (.Call (.Name "zip" p) [a,b] [] pos) (Cv X.K ta):=by
 intro pins s σ H R I h
 refine Call_ (Jp I hg hm PyProof.Rows.Boot.«zip» (PyProof.Rows.callWith_type1 (ao (ha pos pins s σ H _ I h) fun us s1 ⟨vs,H1,I1,r1,q1⟩=> ?_) (by rw[hs,jY]) (by rw[jY];rfl)))
 obtain⟨l1,l2,e,⟨xs,ys,hJ,eK⟩,q⟩:=q1
 subst e
 obtain⟨u,v,rfl,ru,rv⟩:=vals2 r1
 cases ru
 cases rv
 obtain⟨gu,lD,jQ,wU⟩:=I1.tuple hJ
 obtain⟨jc,fO,dM,cb⟩:=I1.tuple eK
 have t1:l1<s1.heap.objs.size:=by obtain⟨o,ho,_⟩:=id jQ;exact Heap.lt_size ho
 have t2:l2<s1.heap.objs.size:=by obtain⟨o,ho,_⟩:=id dM;exact Heap.lt_size ho
 have D:=Kp s1.heap.objs.size l1 l2 t1 t2
 refine Hi jQ dM fun h' b1 b2 b3 b4 b5 hk=>wpAny_pyIter_zip b1 ?_
 have I2:Inv X pins σ H1 {s1 with heap:=h'} :=I1.kept (t':=s1.toks) hk
 refine⟨s1.heap.objs.size+4,[s1.heap.objs.size+4,s1.heap.objs.size+2,s1.heap.objs.size+3,s1.heap.objs.size,s1.heap.objs.size+1],_,_,H1,rfl,I2,
  Ko _ _ _ _ _ l1 l2 D,⟨b1,b2,⟨_,_,b3⟩,b4,b5⟩,fun b hb=> ?_,q⟩
 have xO:s1.heap.objs.size≤b:=by
  simp only[List.mem_cons,List.not_mem_nil,or_false]at hb
  rcases hb with z |z |z |z |z<;>rw[z]<;>first |exact Nat.le_refl _ |exact Nat.le_add_right _ _
 exact I1.kl xO (I1.ai.fresh xO)
end
theorem Ku {K:PySem.W.Frag}{l1 l2:Addr}{xs zs:List V}{g:TG}{tt:TT}{ti:TC}{ys:List V}{σ:St}{H:Hp}{Q:List V→St→Hp→Prop}(hlen:xs.length=zs.length) (Pv:Nat→List V→St→Hp→Prop) (h0:Pv 0 ys σ H)
  (hl:∀i ys σ H,i≤xs.length→Pv i ys σ H→aj K H l1 xs∧aj K H l2 zs)
  (hs:∀i x y T ys σ H,xs[i]? =some x→zs[i]? =some y→H T=none→Pv i ys σ H→g (.ref T) σ (upd H T (.par [x,y])) fun aX H2=>tt aX H2 fun b H3=>if b=true then ti ys aX H3 (Pv (i+1)) else Pv (i+1) ys aX H3)
  (hd:∀ys σ H,Pv xs.length ys σ H→Q ys σ H):fi g tt ti (uv K l1 l2) ys σ H Q:=by
 refine⟨fun i m ys σ H=>m=xs.length - i∧i≤xs.length∧Pv i ys σ H,⟨xs.length,by simp,Nat.zero_le _,h0⟩,?_⟩
 rintro i m ys σ H ⟨rfl,hi,p⟩
 obtain⟨q1,q2⟩:=hl i ys σ H hi p
 by_cases aA:i<xs.length
 ·refine .inr ⟨⟨xs,zs,xs[i],zs[i]'(by omega),q1,q2,hlen,by simp[aA],by simp[hlen▸aA]⟩,Pv (i+1),fun aE af H' p'=> ⟨xs.length - (i+1),by omega,rfl,aA,p'⟩,fun x H' y=> ?_⟩
  obtain⟨T,a,b,e1,e2,e3,e4⟩:=y
  subst e1 e3
  obtain⟨f1,f2⟩:=e4 xs zs q1 q2
  exact hs i a b T ys σ H f1 f2 e2 p
 ·have e:i=xs.length:=by omega
  subst e
  exact .inl ⟨⟨xs,zs,q1,q2,rfl,hlen.symm⟩,hd ys σ H p⟩
end L2
namespace L2
open PySem PySem.Spec PyProof.Rows SeqAt
structure Cells (base:Heap) (scope:Scope) (cl:List (Str×Addr)) (N:List Str) (vs:List V):Prop where
 len:vs.length=N.length
 only:∀z,scope.names.lookup z=some .cell∨scope.names.lookup z=some .free→z∈N
 at_:∀(i:Nat) x v,N[i]? =some x→vs[i]? =some v→scope.names.lookup x=some .free∧∃c u,cl.lookup x=some c∧base.IsCell c (some u)∧RelV v u
 mem:∀z c,cl.lookup z=some c→z∈N
 inj:∀x y c,cl.lookup x=some c→cl.lookup y=some c→x=y
theorem zv {P:Program}{w:World}{K:PySem.W.Frag}{mg:Str→Option Value}{base:Heap}{f:Addr}{q:Str}{params:Arguments}{body:Expr}{scope:Scope}{cl:List (Str×Addr)}{pm:Value}{c:Addr}{ct:Value}{k:Nat}{N:List Str}{ws:List V}{sp:Sp}
    (T:Cells base scope cl N ws) (hk:scope.kind=.function) (DK:scope.isCoroutine=false) (Dz:scope.isGenerator=false) (ip:∀z∈scope.names,z.2≠.cell)
    (cH:∀vs H Q E,sp vs H Q E→vs=[]∧H f=some (i9 f q params body scope cl pm c ct)∧H c=some (eE c q))
    (hb:∀(A:Around) (outer:List Env) (s:Shared) (H:Hp) (Q:VK) (E:XK),bE k (A.deeper (PySem.W.envX q scope s.heap.objs.size f (.ref c) cl))→sp [] H Q E→
      ∃t,PE (gI P w K mg base N q scope f (.ref c) cl A outer s H E) body t∧t (ws.map some) H Q):
    aC P w K mg base (bz P w) (k+1) f (PySem.W.kla_fn "<lambda>" q params body scope cl pm (.ref c) ct) [] sp:=by
  refine⟨fun vs H Q E h=>by rw[(cH vs H Q E h).1];rfl,fun A outer s H args us vs Q E hr e0 sO rv h=> ?_⟩
  obtain⟨rfl,hf,hc⟩:=cH _ _ _ _ h
  have of:s.heap.get? f=some (PySem.W.kla_obj "<lambda>" q params body scope cl pm c ct):=(e0.ai f _ hf).1
  have oc:s.heap.CodeRec (.ref c) q:=(e0.ai c _ hc).1
  have lim:s.heap.NoLimit:=e0.mod.nolimit.keeps fun b o e=> (e0.bs b o e).1
  refine PySem.W.kla_callFunE hr.depth of rfl DK Dz rfl oc (sO _ _ _ _ ?_)
  refine wpAny_newFunctionEnv ip (fun z hz=>by cases rv;exact absurd hz (by simp)) (fun h1 lT C4=> ?_) hk
  have k1:∀b o,s.heap.get? b=some o→h1.get? b=some o:=fun b o e=>C4.extBut b o (Nat.ne_of_lt (Heap.lt_size e)) (Heap.get?_push_of_some _ e)
  refine⟨lim.keeps k1,?_⟩
  show codeAny _ A (.expr body (PySem.W.envX q scope s.heap.objs.size f (.ref c) cl)) _ _
  obtain⟨t,ht,hq⟩:=hb A outer s H Q E (hr.deeper _) h
  have tS:∀{a:Addr}{v:Option Value},base.IsCell a v→h1.IsCell a v∧H a=none:=fun {a v} ⟨o,ho,hd⟩=> ⟨⟨o,k1 _ _ (e0.bs _ _ ho).1,hd⟩,(e0.bs _ _ ho).2⟩
  have yD:∀z,z∈N→∃c u,cl.lookup z=some c∧base.IsCell c (some u):=fun z hz=>by
    obtain⟨i,hi,e⟩:=List.getElem_of_mem hz
    have jj:i<ws.length:=by rw[T.len];exact hi
    obtain⟨_,c,u,h1,h2,_⟩:=T.at_ i z ws[i] (by rw[←e];exact List.getElem?_eq_getElem hi) (List.getElem?_eq_getElem jj)
    exact⟨c,u,h1,h2⟩
  have cells:∀z a,cl.lookup z=some a→∃v,base.IsCell a v:=fun z a hz=>by
    obtain⟨c,u,h1,h2⟩:=yD z (T.mem z a hz)
    rw[hz]at h1;cases h1;exact⟨_,h2⟩
  have I:Inv (gI P w K mg base N q scope f (.ref c) cl A outer s H E) [] (ws.map some) H {s with heap:=h1,toks:=s.toks+(([]:List Str).zip us).length} :=by
    refine⟨⟨e0.mod,hk,rfl,rfl,Nat.le_refl _,fun a b cc h2 h3=> ?_,fun a ha=> ?_,fun a cc hn=>Bool.noConfusion hn,fun _=>hr.hd,Around.frames_deeper e0.frames,.inr ⟨rfl,rfl⟩,fun b z=>absurd (show b∈([]:List Addr) from z) (by simp),e0.bs,e0.fW,fun b _ _ z=>absurd (show b∈([]:List Addr) from z) (by simp),fun b z=>absurd (show b∈([]:List Addr) from z) (by simp),e0.cQ,e0.eU⟩,
      rfl,e0.bare,Un.kept k1,⟨_,lT,fun i z v h2 h3 h4=> ?_⟩,fun z a hz=> ?_,e0.ai.fresh (Nat.le_refl _),fun z a hz=> ?_,fun p hp=>absurd (show p∈([]:List (Addr×Obj)) from hp) (by simp),e0.ai.kept k1,(by rw[List.length_map];exact T.len)⟩
    · have h2:cl.lookup a=some cc:=h2
      have h3:cl.lookup b=some cc:=h3
      exact T.inj _ _ _ h2 h3
    · obtain⟨c,_,h1,_⟩:=yD a (T.only a ha)
      exact⟨c,h1⟩
    · have tm:(ws.map some)[i]? =some (some v):=h3
      rw[List.getElem?_map]at tm
      obtain⟨v',e',EN⟩:=Option.map_eq_some_iff.mp tm
      cases EN
      obtain⟨kx,c,u,h5,h6,h7⟩:=T.at_ i z v h2 e'
      exact⟨u,h7,.inr ⟨.inr kx,c,h5,(tS h6).1⟩⟩
    · obtain⟨v,b⟩:=cells z a hz
      exact⟨v,(tS b).1⟩
    · obtain⟨v,b⟩:=cells z a hz
      exact(tS b).2
  refine PySem.W.kla_codeExpr (wpAny_mono (ht [] _ _ H _ I hq) (fun u s' hs=> ?_) fun e s' hs=>hs)
  obtain⟨v,H',J,r,z⟩:=hs
  exact⟨v,H',J.os,J.bare,J.base,J.ai,r,z⟩
end L2
namespace L2
open PySem PySem.Spec PyProof.Rows
theorem Ks:typeLookup (.type "list") "keys" =pure none:=by rw[typeLookup_type,builtinLookup_eq_fast];kernel_rfl
theorem WJ:entryFor table "dict.update.loop" =some Builtin.«dict.update.loop» :=entryFor_of_tree (by kernel_rfl)
theorem YM:plainId "dict.update.loop" =true:=by decide+kernel
section
variable {prog:Program}{w:World}{A:Around}{E:Value→Shared→Prop}{s:Shared}
theorem Et {a:Addr}{o:Obj}{xs:Array Value}{k:Nat}{Q:Option Value→Shared→Prop}
  (hx:s.heap.get? a=some o) (hc:o.cls=.type "list") (xM:o.data=.seq xs k) (hd:o.dict=none) (hA:A.handled=none)
  (h:∀h' tk e,Heap.NewExcOf s.heap h' e "AttributeError" →Q none {s with heap:=h',toks:=tk}):
  wpAny (model prog w) A (getAttr? (.ref a) "keys") Q E s:=by
 obtain⟨c,fB,dat,sl⟩:=o
 simp only at hc xM hd
 subst hc xM hd
 obtain⟨hp,g,d,tk,os⟩:=s
 have hT:∀uU,(⟨hp,g,d,uU,os⟩:Shared).TypeIs (.ref a) "list" :=fun _=> ⟨_,hx,rfl⟩
 have f1:=sub_AttributeError
 have f3:=F.slot_list_getattribute.lookup
 have f4:=F.slot_list_getattribute.bind (.ref a)
 have f5:=am_list_getattr_none
 unfold getAttr? getAttrBy? getAttrBy
 repeat (any_goals (first |assumption |exact hT _ |((with_reducible show wpAny _ _ (call (Value.builtin "list.__getattribute__") _ _) _ _ _);refine call_meets F.slot_list_getattribute (hT _) am_entry_list_getattribute (F.args_list_getattribute_2 _ _) (meets_getattribute_miss_list a xs k sl "keys" _ Ks (by decide) (by decide)) ⟨hx,hA,fun h' uU e jX=> ?_⟩) |wp_step))
 obtain⟨t',u',he⟩:=jX.there
 show wpAny _ _ (getattributeRaised _ _ _ _ _ _ _) _ _ _
 unfold getattributeRaised
 repeat (any_goals (first |assumption |wp_step))
 exact h _ _ _ jX.of
def jy (h:Heap) (b:Addr) (u v:Value):Prop:=∃o:Obj,h.get? b=some o∧o.cls=.type "tuple" ∧∃n,o.data=.seq #[u,v] n
theorem Jy {b:Addr}{u v:Value}{Q:List Value→Shared→Prop}(hp:jy s.heap b u v) (h:Q [u,v] s):wpAny (model prog w) A (Builtin.Dict.pairItems (.ref b)) Q E s:=by
 obtain⟨o,ho,hc,n,hd⟩:=hp
 unfold Builtin.Dict.pairItems
 refine wpAny_bind (wpAny_typeOf (show s.TypeIs (.ref b) "tuple" from ⟨o,ho,hc⟩) ?_)
 rw[if_pos (by decide)]
 refine wpAny_bind (wpAny_seqItems ho hd ?_)
 exact wpAny_pure h
variable {K:Type} [DecidableEq K] {knd:KeyKind prog w K}
def jx (knd:KeyKind prog w K) (h:Heap) (d it:Addr) (us:List Value) (rs:List (K×Value)):Prop:=Paired (fun u (r:K×Value)=> ∃b k,u=.ref b∧b≠d∧b≠it∧jy h b k r.2∧knd.is r.1 k=true) us rs
theorem jx.keep {h h':Heap}{d it:Addr}{us:List Value}{rs:List (K×Value)}(p:jx knd h d it us rs) (k:∀b o,b≠d→b≠it→h.get? b=some o→h'.get? b=some o):jx knd h' d it us rs:=by
 unfold jx at p ⊢
 induction p with
 |nil=>exact .nil
 |cons a _ ih=>
  obtain⟨b,kk,e,n1,n2,⟨o,ho,r⟩,z⟩:=a
  exact .cons ⟨b,kk,e,n1,n2,⟨o,k _ _ n1 n2 ho,r⟩,z⟩ ih
theorem UP {d it l:Addr}{R:Result→Shared→Prop}{items:Array Value}(pq:d≠it) (xK:l≠d) (xA:l≠it) (hA:A.handled=none):
  ∀(us:List Value) (rs:List (K×Value)) (i:Nat) (z:Int) (t:Tok) (ah:List (K×Value)) (s:Shared),items.toList.drop i=us→jx knd s.heap d it us rs→s.heap.IsListIter it l i→s.heap.IsList l items→s.heap.DictOf knd d ah→ah.length+rs.length≤sizeLine→
   (∀h' t',(∀b o,b≠d→b≠it→s.heap.get? b=some o→h'.get? b=some o)→h'.DictOf knd d (merged ah rs)→R (.ok (.ret .none)) {s with heap:=h',toks:=t'})→
   codeAny (model prog w) A (.builtin "dict.update.loop" ⟨[.ref d,.ref it,.int z t,.none],[]⟩) R s
 | [],rs,i,z,t,ah,s,hu,hp,hit,hl,hd,hz,hR=>by
  cases hp
  refine codeAny_builtin WJ ?_
  rw[Around.under_plainId YM _]
  show wpAny _ A.in1 (pyNext (.ref it) >>=_) _ _ s
  refine wpAny_bind (wpAny_pyNext_list_end (A:=A.in1) hA hit hl ?_ fun h' eb=> ?_)
  ·have:items.toList.length≤i:=List.drop_eq_nil_iff.mp hu
   rw[Array.getElem?_eq_none_iff]
   simpa using this
  ·show wpAny _ A.in1 (Builtin.Dict.addKeywords d [] >>=_) _ _ _
   refine wpAny_bind (wpAny_pure (wpAny_pure ?_))
   exact hR h' s.toks (fun b o _ h2 e=>eb b o h2 e) (hd.extBut eb pq)
 |u::us,rs,i,z,t,ah,s,hu,hp,hit,hl,hd,hz,hR=>by
  cases hp with
  | @cons _ r _ vP a ps=>
   obtain⟨b,k,rfl,Lm,BV,pr,hk⟩:=a
   have aA:i<items.toList.length:=by
    apply Nat.lt_of_not_le
    intro h
    rw[List.drop_eq_nil_of_le h]at hu
    cases hu
   rw[List.drop_eq_getElem_cons aA]at hu
   obtain⟨e1,e2⟩:=List.cons.inj hu
   refine codeAny_builtin WJ ?_
   rw[Around.under_plainId YM _]
   show wpAny _ A.in1 (pyNext (.ref it) >>=_) _ _ s
   refine wpAny_bind (wpAny_pyNext_list_item hit hl (x:=.ref b) ?_ fun h' sr sb=> ?_)
   ·rw[←Array.getElem?_toList,List.getElem?_eq_getElem aA,e1]
   have By:jy h' b k r.2:=by
    obtain⟨o,ho,rest⟩:=pr
    exact⟨o,(sb.2 b BV).trans ho,rest⟩
   have gB:h'.IsList l items:=by
    obtain⟨o,ho,rest⟩:=hl
    exact⟨o,(sb.2 l xA).trans ho,rest⟩
   have jk:h'.DictOf knd d ah:=by
    obtain⟨o,es,ep,ho,rest⟩:=hd
    exact⟨o,es,ep,(sb.2 d pq).trans ho,rest⟩
   show wpAny _ A.in1 (holding [Value.ref b] _ >>=_) _ _ _
   refine wpAny_bind (wpAny_holding ?_)
   refine wpAny_bind (wpAny_tryCatch (Jy By ?_))
   show wpAny _ A.in1 (holding [k,r.2] (dictSet d k r.2)) _ _ _
   refine wpAny_holding ?_
   refine wpAny_dictSet_pairs (s:= {s with heap:=h'}) hk jk (fun h2 hd2 qw=> ?_) (by rw[List.length_cons]at hz;omega)
   refine wpAny_pure ⟨plainId_quiet YM _,?_⟩
   have kp:∀c o,c≠d→c≠it→s.heap.get? c=some o→h2.get? c=some o:=fun c o h1 dB e=> (qw.2 c h1).trans ((sb.2 c dB).trans e)
   refine UP pq xK xA hA us vP (i+1) (z+1) 0 (stored ah r.1 r.2) _ e2 ((show jx knd s.heap d it us vP from ps).keep kp) ?_ ?_ hd2 ?_ ?_
   ·obtain⟨o,ho,rest⟩:=sr
    exact⟨o,(qw.2 it (Ne.symm pq)).trans ho,rest⟩
   ·obtain⟨o,ho,rest⟩:=gB
    exact⟨o,(qw.2 l xK).trans ho,rest⟩
   ·have:=stored_length_le ah r.1 r.2
    rw[List.length_cons]at hz
    omega
   ·intro h3 t3 k3 d3
    exact hR h3 t3 (fun c o h1 dB e=>k3 c o h1 dB (kp c o h1 dB e)) d3
theorem We {o:Addr}{ob:Obj}{items:Array Value}{n:Nat}{rs:List (K×Value)}{Q:Value→Shared→Prop}(ho:s.heap.get? o=some ob) (dm:ob.cls=.type "list") (sH:ob.dict=none) (lX:ob.data=.seq items n) (hA:A.handled=none)
  (hp:Paired (fun u (r:K×Value)=> ∃b k,u=.ref b∧jy s.heap b k r.2∧knd.is r.1 k=true) items.toList rs) (hz:rs.length≤sizeLine)
  (h:∀h' t',h'.DictOf knd s.heap.objs.size (merged [] rs)→(∀b o,s.heap.get? b=some o→h'.get? b=some o)→Q (.ref s.heap.objs.size) {s with heap:=h',toks:=t'}):
  wpAny (model prog w) A (call (.type "dict") [.ref o]) Q E s:=by
 refine callType_codes (Q₁:=fun obj az=>obj=.ref s.heap.objs.size∧az= {s with heap:=s.heap.push {cls:=.type "dict",data:=.dict #[]} }) PySem.F.kt_called_dict (PySem.F.kt_typeCall_dict_1 _) PySem.F.entry_dict_init (kt_code_dict_new _ ⟨rfl,rfl⟩) ?_
 rintro obj az ⟨rfl,rfl⟩
 have oZ:(s.heap.push {cls:=.type "dict",data:=.dict #[]}).DictOf knd s.heap.objs.size []:=Heap.DictOf.new s.heap
 have rZ:=Heap.get?_push_of_some {cls:=.type "dict",data:=.dict #[]} ho
 refine⟨oZ.typeIs,PySem.F.args_dict_init_2 _ _,?_⟩
 unfold Builtin.«dict.__init__»
 refine wpAny_bind ?_
 unfold Builtin.Dict.selfAndRest
 refine wpAny_bind (wpAny_notOrdered_dict oZ.typeIs ?_)
 show wpAny _ _ (pure (s.heap.objs.size,[Value.ref o])) _ _ _
 refine wpAny_pure ?_
 show wpAny _ _ (Builtin.Dict.updateFrom "dict.__init__" s.heap.objs.size (.ref o) [] .none) _ _ _
 unfold Builtin.Dict.updateFrom
 refine wpAny_bind (wpAny_typeOf (T:= "list") ⟨ob,rZ,dm⟩ ?_)
 rw[if_pos (by decide)]
 refine wpAny_bind (Et rZ dm lX sH hA fun h2 t2 e2 x2=> ?_)
 rw[if_pos (by rfl)]
 refine wpAny_bind (wpAny_rule ?_)
 have fS:=x2.keeps _ _ rZ
 refine wpAny_bind (wpAny_pyIter_list (items:=items) ⟨ob,fS,dm,n,lX⟩ ?_)
 have oK:s.heap.objs.size<h2.objs.size:=by
  obtain⟨od,_,_,oY,_⟩:=id oZ
  exact Heap.lt_size (x2.keeps _ _ oY)
 have oM:o<s.heap.objs.size:=Heap.lt_size ho
 have kp:∀b u,s.heap.get? b=some u→(h2.push {cls:=.type "list_iterator",data:=.fields #[.ref o,.int 0 0]}).get? b=some u:=fun b u e=>Heap.get?_push_of_some _ (x2.keeps _ _ (Heap.get?_push_of_some _ e))
 refine wpAny_pure ⟨plainId_quiet YM _,?_⟩
 refine UP (A:=A.in1) (knd:=knd) (items:=items) (l:=o) (d:=s.heap.objs.size) (it:=h2.objs.size) (Nat.ne_of_lt oK) (Nat.ne_of_lt oM) (Nat.ne_of_lt (Nat.lt_trans oM oK)) hA items.toList rs 0 0 0 [] _ List.drop_zero ?_ ?_ ?_ ?_ (by rw[List.length_nil];omega) ?_
 ·unfold jx
  have key:∀{us:List Value}{ts:List (K×Value)},Paired (fun u (r:K×Value)=> ∃b k,u=.ref b∧jy s.heap b k r.2∧knd.is r.1 k=true) us ts→Paired (fun u (r:K×Value)=> ∃b k,u=.ref b∧b≠s.heap.objs.size∧b≠h2.objs.size∧jy (h2.push {cls:=.type "list_iterator",data:=.fields #[.ref o,.int 0 0]}) b k r.2∧knd.is r.1 k=true) us ts:=by
   intro us ts p
   induction p with
   |nil=>exact .nil
   |cons a _ ih=>
    obtain⟨b,k,e,⟨q,hq,rest⟩,z⟩:=a
    have:=Heap.lt_size hq
    exact .cons ⟨b,k,e,Nat.ne_of_lt this,Nat.ne_of_lt (Nat.lt_trans this oK),⟨q,kp _ _ hq,rest⟩,z⟩ ih
  exact key hp
 ·exact⟨_,Heap.get?_push_size _ rfl,rfl,rfl⟩
 ·exact⟨ob,Heap.get?_push_of_some _ fS,dm,n,lX⟩
 ·obtain⟨od,es,ep,oY,rest⟩:=oZ
  exact⟨od,es,ep,Heap.get?_push_of_some _ (x2.keeps _ _ oY),rest⟩
 ·intro h3 t3 k3 d3
  refine⟨rfl,h h3 t3 d3 fun b u e=> ?_⟩
  have:=Heap.lt_size e
  exact k3 b u (Nat.ne_of_lt this) (Nat.ne_of_lt (Nat.lt_trans this oK)) (kp b u e)
end
section
variable {X:Cx}
abbrev mS (H:Hp):List V→List (Key×V)→Prop:=Paired fun y (kv:Key×V)=> ∃b,y=.ref b∧H b=some (.tup [kV kv.1,kv.2])
theorem Wm (hc:X.calm=true:=by rfl):cM X (.type "dict") (fun xs H Q=> ∃(p:Addr) (ys:List V) (ah:List (Key×V)),xs=[.ref p]∧H p=some (.lst ys)∧mS H ys ah∧ah.length≤1000∧∀q,H q=none→Q (.ref q) (upd H q (.dK (eI [] ah)))):=by
 intro pins s σ H xs us Q I r h
 obtain⟨p,ys,ah,rfl,hp,pv,hz,q⟩:=h
 obtain⟨u,rfl,ru⟩:=vals1 r
 cases ru
 obtain⟨aa,rv,⟨ob,n,ho,dm,sH,lX⟩,_⟩:=I.list (ak.of hp)
 have key:∀{ys:List V}{ah:List (Key×V)}{aa:List Value},mS H ys ah→Vals ys aa→∃rs:List (Key×Value),KV ah rs∧Paired (fun u (r:Key×Value)=> ∃b k,u=.ref b∧jy s.heap b k r.2∧(dj X.prog X.w).is r.1 k=true) aa rs:=by
  intro ys ah aa pv
  induction pv generalizing aa with
  |nil=>intro r;cases r;exact⟨[],.nil,.nil⟩
  | @cons y kv ys ah a _ ih=>
   intro r
   cases r with
   | @cons _ u _ us ry rr=>
    obtain⟨rs,k1,k2⟩:=ih rr
    obtain⟨b,rfl,hb⟩:=a
    cases ry
    obtain⟨ps,pr,pt,_⟩:=I.tuple (aj.of hb)
    cases pr with
    | @cons _ pu _ Lk r1 r2=>
     cases r2 with
     | @cons _ pw _ Lj r3 r4=>
      cases r4
      obtain⟨o,ho,bj,m,jk⟩:=pt
      exact⟨(kv.1,pw)::rs,.cons ⟨rfl,r3⟩ k1,.cons ⟨b,pu,rfl,⟨o,ho,bj,m,jk⟩,WF r1⟩ k2⟩
 obtain⟨rs,k1,k2⟩:=key pv rv
 have lr:ah.length=rs.length:=KV.length k1
 refine We (knd:=dj X.prog X.w) (items:=aa.toArray) ho dm sH lX (I.ok.hd hc) (by simpa using k2) (by rw[sizeLine_eq];omega) fun h' t' dd kp=> ?_
 have dA:(eI [] ah).length≤sizeLine:=by
  have h1:=YX ah []
  rw[List.length_nil]at h1
  rw[sizeLine_eq];omega
 exact⟨.ref s.heap.objs.size,_,I.laid (a:=s.heap.objs.size) (o:=.dK (eI [] ah)) (t':=t') kp (Nat.le_refl _) (Gn dA (beq_eq_false_iff_ne.mpr (Ne.symm (Nat.ne_of_lt I.big))) (k1.merge .nil) dd),rfl,q _ I.fresh⟩
end
end L2
namespace PyProof.Rows.dR
open PySem
structure Ord (r:Keyed→Keyed→Bool):Prop where
 L8:∀x y,r x y=true→r y x=false
 Ll:∀x y z,r y x=false→r z y=false→r z x=false
abbrev Pw (r:Keyed→Keyed→Bool) (l:List Keyed):Prop:=l.Pairwise fun x y=>r y x=false
structure JW (r:Keyed→Keyed→Bool) (a b out:Array Keyed) (ia ib:Nat):Prop where
 perm:(out.toList++(a.toList.drop ia++b.toList.drop ib)).Perm (a.toList++b.toList)
 AU:Pw r out.toList
 Fq:∀x∈out.toList,∀y∈a.toList.drop ia++b.toList.drop ib,r y x=false
structure Mb (r:Keyed→Keyed→Bool) (a b:Array Keyed):Prop where
 o:Ord r
 sa:Pw r a.toList
 sb:Pw r b.toList
structure JH (r:Keyed→Keyed→Bool) (a b out:Array Keyed) (na nb:Nat):Prop where
 la:na≤a.size
 lb:nb≤b.size
 perm:((a.toList.take na++b.toList.take nb)++out.toList.reverse).Perm (a.toList++b.toList)
 AU:Pw r out.toList.reverse
 Fq:∀y∈a.toList.take na++b.toList.take nb,∀x∈out.toList,r x y=false
structure CB (mJ:Array Keyed) (κ:SortKind) (lo:Nat) (st cE:SortSt):Prop where
 kind:kindOf cE=κ
 pend:pendingOf cE=pendingOf st
 fail:failedOf cE=failedOf st
 perm:(arrOf cE).Perm mJ
 pre:∀k,k<lo→(arrOf cE)[k]? =(arrOf st)[k]?
def seg (L:List Keyed) (s n:Nat):List Keyed:=(L.drop s).take n
def Runs (r:Keyed→Keyed→Bool) (L:List Keyed):List (Nat×Nat×Nat)→Nat→Nat→Prop
 | [],p,q=>p=q
 |x::rest,p,q=>x.1=p∧1≤x.2.1∧Pw r (seg L x.1 x.2.1)∧Runs r L rest (p+x.2.1) q
section
variable {prog:Program}{w:World}{A:Around}{E:Value→Shared→Prop}{s:Shared}{κ:SortKind}{mJ:Array Keyed}{r:Keyed→Keyed→Bool}
structure RS (mJ:Array Keyed) (κ:SortKind) (r:Keyed→Keyed→Bool) (st:SortSt) (lo:Nat):Prop where
 kind:kindOf st=κ
 perm:(arrOf st).Perm mJ
 fail:failedOf st=none
 runs:Runs r (arrOf st).toList (pendingOf st).toList 0 lo
 le:lo≤mJ.size
end
end PyProof.Rows.dR
namespace PyProof.Rows.dR
open PySem PySem.W
end PyProof.Rows.dR
namespace L2
open PySem PySem.Spec PyProof.Rows PyProof.Rows.dR
abbrev I4:=Int×Int×Int×Int
end L2
namespace PyProof.Rows.dR
open PySem
end PyProof.Rows.dR
namespace L2
open PySem PySem.Spec PyProof.Rows PyProof.Rows.dR
end L2
namespace L2
open PySem PySem.Spec PyProof.Rows
end L2
namespace L2
open PySem PySem.Spec PyProof.Rows SeqAt
section
variable {X:Cx}
def fP:V→Bool
 | .ae=>true
 | .int _=>true
 |_=>false
theorem GH {A:Around}{s:Shared}{x y:V}{u v:Value}(hx:fP x=true) (hy:fP y=true) (ru:RelV x u) (rv:RelV y v):EqAt A s u v (decide (x=y)):=by
 cases x with
 |ae=>
  cases ru
  cases y with
  |ae=>cases rv;exact EqAt.same _
  |int j=>obtain⟨t,rfl⟩:=rv;exact EqAt.none_int j t
  |_=>cases hy
 |int i=>
  obtain⟨t,rfl⟩:=ru
  cases y with
  |ae=>cases rv;exact EqAt.int_none i t
  |int j=>
   obtain⟨t',rfl⟩:=rv
   rw[Ud]
   exact EqAt.int_int i t j t'
  |_=>cases hy
 |_=>cases hx
theorem FJ {A:Around}{s:Shared}{xs ys:List V}{us vs:List Value}(hx:xs.all fP=true) (hy:ys.all fP=true) (r1:Vals xs us) (r2:Vals ys vs):
  ∀j (h1:j<us.toArray.size) (h2:j<vs.toArray.size),EqAt A s us.toArray[j] vs.toArray[j] (decide (xs.getD j .ae=ys.getD j .ae)):=fun j h1 h2=>by
 have l1:=r1.length
 have l2:=r2.length
 have k1:j<xs.length:=by simp at h1;omega
 have k2:j<ys.length:=by simp at h2;omega
 obtain⟨u,hu,ru⟩:=r1.get (List.getElem?_eq_getElem k1)
 obtain⟨v,hv,rv⟩:=r2.get (List.getElem?_eq_getElem k2)
 have e1:us.toArray[j]=u:=by simpa using (List.getElem?_eq_some_iff.mp hu).2
 have e2:vs.toArray[j]=v:=by simpa using (List.getElem?_eq_some_iff.mp hv).2
 rw[e1,e2,List.getD_eq_getElem?_getD,List.getD_eq_getElem?_getD,List.getElem?_eq_getElem k1,List.getElem?_eq_getElem k2]
 exact GH (List.all_eq_true.mp hx _ (List.getElem_mem k1)) (List.all_eq_true.mp hy _ (List.getElem_mem k2)) ru rv
theorem GI {xs ys:List V}{us vs:List Value}(r1:Vals xs us) (r2:Vals ys vs):((List.range (min us.toArray.size vs.toArray.size)).all (fun j=>decide (xs.getD j .ae=ys.getD j .ae))&&us.toArray.size==vs.toArray.size)=decide (xs=ys):=by
 have l1:=r1.length
 have l2:=r2.length
 rw[Bool.eq_iff_iff,Bool.and_eq_true,List.all_eq_true,decide_eq_true_eq,beq_iff_eq,List.size_toArray,List.size_toArray]
 constructor
 ·rintro⟨h,hl⟩
  refine List.ext_getElem (by omega) fun i h1 h2=> ?_
  have:=h i (by rw[List.mem_range];omega)
  simpa[h1,h2] using this
 ·rintro rfl
  exact⟨fun j _=>by simp,by omega⟩
end
end L2
namespace U
open PySem L2 PyProof.Rows
def cu (K:PySem.W.Frag) (H:Hp) (a:Addr) (ns:List Int):Prop:=(∃o,H a=some (.bP o (.lst (ns.map V.int))))∨∃(o:Obj) (aa:Array Value) (n:Nat),K.lookup a=some o∧o.cls=.type "list" ∧o.dict=none∧o.data=.seq aa n∧aa.size≤sizeLine∧Vals (ns.map V.int) aa.toList
theorem cu.sq {K:PySem.W.Frag}{H:Hp}{a:Addr}{ns:List Int}(h:cu K H a ns):ak K H a (ns.map V.int):=by
 rcases h with ⟨o,h⟩ |h
 ·exact .inl (.inr ⟨o,h⟩)
 ·exact .inr h
theorem cu.same {K:PySem.W.Frag}{H H':Hp}{a:Addr}{ns:List Int}(h:cu K H a ns) (s:ag H H'):cu K H' a ns:=by
 rcases h with ⟨o,h⟩ |h
 ·exact .inl ⟨o,s _ _ h⟩
 ·exact .inr h
theorem cu.x {K:PySem.W.Frag}{H H':Hp}{a p:Addr}{ns:List Int}{o:HO}(h:cu K H a ns) (s:au p H H') (hp:H p=some o) (hn:∀ob u,o≠.bP ob u):cu K H' a ns:=by
 rcases h with ⟨ob,h⟩ |h
 ·exact .inl ⟨ob,s _ _ h fun z=>by rw[z,hp]at h;cases h;exact hn _ _ rfl⟩
 ·exact .inr h
end U
namespace U
open PySem L2 PyProof.Rows PySem.Spec
def nG (mg:Str→Option Value) (h:Heap):Prop:=∃bm ob,mg "__builtins__" =some (.ref bm)∧bm≠builtinsNs∧h.get? bm=some ob∧ob.cls=.type "module" ∧ob.dict=some builtinsNs∧ob.data=.plain
theorem I9 {P:Program}{w:World}{K:PySem.W.Frag}{mg mb:Str→Option Value}{k:Nat}{fa a:Addr}{Pts:List Addr}{fd:FuncData}{x:Str}{sp:Sp}{az:Shared}{vs:List Value}{ns:List Int}
  (KX:K.In az.heap) (lT:az.heap.Ns mainGlobals mg) (hb:az.heap.Ns builtinsNs mb) (jm:∀x:Str,x≠ "__name__" →mb x=bootBuiltins x) (Dn:az.heap.NoLimit) (hg:az.gens= #[])
  (ha:az.heap.get? a=some {cls:=.type "list",data:=.seq vs.toArray}) (hi:IntsAre vs ns) (hl:ns.length≤sizeLine) (hr:bE k callerA)
  (eu:∀Pt∈Pts,az.heap.get? Pt=some (PySem.W.tabObj #[])) (Eo:∀Pt∈Pts,∃c,PySem.W.CodeHd az.heap c Pt) (Ee:∀Pt∈Pts,K.lookup Pt=none) (sN:nG mg az.heap)
  (F:∀base:Heap,K.In base→base.Ns mainGlobals mg→nG mg base→aC P w K mg base av k fa fd [x] sp) (DP:∀(s:Shared) (u:Value),BindsTo s fd ⟨[u],[]⟩ [(x,u)])
  (cH:∀H:Hp,cu K H a ns→(∀Pt∈Pts,H Pt=some (.bS #[]))→sp [.ref a] H (fun v _=>v=.bl true) fun _ _ _=>False):
  codeAny (model P w) callerA (.call (.ref fa) ⟨[.ref a],[]⟩) (fun r s'=>r=.ok (.ret (.bool true))∧OldK az.heap s'.heap∧s'.os=az.os∧AllBare s'.gens) az:=by
 have rv:=Wp hi
 have Cg:=hi.length
 have mi:∀{Pt:Addr},Pt∈Pts→az.heap.get? Pt=some {cls:=.none,data:=.fields #[]} :=fun h=>eu _ h
 have xV:a∉Pts:=fun z=>by have h:=mi z;rw[ha]at h;cases h
 have core:∀H:Hp,(∀b,b∉Pts→H b=none∨∃o xs,H b=some (.bP o (.lst xs)))→cu K H a ns→(∀Pt∈Pts,H Pt=some (.bS #[]))→bg P w H az.heap→(∀b,H b≠none→b=a∨b∈Pts)→(H a≠none→K.lookup a=none)→
   codeAny (model P w) callerA (.call (.ref fa) ⟨[.ref a],[]⟩) (fun r s'=>r=.ok (.ret (.bool true))∧OldK az.heap s'.heap∧s'.os=az.os∧AllBare s'.gens) az:=by
  intro H hO hS hP ai hA hK
  have tV:∀{b:Addr}{o:Obj},az.heap.get? b=some o→H b=none→(eO az.heap H).get? b=some o:=fun e n=>UK e n
  have dh:∀{b:Addr}{o:Obj},az.heap.get? b=some o→(∀vs n,o.data≠.seq vs n)→(∀ps,o.data≠.fields ps)→H b=none:=fun {b o} e d1 d2=>by
   cases q:H b with
   |none=>rfl
   |some u=>
    rcases hA b (by rw[q];simp) with e' |e'
    ·subst e'
     rw[ha]at e;cases e
     exact absurd rfl (d1 _ _)
    ·rw[mi e']at e;cases e
     exact absurd rfl (d2 _)
  have oG:∀{b:Addr}{m:Str→Option Value},az.heap.Ns b m→(eO az.heap H).Ns b m:=fun {b m} ⟨o,es,ep,e,d,r⟩=> ⟨o,es,ep,tV e (dh e (fun _ _ z=>by rw[d]at z;cases z) fun _ z=>by rw[d]at z;cases z),d,r⟩
  have xX:K.In (eO az.heap H):=fun b o e=>tV (KX b o e) (by
   cases q:H b with
   |none=>rfl
   |some u=>
    rcases hA b (by rw[q];simp) with e' |e'
    ·subst e'
     rw[hK (by rw[q];simp)]at e;cases e
    ·rw[Ee _ e']at e;cases e)
  have hM:Mod K mg (eO az.heap H):=⟨xX,oG lT,⟨mb,oG hb,jm⟩,let ⟨mc,h1,h2⟩:=Dn;⟨mc,oG h1,h2⟩⟩
  have DO:nG mg (eO az.heap H):=let ⟨bm,ob,b1,b2,b3,b4,b5,b6⟩:=sN;⟨bm,ob,b1,b2,tV b3 (dh b3 (fun _ _ z=>by rw[b6]at z;cases z) fun _ z=>by rw[b6]at z;cases z),b4,b5,b6⟩
  have e0:nv P w K mg (eO az.heap H) callerA [] az H:=⟨rfl,hM,fun b o e=>zx e,Nat.le_of_eq (WH _ _),trivial,fun b hb=>absurd (show b∈([]:List Addr) from hb) (by simp),ai,.of_eq hg⟩
  refine codeAny_mono ((F _ xX (oG lT) DO).run callerA [] az H ⟨[.ref a],[]⟩ [.ref a] [.ref a] _ _ hr e0 (DP az (.ref a)) (.cons rfl .nil) (cH H hS hP)) fun r s' h=> ?_
  cases r with
  |error e=>exact False.elim h
  |ok fl=>
   cases fl with
   |next=>exact False.elim h
   |brk=>exact False.elim h
   |cont=>exact False.elim h
   |ret u=>
    obtain⟨v,H',os,bare,un,xk,r',q⟩:=h
    have q':v=.bl true:=q
    subst q'
    obtain rfl:u=Value.bool true:=r'
    have old:∀b o,az.heap.get? b=some o→asItWas az.heap s'.heap b o:=fun b o e=>by
     cases q:H b with
     |none=>exact .inl (un.keep b o e q (by intro z;exact absurd (show b∈([]:List Addr) from z) (by simp)) (by simp))
     |some u=>
      by_cases jn:b∈Pts
      ·obtain⟨more,z⟩:=un.dr b _ (hP b jn)
       have e2:s'.heap.get? b=some {cls:=.none,data:=.fields (#[]++more)} :=xk b _ z
       rw[mi jn]at e
       cases e
       obtain⟨c,hC⟩:=Eo b jn
       exact .inr (.inl ⟨(hC.tab (eu b jn)).isCodeTable,rfl, #[],more,rfl,e2⟩)
      ·rcases hO b jn with z |⟨ob,xs,z⟩
       ·rw[q]at z;cases z
       ·have z2:=un.dC b ob _ z
        obtain⟨e1,_⟩:=ai b _ z
        obtain⟨e2,_⟩:=xk b _ z2
        rw[e]at e1;cases e1
        exact .inl e2
    exact⟨rfl,⟨old,fun b o e=>un.there b o e (by simp)⟩,os,bare⟩
 cases hk:K.lookup a with
 |some o=>
  have e:=KX a o hk
  rw[ha]at e
  cases e
  refine core (fun b=>if b∈Pts then some (.bS #[]) else none) (fun b n=> .inl (if_neg n)) (.inr ⟨_,vs.toArray,_,hk,rfl,rfl,rfl,by rw[List.size_toArray,Cg];exact hl,by simpa using rv⟩) (fun Pt h=>if_pos h) (fun b u z=> ?_) (fun b z=> ?_) fun z=>absurd (if_neg xV) z
  ·by_cases hb:b∈Pts
   ·have z':=(if_pos hb).symm.trans z
    cases z'
    exact mi hb
   ·have z':=(if_neg hb).symm.trans z
    cases z'
  ·by_cases hb:b∈Pts
   ·exact .inr hb
   ·exact absurd (if_neg hb) z
 |none=>
  refine core (fun b=>if b∈Pts then some (.bS #[]) else if b=a then some (.bP {cls:=.type "list",data:=.seq vs.toArray} (.lst (ns.map V.int))) else none) (fun b n=> ?_) (.inl ⟨{cls:=.type "list",data:=.seq vs.toArray},(if_neg xV).trans (if_pos rfl)⟩) (fun Pt h=>if_pos h) (fun b u z=> ?_) (fun b z=> ?_) fun _=>hk
  ·by_cases hb:b=a
   ·exact .inr ⟨_,_,(if_neg n).trans (if_pos hb)⟩
   ·exact .inl ((if_neg n).trans (if_neg hb))
  ·by_cases hP:b∈Pts
   ·have z':=(if_pos hP).symm.trans z
    cases z'
    exact mi hP
   ·by_cases hb:b=a
    ·have z':=((if_neg hP).trans (if_pos hb)).symm.trans z
     cases z'
     subst hb
     exact⟨ha,by rw[List.length_map];exact hl,vs,_,rv,ha⟩
    ·have z':=((if_neg hP).trans (if_neg hb)).symm.trans z
     cases z'
  ·by_cases hP:b∈Pts
   ·exact .inr hP
   ·by_cases hb:b=a
    ·exact .inl hb
    ·exact absurd ((if_neg hP).trans (if_neg hb)) z
theorem zT {l:PySem.W.OpenLaw}{n k:Nat}{q:Program}{loose:List Str}{XP:(Str→Option Value)→Heap→Prop}{YP:World→Heap→Prop}{d:DefRec}{K:Params→PySem.W.Frag}{sp:PySem.W.Frag→Sp}{x:Str}{Pts:List Addr}
    (hn:l.most=some n) (Dh:n≤sizeLine) (sI:d.params.defaults=[]) (hr:bE k callerA)
    (hY:∀(w:World) (h:Heap),YP w h→(K w.params).In h) (DT:∀(w:World) (h:Heap),YP w h→∀Pt∈Pts,h.get? Pt=some (PySem.W.tabObj #[]))
    (hC:∀(w:World) (h:Heap),(K w.params).In h→∀Pt∈Pts,∃c,PySem.W.CodeHd h c Pt) (Ef:∀w:World,∀Pt∈Pts,(K w.params).lookup Pt=none)
    (F:∀(w:World) (mg:Str→Option Value) (fa:Addr) (h:Heap),(K w.params).In h→h.Ns mainGlobals mg→mg d.name=some (.ref fa)→
      ∃fd:FuncData,(∀(s:Shared) (u:Value),BindsTo s fd ⟨[u],[]⟩ [(x,u)])∧
       ∀base:Heap,(K w.params).In base→base.Ns mainGlobals mg→nG mg base→aC l.prog w (K w.params) mg base av k fa fd [x] (sp (K w.params)))
    (cH:∀(K:PySem.W.Frag) (H:Hp) (a:Addr) (ns:List Int),ns.length≤n→cu K H a ns→(∀Pt∈Pts,H Pt=some (.bS #[]))→sp K [.ref a] H (fun v _=>v=.bl true) fun _ _ _=>False):
    PySem.W.WalkO q loose XP YP l.row.toRowW d [] (fun f vs=>PySem.call f vs):=by
  refine zL.Ft hn sI fun w bI az mg mb fa o pm cd doc a vs ns G Y ho hd bW hmg rX hints hlen hg=> ?_
  have KX:=hY w _ Y
  obtain⟨fd,hb,hF⟩:=F w mg fa _ KX G.T.g hmg
  exact I9 KX G.T.g G.T.b G.T.builtins G.T.nolimit hg rX hints (Nat.le_trans hlen Dh) hr (DT w _ Y) (hC w _ KX) (Ef w) G.T.bmain hF hb (fun H hS hP=>cH (K w.params) H a ns hlen hS hP)
def bw (K:PySem.W.Frag) (x:Str) (st:Stmt):Prop:=∃f fd,PySem.W.nsIn K mainGlobals x=some (some (.ref f))∧aP K x x st f fd
theorem bT {K:PySem.W.Frag}{x:Str}{st:Stmt}{f:Addr}{oc:Value}{od an:Option Addr}{dv:Array (Option Value)}{kV doc pm aq ct:Value}(e1:PySem.W.nsIn K mainGlobals x=some (some (.ref f)))
  (e2:K.lookup f=some ⟨oc,od,.func (PySem.W.fnOf x x (dP st) (bD st) (ar st) .none kV doc pm an aq ct),dv⟩) (e3:PySem.W.codeIn K aq x=true) (e4:PySem.W.keepIn K (.ref f)=true):bw K x st:=⟨f,_,e1,Gp e2 e3 e4⟩
section
variable {P:Program}{w:World}{K:PySem.W.Frag}{mg:Str→Option Value}{base:Heap}
abbrev kD (x:Str) (st:Stmt) (ps:List Str):Prop:=∀(kV doc pm:Value) (an:Option Addr) (aq ct:Value) (us:List Value),us.length=ps.length→bindArgs (PySem.W.fnOf x x (dP st) (bD st) (ar st) .none kV doc pm an aq ct) ⟨us,[]⟩=pure (ps.zip us)
theorem bw.to {h:Heap}{x:Str}{st:Stmt}{ps:List Str}{k:Nat}{sp:Sp}(d:bw K x st) (KX:K.In h) (G:h.Ns mainGlobals mg) (hb:kD x st ps) (ok:∀f fd,aP K x x st f fd→aC P w K mg base av k f fd ps sp):Def P w K mg base k x ps sp:=by
 obtain⟨f,fd,e,F⟩:=d
 exact⟨f,fd,ok f fd F,PySem.W.mg_of KX G e,F.kp,F.binds hb⟩
theorem bw.jD {h:Heap}{x:Str}{st:Stmt}{ps:List Str}{k:Nat}{sp:Sp}(d:bw K x st) (KX:K.In h) (G:h.Ns mainGlobals mg) (hb:kD x st ps) (ok:∀f fd,aP K x x st f fd→aC P w K mg base (bz P w) k f fd ps sp):bJ P w K mg base k x ps sp:=by
 obtain⟨f,fd,e,F⟩:=d
 exact⟨f,fd,ok f fd F,PySem.W.mg_of KX G e,F.kp,F.binds hb⟩
def oH (K:PySem.W.Frag) (x:Str):Bool:=match PySem.W.nsIn K mainGlobals x with |some none=>true |_=>false
theorem Kv {h:Heap}{x:Str}(KX:K.In h) (G:h.Ns mainGlobals mg) (e:oH K x=true):mg x=none:=by
 unfold oH at e
 split at e
 ·rename_i q
  exact PySem.W.mg_none_of KX G q
 ·cases e
end
end U
namespace HS
open PySem PySem.SetTable
abbrev KG (l:List Nat):Prop:=l.Pairwise (· < ·)
abbrev tb (m:Nat):SetTable:= {mask:=m,place:= #[],dummies:= #[],finger:=0,led:=false,moves:=0,plain:=false}
def Fx (m:Nat) (p:Probe):Probe:=(tb m).advance p
def it (m:Nat) (p:Probe):Nat→Probe
 |0=>p
 |k+1=>Fx m (it m p k)
abbrev fr (m i pt:Nat):Probe:= {j:=i,more:=runEnd m i - i,i,perturb:=pt,dummy:=none}
abbrev st (m:Nat) (h:Int):Probe:=fr m (bits h%(m+1)) (bits h)
def lp (m:Nat) (x:Nat×Nat):Nat×Nat:=leap m x.1 x.2
def nx (m i:Nat):Nat:=(i*5+1)%(m+1)
def zE (m:Nat) (BI:Nat→Prop) (p:Probe) (j:Nat):Prop:=∃n,(it m p n).j=j∧∀k<n,BI (it m p k).j
structure T0 (t:SetTable) (es:Array (Int×Value)):Prop where
 sz:t.place.size=es.size
 Lf:KG t.place.toList
 LZ:t.dummies= #[]
 le:∀j∈t.place.toList,j<t.mask+1
 ld:∀z∈t.place.toList.zip es.toList,zE t.mask (·∈t.place.toList) (st t.mask z.2.1) z.1
def zz (m n:Nat):Prop:=(m=7∧n≤4)∨(m=31∧n≤18)∨(m=127∧n≤76)∨(m=511∧n≤306)
structure Mc (m:Nat) (hs:List Int) (owner:Array (Option Nat)):Prop where
 sz:owner.size=m+1
 lt:∀(j k:Nat),owner[j]? =some (some k)→k<hs.length
 at_:∀(k:Nat) (h:Int),hs[k]? =some h→∃j:Nat,owner[j]? =some (some k)∧zE m (fun x=> ∃k,owner[x]? =some (some k)) (st m h) j
 inj:∀(j j' k:Nat),owner[j]? =some (some k)→owner[j']? =some (some k)→j=j'
section
variable {prog:Program}{w:World}{K:Type} [DecidableEq K]
structure HK (knd:HeapKind prog w K):Prop where
 L7:∀{A:Around}{E:Value→Shared→Prop}{s:Shared}{k:K}{a:Addr}{Q:Bool→Shared→Prop},knd.is s.heap k a→(∀b,Q b s)→wpAny (model prog w) A (hashByValue 8 (.ref a)) Q E s
 notCls:∀{A:Around}{E:Value→Shared→Prop}{s:Shared}{k:K}{a:Addr}{Q:Bool→Shared→Prop},knd.is s.heap k a→Q false s→wpAny (model prog w) A (ofAClassStatement 8 (.ref a)) Q E s
 Lv:∀{h h':Heap}{k:K}{a d:Addr}{o:Obj}{es ep t},knd.is h k a→h.get? d=some o→o.data=.set es ep t→Heap.SameBut d h h'→knd.is h' k a
variable {knd:HeapKind prog w K}{A:Around}{E:Value→Shared→Prop}{s:Shared}
def zK (knd:HeapKind prog w K) (h:Heap) (k:K) (e:Int×Value):Prop:=∃a,e.2=.ref a∧knd.is h k a∧e.1=knd.hash k
end
section
variable {prog:Program}{w:World}{K:Type} [DecidableEq K] {knd:HeapKind prog w K}{A:Around}{E:Value→Shared→Prop}{s:Shared}
structure Ma (knd:HeapKind prog w K) (h:Heap) (S:Addr) (ks:List K) (o:Obj) (es:Array (Int×Value)) (ep:Nat) (t:SetTable):Prop where
 ho:h.get? S=some o
 ex:o.ExactSet
 hd:o.data=.set es ep t
 T:T0 t es
 room:zz t.mask es.size
 el:∀e∈es.toList,∃k∈ks,zK knd h k e
 all:∀k∈ks,∃e∈es.toList,zK knd h k e
 sz:es.size=ks.length
end
end HS
namespace HS
open PySem PySem.SetTable PySem.Spec
section
variable {K:Type} [DecidableEq K]
def met (val:Nat→K):Nat→List K
 |0=> []
 |n+1=>if val n∈met val n then met val n else met val n++[val n]
variable {prog:Program}{w:World}{kk:KeyKind prog w K}{A:Around}{E:Value→Shared→Prop}{s:Shared}{R:Result→Shared→Prop}{I:Addr}{fp wr:List Addr}{G:Array GenState→Array GenState→Prop}{n:Nat}{P:Nat→Value→Prop}{St:Nat→Shared→Prop}
end
end HS
namespace L2
open PySem PySem.Spec PyProof.Rows
end L2
namespace L2
open PySem PySem.Spec PyProof.Rows SeqAt
end L2
namespace L2
open PySem PySem.Spec PyProof.Rows
end L2
namespace L2
open PySem PySem.Spec PyProof.Rows SeqAt
section
variable {X:Cx}
theorem YY {a b:String} :cM X (.builtin "isinstance") (fun xs H Q=> ∃(x:V) (t:Addr) (T:Value) (r:Bool),xs=[x,.ref t]∧aj X.K H t [.ty a,.ty b]∧((∃i,x=.int i∧T=.type "int")∨(∃k,x=.bl k∧T=.type "bool")∨(x=.ae∧T=.type "NoneType")∨(∃l ys,x=.ref l∧H l=some (.lst ys)∧T=.type "list")∨∃l ys,x=.ref l∧H l=some (.tup ys)∧T=.type "tuple")∧
  PySem.W.kitAny X.K T [.type a,.type b]=some r∧Q (.bl r) H):=by
 intro pins s σ H xs us Q I rv h
 obtain⟨x,t,T,r,rfl,hq,hx,hk,q⟩:=h
 obtain⟨u,v,rfl,ru,rv⟩:=vals2 rv
 cases rv
 obtain⟨aa,rt,pl,hz⟩:=I.tuple hq
 cases rt with
 |cons r1 r2=>
  cases r2 with
  |cons r3 r4=>
   cases r4
   cases r1
   cases r3
   obtain⟨o,ho,hc,n,hd⟩:=id pl
   obtain⟨cls,dd,dt,sl⟩:=o
   replace hc:cls=.type "tuple" :=hc
   replace hd:dt=.seq [Value.type a,Value.type b].toArray n:=hd
   subst hc hd
   rcases hx with ⟨i,rfl,rfl⟩ |⟨k,rfl,rfl⟩ |⟨rfl,rfl⟩ |⟨l,ys,rfl,hl,rfl⟩ |⟨l,ys,rfl,hl,rfl⟩
   ·obtain⟨tk,rfl⟩:=ru
    exact PySem.W.kia_tup PySem.W.kitx_int I.bC True.intro ho hk (fun z=>nomatch z) fun tk=> ⟨.bl r,H,I.tok _,rfl,q⟩
   ·cases ru
    exact PySem.W.kia_tup PySem.W.kitx_bool I.bC True.intro ho hk (fun z=>nomatch z) fun tk=> ⟨.bl r,H,I.tok _,rfl,q⟩
   ·cases ru
    exact PySem.W.kia_tup PySem.W.kitx_none I.bC True.intro ho hk (fun z=>nomatch z) fun tk=> ⟨.bl r,H,I.tok _,rfl,q⟩
   ·cases ru
    obtain⟨_,_,n,_,h1⟩:=(show ba X.prog X.w H s.heap l (.lst ys) from I.ai l _ hl)
    exact PySem.W.kia_tup PySem.W.kitx_list I.bC ⟨_,h1,rfl⟩ ho hk (fun z=>nomatch z) fun tk=> ⟨.bl r,H,I.tok _,rfl,q⟩
   ·cases ru
    obtain⟨_,_,_,p,_⟩:=(show ba X.prog X.w H s.heap l (.tup ys) from I.ai l _ hl)
    obtain⟨o,h1,h2,_⟩:=p
    exact PySem.W.kia_tup PySem.W.kitx_tuple I.bC ⟨o,h1,h2⟩ ho hk (fun z=>nomatch z) fun tk=> ⟨.bl r,H,I.tok _,rfl,q⟩
end
end L2
namespace L2
open PySem PySem.Spec PyProof.Rows
end L2
namespace L2
open PySem PySem.Spec PyProof.Rows PyProof.Rows.dR
end L2
namespace L2
open PySem PySem.Spec PyProof.Rows
end L2
namespace PyProof.Rows.dR
open PySem
end PyProof.Rows.dR
namespace L2
open PySem PySem.Spec PyProof.Rows PyProof.Rows.dR
end L2
namespace L2
open PySem PySem.Spec PyProof.Rows
structure Mf (X:Cx) (N':List Str) (ts:Nat) (aM:List Nat) (scope:Scope) (zc:Str):Prop where
 kind:scope.kind=.function
 one:(scope.names.filter fun y=>y.2==.cell)=[(zc,.cell)]
 own:scope.names.lookup zc=some .cell
 names:∀y∈scope.names,y.2=.local→scope.names.lookup y.1=some .local
 free:∀y∈scope.names,y.2=.free→X.env.kindOf y.1=some .cell∨X.env.kindOf y.1=some .free
 nd:N'.Nodup
 len:N'.length=ts+aM.length
 yw:∀k j,aM[k]? =some j→∃x,N'[ts+k]? =some x∧X.N[j]? =some x∧X.env.kindOf x≠some .local∧scope.names.lookup x=some .free
end L2
namespace L2
open PySem PySem.Spec PyProof.Rows SeqAt
def KL (A:Around) (s:Shared) (y x:Value) (b:Bool):Prop:=
 ∀(prog:Program) (w:World) (E:Value→Shared→Prop) (Q:Value→Shared→Prop),Q (.bool b) s→wpAny (model prog w) A (richCompare .Lt y x) Q E s
inductive kB (A:Around) (s:Shared):List Value→List Value→Bool→Prop where
 |nn:kB A s [] [] false
 |nc {y:Value}{ys:List Value} :kB A s [] (y::ys) true
 |cn {x:Value}{xs:List Value} :kB A s (x::xs) [] false
 |eq {x y:Value}{xs ys:List Value}{r:Bool} :EqAt A s x y true→kB A s xs ys r→kB A s (x::xs) (y::ys) r
 |lt {x y:Value}{xs ys:List Value}{r:Bool} :EqAt A s x y false→KL A s x y r→kB A s (x::xs) (y::ys) r
section
open PySem.AutoSeq1 (wpAny_loadPart')
open PySem.MeetsSeq PySem.MeetsSeq2 PySem.MeetsSeq3 PySem.SeqRoads2
end
end L2
namespace L2
open PySem PySem.Spec PyProof.Rows
end L2
namespace L2
open PySem PySem.Spec PyProof.Rows PyProof.Rows.dR SeqAt
section
variable {X:Cx}
theorem UO {pins:List (Addr×Obj)}{σ:St}{H:Hp}{s:Shared}{A:Around}{a b:Addr}{xs ys:List V}(I:Inv X pins σ H s) (hu:A.units<cLine) (ha:aj X.K H a xs) (hb:aj X.K H b ys) (hx:xs.all fP=true) (hy:ys.all fP=true):EqAt A s (.ref a) (.ref b) (decide (xs=ys)):=by
 by_cases e:a=b
 ·subst e
  rw[I.nO ha hb,decide_eq_true rfl]
  exact EqAt.same _
 ·obtain⟨us,r1,p1,_⟩:=I.tuple ha
  obtain⟨vs,r2,p2,_⟩:=I.tuple hb
  have z:=RcAt.tuples (A:=A) (s:=s) p1 p2 hu (FJ hx hy r1 r2)
  rw[GI r1 r2]at z
  exact EqAt.of_refs e z
theorem yF {u v:Value}{aa:List Value}{x y:V}(r:Vals [x,y] aa) (ru:∀w,RelV x w→w=u) (rv:∀w,RelV y w→w=v):aa=[u,v]:=by
 cases r with
 |cons r1 r2=>
  cases r2 with
  |cons r3 r4=>
   cases r4
   rw[ru _ r1,rv _ r3]
def Bs (K:PySem.W.Frag):R2:=fun x y H Q=> ∃(a b c d c' d':Addr) (xs ys ff aE:List V),x=.ref a∧y=.ref b∧aj K H a [.ref c,.ref d]∧aj K H b [.ref c',.ref d']∧aj K H c xs∧aj K H d ys∧aj K H c' ff∧aj K H d' aE∧
 xs.all fP=true∧ys.all fP=true∧ff.all fP=true∧aE.all fP=true∧Q (.bl (decide (xs=ff∧ys=aE))) H
theorem FY (hu:X.A.units+1<cLine):aW X (compareOp .Eq) (Bs X.K):=by
 intro pins s σ H x y u v Q I rx ry h
 obtain⟨a,b,c,d,c',d',xs,ys,ff,aE,rfl,rfl,ha,hb,hc,hd,bj,jk,h1,h2,h3,h4,q⟩:=h
 cases rx
 cases ry
 obtain⟨us,r1,p1,_⟩:=I.tuple ha
 obtain⟨vs,r2,p2,_⟩:=I.tuple hb
 obtain rfl:=yF (u:=.ref c) (v:=.ref d) r1 (fun _ z=>z) (fun _ z=>z)
 obtain rfl:=yF (u:=.ref c') (v:=.ref d') r2 (fun _ z=>z) (fun _ z=>z)
 refine eq_tupleAt (e:=fun j=>if j=0 then decide (xs=ff) else decide (ys=aE)) p1 p2 (Nat.lt_of_succ_lt hu) (fun j gG dB=> ?_) ?_
 ·have hj:j<2:=gG
  match j,hj with
  |0,_=>exact UO I hu hc bj h1 h3
  |1,_=>exact UO I hu hd jk h2 h4
 ·have e2:((List.range (min [Value.ref c,Value.ref d].toArray.size [Value.ref c',Value.ref d'].toArray.size)).all (fun j=>if j=0 then decide (xs=ff) else decide (ys=aE))&&[Value.ref c,Value.ref d].toArray.size==[Value.ref c',Value.ref d'].toArray.size)=decide (xs=ff∧ys=aE):=by
   show((List.range 2).all (fun j=>if j=0 then decide (xs=ff) else decide (ys=aE))&&2==2)=_
   rw[Bool.eq_iff_iff]
   simp[List.range_succ]
  rw[e2]
  exact⟨.bl _,H,I,rfl,q⟩
end
end L2
namespace HS
open PySem PySem.SetTable PySem.Spec
structure KC (prog:Program) (w:World) (h:Heap) (S:Addr) (ns:List Int) (o:Obj) (es:Array (Int×Value)) (ep:Nat) (t:SetTable):Prop where
 ho:h.get? S=some o
 ex:o.ExactSet
 hd:o.data=.set es ep t
 T:T0 t es
 R:zz t.mask es.size
 pl:t.plain=true
 ld:t.led= !(w.params.followText "set-order")
 el:ElemsOf (intKind prog w) es.toList
 vs:PyProof.Rows.IntsAre (es.toList.map (·.2)) ns
def KO (prog:Program) (w:World) (h:Heap) (S:Addr) (m:Int→Prop) (c:Nat):Prop:=∃ns o es ep t,KC prog w h S ns o es ep t∧ns.Nodup∧ns.length≤c∧∀k,k∈ns↔m k
end HS
namespace HS
open PySem PySem.SetTable PySem.Spec L2
end HS
namespace L2
open PySem PySem.Spec PyProof.Rows
end L2
namespace HS
open PySem PySem.SetTable PySem.Spec
end HS
namespace L2.SC
open PySem PySem.Spec PyProof.Rows
def AccAt (P:Program) (w:World) (h:Heap) (D:Addr) (ys:List V):Prop:=∃ks:List Int,ys=ks.map V.int∧(∀k∈ks,0≤k∧k<63)∧HS.KO P w h D (·∈ks) 63
def fb (Y:Cx) (D:Addr) (m:Sem PySem.Fin→Sem PySem.Fin) (t:TC):Prop:=
 ∀(pins:List (Addr×Obj)) (s:Shared) (σ:St) (H:Hp) (ys:List V) (Q:List V→St→Hp→Prop) (k:Sem PySem.Fin) (R:PySem.Fin→Shared→Prop),Inv Y pins σ H s→aJ Y pins H D→AccAt Y.prog Y.w s.heap D ys→t ys σ H Q→
  (∀s' aE af H',Inv Y pins af H' s'→aJ Y pins H' D→AccAt Y.prog Y.w s'.heap D aE→Q aE af H'→wpAny (model Y.prog Y.w) Y.A k R (fun _ _=>False) s')→wpAny (model Y.prog Y.w) Y.A (m k) R (fun _ _=>False) s
section
variable {Y:Cx}{D:Addr}
def nU (te:TE):TC:=fun ys σ H Q=>te σ H fun v H1=> ∃k:Int,v=.int k∧0≤k∧k<63∧Q (ys++[v]) σ H1
def inner (elt:Expr) (gens:List Comprehension) (scope:Scope) (pos:Pos) (d:Nat) (acc:Value) (env:Env) (k:Sem PySem.Fin):Sem PySem.Fin:=
 match gens[d+1]? with
 |some g'=>eval g'.iter env >>=fun x=>standAt g'.iter.pos >>=fun _=>foldedSetIterable g'.iter env x >>=fun x=>holding [x] (pyIter x) >>=fun eJ=>
  runOwn (.compStart (.SetComp elt gens scope pos) (d+1) eJ acc env) env >>=fun _=>k
 |none=> (do let v ←eval elt env;standAt elt.pos;let _ ←call (.builtin "set.add") [acc,v]) >>=fun _=>k
end
end L2.SC
namespace L2
open PySem PySem.Spec PyProof.Rows
end L2
namespace L2
open PySem PySem.Spec PyProof.Rows PyProof.Rows.dR
section
variable {X:Cx}
theorem Wl {a b:String} :cM X (.builtin "isinstance") (fun xs H Q=> ∃(x:Str) (t:Addr) (r:Bool),xs=[.str x,.ref t]∧aj X.K H t [.ty a,.ty b]∧PySem.W.kitAny X.K (.type "str") [.type a,.type b]=some r∧Q (.bl r) H):=by
 intro pins s σ H xs us Q I rv h
 obtain⟨x,t,r,rfl,hq,hk,q⟩:=h
 obtain⟨u,v,rfl,ru,rv⟩:=vals2 rv
 cases rv
 obtain⟨aa,rt,pl,hz⟩:=I.tuple hq
 cases rt with
 |cons r1 r2=>
  cases r2 with
  |cons r3 r4=>
   cases r4
   cases r1
   cases r3
   obtain⟨o,ho,hc,n,hd⟩:=id pl
   obtain⟨cls,dd,dt,sl⟩:=o
   replace hc:cls=.type "tuple" :=hc
   replace hd:dt=.seq [Value.type a,Value.type b].toArray n:=hd
   subst hc hd
   obtain⟨tk,rfl⟩:=ru
   exact PySem.W.kia_tup PySem.W.kitx_str I.bC True.intro ho hk (fun z=>nomatch z) fun tk=> ⟨.bl r,H,I.tok _,rfl,q⟩
end
end L2
namespace L2
open PySem PySem.Spec PyProof.Rows
theorem Wn:∀{ws:List Str}{aa:List Value},Vals (ws.map V.str) aa→∃l:List (Str×Tok),aa=strValues l∧l.map (·.1)=ws
 | [],_,.nil=> ⟨[],rfl,rfl⟩
 |w::ws,_,.cons h r=>by
  obtain⟨t,rfl⟩:=h
  obtain⟨l,e1,e2⟩:=Wn r
  refine⟨(w,t)::l,?_,by rw[List.map_cons,e2]⟩
  rw[e1]
  rfl
theorem Wr:∀(l:List (Str×Tok)),Vals ((l.map (·.1)).map V.str) (strValues l)
 | []=> .nil
 |p::l=> .cons ⟨p.2,rfl⟩ (Wr l)
section
variable {X:Cx}
theorem zw:mV X "str.join" (fun x xs H Q=> ∃(sep:Str) (p:Addr) (ws:List Str),x=.str sep∧xs=[.ref p]∧ak X.K H p (ws.map V.str)∧JoinOk sep ws=true∧Q (.str (Txt.join sep ws)) H):=by
 intro pins s σ H x xs v us Q I rx rv h
 obtain⟨sep,p,ws,rfl,rfl,hp,ai,q⟩:=h
 obtain⟨t,rfl⟩:=rx
 obtain⟨u,rfl,ru⟩:=vals1 rv
 cases ru
 obtain⟨aa,ri,pl,_⟩:=I.list hp
 obtain⟨l,e1,e2⟩:=Wn ri
 subst e1
 exact SC.join pl.isList e2 ai fun t' k=> ⟨.str _,H,I.tok _,⟨_,rfl⟩,q⟩
theorem WC:mV X "str.removesuffix" (fun x xs H Q=> ∃z y:Str,x=.str z∧xs=[.str y]∧z.length≤sizeLine∧Q (.str (Txt.removesuffix z y)) H):=by
 intro pins s σ H x xs v us Q I rx rv h
 obtain⟨z,y,rfl,rfl,hz,q⟩:=h
 obtain⟨t,rfl⟩:=rx
 obtain⟨u,rfl,t',rfl⟩:=vals1 rv
 exact SC.removesuffix (fun t' k=> ⟨.str _,H,I.tok _,⟨_,rfl⟩,q⟩) hz
theorem YB:mV X "str.split" (fun x xs H Q=> ∃z y:Str,x=.str z∧xs=[.str y]∧(y.length==0)=false∧z.length≤sizeLine∧(Builtin.Str.partsBetween z (Builtin.Str.occurrences z y 0 z.length (z.length+1)) y.length).length≤sizeLine∧
  ∀D,H D=none→Q (.ref D) (upd H D (.lst ((Txt.split z y).map V.str)))):=by
 intro pins s σ H x xs v us Q I rx rv h
 obtain⟨z,y,rfl,rfl,hy,hz,hn,q⟩:=h
 obtain⟨t,rfl⟩:=rx
 obtain⟨u,rfl,t',rfl⟩:=vals1 rv
 have fin:∀(l:List (Str×Tok)) (k:Nat),l.map (·.1)=Txt.split z y→l.length≤sizeLine→EP X pins σ Q (.ref s.heap.objs.size) {s with heap:=s.heap.push {cls:=.type "list",data:=.seq (strValues l).toArray},toks:=k} :=fun l k e hl=>by
  have hv:=Wr l
  rw[e]at hv
  refine⟨.ref s.heap.objs.size,_,I.laid (t':=k) (a:=s.heap.objs.size) (o:=.lst ((Txt.split z y).map V.str)) (fun b o e=>Heap.get?_push_of_some _ e) (Nat.le_refl _) ⟨by rw[←e,List.length_map,List.length_map];exact hl,strValues l,0,hv,Heap.get?_push_size _ rfl⟩,rfl,q _ (I.ai.fresh (Nat.le_refl _))⟩
 cases c1:(decide (z.length<y.length)||decide (Builtin.Str.strKind z<Builtin.Str.strKind y)) with
 |true=>
  refine call_meets F.slot_str_split (typeIs_str s z t) F.entry_str_split (F.args_str_split_2 _ _) (meets_str_split_cannot_occur z y t t' c1) ?_
  exact fin [(z,t)] s.toks (by unfold Txt.split;rw[if_pos c1];rfl) (by show 1≤sizeLine;decide)
 |false=>
  cases c2:(Builtin.Str.occurrences z y 0 z.length (z.length+1)).isEmpty with
  |true=>
   refine call_meets F.slot_str_split (typeIs_str s z t) F.entry_str_split (F.args_str_split_2 _ _) (meets_str_split_not_found z y t t' c1 hy c2) ?_
   exact fin [(z,t)] s.toks (by unfold Txt.split;rw[if_neg (by rw[c1];decide),if_pos c2];rfl) (by show 1≤sizeLine;decide)
  |false=>
   refine call_meets F.slot_str_split (typeIs_str s z t) F.entry_str_split (F.args_str_split_2 _ _) (meets_str_split_sep z y t t' c1 hy c2 hz hn) ?_
   have e:Txt.split z y=Builtin.Str.partsBetween z (Builtin.Str.occurrences z y 0 z.length (z.length+1)) y.length:=by unfold Txt.split;rw[if_neg (by rw[c1];decide),if_neg (by rw[c2];decide)]
   have z1:=numbered_texts s.toks (Builtin.Str.partsBetween z (Builtin.Str.occurrences z y 0 z.length (z.length+1)) y.length)
   have:=fin (numbered s.toks (Builtin.Str.partsBetween z (Builtin.Str.occurrences z y 0 z.length (z.length+1)) y.length)) (s.toks+(Builtin.Str.partsBetween z (Builtin.Str.occurrences z y 0 z.length (z.length+1)) y.length).length) (z1.trans e.symm) (by have:=congrArg List.length z1;rw[List.length_map]at this;rw[this];exact hn)
   rw[←strsFrom_eq]at this
   exact this
end
theorem UZ {prog:Program}{w:World}{A:Around}(hh:A.handled=none) {I l:Addr}(cK:l≠I) (items:Array Value) (k:Nat) (hk:k≤items.size):
  WalksS prog w A I [I,l] [I] (fun a b=>b=a) (items.size - k) (fun j v=>items[k+j]? =some v) (fun j s=>s.heap.IsListIter I l (k+j)∧s.heap.IsList l items) where
 sub:=fun b hb=>List.mem_cons.mpr (.inl (List.mem_singleton.mp hb))
 grefl:=fun _=>rfl
 gtrans:=fun _ _ _ p q=>q.trans p
 frame:=fun i s h' tk st _ kp=> ⟨st.1.at fun o e=>kp I (by simp) o e,st.2.at fun o e=>kp l (by simp) o e⟩
 item:=fun i s Q E hi st hQ=>by
  have hx:items[k+i]? =some items[k+i]:=Array.getElem?_eq_getElem (by omega)
  refine wpAny_pyNext_list_item st.1 st.2 hx fun h' sr xa=> ?_
  refine hQ _ {s with heap:=h'} hx ⟨sr,st.2.extBut xa.extBut cK⟩ ⟨fun b o hb e=>xa.extBut b o (fun z=>hb (List.mem_singleton.mpr z)) e,rfl,rfl,rfl,Nat.le_refl _⟩
 done:=fun s Q E st hQ=>by
  refine wpAny_pyNext_list_end hh st.1 st.2 (by rw[Array.getElem?_eq_none_iff];omega) fun h' he=> ?_
  exact hQ {s with heap:=h'} ⟨fun b o hb e=>he b o (fun z=>hb (List.mem_singleton.mpr z)) e,rfl,rfl,rfl,Nat.le_refl _⟩
 self:=fun _ _ _ _ st hQ=>wpAny_pyIter_listiter st.1 hQ
theorem IZ {items:List Value}{u:Value}{acc:Array Value}{n:Nat}(hn:n=(u::items).toArray.size - 1) (h:ItemsOf (fun j v=> (u::items).toArray[1+j]? =some v) acc n):acc.toList=items:=by
 obtain⟨h1,h2⟩:=h
 have hs:acc.size=items.length:=by rw[h1,hn];simp
 refine List.ext_getElem? fun j=> ?_
 rw[Array.getElem?_toList]
 by_cases hj:j<acc.size
 ·have e:=h2 j acc[j] (Array.getElem?_eq_getElem hj)
  rw[Array.getElem?_eq_getElem hj,←e,Nat.add_comm]
  simp
 ·rw[Array.getElem?_eq_none_iff.mpr (by omega),List.getElem?_eq_none_iff.mpr (by omega)]
theorem Ul {prog:Program}{w:World}{A:Around}{E:Value→Shared→Prop}{s:Shared}{l:Addr}{u:Value}{rest:List Value}{Q:List Value→Shared→Prop}(hh:A.handled=none) (hl:s.heap.IsList l (u::rest).toArray) (hz:rest.length≤sizeLine)
  (hQ:∀(h':Heap) (tk:Nat),(∀b o,s.heap.get? b=some o→h'.get? b=some o)→Q [u,.ref h'.objs.size] {s with heap:=h'.push {cls:=.type "list",data:=.seq rest.toArray},toks:=tk}):
  wpAny (model prog w) A (unpackItems (.ref l) 2 (some 1)) Q E s:=by
 have aA:l≠s.heap.objs.size:=by obtain⟨o,ho,_⟩:=hl;exact Nat.ne_of_lt (Heap.lt_size ho)
 unfold unpackItems
 refine wpAny_bind ?_
 unfold notIterableAtAll
 refine wpAny_bind (wpAny_specialOf hl.typeIs slot_list_iter.lookup (wpAny_pure ?_))
 simp only[Bool.false_eq_true,if_false]
 refine wpAny_bind (wpAny_holding (wpAny_pyIter_list hl ?_))
 refine wpAny_bind (wpAny_holding ?_)
 show wpAny _ _ (pyNext (.ref s.heap.objs.size) >>=_) _ _ _
 have ji:({s with heap:=s.heap.push {cls:=.type "list_iterator",data:=.fields #[.ref l,.int 0 0]} } :Shared).heap.IsList l (u::rest).toArray:=hl.push _
 refine wpAny_bind (wpAny_pyNext_list_item (i:=0) (x:=u) ⟨_,Heap.get?_push_size _ rfl,rfl,rfl⟩ ji rfl fun h1 xG oV=> ?_)
 refine wpAny_bind (wpAny_holding ?_)
 show wpAny _ _ (pure []) _ _ _
 refine wpAny_pure (wpAny_pure ?_)
 rw[if_neg (by show ¬(1<1);decide)]
 have gA:=ji.extBut oV.extBut aA
 have k1:∀b o,s.heap.get? b=some o→h1.get? b=some o:=fun b o e=>oV.extBut b o (Nat.ne_of_lt (Heap.lt_size e)) (Heap.get?_push_of_some _ e)
 have W:=UZ (prog:=prog) (w:=w) (A:=A.in1) hh aA (u::rest).toArray 1 (by simp)
 refine wpAny_bind (wpAny_holding (wpAny_collect_iter (T:= "list_iterator") (.inr (.inr (.inl rfl))) W (fun i s' st=>st.1.typeIs) ⟨xG,gA⟩ ?_ (by simp) ?_ (by simpa using hz)))
 ·intro b hb
  obtain⟨o1,g1,_⟩:=xG
  obtain⟨o2,g2,_⟩:=gA
  rcases List.mem_cons.mp hb with rfl |hb
  ·exact Heap.lt_size g1
  ·rw[List.mem_singleton.mp hb];exact Heap.lt_size g2
 intro s' acc hm kg
 have ea:acc.toList=rest:=IZ rfl kg
 rw[ea]
 show wpAny _ _ (if rest.length<2 - 1 - 1 then _ else _) _ _ _
 rw[if_neg (by omega)]
 refine wpAny_bind (wpAny_newList ?_ (by rw[List.length_take];omega))
 refine wpAny_pure ?_
 have et:rest.take (rest.length - (2 - 1 - 1))=rest:=List.take_of_length_le (by omega)
 have ed:rest.drop (rest.length - (2 - 1 - 1))=[]:=List.drop_of_length_le (by omega)
 rw[et,ed,List.append_nil]
 obtain⟨hp,g,d,tk,os⟩:=s'
 obtain⟨m1,m2,m3,m4,m5⟩:=hm
 dsimp only at m1 m2 m3 m4
 subst m2 m3 m4
 have k2:∀b o,s.heap.get? b=some o→hp.get? b=some o:=fun b o e=>m1 b o (fun z=>Nat.ne_of_lt (Heap.lt_size e) (List.mem_singleton.mp z)) (k1 b o e)
 exact hQ hp tk k2
section
variable {X:Cx}{pos:Pos}
def Ew (K:PySem.W.Frag) (g1 g2:TG):TG:=fun v σ H Q=> ∃(a:Addr) (x:V) (xs:List V),v=.ref a∧ak K H a (x::xs)∧∀L,H L=none→g1 x σ (upd H L (.lst xs)) fun kE H1=>g2 (.ref L) kE H1 Q
theorem za {e1 e2:Expr}{g1 g2:TG}{k:Nat}{sp:Pos}(hc:X.calm=true) (h1:PG X e1 g1) (h2:PG X e2 g2)
  (hs:assignEach [e1,.Starred e2 sp] X.env=[(false,assign e1 X.env),(true,assign e2 X.env)]:=by rfl):PG X (.Tuple [e1,.Starred e2 sp] k pos) (Ew X.K g1 g2):=by
 intro pins s σ H v u Q I r hw
 obtain⟨a,x,xs,e,hq,hw⟩:=hw
 subst e
 cases r
 obtain⟨aa,rv,pl,hz⟩:=I.list hq
 cases rv with
 |cons rx rr=>
  rename_i ux us
  rw[assign_Tuple]
  refine wpAny_bind (wpAny_standAt ?_)
  unfold unpack
  rw[hs]
  refine wpAny_bind (wpAny_holding (Ul (u:=ux) (rest:=us) (I.ok.hd hc) pl.isList (by have:=rr.length;simp only[List.length_cons]at hz;omega) fun h' tk kp=> ?_))
  have I0:Inv X pins σ H {s with heap:=h',toks:=tk} :=I.kept kp
  have I1:Inv X pins σ (upd H h'.objs.size (.lst xs)) {s with heap:=h'.push {cls:=.type "list",data:=.seq us.toArray},toks:=tk} :=
   I0.laid (t':=tk) (a:=h'.objs.size) (o:=.lst xs) (fun b o e=>Heap.get?_push_of_some _ e) (Nat.le_refl _) ⟨by simp only[List.length_cons]at hz;omega,us,0,rr,Heap.get?_push_size _ rfl⟩
  show wpAny _ _ (assignInOrder [assign e1 X.env,assign e2 X.env] [ux,.ref h'.objs.size]) _ _ _
  refine assignInOrder_cons (ao (h1 pins _ σ _ x ux _ I1 rx (hw _ (I0.ai.fresh (Nat.le_refl _)))) fun _ s1 ⟨kE,H1,J1,q1⟩=> ?_)
  exact assignInOrder_cons (ao (h2 pins s1 kE H1 (.ref h'.objs.size) _ Q J1 rfl q1) fun _ s2 ⟨aX,H2,J2,q2⟩=>assignInOrder_nil ⟨aX,H2,J2,q2⟩)
end
end L2
namespace L2.DC
open PySem PySem.Spec PyProof.Rows
def eC (ps:List (Key×V)):List V:=ps.flatMap fun p=> [kV p.1,p.2]
def eA (ps:List (Key×V)):List (Key×V):=ps.foldl (fun d p=>putK d p.1 p.2) []
theorem IV (ps:List (Key×V)) (k:Key) (v:V):eA (ps++[(k,v)])=putK (eA ps) k v:=by
 unfold eA
 rw[List.foldl_append]
 rfl
theorem yg (ps:List (Key×V)) (k:Key) (v:V):eC (ps++[(k,v)])=eC ps++[kV k,v]:=by
 unfold eC
 rw[List.flatMap_append]
 rfl
theorem yh (ps:List (Key×V)):(eC ps).length=2*ps.length:=by
 induction ps with
 |nil=>rfl
 |cons p ps ih=>
  have:eC (p::ps)=kV p.1::p.2::eC ps:=rfl
  rw[this,List.length_cons,List.length_cons,ih,List.length_cons]
  omega
theorem J6:∀(ps d:List (Key×V)),(ps.foldl (fun d p=>putK d p.1 p.2) d).length≤d.length+ps.length
 | [],d=>Nat.le_refl _
 |p::ps,d=>by
  have h1:=J6 ps (putK d p.1 p.2)
  have h2:=Ju d p.1 p.2
  rw[List.foldl_cons,List.length_cons]
  omega
theorem WI (ps:List (Key×V)):(eA ps).length≤ps.length:=by
 have:=J6 ps []
 rw[List.length_nil,Nat.zero_add]at this
 exact this
def nH (P:Program) (w:World) (h:Heap) (D:Addr) (ps:List (Key×V)):Prop:=(eA ps).length≤sizeLine∧(D==sysModules)=false∧∃vs,KV (eA ps) vs∧h.DictOf (dj P w) D vs
def AccAt (P:Program) (w:World) (h:Heap) (D:Addr) (ys:List V):Prop:=∃ps,ys=eC ps∧nH P w h D ps
theorem nH.keep {P:Program}{w:World}{h h':Heap}{D:Addr}{ps:List (Key×V)}(a:nH P w h D ps) (k:∀o,h.get? D=some o→h'.get? D=some o):nH P w h' D ps:=by
 obtain⟨z,b,vs,r,o,es,ep,e,c⟩:=a
 exact⟨z,b,vs,r,o,es,ep,k _ e,c⟩
theorem AccAt.obj {P:Program}{w:World}{h:Heap}{D:Addr}{ys:List V}(a:AccAt P w h D ys):∃o,h.get? D=some o∧(∀v,o.data≠.cell v)∧∀h':Heap,h'.get? D=some o→AccAt P w h' D ys:=by
 obtain⟨ps,ey,z,b,vs,r,o,es,ep,e,c,d,f⟩:=a
 refine⟨o,e,fun v q=> ?_,fun h' q=> ⟨ps,ey,z,b,vs,r,o,es,ep,q,c,d,f⟩⟩
 rw[d]at q
 cases q
theorem AccAt.keep {P:Program}{w:World}{h h':Heap}{D:Addr}{ys:List V}(a:AccAt P w h D ys) (k:∀o,h.get? D=some o→h'.get? D=some o):AccAt P w h' D ys:=by
 obtain⟨o,e,_,kp⟩:=a.obj
 exact kp _ (k _ e)
def fb (Y:Cx) (D:Addr) (m:Sem PySem.Fin→Sem PySem.Fin) (t:TC):Prop:=
 ∀(pins:List (Addr×Obj)) (s:Shared) (σ:St) (H:Hp) (ys:List V) (Q:List V→St→Hp→Prop) (k:Sem PySem.Fin) (R:PySem.Fin→Shared→Prop),Inv Y pins σ H s→aJ Y pins H D→AccAt Y.prog Y.w s.heap D ys→t ys σ H Q→
  (∀s' aE af H',Inv Y pins af H' s'→aJ Y pins H' D→AccAt Y.prog Y.w s'.heap D aE→Q aE af H'→wpAny (model Y.prog Y.w) Y.A k R (fun _ _=>False) s')→wpAny (model Y.prog Y.w) Y.A (m k) R (fun _ _=>False) s
section
variable {Y:Cx}{D:Addr}
def nU (tk tv:TE):TC:=fun ys σ H Q=>tk σ H fun x H1=>tv σ H1 fun v H2=> ∃k:Key,x=kV k∧ys.length<sizeLine∧Q (ys++[kV k,v]) σ H2
theorem AccAt.dg {P:Program}{w:World}{h:Heap}{ys:List V}(a:AccAt P w h D ys):∀b∈[D],∃o,h.get? b=some o∧∀v,o.data≠.cell v:=fun b hb=>by
 have e:b=D:=by simpa using hb
 subst e
 obtain⟨o,e,nc,_⟩:=a.obj
 exact⟨o,e,nc⟩
theorem AccAt.through {P:Program}{w:World}{h:Heap}{pins:List (Addr×Obj)}{af:St}{H':Hp}{s':Shared}{ys:List V}(a:AccAt P w h D ys) (I:Inv Y (pins++dN [D] h) af H' s'):AccAt P w s'.heap D ys∧H' D=none:=by
 obtain⟨o,e,_,kp⟩:=a.obj
 have q:=I.pin (D,_) (List.mem_append_right _ (List.mem_append_right _ (ZC (List.mem_singleton.mpr rfl) e)))
 exact⟨kp _ q.1,q.2.1⟩
theorem df {kx vx:Expr}{tk tv:TE}(hx:Y.xe=fun _ _=>False) (dk:PE Y kx tk) (jd:PE Y vx tv):
    fb Y D (fun k=> (do let kv ←eval kx Y.env;let vv ←holding [kv] (eval vx Y.env);standAt {kx.pos with endLine:=vx.pos.endLine,endCol:=vx.pos.endCol};holding [kv,vv] (dictSet D kv vv)) >>=fun _=>k) (nU tk tv):=by
  intro pins s σ H ys Q k R I f a h hk
  refine wpAny_bind (wpAny_mono (Q:=fun _ s'=> ∃aE af H',Inv Y pins af H' s'∧aJ Y pins H' D∧AccAt Y.prog Y.w s'.heap D aE∧Q aE af H') ?_ (fun _ s' ⟨aE,af,H',q1,q2,q3,q4⟩=>hk s' aE af H' q1 q2 q3 q4) fun _ _ z=>z)
  have I':=I.pinned (fp:=[D]) (fun b hb=>by have e:b=D:=by simpa using hb
                                            subst e;exact f) a.dg
  refine wpAny_bind (wpAny_mono (dk _ s σ H _ I' h) (fun u s1 ⟨x,H1,I1,ru,q1⟩=> ?_) fun e s1 z=>by rw[hx]at z;exact z)
  refine wpAny_bind (wpAny_holding (wpAny_mono (jd _ s1 σ H1 _ I1 q1) (fun u2 s2 ⟨v,H2,I2,rv,key,ex,hz,q⟩=> ?_) fun e s1 z=>by rw[hx]at z;exact z))
  subst ex
  obtain⟨⟨ps,ey,z,b,vs,r,dd⟩,n1⟩:=a.through I2
  have hl:=yh ps
  have gA:=WI ps
  rw[ey]at hz
  refine wpAny_bind (wpAny_standAt (wpAny_holding (wpAny_dictSet_pairs (hsz:=by rw[←r.length];exact z) (WF ru) dd fun h' EO sb=> ?_)))
  obtain⟨f0,g1,g2,g3,g4,g5⟩:=(⟨n1,f.2⟩:aJ Y pins H2 D)
  have I3:=I2.dq.turned (t':=s2.toks+1) (it:=D) (fun b o hb eb=> (sb.2 b hb).trans eb) f0 g1 g3 g4 g5
  refine⟨ys++[kV key,v],σ,H2,I3,⟨f0,g1,g2,g3,g4,g5⟩,⟨ps++[(key,v)],by rw[ey,yg],?_,b,_,?_,EO⟩,q⟩
  · have:=WI (ps++[(key,v)])
    rw[List.length_append]at this
    have h3:([(key,v)]:List (Key×V)).length=1:=rfl
    omega
  · rw[IV]
    exact r.put key rv
def inner (elt:Expr×Expr) (gens:List Comprehension) (scope:Scope) (pos:Pos) (d:Nat) (acc:Value) (env:Env) (k:Sem PySem.Fin):Sem PySem.Fin:=
 match gens[d+1]? with
 |some g'=>eval g'.iter env >>=fun x=>standAt g'.iter.pos >>=fun _=>foldedSetIterable g'.iter env x >>=fun x=>holding [x] (pyIter x) >>=fun eJ=>
  runOwn (.compStart (.DictComp elt.1 elt.2 gens scope pos) (d+1) eJ acc env) env >>=fun _=>k
 |none=> (do let kv ←eval elt.1 env;let vv ←holding [kv] (eval elt.2 env);match acc with | .ref d=> (do standAt {elt.1.pos with endLine:=elt.2.pos.endLine,endCol:=elt.2.pos.endCol};holding [kv,vv] (dictSet d kv vv)) |_=>unsupported "internal:dictcomp") >>=fun _=>k
theorem tR (elt:Expr×Expr) (tg iter:Expr) (ifs:List Expr) (gens:List Comprehension) (scope:Scope) (pos:Pos) (d:Nat) (it acc:Value) (env:Env) (hg:gens[d]? =some ⟨tg,iter,ifs,0⟩) (h2:∀g',gens[d+1]? =some g'→g'.is_async=0):
  compTurn (.DictComp elt.1 elt.2 gens scope pos) d it acc env=(standAt iter.pos >>=fun _=>pyNext it >>=fun r=>match r with
   |none=>pure (.done .next)
   |some v=>letOwnedTupleGo tg it v >>=fun _=>assign tg env v >>=fun _=>p8 ifs env >>=fun ok=>
    if ok=true then inner elt gens scope pos d acc env (again (.compLoop (.DictComp elt.1 elt.2 gens scope pos) d it acc env)) else again (.compLoop (.DictComp elt.1 elt.2 gens scope pos) d it acc env)):=by
 unfold compTurn inner
 dsimp only
 rw[hg]
 generalize hn:gens[d+1]? =o
 cases o with
 |none=>rfl
 |some g'=>
  have e:=h2 g' hn
  obtain⟨t',i',f',a'⟩:=g'
  have e':a'=0:=e
  subst e'
  rfl
theorem tQ {elt:Expr×Expr}{tg iter:Expr}{ifs:List Expr}{gens:List Comprehension}{scope:Scope}{pos:Pos}{d:Nat}{it:Addr}{fp:List Addr}{tn:Nat→Heap→Prop}{J:It}{g:TG}{tt:TT}{ti:TC}{pins:List (Addr×Obj)}{s:Shared}{σ:St}{H:Hp}{ys:List V}{Q:List V→St→Hp→Prop}
    (hx:Y.xe=fun _ _=>False) (hc:Y.calm=true) (hg:gens[d]? =some ⟨tg,iter,ifs,0⟩) (T:Turn Y.prog Y.w Y.K tg J fp it tn) (hf:∀b∈fp,aJ Y pins H b) (st:tn 0 s.heap) (hD:D∉fp)
    (h2:∀g',gens[d+1]? =some g'→g'.is_async=0) (pg:PG Y tg g) (pt:fX Y ifs tt) (pi:fb Y D (inner elt gens scope pos d (.ref D) Y.env) ti)
    (I:Inv Y pins σ H s) (f:aJ Y pins H D) (a:AccAt Y.prog Y.w s.heap D ys) (h:fi g tt ti J ys σ H Q):
    codeAny (model Y.prog Y.w) Y.A (.compLoop (.DictComp elt.1 elt.2 gens scope pos) d (.ref it) (.ref D) Y.env) (fun r s'=>match r with
      | .ok _=> ∃aE af H',Inv Y pins af H' s'∧aJ Y pins H' D∧AccAt Y.prog Y.w s'.heap D aE∧Q aE af H'
      | .error _=>False) s:=by
  obtain⟨W,⟨m0,w0⟩,turn⟩:=h
  have stat:∀{H':Hp},(∀b∈fp,H' b=none)→∀b∈fp,aJ Y pins H' b:=fun hn b hb=> ⟨hn b hb,(hf b hb).2⟩
  refine codeAny_loop rfl (fun n s'=> ∃i aE af H',Inv Y pins af H' s'∧aJ Y pins H' D∧AccAt Y.prog Y.w s'.heap D aE∧tn i s'.heap∧(∀b∈fp,H' b=none)∧W i n aE af H') (fun n s3 hI=> ?_) m0 ⟨0,ys,σ,H,I,f,a,st,fun b hb=> (hf b hb).1,w0⟩
  obtain⟨i,fe,cV,H3,I3,f3,a3,cj,kj,w3⟩:=hI
  show wpAny _ Y.A ((compTurn (.DictComp elt.1 elt.2 gens scope pos) d (.ref it) (.ref D) Y.env).onRaise (fun x=>do noteFrame x Y.env;theTreesLotGoes x)) _ _ s3
  refine wpAny_noted (wpAny_mono (E:=fun _ _=>False) ?_ (fun _ _ q=>q) fun _ _ z=>z.elim)
  rw[tR elt tg iter ifs gens scope pos d (.ref it) (.ref D) Y.env hg h2]
  refine wpAny_bind (wpAny_standAt (wpAny_bind ?_))
  have aD:∀{h h':Heap},(∀b o,b∉fp→h.get? b=some o→h'.get? b=some o)→∀{zs},AccAt Y.prog Y.w h D zs→AccAt Y.prog Y.w h' D zs:=fun k _ q=>q.keep fun o e=>k D o hD e
  have nh:=I3.pinned (fp:=[D]) (fun b hb=>by have e:b=D:=by simpa using hb
                                             subst e;exact f3) a3.dg
  have kN:∀b∈fp,aJ Y (pins++dN [D] s3.heap) H3 b:=fun b hb=>by
    obtain⟨g0,g1,g2,g3,g4,g5⟩:=stat kj b hb
    refine⟨g0,g1,g2,g3,g4,fun p hp=> ?_⟩
    rcases List.mem_append.mp hp with z |z
    · exact g5 p (List.mem_append_left _ z)
    · rcases List.mem_append.mp z with z |z
      · exact g5 p (List.mem_append_right _ z)
      · intro q
        have e:p.1=D:=by simpa using (YA z).1
        exact hD (by rw[←e,q];exact hb)
  rcases turn i n fe cV H3 w3 with ⟨stop,qn⟩ |⟨go,N,hN,step⟩
  · refine wpAny_mono (T.done Y rfl rfl rfl hc i _ s3 cV H3 (fun _ _=>False) nh kN cj stop) (fun r s4 ⟨hr,I4⟩=> ?_) fun _ _ z=>z
    subst hr
    obtain⟨a4,n4⟩:=a3.through I4
    exact wpAny_pure ⟨fe,cV,H3,I4.dq,f3,a4,qn⟩
  · refine wpAny_mono (T.item Y rfl rfl rfl hc i _ s3 cV H3 (fun _ _=>False) nh kN cj go) (fun r s4 ⟨u,hr,h4⟩=> ?_) fun _ _ z=>z
    subst hr
    refine wpAny_bind (wpAny_mono h4 (fun _ s5 ⟨x,H5,I5,r5,y5,bF,mx⟩=> ?_) fun _ _ z=>z)
    obtain⟨a5,n5⟩:=a3.through I5
    have f5:aJ Y pins H5 D:=⟨n5,f3.2⟩
    have rY:∀b∈D::fp,∃o,s5.heap.get? b=some o∧∀v,o.data≠.cell v:=fun b hb=>by
      rcases List.mem_cons.mp hb with e |hb
      · exact a5.dg b (by simp[e])
      · exact T.obj _ _ bF b hb
    have ng:=I5.dq.pinned (fp:=D::fp) (fun b hb=>by
      rcases List.mem_cons.mp hb with e |hb
      · rw[e];exact f5
      · exact stat mx b hb) rY
    refine wpAny_bind (wpAny_mono (pg _ s5 cV H5 x u _ ng r5 (step x H5 y5)) (fun _ s6 ⟨gf,H6,I6,q6⟩=> ?_) fun _ _ z=>by rw[hx]at z;exact z)
    refine wpAny_bind (wpAny_mono (pt _ s6 gf H6 _ I6 q6) (fun b s7 ⟨H7,I7,q7⟩=> ?_) fun _ _ z=>by rw[hx]at z;exact z)
    have lH:∀{bV:St}{H7:Hp}{s7:Shared},Inv Y (pins++dN (D::fp) s5.heap) bV H7 s7→AccAt Y.prog Y.w s7.heap D fe∧H7 D=none:=fun {bV H7 s7} J=>by
      obtain⟨o,e,_,kp⟩:=a5.obj
      have q:=J.pin (D,_) (List.mem_append_right _ (List.mem_append_right _ (ZC List.mem_cons_self e)))
      exact⟨kp _ q.1,q.2.1⟩
    have lG:∀{bV:St}{H7:Hp}{s7:Shared},Inv Y (pins++dN (D::fp) s5.heap) bV H7 s7→tn (i+1) s7.heap∧∀b∈fp,H7 b=none:=fun {bV H7 s7} J=>by
      refine⟨T.keep _ _ _ bF fun b hb o e=> (J.pin (b,o) (List.mem_append_right _ (List.mem_append_right _ (ZC (List.mem_cons_of_mem _ hb) e)))).1,fun b hb=> ?_⟩
      obtain⟨o,e,dd⟩:=T.obj _ _ bF b hb
      exact(J.pin (b,o) (List.mem_append_right _ (List.mem_append_right _ (ZC (List.mem_cons_of_mem _ hb) e)))).2.1
    cases b with
    |false=>
     simp only[Bool.false_eq_true,if_false]at q7 ⊢
     obtain⟨m',hm,w7⟩:=hN _ _ _ q7
     obtain⟨a7,n7⟩:=lH I7
     obtain⟨t7,r7⟩:=lG I7
     exact wpAny_pure ⟨rfl,m',hm,i+1,fe,gf,H7,I7.dq,⟨n7,f3.2⟩,a7,t7,r7,w7⟩
    |true=>
     simp only[if_true]at q7 ⊢
     obtain⟨a7,n7⟩:=lH I7
     obtain⟨t7,r7⟩:=lG I7
     have uw:=I7.dq.pinned (fp:=fp) (stat r7) (T.obj _ _ t7)
     have f7:aJ Y (pins++dN fp s7.heap) H7 D:=by
       obtain⟨g0,g1,g2,g3,g4,g5⟩:=f3
       refine⟨n7,g1,g2,g3,g4,fun p hp=> ?_⟩
       rcases List.mem_append.mp hp with z |z
       · exact g5 p (List.mem_append_left _ z)
       · rcases List.mem_append.mp z with z |z
         · exact g5 p (List.mem_append_right _ z)
         · intro q
           exact hD (by rw[←q];exact(YA z).1)
     refine pi _ s7 gf H7 fe N _ _ uw f7 a7 q7 fun s8 pU jA H8 I8 f8 a8 q8=> ?_
     obtain⟨m',hm,w8⟩:=hN _ _ _ q8
     refine wpAny_pure ⟨rfl,m',hm,i+1,pU,jA,H8,I8.dq,⟨f8.1,f3.2⟩,a8,T.keep _ _ _ t7 fun b hb o e=> (I8.pin (b,o) (List.mem_append_right _ (List.mem_append_right _ (ZC hb e)))).1,fun b hb=> ?_,w8⟩
     obtain⟨o,e,dd⟩:=T.obj _ _ t7 b hb
     exact(I8.pin (b,o) (List.mem_append_right _ (List.mem_append_right _ (ZC hb e)))).2.1
theorem tP {elt:Expr×Expr}{tg iter:Expr}{ifs:List Expr}{gens:List Comprehension}{scope:Scope}{pos:Pos}{d:Nat}{it:Addr}{R:Result→Shared→Prop}{s:Shared}{A:Around}{prog:Program}{w:World}{env:Env}{acc:Value}{fp:List Addr}{tn:Nat→Heap→Prop}{J:It}{K:PySem.W.Frag}
  (hg:gens[d]? =some ⟨tg,iter,ifs,0⟩) (T:Turn prog w K tg J fp it tn) {i:Nat} (st:tn i s.heap) (h:codeAny (model prog w) A (.compLoop (.DictComp elt.1 elt.2 gens scope pos) d (.ref it) acc env) R s):
  codeAny (model prog w) A (.compStart (.DictComp elt.1 elt.2 gens scope pos) d (.ref it) acc env) R s:=by
 refine codeAny_of_tree ?_
 show wpAny _ _ ((compStart (.DictComp elt.1 elt.2 gens scope pos) d (.ref it) acc env).onRaise (fun x=>do noteFrame x env;standAt theWindowsPlace)) _ _ s
 refine wpAny_notedAt ?_
 have il:(clausesOf (.DictComp elt.1 elt.2 gens scope pos))[d]? =some ⟨tg,iter,ifs,0⟩:=hg
 unfold compStart
 rw[il]
 show wpAny _ _ (ask >>=_) _ _ s
 refine wpAny_bind (wpAny_askSetting (wpAny_ite ?_))
 split
 ·first
   |exact wpAny_bind (wpAny_pure (wpAny_pure (And.intro rfl h)))
   |exact wpAny_pure (And.intro rfl h)
 ·refine wpAny_bind (wpAny_rule ?_)
  show wpAny _ _ (standAt iter.pos >>=_) _ _ s
  exact wpAny_bind (wpAny_standAt (wpAny_bind (T.self A i s _ _ st (wpAny_pure (And.intro rfl h)))))
end
section
variable {X:Cx}{pins:List (Addr×Obj)}{σ:St}{H H':Hp}{s s':Shared}
theorem mI {N':List Str}{scope:Scope}{C D:Addr}{fp:List Addr}{af:St}{ps:List (Key×V)}{pl:List (Addr×Obj)}{h':Heap}(I:Inv X pins σ H s) (hf:∀b∈fp,aJ X pins H b) (hC:s.heap.objs.size≤C) (hD:s.heap.objs.size≤D) (dn:D≠C)
  (J:Inv (aI X N' scope C s H fp) pl af H' s') (n:H' D=none) (a:nH X.prog X.w s'.heap D ps) (sb:Heap.SameBut C s'.heap h'):Inv X pins σ (upd H' D (.dK (eA ps))) {s' with heap:=h'} :=by
 have cO:∀b o,s.heap.get? b=some o→b≠C:=fun b o e=>Nat.ne_of_lt (Nat.lt_of_lt_of_le (Heap.lt_size e) hC)
 have rE:∀b o,s.heap.get? b=some o→b≠D:=fun b o e=>Nat.ne_of_lt (Nat.lt_of_lt_of_le (Heap.lt_size e) hD)
 have i8:∀b o,H b=some o→b≠D:=fun b o e=>Nat.ne_of_lt (Nat.lt_of_lt_of_le (I.ai.lt e) hD)
 have fC:H' C=none:=J.free
 have u:Un (aN X.stack) fp H H' s.heap s'.heap:=J.base
 refine I.tT (s':= {s' with heap:=h'}) (ch:=fp) J.os ⟨fun b o e nb hb hx=> (sb.2 b (cO b o e)).trans (u.keep b o e nb hb hx),fun b o e nb hb hx=> ?_,fun b o e nb hx=>by rw[Zh (rE b o e)];exact u.free b o e nb hx,fun b o e hx=> ?_,
  fun b xs e=>by rw[Zh (i8 b _ e)];exact u.dG b xs e,fun b o xs e=>by rw[Zh (i8 b _ e)];exact u.dC b o xs e,fun b ps e=>by rw[Zh (i8 b _ e)];exact u.dr b ps e⟩ (fun b v e=> ?_) J.bare fun b hb=> ?_
 ·obtain⟨sl,q⟩:=u.slot b o e nb hb hx
  exact⟨sl,(sb.2 b (cO b o e)).trans q⟩
 ·obtain⟨o',q⟩:=u.there b o e hx
  exact⟨o',(sb.2 b (cO b o e)).trans q⟩
 ·by_cases hb:b=D
  ·subst hb
   rw[Zc]at e
   cases e
   exact a.keep fun o q=> (sb.2 b dn).trans q
  ·rw[Zh hb]at e
   refine(J.ai b v e).bK (fun c w hc q=> (sb.2 c ?_).trans q) (fun c q=>by rw[Zh (Zg q n)];exact q) fun c xs q=>by rw[Zh (Zg q n)];exact q
   rcases hc with z |z
   ·rw[z];exact Zg e fC
   ·exact Zg z fC
 ·obtain⟨f0,f1,f2,f3,f4,f5⟩:=hf b hb
  exact⟨f3,f1,f4,f5⟩
theorem mF {elt:Expr×Expr}{tg iter:Expr}{ifs:List Expr}{rest:List Comprehension}{scope:Scope}{pos:Pos}{N':List Str}{ts:Nat}{aM:List Nat}{it:Addr}{fp:List Addr}{tn:Nat→Heap→Prop}{J:It}{g:TG}{tt:TT}{ti:TC}{Q:List V→Hp→Prop}{E:Value→Shared→Prop}{RR:Value→Addr→Result→Shared→Prop}
  (S:pT X N' ts aM scope) (hc:X.calm=true) (I:Inv X pins σ H s) (T:Turn X.prog X.w X.K tg J fp it tn) (st:tn 0 s.heap) (hf:∀b∈fp,aJ X pins H b)
  (h2:∀g',(Comprehension.mk tg iter ifs 0::rest)[0+1]? =some g'→g'.is_async=0)
  (pg:∀C,PG (aI X N' scope C s H fp) tg g) (pt:∀C,fX (aI X N' scope C s H fp) ifs tt)
  (pi:∀C D,fb (aI X N' scope C s H fp) D (inner elt (⟨tg,iter,ifs,0⟩::rest) scope pos 0 (.ref D) (aI X N' scope C s H fp).env) ti)
  (h:fi g tt ti J [] (eX ts aM σ) H fun ys _ H2=>Q ys H2)
  (sW:∀C D s' af H' ys fl,s.heap.objs.size≤C→s.heap.objs.size≤D→D≠C→Inv (aI X N' scope C s H fp) [] af H' s'→H' D=none→AccAt X.prog X.w s'.heap D ys→Q ys H'→RR (.ref D) C (.ok fl) s'):
  wpAny (model X.prog X.w) X.A newDict (fun acc jE=>wpAny (model X.prog X.w) X.A (newFunctionEnv scope X.env.globals (bQ scope X.env) [] X.env.qual none .none (some X.env)) (fun mG qe=>
   codeAny (model X.prog X.w) X.A (.compStart (.DictComp elt.1 elt.2 (⟨tg,iter,ifs,0⟩::rest) scope pos) 0 (.ref it) acc {mG with scope:=relabel scope X.env}) (RR acc mG.locals) qe) E jE) E s:=by
 refine wpAny_newObj_type (wpAny_newFunctionEnv S.dg (by intro y hy;simp at hy) (fun dY jh fQ=> ?_) S.kind)
 dsimp only at jh fQ ⊢
 generalize ir:s.heap.push {cls:=.type "dict",data:=.dict #[]} =h0 at jh fQ ⊢
 have hC:h0.objs.size=s.heap.objs.size+1:=by rw[←ir,Heap.size_push]
 have dn:s.heap.objs.size≠h0.objs.size:=by rw[hC];exact Nat.ne_of_lt (Nat.lt_succ_self _)
 have jr:s.heap.objs.size≤h0.objs.size:=by rw[hC];exact Nat.le_succ _
 have cO:∀b o,s.heap.get? b=some o→b≠h0.objs.size:=fun b o e=>Nat.ne_of_lt (Nat.lt_of_lt_of_le (Heap.lt_size e) jr)
 have old:∀b o,s.heap.get? b=some o→dY.get? b=some o:=fun b o e=>fQ.extBut b o (cO b o e) (Heap.get?_push_of_some _ (ir▸Heap.get?_push_of_some _ e))
 have kg:dY.get? s.heap.objs.size=some {cls:=.type "dict",data:=.dict #[]} :=fQ.extBut _ _ dn (Heap.get?_push_of_some _ (ir▸Heap.get?_push_size _ rfl))
 have ho:∀b∈fp,∃o,s.heap.get? b=some o:=fun b hb=>let ⟨o,e,_⟩:=T.obj _ _ st b hb;⟨o,e⟩
 have I1:Inv (aI X N' scope h0.objs.size s H fp) [] (eX ts aM σ) H {s with heap:=dY,toks:=s.toks+([]:List (Str×Value)).length} :=zp S I hf ho jr jh old
 have fresh:=I.ai.fresh (a:=s.heap.objs.size) (Nat.le_refl _)
 have tG:∀b∈fp,aJ (aI X N' scope h0.objs.size s H fp) [] H b:=fun b hb=>by
  obtain⟨f0,f1,f2,f3,f4,f5⟩:=hf b hb
  refine⟨f0,(I1.ok.ix b hb).1,I1.ok.iw b hb,.inl hb,(I1.ok.ix b hb).2,fun p hp=>absurd (show p∈([]:List (Addr×Obj)) from hp) (by simp)⟩
 have fD:aJ (aI X N' scope h0.objs.size s H fp) [] H s.heap.objs.size:=by
  refine⟨fresh,dn,fun z=> ?_,.inr (Nat.le_refl _),fun x c e z=> ?_,fun p hp=>absurd (show p∈([]:List (Addr×Obj)) from hp) (by simp)⟩
  ·obtain⟨_,o,bX,_⟩:=I.stack.mem z
   exact absurd (Heap.lt_size bX) (Nat.lt_irrefl _)
  ·obtain⟨e1,e2⟩:=Z2 e
   obtain⟨c',bj⟩:=I.ok.has x (S.free _ e2 rfl)
   obtain⟨v,q⟩:=I.cell x c' bj
   rw[bj]at e1
   have e3:c=c':=e1
   have l:=q.lt
   rw[←e3,z]at l
   exact absurd l (Nat.lt_irrefl _)
 have aD:AccAt X.prog X.w dY s.heap.objs.size []:=⟨[],rfl,Nat.zero_le _,by have:=I.big;exact beq_eq_false_iff_ne.mpr (Nat.ne_of_gt this),[],.nil,(Heap.DictOf.new s.heap).at fun o e=>fQ.extBut _ _ dn (Heap.get?_push_of_some _ (ir▸e))⟩
 have sY:s.heap.objs.size∉fp:=fun z=>by obtain⟨o,e⟩:=ho _ z;exact absurd (Heap.lt_size e) (Nat.lt_irrefl _)
 have ck:tn 0 dY:=T.keep _ _ _ st fun b _ o e=>old b o e
 have run:=tP (elt:=elt) (gens:=⟨tg,iter,ifs,0⟩::rest) (scope:=scope) (pos:=pos) (d:=0) rfl T ck
  (tQ (Y:=aI X N' scope h0.objs.size s H fp) (D:=s.heap.objs.size) (Q:=fun ys _ H2=>Q ys H2) (elt:=elt) (gens:=⟨tg,iter,ifs,0⟩::rest) (scope:=scope) (pos:=pos) (d:=0) rfl hc rfl T tG ck sY h2 (pg _) (pt _) (pi _ _) I1 fD aD h)
 refine codeAny_mono run fun r s' hr=> ?_
 cases r with
 |error e=>exact hr.elim
 |ok fl=>
  obtain⟨aE,af,H',q1,q2,q3,q4⟩:=hr
  exact sW _ _ s' af H' aE fl jr (Nat.le_refl _) dn q1 q2.1 q3 q4
end
def AJ (wi:TI) (ts:Nat) (aM:List Nat) (g:TG) (tt:TT) (ti:TC):TE:=fun σ H Q=>wi σ H fun J H1=>fi g tt ti J [] (eX ts aM σ) H1 fun ys _ H2=> ∀ps,ys=eC ps→∀p,H2 p=none→Q (.ref p) (upd H2 p (.dK (eA ps)))
section
variable {X:Cx}{elt:Expr×Expr}{tg iter:Expr}{ifs:List Expr}{rest:List Comprehension}{scope:Scope}{pos:Pos}{wi:TI}{g:TG}{tt:TT}{ti:TC}
theorem Bx (N':List Str) (ts:Nat) (aM:List Nat) {i:Nat}{x:Str}{px kS:Pos}(hN:X.N.Nodup) (ej:X.N[i]? =some x) (hx:Loc X.env.scope x) (hi:PI X tg iter wi) (pg:∀C s H fp,PG (aI X N' scope C s H fp) tg g) (pt:∀C s H fp,fX (aI X N' scope C s H fp) ifs tt)
  (pi:∀C s H fp D,fb (aI X N' scope C s H fp) D (inner elt (⟨tg,iter,ifs,0⟩::rest) scope pos 0 (.ref D) (aI X N' scope C s H fp).env) ti)
  (lP:swapsWith (.DictComp elt.1 elt.2 (⟨tg,iter,ifs,0⟩::rest) scope pos) (some (.Name x px)) kS.line X.env=pure true:=by rfl)
  (ok:km X.env.scope scope X.N N' ts aM=true:=by rfl) (hc:X.calm=true:=by rfl) (h2:∀g',(Comprehension.mk tg iter ifs 0::rest)[0+1]? =some g'→g'.is_async=0:=by(intro g' h;cases h<;>rfl))
  (hs:∀x,foldedSetIterable iter X.env x=pure x:=by intro _;rfl) (eo:X.fn x=true∨X.env.scope.names.lookup x=some .local:=by first |exact .inl rfl |exact .inr rfl |assumption):
  PS X (.Assign [.Name x px] (.DictComp elt.1 elt.2 (⟨tg,iter,ifs,0⟩::rest) scope pos) kS) (kL (AJ wi ts aM g tt ti) (iu i)):=by
 intro pins s σ H D I h
 have S:=Je ok
 rw[exec_Assign_Name_used _ _ _ _ lP]
 refine wpAny_bind (wpAny_standAt (wpAny_bind ?_))
 show wpAny _ X.A (do let _ ←comprehension (.DictComp elt.1 elt.2 (⟨tg,iter,ifs,0⟩::rest) scope pos) scope X.env _ newDict false (eval iter X.env) (some (assign (.Name x px) X.env))) _ _ s
 refine wpAny_bind (wpAny_mono (wpAny_comprehension_free (use:=some (assign (.Name x px) X.env)) (Q:=fun _ s'=> ∃af H',Inv X pins af H' s'∧D.nx af H') rfl hs (Z1 fun y hy e=>I.ok.has _ (S.free y hy e)) S.kind S.names
  (ao (hi pins s σ H _ I h) fun v s1 h1=>ao h1 fun eJ s2 dB=> ?_)) (fun _ s' hq=>wpAny_pure (wpAny_pure hq)) fun _ _ e=>e)
 obtain⟨it,fp,tn,J,H2,e,I2,T,bM,f2,q2⟩:=dB
 subst e
 refine mF (RR:=fun acc C=>compPost (model X.prog X.w) X.A X.xe (some (assign (.Name x px) X.env)) _ acc C) S hc I2 T bM f2 h2 (fun C=>pg C _ _ _) (fun C=>pt C _ _ _) (fun C D=>pi C _ _ _ D) q2 ?_
 intro C B s' af H' ys fl hC hB mw J' n a q
 obtain⟨m,hn,_⟩:=J'.loc
 obtain⟨ps,ey,a⟩:=a
 have IX:Inv X pins σ (upd H' B (.dK (eA ps))) s':=mI I2 f2 hC hB mw J' n a (Heap.SameBut.refl C s'.heap)
 have fC:=I2.kl (H':=upd H' B (.dK (eA ps))) (b:=C) hC (by rw[Zh (Ne.symm mw)];exact J'.free)
 obtain⟨f0,f1,EF,f3,f4,f5⟩:=fC
 show wpAny _ X.A (assign (.Name x px) X.env (.ref B)) _ _ s'
 refine wpAny_assign_Name (Jh (v:=.ref B) (u:=.ref B) IX hN ej hx rfl (fun bA uz ⟨c,sb,eQ⟩=> ?_) eo)
 have tj:C≠c:=by
  rcases eQ with z |z
  ·rw[z];exact f1
  ·exact(f4 x c z).symm
 refine⟨m,Heap.Ns.sameBut hn sb tj,fun h' qx=> ?_⟩
 refine⟨σ.set i (some (.ref B)),_,uz.turned (t':=bA.toks) (it:=C) (fun b o hb e=> (qx.2 b hb).trans e) f0 f1 f3 f4 f5,q ps ey B n⟩
end
end L2.DC
namespace L2
open PySem PySem.Spec PyProof.Rows
section
variable {X:Cx}
def AA (tb tc td te:TE):TE:=fun σ H Q=>tb σ H fun v2 H2=> ∃n:Int,v2=.int n∧n.natAbs.log2<1920∧(Str.empty++(Str.ofString (toString n))).length≤sizeLine∧
 tc σ H2 fun v3 H3=> ∃x3,v3=.str x3∧(Str.empty++(Str.ofString (toString n))++x3).length≤sizeLine∧td σ H3 fun v4 H4=> ∃m:Int,v4=.int m∧m.natAbs.log2<1920∧(Str.empty++(Str.ofString (toString n))++x3++(Str.ofString (toString m))).length≤sizeLine∧
 te σ H4 fun v5 H5=> ∃x5,v5=.str x5∧(Str.empty++(Str.ofString (toString n))++x3++(Str.ofString (toString m))++x5).length≤sizeLine∧Q (.str (Str.empty++(Str.ofString (toString n))++x3++(Str.ofString (toString m))++x5)) H5
theorem HX {b c d e:Expr}{tb tc td te:TE}{p p' pos:Pos}(hb:PE X b tb) (hc:PE X c tc) (hd:PE X d td) (he:PE X e te):PE X (.JoinedStr [.FormattedValue b (-1) none p,c,.FormattedValue d (-1) none p',e] pos) (AA tb tc td te):=by
 intro pins s σ H Q I h
 refine JoinedStr_many (joinParts_cons (FormattedValue_plain (ao (hb pins s σ H _ I h) fun u s2 h3=> ?_)))
 obtain⟨v,H2,I2,r2,n,rfl,hn,cb,h4⟩:=h3
 obtain⟨t2,rfl⟩:=r2
 refine formatField_int_small hn ⟨cb,?_⟩
 refine joinParts_cons (ao (hc pins _ σ H2 _ (I2.tok _) h4) fun u s3 h5=> ?_)
 obtain⟨v,H3,I3,r3,x3,rfl,CF,h6⟩:=h5
 obtain⟨t3,rfl⟩:=r3
 refine⟨CF,joinParts_cons (FormattedValue_plain (ao (hd pins s3 σ H3 _ I3 h6) fun u s4 h7=> ?_))⟩
 obtain⟨v,H4,I4,r4,m,rfl,hm,CD,h8⟩:=h7
 obtain⟨t4,rfl⟩:=r4
 refine formatField_int_small hm ⟨CD,?_⟩
 refine joinParts_cons (ao (he pins _ σ H4 _ (I4.tok _) h8) fun u s5 h9=> ?_)
 obtain⟨v,H5,I5,r5,x5,rfl,wR,q⟩:=h9
 obtain⟨t5,rfl⟩:=r5
 refine⟨wR,joinParts_nil ?_ wR⟩
 exact⟨.str _,H5,I5.tok _,⟨_,rfl⟩,q⟩
end
end L2
namespace L2
open PySem PySem.StrLaws
def bY (c:Nat):List Nat→List (List Nat)
 | []=> [[]]
 |d::l=>if d=c then []::bY c l else match bY c l with
  |p::r=> (d::p)::r
  | []=> [[d]]
theorem Jv {c:Nat} :∀{l:List Nat},c∉l→bY c l=[l]
 | [],_=>rfl
 |d::l,h=>by
  have h1:d≠c:=fun z=>h (by rw[z];exact List.mem_cons_self)
  unfold bY
  rw[if_neg h1,Jv fun z=>h (List.mem_cons_of_mem _ z)]
theorem J7 {c:Nat}{r:List Nat} :∀{l:List Nat},c∉l→bY c (l++c::r)=l::bY c r
 | [],_=>by
  show bY c (c::r)=_
  rw[bY,if_pos rfl]
 |d::l,h=>by
  have h1:d≠c:=fun z=>h (by rw[z];exact List.mem_cons_self)
  show bY c (d::(l++c::r))=_
  rw[bY,if_neg h1,J7 fun z=>h (List.mem_cons_of_mem _ z)]
def cX (x y:Str) (hi i:Nat):Bool:=decide (i+1≤hi)&&Builtin.Str.subAt x y i
theorem JE {x y:Str}(hw:y.length=1) (hi limit:Nat):∀(k lo:Nat) (st:Array Nat×Nat),st.2≤lo→st.1.size+k≤limit→(forIn (List.range' lo k) st (occBody x y hi limit)).run.fst.toList=st.1.toList++(List.range' lo k).filter (cX x y hi)
 |0,lo,st,_,_=>by
  show(st.1.toList)=st.1.toList++[]
  rw[List.append_nil]
 |k+1,lo,st,h1,h2=>by
  rw[List.range'_succ,List.forIn_cons,List.filter_cons]
  unfold occBody
  by_cases c:lo+y.length≤hi∧Builtin.Str.subAt x y lo=true
  ·rw[if_pos ⟨⟨⟨by omega,h1⟩,c.1⟩,c.2⟩]
   have hp:cX x y hi lo=true:=by
    unfold cX
    rw[c.2,decide_eq_true (by omega:lo+1≤hi)]
    rfl
   rw[hp,if_pos rfl]
   have:=JE (x:=x) hw hi limit k (lo+1) (st.1.push lo,lo+y.length) (by show lo+y.length≤lo+1;omega) (by show(st.1.push lo).size+k≤limit;rw[Array.size_push];omega)
   refine this.trans ?_
   show(st.1.push lo).toList++_=_
   rw[Array.toList_push,List.append_assoc]
   rfl
  ·rw[if_neg fun z=>c ⟨z.1.2,z.2⟩]
   have hp:cX x y hi lo=false:=by
    unfold cX
    rw[Bool.and_eq_false_iff]
    by_cases c1:lo+1≤hi
    ·refine .inr ?_
     cases hs:Builtin.Str.subAt x y lo with
     |false=>rfl
     |true=>exact absurd ⟨by omega,hs⟩ c
    ·exact .inl (decide_eq_false c1)
   rw[hp,if_neg Bool.false_ne_true]
   exact JE hw hi limit k (lo+1) (st.1,st.2) (by show st.2≤lo+1;omega) (by show st.1.size+k≤limit;omega)
theorem Yy (x:Str) (i j:Nat):(Builtin.Str.strSub x i j).cps.toList=(x.cps.toList.drop i).take (j - i):=by
 show(x.cps.extract i j).toList=_
 rw[Array.toList_extract,List.extract_eq_take_drop]
theorem G6 {x:Str}{c i:Nat}(h:i<x.length):Builtin.Str.subAt x ⟨#[c]⟩ i=true↔x.cps.toList[i]? =some c:=by
 have hl:i<x.cps.toList.length:=by rw[Array.length_toList];exact h
 have e:(x.cps.extract i (i+1)).toList=[x.cps.toList[i]]:=by
  rw[Array.toList_extract,List.extract_eq_take_drop,Nat.add_sub_cancel_left,List.drop_eq_getElem_cons hl]
  rfl
 show(x.cps.extract i (i+1)== #[c])=true↔_
 rw[beq_iff_eq,List.getElem?_eq_getElem hl]
 constructor
 ·intro z
  rw[z]at e
  have:c=x.cps.toList[i]:=List.cons.inj e|>.1
  rw[←this]
 ·intro z
  have z':=Option.some.inj z
  rw[z']at e
  exact Array.toList_inj.mp e
theorem Ke (x:Str) {a:Nat}(h:a<x.length):∀(r:List Nat),(∀i∈r,a+1≤i∧i≤x.length)→∃p q,(partsFrom x 1 (a+1) r).map (·.cps.toList)=p::q∧(partsFrom x 1 a r).map (·.cps.toList)=(x.cps.toList[a]'(by rw[Array.length_toList];exact h)::p)::q:=by
 have hl:a<x.cps.toList.length:=by rw[Array.length_toList];exact h
 have hd:∀j,a+1≤j→(x.cps.toList.drop a).take (j - a)=x.cps.toList[a]::(x.cps.toList.drop (a+1)).take (j - (a+1)):=fun j hj=>by
  rw[List.drop_eq_getElem_cons hl,show j - a=(j - (a+1))+1 by omega,List.take_succ_cons]
 intro r hr
 cases r with
 |nil=>
  refine⟨_,[],rfl,?_⟩
  show [(Builtin.Str.strSub x a x.length).cps.toList]=[_::(Builtin.Str.strSub x (a+1) x.length).cps.toList]
  rw[Yy,Yy,hd _ (by omega)]
 |cons c r=>
  refine⟨_,_,rfl,?_⟩
  show(Builtin.Str.strSub x a c).cps.toList::_=(_::(Builtin.Str.strSub x (a+1) c).cps.toList)::_
  rw[Yy,Yy,hd _ (hr c List.mem_cons_self).1]
theorem Wy (x:Str) (c:Nat):∀(k a:Nat),a+k=x.length→(partsFrom x 1 a ((List.range' a (k+1)).filter (cX x ⟨#[c]⟩ x.length))).map (·.cps.toList)=bY c (x.cps.toList.drop a)
 |0,a,h=>by
  have e:(List.range' a (0+1)).filter (cX x ⟨#[c]⟩ x.length)=[]:=by
   show [a].filter _=[]
   have:cX x ⟨#[c]⟩ x.length a=false:=by
    unfold cX
    rw[decide_eq_false (by omega)]
    rfl
   rw[List.filter_cons,this]
   rfl
  rw[e]
  show [(Builtin.Str.strSub x a x.length).cps.toList]=_
  rw[Yy,List.drop_of_length_le (by rw[Array.length_toList];show x.length≤a;omega),List.take_nil]
  rfl
 |k+1,a,h=>by
  have ha:a<x.length:=by omega
  have hl:a<x.cps.toList.length:=by rw[Array.length_toList];exact ha
  have ih:=Wy x c k (a+1) (by omega)
  rw[List.range'_succ,List.filter_cons,List.drop_eq_getElem_cons hl]
  have so:=G6 (x:=x) (c:=c) ha
  rw[List.getElem?_eq_getElem hl]at so
  by_cases hc:x.cps.toList[a]=c
  ·have hp:cX x ⟨#[c]⟩ x.length a=true:=by
    unfold cX
    rw[so.mpr (congrArg some hc),decide_eq_true (by omega:a+1≤x.length)]
    rfl
   rw[hp,if_pos rfl,bY,if_pos hc,←ih]
   show(Builtin.Str.strSub x a a).cps.toList::_=_
   rw[Yy,Nat.sub_self]
   rfl
  ·have hp:cX x ⟨#[c]⟩ x.length a=false:=by
    unfold cX
    rw[Bool.and_eq_false_iff]
    refine .inr ?_
    cases hs:Builtin.Str.subAt x ⟨#[c]⟩ a with
    |false=>rfl
    |true=>exact absurd (Option.some.inj (so.mp hs)) hc
   rw[hp,if_neg Bool.false_ne_true,bY,if_neg hc,←ih]
   obtain⟨p,q,e1,e2⟩:=Ke x ha ((List.range' (a+1) (k+1)).filter (cX x ⟨#[c]⟩ x.length)) fun i hi=>by
    obtain⟨h1,h2⟩:=List.mem_filter.mp hi
    have:=List.mem_range'_1.mp h1
    omega
   rw[e1,e2]
theorem Iv (x:Str):1≤Builtin.Str.strKind x:=by
 unfold Builtin.Str.strKind
 split
 ·exact Nat.le_refl _
 ·split<;>omega
theorem YD {z:Str}{c:Nat}(hc:c<256):(Txt.split z ⟨#[c]⟩).map (·.cps.toList)=bY c z.cps.toList:=by
 have hw:(⟨#[c]⟩:Str).length=1:=rfl
 have hk:Builtin.Str.strKind ⟨#[c]⟩=1:=by
  unfold Builtin.Str.strKind
  rw[if_pos (by simp[hc])]
 have pc:=Wy z c z.length 0 (by omega)
 rw[List.drop_zero]at pc
 have oc:Builtin.Str.occurrences z ⟨#[c]⟩ 0 z.length (z.length+1)=(List.range' 0 (z.length+1)).filter (cX z ⟨#[c]⟩ z.length):=by
  rw[occ_eq,Nat.sub_zero,JE hw z.length (z.length+1) (z.length+1) 0 (#[],0) (Nat.le_refl _) (by show 0+(z.length+1)≤_;omega)]
  rfl
 have whole:(⟨z.cps.extract 0 z.length⟩:Str)=z:=sub_whole z
 unfold Txt.split
 split
 ·rename_i h
  rw[Bool.or_eq_true,decide_eq_true_eq,decide_eq_true_eq,hw,hk]at h
  have:=Iv z
  have hz:z.length=0:=by omega
  have he:z.cps.toList=[]:=List.eq_nil_of_length_eq_zero (by rw[Array.length_toList];exact hz)
  show [z.cps.toList]=_
  rw[he]
  rfl
 ·split
  ·rename_i h
   rw[oc]at h
   rw[List.isEmpty_iff.mp h]at pc
   refine Eq.trans ?_ pc
   show [z.cps.toList]=[(Builtin.Str.strSub z 0 z.length).cps.toList]
   rw[show Builtin.Str.strSub z 0 z.length=z from whole]
  ·rw[partsBetween_eq,oc,hw]
   exact pc
theorem G4 {a b:Str}(h:a.cps.toList=b.cps.toList):a=b:=by
 obtain⟨a⟩:=a
 obtain⟨b⟩:=b
 exact congrArg _ (Array.toList_inj.mp h)
theorem Jt:∀{as bs:List Str},as.map (·.cps.toList)=bs.map (·.cps.toList)→as=bs
 | [],[],_=>rfl
 | [],_::_,h=>by cases h
 |_::_,[],h=>by cases h
 |a::as,b::bs,h=>by
  injection h with h1 h2
  rw[G4 h1,Jt h2]
theorem JN {c:Nat}(hc:c<256):∀(ws:List Str) (h:Str),(∀w∈h::ws,c∉w.cps.toList)→Txt.split (Str.join ⟨#[c]⟩ (h::ws)) ⟨#[c]⟩=h::ws:=fun ws h hf=>by
 refine Jt ?_
 rw[YD hc]
 have key:∀(ws:List Str) (h:Str),(∀w∈h::ws,c∉w.cps.toList)→bY c (Str.join ⟨#[c]⟩ (h::ws)).cps.toList=(h::ws).map (·.cps.toList):=fun ws=>by
  induction ws with
  |nil=>
   intro h hf
   exact Jv (hf h List.mem_cons_self)
  |cons w ws ih=>
   intro h hf
   have e:(Str.join ⟨#[c]⟩ (h::w::ws)).cps.toList=h.cps.toList++c::(Str.join ⟨#[c]⟩ (w::ws)).cps.toList:=by
    show(h++⟨#[c]⟩++Str.join ⟨#[c]⟩ (w::ws)).cps.toList=_
    show(h.cps++ #[c]++(Str.join ⟨#[c]⟩ (w::ws)).cps).toList=_
    simp
   rw[e,J7 (hf h List.mem_cons_self),ih w fun u hu=>hf u (List.mem_cons_of_mem _ hu)]
   rfl
 exact key ws h hf
end L2
namespace L2
open PySem PySem.Spec PyProof.Rows
section
variable {X:Cx}
def vS:R2:=fun x y H Q=> ∃a b:Str,x=.str a∧y=.str b∧a.length+b.length≤sizeLine∧Q (.str (a++b)) H
theorem ZV:aW X (binaryOp .Add) vS:=by
 intro pins s σ H x y v u Q I rx ry h
 obtain⟨a,b,rfl,rfl,hz,q⟩:=h
 obtain⟨t,rfl⟩:=rx
 obtain⟨t',rfl⟩:=ry
 exact SB.add (fun t' k=> ⟨.str _,H,I.tok _,⟨_,rfl⟩,q⟩) hz
theorem yZ {v:Value}{o:Option Int}(h:IsPart v o):∃p:Option (Int×Tok),v=partValue p∧p.map (·.1)=o:=by
 cases h with
 |none=>exact⟨none,rfl,rfl⟩
 |int i t=>exact⟨some (i,t),rfl,rfl⟩
def vQ:V→Option Int→Option Int→Hp→VK→Prop:=fun x lo hi H Q=> ∃z:Str,x=.str z∧z.length≤sizeLine∧Q (.str (Txt.slice z lo hi)) H
theorem Jk:pM X vQ:=by
 intro pins s σ H x v vl vu lo hi sl Q I rx hs pl pu h
 obtain⟨z,rfl,hz,q⟩:=h
 obtain⟨t,rfl⟩:=rx
 obtain⟨p,rfl,rfl⟩:=yZ pl
 obtain⟨p',rfl,rfl⟩:=yZ pu
 refine⟨"str",_,PySem.F.slot_str_getitem.lookup,typeIs_str _ _ _,?_⟩
 refine wpAny_getItem_str_slice (l:=p) (u:=p') (st:=none) hs rfl ?_
 exact post_val_or_str ⟨Nat.le_trans (Txt.slice_le z _ _) hz,fun t' k=> ⟨.str _,H,I.tok _,⟨_,rfl⟩,q⟩⟩
def Ak (te:TE):TE:=fun σ H Q=>te σ H fun x H1=> ∃z:Str,x=.str z∧z.length≤sizeLine∧∀y:Str,y.length≤z.length→Q (.str y) H1
theorem GY {e:Expr}{te:TE}{j:Nat}{p1 p2 p3 pos:Pos}(he:PE X e te):PE X (.Subscript e (.Slice none none (some (.UnaryOp .USub (.Constant (.int 1) j p1) p2)) p3) pos) (Ak te):=by
 intro pins s σ H Q I h
 refine Subscript_ (ao (he pins s σ H _ I h) fun v s1 ⟨x,H1,I1,r1,z,ex,hz,q⟩=> ?_)
 subst ex
 obtain⟨t,rfl⟩:=r1
 refine wpAny_Slice ?_
 rw[evalPart_none]
 refine wpAny_pure (wpAny_pure ?_)
 rw[evalPart_some]
 refine ao (tX U0 Zf pins s1 σ H1 (fun v H2=>v=.int (-1)∧H2=H1) I1 ⟨_,rfl,rfl,rfl⟩) fun vk s2 ⟨y,H2,I2,r2,ey,eh⟩=> ?_
 subst ey eh
 obtain⟨tk,rfl⟩:=r2
 have I4:Inv X pins σ H2 {s2 with heap:=s2.heap.push {cls:=.type "slice",data:=.fields #[.none,.none,.int (-1) tk]} } :=I2.kept (t':=s2.toks) fun b ob q=>Heap.get?_push_of_some _ q
 refine tail_any (ops:=[.str z t,.ref s2.heap.objs.size]) (typeIs_str _ _ _) PySem.F.slot_str_getitem.lookup ?_ (by with_unfolding_all rfl)
 refine wpAny_getItem_str_slice (l:=none) (u:=none) (st:=some (-1,tk)) ⟨_,Heap.get?_push_size _ rfl,rfl,rfl⟩ (by rfl) ?_
 have hl:((slicePicked z none none (some (-1,tk))).filterMap (z.cps[·]?)).length≤z.length:=by
  refine Nat.le_trans (List.length_filterMap_le _ _) ?_
  show(Builtin.Str.strSliceIndices none none (-1) z.length).length≤_
  rw[picked_rev,List.length_map,List.length_range]
  exact Nat.le_refl _
 refine post_val_or_str ⟨?_,fun t' k=> ⟨.str _,H2,I4.tok _,⟨_,rfl⟩,q _ ?_⟩⟩
 all_goals
  split
  ·first |exact hz |exact Nat.le_refl _
  ·first |exact Nat.le_trans (by show(List.toArray _).size≤_;rw[List.size_toArray];exact hl) hz |(show(List.toArray _).size≤_;rw[List.size_toArray];exact hl)
def vi (K:PySem.W.Frag) (te:TE):TE:=fun σ H Q=>te σ H fun x H1=> ∃a xs,x=.ref a∧ak K H1 a xs∧∀p ys,(∀y∈ys,y∈xs)→ys.length≤xs.length→H1 p=none→Q (.ref p) (upd H1 p (.lst ys))
theorem Wo {xs:List V}{us:List Value}(r:Vals xs us):∀l:List Nat,Vals (l.filterMap (xs[·]?)) (l.filterMap (us.toArray[·]?))
 | []=> .nil
 |i::l=>by
  have ih:=Wo r l
  cases h:xs[i]? with
  |none=>
   have h':us.toArray[i]? =none:=by
    rw[List.getElem?_eq_none_iff,r.length]at h
    exact Array.getElem?_eq_none (by simpa using h)
   rw[List.filterMap_cons,h,List.filterMap_cons,h']
   exact ih
  |some x=>
   obtain⟨u,hu,ru⟩:=r.get h
   have h':us.toArray[i]? =some u:=by simpa using hu
   rw[List.filterMap_cons,h,List.filterMap_cons,h']
   exact .cons ru ih
theorem HU {e:Expr}{te:TE}{i0:Int}{k:Nat}{j:Nat}{p0 p1 p2 p3 pos:Pos}(he:PE X e te):PE X (.Subscript e (.Slice none (some (.Constant (.int i0) k p0)) (some (.UnaryOp .USub (.Constant (.int 1) j p1) p2)) p3) pos) (vi X.K te):=by
 intro pins s σ H Q I h
 refine Subscript_ (ao (he pins s σ H _ I h) fun v s1 ⟨x,H1,I1,r1,a,xs,ex,hq,q⟩=> ?_)
 subst ex
 cases r1
 refine wpAny_Slice ?_
 rw[evalPart_none]
 refine wpAny_pure ?_
 rw[evalPart_some]
 refine ao (Zf pins s1 σ H1 (fun v H2=>v=.int i0∧H2=H1) I1 ⟨rfl,rfl⟩) fun v0 s2 ⟨y0,H2,I2,r2,EG,EK⟩=> ?_
 subst EG EK
 obtain⟨t0,rfl⟩:=r2
 rw[evalPart_some]
 refine ao (tX U0 Zf pins s2 σ H2 (fun v H3=>v=.int (-1)∧H3=H2) I2 ⟨_,rfl,rfl,rfl⟩) fun vk s3 ⟨y,H3,I3,r3,ey,eh⟩=> ?_
 subst ey eh
 obtain⟨tk,rfl⟩:=r3
 have I4:Inv X pins σ H3 {s3 with heap:=s3.heap.push {cls:=.type "slice",data:=.fields #[.none,.int i0 t0,.int (-1) tk]} } :=I3.kept (t':=s3.toks) fun b ob q=>Heap.get?_push_of_some _ q
 obtain⟨aa,r,pl,hz⟩:=I4.list hq
 refine tail_any (ops:=[.ref a,.ref s3.heap.objs.size]) pl.isList.typeIs slot_list_getitem.lookup ?_ (by with_unfolding_all rfl)
 have hlen:=r.length
 refine wpAny_getItem_list_slice pl.isList (Heap.IsSliceOf.new ..) .none (.int i0 t0) (.int (-1) tk) (by decide) ?_ (by rw[List.size_toArray];omega)
 have hs:=slicePick_size_le aa.toArray none (some i0) (some (-1))
 obtain⟨l,ys,hl,rv,hm⟩:∃(l:List Value) (ys:List V),slicePick aa.toArray none (some i0) (some (-1))=l.toArray∧Vals ys l∧∀y∈ys,y∈xs:=by
  refine⟨_,_,rfl,Wo r _,fun y hy=> ?_⟩
  obtain⟨i,_,e⟩:=List.mem_filterMap.mp hy
  exact List.mem_of_getElem? e
 rw[hl]at hs ⊢
 rw[List.size_toArray,List.size_toArray,←rv.length,←hlen]at hs
 refine⟨.ref _,_,I4.laid (a:=(s3.heap.push {cls:=.type "slice",data:=.fields #[.none,.int i0 t0,.int (-1) tk]}).objs.size) (o:=.lst ys) (t':=s3.toks) (fun b u z=>Heap.get?_push_of_some _ z) (Nat.le_refl _) ?_,rfl,q _ ys hm hs (I4.ai.fresh (Nat.le_refl _))⟩
 exact⟨by omega,l,0,rv,Heap.get?_push_size _ rfl⟩
theorem Kk {f:Expr}{as:List Expr}{ks:List Keyword}{p:Pos}{es:List Expr}{env:Env} :starEach (.Call f as ks p::es) env=(false,eval (.Call f as ks p) env)::starEach es env:=rfl
theorem Y4 {a b:Expr}{op:Operator}{p:Pos}{es:List Expr}{env:Env} :starEach (.BinOp a op b p::es) env=(false,eval (.BinOp a op b p) env)::starEach es env:=rfl
theorem Ws {x:Str}{p:Pos}{es:List Expr}{env:Env} :starEach (.Name x p::es) env=(false,eval (.Name x p) env)::starEach es env:=rfl
theorem Kl {as:List Expr}{p:Pos}{es:List Expr}{env:Env} :starEach (.List as p::es) env=(false,eval (.List as p) env)::starEach es env:=rfl
theorem Z9 {f:Expr}{as:List Expr}{ks:List Keyword}{p:Pos}{es:List Expr}{te:TE}{t:TA}(h:PE X (.Call f as ks p) te) (hr:PA X es t):PA X (.Call f as ks p::es) (gk te t):=Za h hr Kk
theorem ug {a b:Expr}{op:Operator}{p:Pos}{es:List Expr}{te:TE}{t:TA}(h:PE X (.BinOp a op b p) te) (hr:PA X es t):PA X (.BinOp a op b p::es) (gk te t):=Za h hr Y4
theorem GS {x:Str}{p:Pos}{es:List Expr}{te:TE}{t:TA}(h:PE X (.Name x p) te) (hr:PA X es t):PA X (.Name x p::es) (gk te t):=Za h hr Ws
theorem GR {as:List Expr}{p:Pos}{es:List Expr}{te:TE}{t:TA}(h:PE X (.List as p) te) (hr:PA X es t):PA X (.List as p::es) (gk te t):=Za h hr Kl
theorem F1 {a b:Expr}{p:Pos} :uq (.Subscript a b p):=fun _ _=>rfl
theorem zb {f:Expr}{as:List Expr}{ks:List Keyword}{p:Pos} :uq (.Call f as ks p):=fun _ _=>rfl
def wK (K:PySem.W.Frag):V→List V→Hp→VK→Prop:=fun x xs H Q=> ∃(sep:Str) (p:Addr) (ws:List Str),x=.str sep∧xs=[.ref p]∧ak K H p (ws.map V.str)∧JoinOk sep ws=true∧Q (.str (Txt.join sep ws)) H
theorem pI {y:Str}{k:Nat}{p p2 p3:Pos}{a:Expr}{t:TE}(h:PE X a t) (hs:starEach [a] X.env=(false,eval a X.env)::starEach [] X.env) (hline:(p2.endLine==p3.line)=true):PE X (.Call (.Attribute (.Constant (.str y) k p) "join" p2) [a] [] p3) (qd X.K "str" (wK X.K) (tC (.str y)) (gk t kK)):=
 Yi (hline:=hline) (hs:=hs) PySem.F.plainAttrs_str PySem.F.slot_str_join PySem.F.type_str_join zw Zv (Za h Zb hs) (hfew:=by rw[hs];rfl)
end
end L2
namespace U
open PySem L2 PyProof.Rows
def top (i:Nat):Stmt:=PySem.Challenge.pw_unlikesteps_k91_lays_written_and_read.main.body.getD i (.Pass ⟨0,0,0,0⟩)
structure Gs (mg:Str→Option Value):Prop where
 isinstance:mg "isinstance" =none
 int:mg "int" =none
 bool:mg "bool" =none
 tuple:mg "tuple" =none
 list:mg "list" =none
 len:mg "len" =none
 all:mg "all" =none
 set:mg "set" =none
 range:mg "range" =none
 max:mg "max" =none
 min:mg "min" =none
 zip:mg "zip" =none
 str:mg "str" =none
 dict:mg "dict" =none
 longest:∃t,mg "LONGEST_SIDE" =some (.int 12 t)
section
variable {P:Program}{w:World}{K:PySem.W.Frag}{mg:Str→Option Value}{base:Heap}
abbrev qz:Stmt:=top 19
def qf (K:PySem.W.Frag):Sp:=fun vs H Q _=> ∃x,vs=[x]∧cw K H x∧Q (.bl (whole x)) H
theorem A4:bu ["thing"] ["thing"] (ar qz):=⟨rfl,rfl,rfl,by decide+kernel,rfl,by decide+kernel,by decide+kernel⟩
theorem II {f:Addr}{fd:FuncData}(F:aP K "is_whole" "is_whole" qz f fd) (G:Gs mg):aC P w K mg base av 1 f fd ["thing"] (qf K):=by
 refine F.ok A4 (fun vs H Q E h=> ?_) (fun aq A outer s H vs Q E hr h=> ?_)
 ·obtain⟨x,rfl,_⟩:=h
  rfl
 ·obtain⟨x,rfl,⟨T,t⟩,q⟩:=h
  refine⟨_,Zk (Zu (Yp (Zi (Zq (c:= "int")) rfl G.isinstance boot_isinstance (Za (pv 0) (Za (ZA (v:=.ty "int") rfl G.int boot_int rfl) Zb)))
   (Yv (yO (Zi (Zq (c:= "bool")) rfl G.isinstance boot_isinstance (Za (pv 0) (Za (ZA (v:=.ty "bool") rfl G.bool boot_bool rfl) Zb))))))),?_⟩
  refine⟨x,rfl,x,_,_,rfl,t,zr t,_,rfl,?_⟩
  rw[UH]at q
  cases e:rM x with
  |false=>rw[e]at q;exact aF q
  |true=>rw[e]at q;exact aw ⟨x,rfl,x,_,_,rfl,t,UE t,_,rfl,q⟩
abbrev qy:Stmt:=top 20
def iP (K:PySem.W.Frag):Sp:=fun vs H Q _=> ∃x a b,vs=[x,.int a,.int b]∧cw K H x∧Q (.bl (aQ x a b)) H
theorem A3:bu ["thing", "least", "most"] ["thing", "least", "most"] (ar qy):=⟨rfl,rfl,rfl,by decide+kernel,rfl,by decide+kernel,by decide+kernel⟩
theorem Ky {f:Addr}{fd:FuncData}(F:aP K "is_whole_within" "is_whole_within" qy f fd) (D1:Def P w K mg base 1 "is_whole" ["thing"] (qf K)):aC P w K mg base av 2 f fd ["thing", "least", "most"] (iP K):=by
 refine F.ok A3 (fun vs H Q E h=> ?_) (fun aq A outer s H vs Q E hr h=> ?_)
 ·obtain⟨x,a,b,rfl,_⟩:=h
  rfl
 ·obtain⟨x,a,b,rfl,t,q⟩:=h
  refine⟨_,Zk (Zu (Yp (Zj D1 hr (Za (pv 0) Zb)) (Yv (Uu pK pK (pv 1) (pv 0) (pv 2))))),?_⟩
  refine⟨x,rfl,x,rfl,t,_,rfl,?_⟩
  cases x with
  |int i=>
   refine aw ⟨_,rfl,_,rfl,_,_,rfl,rfl,_,rfl,?_⟩
   have e:aQ (.int i) a b=(decide (a≤i)&&decide (i≤b)):=rfl
   rw[e]at q
   cases e1:decide (a≤i) with
   |false=>rw[e1]at q;exact aF q
   |true=>rw[e1]at q;exact aw ⟨_,rfl,_,_,rfl,rfl,q⟩
  |_=>exact aF q
abbrev qA:Stmt:=top 21
def nX (K:PySem.W.Frag):Sp:=fun vs H Q _=> ∃x n,vs=[x,.int n]∧cw K H x∧Q (.bl (match aS H x with |some xs=>decide ((xs.length:Int)=n) |none=>false)) H
theorem A5:bu ["thing", "many"] ["thing", "many"] (ar qA):=⟨rfl,rfl,rfl,by decide+kernel,rfl,by decide+kernel,by decide+kernel⟩
theorem IH {f:Addr}{fd:FuncData}(F:aP K "is_tuple_of" "is_tuple_of" qA f fd) (G:Gs mg):aC P w K mg base av 1 f fd ["thing", "many"] (nX K):=by
 refine F.ok A5 (fun vs H Q E h=> ?_) (fun aq A outer s H vs Q E hr h=> ?_)
 ·obtain⟨x,n,rfl,_⟩:=h
  rfl
 ·obtain⟨x,n,rfl,⟨T,t⟩,q⟩:=h
  refine⟨_,Zk (Zu (Yp (Zi (Zq (c:= "tuple")) rfl G.isinstance boot_isinstance (Za (pv 0) (Za (ZA (v:=.ty "tuple") rfl G.tuple boot_tuple rfl) Zb)))
   (Yv (Yj YH (Zi Zy rfl G.len boot_len (Za (pv 0) Zb)) (pv 1) (bU _))))),?_⟩
  refine⟨x,rfl,x,_,_,rfl,t,WE t,_,rfl,?_⟩
  cases e:aS H x with
  |none=>rw[e]at q;exact aF q
  |some xs=>
   rw[e]at q
   obtain⟨a,rfl,ha⟩:=ZF e
   refine aw ⟨_,rfl,a,xs,rfl,.inr (aj.of ha),_,rfl,rfl,?_⟩
   have z:decide (V.int (xs.length:Int)=V.int n)=decide ((xs.length:Int)=n):=by simp
   rw[z]
   exact q
abbrev qW:Stmt:=top 22
def gr:Option (List V)→Bool
 |some [a,b]=>aQ a 1 12&&aQ b 1 12
 |_=>false
def cA (K:PySem.W.Frag) (H:Hp) (x:V):Prop:=cw K H x∧∀xs,aS H x=some xs→∀y∈xs,cw K H y
def jK (K:PySem.W.Frag):Sp:=fun vs H Q _=> ∃x,vs=[x]∧cA K H x∧∀H',ag H H'→Q (.bl (gr (aS H x))) H'
theorem A8:bu ["thing"] ["thing"] (ar qW):=⟨rfl,rfl,rfl,by decide+kernel,rfl,by decide+kernel,by decide+kernel⟩
theorem IC {f:Addr}{fd:FuncData}(F:aP K "is_board" "is_board" qW f fd) (G:Gs mg) (D1:Def P w K mg base 1 "is_tuple_of" ["thing", "many"] (nX K)) (D2:Def P w K mg base 2 "is_whole_within" ["thing", "least", "most"] (iP K)):
  aC P w K mg base av 3 f fd ["thing"] (jK K):=by
 obtain⟨tk,hL⟩:=G.longest
 refine F.ok A8 (fun vs H Q E h=> ?_) (fun aq A outer s H vs Q E hr h=> ?_)
 ·obtain⟨x,rfl,_⟩:=h
  rfl
 ·obtain⟨x,rfl,⟨t,hi⟩,q⟩:=h
  refine⟨_,Zk (Zu (Yp (Zj D1 (hr.mono (by decide)) (Za (pv 0) (Za Zf Zb)))
   (Yv (Zi J9 rfl G.all boot_all (Za (Ye ["side"] 1 [] (Jm (pv 0)) (fun C s H fp=>pb 0) (fun C s H fp=>Z4)
    (fun C s H fp D=>df rfl (Zj D2 (hr.mono (by decide)) (Za (pv 0) (Za Zf (Za (ZQ (v:=.int 12) rfl hL ⟨_,rfl⟩) Zb)))))) Zb))))),?_⟩
  refine⟨x,rfl,x,2,rfl,t,_,rfl,?_⟩
  cases e:aS H x with
  |none=>rw[e]at q;exact aF (q H (ag.refl H))
  |some xs=>
   rw[e]at q
   obtain⟨a,rfl,ha⟩:=ZF e
   show if decide ((xs.length:Int)=2)=true then _ else _
   by_cases h2:xs.length=2
   ·rw[decide_eq_true (show(xs.length:Int)=2 by omega)]
    refine aw ⟨_,rfl,a,rfl,⟨xs,aj.of ha⟩,?_⟩
    refine Y9 (xs:=xs) (fun i ys σ H2=>ys=(xs.take i).map (fun y=>V.bl (aQ y 1 12))∧H2=H∧∃v,σ=[v]) ⟨rfl,rfl,none,rfl⟩ (fun i ys σ H2 _ ⟨_,e2,_⟩=>by rw[e2];exact aj.of ha) ?_ ?_
    ·rintro i y ys σ H2 hy ⟨rfl,rfl,v,rfl⟩
     have my:y∈xs:=List.mem_of_getElem? hy
     refine⟨y,rfl,y,1,12,rfl,hi xs e y my,?_,?_⟩
     ·rw[List.length_map,sizeLine_eq,List.length_take];omega
     ·refine⟨?_,rfl,_,rfl⟩
      rw[List.take_add_one,hy,List.map_append]
      rfl
    ·rintro ys σ H2 ⟨rfl,rfl,v,rfl⟩ p hp
     rw[List.take_length]
     refine⟨p,xs.map (fun y=>aQ y 1 12),rfl,?_,?_⟩
     ·rw[List.map_map];exact ak.of Zc
     ·have e3:gr (some xs)=(xs.map (fun y=>aQ y 1 12)).all id:=by
       match xs,h2 with
       | [a,b],_=>simp[gr]
      rw[←e3]
      exact q _ fun b o hb=>by rw[Zh (Zg hb hp)];exact hb
   ·rw[decide_eq_false (show ¬(xs.length:Int)=2 by omega)]
    have e3:gr (some xs)=false:=by
     match xs,h2 with
     | [],_=>rfl
     | [a],_=>rfl
     | [a,b],h=>exact absurd rfl h
     |a::b::c::r,_=>rfl
    rw[e3]at q
    exact aF (q H (ag.refl H))
end
section
theorem YJ (val:Nat→Int):∀n,((PyProof.Rows.firstMet val n).length=n↔((List.range n).map val).Nodup)
 |0=>by simp[PyProof.Rows.firstMet_zero]
 |n+1=>by
  have ih:=YJ val n
  have le:=PyProof.Rows.firstMet_length_le val n
  rw[PyProof.Rows.firstMet_succ,PyProof.Rows.step_length,PyProof.Rows.firstMet_any,List.range_succ,List.map_append]
  have e:(((List.range n).map val).any (· ==val n))=true↔val n∈(List.range n).map val:=by
   rw[List.any_eq_true]
   constructor
   ·rintro⟨x,hx,q⟩
    have:x=val n:=by simpa using q
    rw[←this];exact hx
   ·intro h;exact⟨_,h,by simp⟩
  have nd:((List.range n).map val++List.map val [n]).Nodup↔((List.range n).map val).Nodup∧¬val n∈(List.range n).map val:=by
   rw[List.nodup_append]
   constructor
   ·rintro⟨h1,_,h3⟩
    exact⟨h1,fun m=>h3 _ m (val n) (by simp) rfl⟩
   ·rintro⟨h1,h2⟩
    refine⟨h1,by simp,fun a ha b hb q=>h2 ?_⟩
    have eR:b=val n:=by simpa using hb
    rw[←eR,←q];exact ha
  rw[nd,←ih]
  by_cases m:val n∈(List.range n).map val
  ·rw[if_pos (e.mpr m)]
   constructor
   ·intro h;omega
   ·rintro⟨_,h⟩;exact absurd m h
  ·rw[if_neg (fun z=>m (e.mp z))]
   constructor
   ·intro h;exact⟨by omega,m⟩
   ·rintro⟨h,_⟩;omega
theorem U6 (ns:List Int):jM ns=ns.length↔ns.Nodup:=by
 unfold jM
 rw[YJ]
 have e:(List.range ns.length).map (fun i=>ns.getD i 0)=ns:=by
  refine List.ext_getElem (by simp) fun i h1 h2=> ?_
  rw[List.getElem_map,List.getElem_range,List.getD_eq_getElem?_getD,List.getElem?_eq_getElem h2,Option.getD_some]
 rw[e]
def rowsOf (xs:List V):List V:=xs.filter fun x=> !decide (x=.ae)
def cG (wd hg:Int):Option (List V)→Bool
 |some xs=>decide ((xs.length:Int)=wd)&&((rowsOf xs).all fun r=>aQ r 0 (hg - 1))&&decide (rowsOf xs).Nodup
 |none=>false
def cN (H:Hp) (x:V) (wd hg:Int):Prop:=aS H x=some [.int wd,.int hg]∧1≤wd∧wd≤12∧1≤hg∧hg≤12
theorem cN.same {H H':Hp}{x:V}{wd hg:Int}(b:cN H x wd hg) (s:ag H H'):cN H' x wd hg:=⟨s.aS b.1,b.2⟩
theorem cN.is {H:Hp}{x:V}{wd hg:Int}(b:cN H x wd hg):gr (aS H x)=true:=by
 obtain⟨h,h1,h2,h3,h4⟩:=b
 rw[h]
 show(decide (1≤wd)&&decide (wd≤12)&&(decide (1≤hg)&&decide (hg≤12)))=true
 simp[h1,h2,h3,h4]
theorem cN.pl {K:PySem.W.Frag}{H:Hp}{x:V}{wd hg:Int}(b:cN H x wd hg):cA K H x:=by
 obtain⟨a,rfl,ha⟩:=ZF b.1
 refine⟨⟨_,.tup ha⟩,fun xs e y hy=> ?_⟩
 rw[b.1]at e
 cases e
 rcases List.mem_cons.mp hy with z |hy
 ·rw[z];exact⟨_,.int wd⟩
 ·rw[List.mem_singleton.mp hy];exact⟨_,.int hg⟩
theorem UI {xs:List V}{lo hi:Int}(h:(xs.all fun r=>aQ r lo hi)=true):∃ns:List Int,xs=ns.map V.int:=by
 induction xs with
 |nil=>exact⟨[],rfl⟩
 |cons x xs ih=>
  rw[List.all_cons,Bool.and_eq_true]at h
  obtain⟨ns,e⟩:=ih h.2
  cases x with
  |int i=>exact⟨i::ns,by rw[e];rfl⟩
  |_=>cases h.1
theorem WA (ns:List Int):(ns.map V.int).Nodup↔ns.Nodup:=by
 induction ns with
 |nil=>simp
 |cons n ns ih=>rw[List.map_cons,List.nodup_cons,List.nodup_cons,ih];simp
end
section
variable {P:Program}{w:World}{K:PySem.W.Frag}{mg:Str→Option Value}{base:Heap}
abbrev ow:Stmt:=top 23
def qi (K:PySem.W.Frag):Sp:=fun vs H Q _=> ∃x wd hg,vs=[x]∧cN H x wd hg∧∀H',ag H H'→Q .ae H'
theorem vD:bu ["board"] ["board"] (ar ow):=⟨rfl,rfl,rfl,by decide+kernel,rfl,by decide+kernel,by decide+kernel⟩
theorem W3 {f:Addr}{fd:FuncData}(F:aP K "need_board" "need_board" ow f fd) (D1:Def P w K mg base 3 "is_board" ["thing"] (jK K)):aC P w K mg base av 4 f fd ["board"] (qi K):=by
 refine F.ok vD (fun vs H Q E h=> ?_) (fun aq A outer s H vs Q E hr h=> ?_)
 ·obtain⟨x,wd,hg,rfl,_⟩:=h
  rfl
 ·obtain⟨x,wd,hg,rfl,b,q⟩:=h
  refine⟨_,Zk (ZN (Yc (ZJ (Zj D1 hr (Za (pv 0) Zb)))) ZG Zt),?_⟩
  refine⟨x,rfl,x,rfl,b.pl,fun H' sm=> ⟨_,rfl,?_⟩⟩
  rw[b.is]
  exact aF (q H' sm)
abbrev oy:Stmt:=top 24
def jJ (K:PySem.W.Frag):Sp:=fun vs H Q _=> ∃x y wd hg,vs=[x,y]∧cN H x wd hg∧cA K H y∧∀H',ag H H'→Q (.bl (cG wd hg (aS H y))) H'
theorem kZ:bu ["board", "thing", "wide", "high", "rows"] ["board", "thing"] (ar oy):=⟨rfl,rfl,rfl,by decide+kernel,rfl,by decide+kernel,by decide+kernel⟩
theorem FO {f:Addr}{fd:FuncData}(F:aP K "is_lay" "is_lay" oy f fd) (G:Gs mg) (D1:Def P w K mg base 4 "need_board" ["board"] (qi K)) (D2:Def P w K mg base 1 "is_tuple_of" ["thing", "many"] (nX K))
  (D3:Def P w K mg base 2 "is_whole_within" ["thing", "least", "most"] (iP K)):aC P w K mg base av 5 f fd ["board", "thing"] (jJ K):=by
 refine F.ok kZ (fun vs H Q E h=> ?_) (fun aq A outer s H vs Q E hr h=> ?_)
 ·obtain⟨x,y,wd,hg,rfl,_⟩:=h
  rfl
 ·obtain⟨x,y,wd,hg,rfl,b,⟨ty,hy⟩,q⟩:=h
  refine⟨_,Ze (Ys (Zj D1 hr (Za (pv 0) Zb)))
   (Ze (YZ (pv 0) (WZ rfl (Yh (ZI (i:=2) kZ.nd rfl (Or.inl rfl)) (Yh (ZI (i:=3) kZ.nd rfl (Or.inr rfl)) JC))))
   (Ze (ZN (Yc (ZJ (Zj D2 (hr.mono (by decide)) (Za (pv 1) (Za (pv 2) Zb))))) (Zk (Zu Uv)) Zt)
   (Ze (WX ["row"] 1 [] (i:=4) kZ.nd rfl (Or.inl rfl) (Jm (pv 1)) (fun C s H fp=>pb 0) (fun C s H fp=>WW (YI (W0 (pv 0)))) (fun C s H fp D=>df rfl (pv 0)))
   (Zk (Zu (Yp (Zi J9 rfl G.all boot_all (Za (Ye ["row", "high"] 1 [3] (Yt (pv 4)) (fun C s H fp=>pb 0) (fun C s H fp=>Z4)
     (fun C s H fp D=>df rfl (Zj D3 (hr.mono (by decide)) (Za (pv 0) (Za Zf (Za (Zm W2 (pv 1) Zf) Zb)))))) Zb))
    (Yv (Yj YH (Zi Wk rfl G.len boot_len (Za (Zz Wi rfl G.set boot_set (Za (pv 4) Zb)) Zb)) (Zi Zy rfl G.len boot_len (Za (pv 4) Zb)) (bU _))))))))),?_⟩
  refine⟨x,rfl,x,wd,hg,rfl,b,fun H1 s1=> ?_⟩
  have b1:=b.same s1
  obtain⟨a,rfl,ha⟩:=ZF b1.1
  refine⟨_,rfl,a,_,rfl,aj.of ha,rfl,_,_,rfl,_,_,rfl,rfl,?_⟩
  refine⟨y,rfl,_,rfl,y,wd,rfl,s1.jP ty,_,rfl,?_⟩
  cases e:aS H y with
  |none=>
   have e1:aS H1 y=none:=by
    obtain⟨T,t⟩:=ty
    cases t with
    |tup e2=>rw[Zo e2]at e;cases e
    |lst e2=>rw[Zs,s1 _ _ e2];rfl
    |bP e2=>rw[Zs,s1 _ _ e2];rfl
    |dK e2=>rw[Zs,s1 _ _ e2];rfl
    |dT e2=>rw[Zs,s1 _ _ e2];rfl
    |_=>rfl
   rw[e1]
   rw[e]at q
   exact aw (q H1 s1)
  |some xs=>
   have e1:=s1.aS e
   rw[e1]
   rw[e]at q
   obtain⟨l,rfl,hl⟩:=ZF e1
   by_cases hw:(xs.length:Int)=wd
   ·refine(show if (!decide ((xs.length:Int)=wd))=true then _ else _ from ?_)
    rw[decide_eq_true hw]
    refine aF ?_
    have Lx:=b.2.2.1
    have hlen:xs.length≤12:=by omega
    refine⟨_,rfl,l,rfl,⟨xs,aj.of hl⟩,?_⟩
    refine Y9 (xs:=xs) (fun i ys σ H2=>ys=rowsOf (xs.take i)∧H2=H1∧∃v,σ=[v]) ⟨rfl,rfl,none,rfl⟩ (fun i ys σ H2 _ ⟨_,e2,_⟩=>by rw[e2];exact aj.of hl) ?_ ?_
    ·rintro i r ys σ H2 cI ⟨rfl,rfl,v,rfl⟩
     have et:rowsOf (xs.take (i+1))=rowsOf (xs.take i)++(if (!decide (r=V.ae))=true then [r] else []):=by
      unfold rowsOf
      rw[List.take_add_one,cI,List.filter_append]
      cases hh:(!decide (r=V.ae)) with
      |true=>simp[hh]
      |false=>simp[hh]
     refine⟨r,rfl,_,rfl,?_⟩
     cases hh:(!decide (r=V.ae)) with
     |true=>
      rw[hh]at et
      refine aw ?_
      refine⟨r,rfl,?_,?_⟩
      ·have:=List.length_filter_le (fun x=> !decide (x=V.ae)) (xs.take i)
       unfold rowsOf
       rw[sizeLine_eq]
       rw[List.length_take]at this
       omega
      ·exact⟨by rw[et,if_pos rfl],rfl,_,rfl⟩
     |false=>
      rw[hh]at et
      exact aF ⟨by rw[et,if_neg Bool.false_ne_true,List.append_nil],rfl,_,rfl⟩
    ·rintro ys σ H2 ⟨rfl,rfl,v,rfl⟩ p hp
     rw[List.take_length]
     have Lz:(rowsOf xs).length≤12:=Nat.le_trans (List.length_filter_le _ _) hlen
     have s2:ag H2 (upd H2 p (.lst (rowsOf xs))):=fun b o hb=>by rw[Zh (Zg hb hp)];exact hb
     refine⟨_,rfl,p,rfl,⟨rowsOf xs,ak.of Zc⟩,?_⟩
     generalize Eh:upd H2 p (HO.lst (rowsOf xs))=H3 at s2
     have lR:H3 p=some (.lst (rowsOf xs)):=by rw[←Eh];exact Zc
     refine Ym (xs:=rowsOf xs) (fun i ys σ H4=>ys=((rowsOf xs).take i).map (fun r=>V.bl (aQ r 0 (hg - 1)))∧H4=H3∧∃v,σ=[v,some (.int hg)]) ⟨rfl,rfl,none,rfl⟩ (fun i ys σ H4 _ ⟨_,e2,_⟩=>by rw[e2];exact ak.of lR) ?_ ?_
     ·rintro i r ys σ H4 cI ⟨rfl,rfl,v,rfl⟩
      have mr:r∈xs:=(List.mem_filter.mp (List.mem_of_getElem? cI)).1
      refine⟨r,rfl,_,rfl,_,_,rfl,rfl,r,0,hg - 1,rfl,(s1.trans s2).jP (hy xs e r mr),?_,?_⟩
      ·rw[List.length_map,sizeLine_eq,List.length_take];omega
      ·refine⟨?_,rfl,_,rfl⟩
       rw[List.take_add_one,cI,List.map_append]
       rfl
     ·rintro ys σ H4 ⟨rfl,rfl,v,rfl⟩ p' jg
      rw[List.take_length]
      have s3:∀o,ag H4 (upd H4 p' o):=fun o b u hb=>by rw[Zh (Zg hb jg)];exact hb
      refine⟨p',(rowsOf xs).map (fun r=>aQ r 0 (hg - 1)),rfl,?_,?_⟩
      ·rw[List.map_map];exact ak.of Zc
      ·have EL:((rowsOf xs).map (fun r=>aQ r 0 (hg - 1))).all id=(rowsOf xs).all fun r=>aQ r 0 (hg - 1):=by rw[List.all_map];rfl
       rw[EL]
       have EJ:cG wd hg (some xs)=(((rowsOf xs).all fun r=>aQ r 0 (hg - 1))&&decide (rowsOf xs).Nodup):=by
        show(decide ((xs.length:Int)=wd)&&_&&_)=_
        rw[decide_eq_true hw,Bool.true_and]
       rw[EJ]at q
       refine⟨_,rfl,?_⟩
       cases mf:((rowsOf xs).all fun r=>aQ r 0 (hg - 1)) with
       |false=>
        rw[mf]at q
        exact aF (q _ (s1.trans (s2.trans (s3 _))))
       |true=>
        rw[mf,Bool.true_and]at q
        obtain⟨ns,en⟩:=UI mf
        have cJ:(upd H4 p' (.lst (((rowsOf xs).map (fun r=>V.bl (aQ r 0 (hg - 1))))))) p=some (.lst (rowsOf xs)):=s3 _ _ _ lR
        refine aw ?_
        have LF:ns.length=(rowsOf xs).length:=by rw[en,List.length_map]
        refine⟨_,rfl,p,ns,rfl,by rw[←en];exact ak.of cJ,by omega,fun q2 S eK=> ⟨q2,S,jM ns,rfl,Zc,_,rfl,p,rowsOf xs,rfl,.inl (ak.of ?_),rfl,?_⟩⟩
        ·rw[Zh (Zg cJ eK)];exact cJ
        ·have ed:decide (V.int (jM ns:Int)=V.int ((rowsOf xs).length:Int))=decide (rowsOf xs).Nodup:=by
          rw[decide_eq_decide]
          rw[en,WA,←U6,List.length_map]
          constructor
          ·intro h;injection h with h;omega
          ·intro h;rw[h]
         rw[ed]
         exact q _ (s1.trans (s2.trans ((s3 _).trans fun b o hb=>by rw[Zh (Zg hb eK)];exact hb)))
   ·refine(show if (!decide ((xs.length:Int)=wd))=true then _ else _ from ?_)
    rw[decide_eq_false hw]
    have e3:cG wd hg (some xs)=false:=by
     show(decide ((xs.length:Int)=wd)&&_&&_)=false
     rw[decide_eq_false hw,Bool.false_and,Bool.false_and]
    rw[e3]at q
    exact aw (q H1 s1)
abbrev qV:Stmt:=top 31
def qo (K:PySem.W.Frag):Sp:=fun vs H Q _=> ∃(a:Addr) (ns:List Int) (k:Nat),vs=[.ref a,.int k]∧ak K H a (ns.map V.int)∧∀n:Int,Q (.int n) H
theorem A7:bu ["_law_script", "_law_k"] ["_law_script", "_law_k"] (ar qV):=⟨rfl,rfl,rfl,by decide+kernel,rfl,by decide+kernel,by decide+kernel⟩
theorem GJ {f:Addr}{fd:FuncData}(F:aP K "_law_cell_at" "_law_cell_at" qV f fd) (G:Gs mg):aC P w K mg base av 1 f fd ["_law_script", "_law_k"] (qo K):=by
 refine F.ok A7 (fun vs H Q E h=> ?_) (fun aq A outer s H vs Q E hr h=> ?_)
 ·obtain⟨a,ns,k,rfl,_⟩:=h
  rfl
 ·obtain⟨a,ns,k,rfl,hs,q⟩:=h
  refine⟨_,Ze (ZN (ZU Gg (pv 1) (Zi Zy rfl G.len boot_len (Za (pv 0) Zb)) (bU _)) (Zk (Zu (ZO ZM (pv 0) (pv 1) (fun _ _=>rfl)))) Zt) (Zk (Zu Zf)),?_⟩
  refine⟨_,rfl,_,rfl,a,ns.map V.int,rfl,.inl hs,_,_,rfl,rfl,_,rfl,?_⟩
  by_cases hk:k<ns.length
  ·rw[decide_eq_true (by rw[List.length_map];omega)]
   refine aw ⟨_,rfl,_,rfl,a,ns.map V.int,k,V.int ns[k],rfl,rfl,hs,Yl ?_,q _⟩
   rw[List.getElem?_map,List.getElem?_eq_getElem hk]
   rfl
  ·rw[decide_eq_false (by rw[List.length_map];omega)]
   exact aF (q 0)
def bo (H:Hp) (p:Addr):Prop:=∃u v:Int,H p=some (.lst [.int u,.int v])∧0≤u∧0≤v∧v<2147483647
abbrev qD:Stmt:=top 32
def nY (K:PySem.W.Frag):Sp:=fun vs H Q _=> ∃(a:Addr) (ns:List Int) (k:Nat),vs=[.ref a,.int k]∧ak K H a (ns.map V.int)∧∀p H',H p=none→ag H H'→bo H' p→Q (.ref p) H'
theorem vA:bu ["_law_script", "_law_k", "_law_cell"] ["_law_script", "_law_k"] (ar qD):=⟨rfl,rfl,rfl,by decide+kernel,rfl,by decide+kernel,by decide+kernel⟩
theorem IG {f:Addr}{fd:FuncData}(F:aP K "_law_state" "_law_state" qD f fd) (G:Gs mg) (D1:Def P w K mg base 1 "_law_cell_at" ["_law_script", "_law_k"] (qo K)):aC P w K mg base av 2 f fd ["_law_script", "_law_k"] (nY K):=by
 refine F.ok vA (fun vs H Q E h=> ?_) (fun aq A outer s H vs Q E hr h=> ?_)
 ·obtain⟨a,ns,k,rfl,_⟩:=h
  rfl
 ·obtain⟨a,ns,k,rfl,hs,q⟩:=h
  refine⟨_,Ze (Zp (i:=2) vA.nd rfl (Or.inl rfl) (Zj D1 hr (Za (pv 0) (Za (pv 1) Zb))))
   (Zk (Zu (Zx (Za (Zi (WM rfl) rfl G.max boot_max (Za Zf (Za (Zm W2 (pv 2) (Zm yU Zf Zf)) Zb))) (Za (Zm Yw (pv 2) Zf) Zb))))),?_⟩
  refine⟨_,rfl,_,rfl,a,ns,k,rfl,hs,fun n=> ?_⟩
  refine⟨_,rfl,_,_,rfl,rfl,⟨by decide,by decide,by decide⟩,_,_,rfl,rfl,_,_,rfl,?_⟩
  refine⟨_,rfl,_,_,rfl,rfl,(by show(0:Int)<2147483647;decide),(by show 2≤sizeLine;decide),fun p hp=>q p _ hp (fun b o hb=>by rw[Zh (Zg hb hp)];exact hb) ?_⟩
  refine⟨_,_,Zc,?_,Int.emod_nonneg _ (by decide),Int.emod_lt_of_pos _ (by decide)⟩
  split<;>omega
abbrev qB:Stmt:=top 33
def iQ:Sp:=fun vs H Q _=> ∃(p:Addr) (m:Int),vs=[.ref p,.int m]∧bo H p∧0<m∧m<1000∧∀r o,0≤r→r<m→bo (upd H p o) p→Q (.int r) (upd H p o)
theorem oh:bu ["_law_state_here", "_law_many", "_law_found", "_law_stirred"] ["_law_state_here", "_law_many"] (ar qB):=⟨rfl,rfl,rfl,by decide+kernel,rfl,by decide+kernel,by decide+kernel⟩
theorem iD {x y:V} :cR [x,y] 0=some x:=rfl
theorem bZ {x y:V} :cR [x,y] 1=some y:=rfl
theorem GL {f:Addr}{fd:FuncData}(F:aP K "_law_take" "_law_take" qB f fd):aC P w K mg base av 1 f fd ["_law_state_here", "_law_many"] iQ:=by
 refine F.ok oh (fun vs H Q E h=> ?_) (fun aq A outer s H vs Q E hr h=> ?_)
 ·obtain⟨p,m,rfl,_⟩:=h
  rfl
 ·obtain⟨p,m,rfl,⟨u,v,hp,hu,hv,CO⟩,hm,fU,q⟩:=h
  refine⟨_,Ze (ZN (ZU yM (ZO ZM (pv 0) Zf (fun _ _=>rfl)) Zf (bU _))
    (Ze (Zp (i:=2) oh.nd rfl (Or.inl rfl) (Zm Yw (ZO ZM (pv 0) Zf (fun _ _=>rfl)) (pv 1)))
    (Ze (YZ (Zm zy (ZO ZM (pv 0) Zf (fun _ _=>rfl)) (pv 1)) (yP (pv 0) Zf Uo)) (Zk (Zu (pv 2))))) Zt)
   (Ze (YZ (Zm Yw (Zm Z6 (Zm JV (ZO ZM (pv 0) Zf (fun _ _=>rfl)) Zf) Zf) Zf) (yP (pv 0) Zf Uo))
   (Ze (Zp (i:=3) oh.nd rfl (Or.inl rfl) (Zm Yw (Zm Z6 (Zm Z6 (Zm JV (ZO ZM (pv 0) Zf (fun _ _=>rfl)) (ZO ZM (pv 0) Zf (fun _ _=>rfl))) (Zm JV Zf (ZO ZM (pv 0) Zf (fun _ _=>rfl)))) Zf) Zf))
   (Ze (Zp (i:=3) oh.nd rfl (Or.inl rfl) (Zm Yw (Zm Z6 (Zm JV (pv 3) (pv 3)) (Zm JV Zf (pv 3))) Zf))
   (Zk (Zu (Zm Yw (Zm zy (pv 3) Zf) (pv 1))))))),?_⟩
  have s0:=ak.of (K:=K) hp
  refine⟨_,rfl,p,_,_,_,rfl,rfl,s0,iD,_,_,rfl,rfl,_,rfl,?_⟩
  by_cases h0:0<u
  ·rw[decide_eq_true h0]
   refine aw ?_
   refine⟨_,rfl,p,_,_,_,rfl,rfl,s0,iD,_,rfl,_,_,rfl,rfl,hm,?_⟩
   refine⟨_,rfl,p,_,_,_,rfl,rfl,s0,iD,_,rfl,_,_,rfl,rfl,⟨hm,by omega⟩,?_⟩
   refine⟨_,rfl,p,_,0,0,rfl,rfl,hp,rfl,?_⟩
   refine⟨_,rfl,q _ _ (Int.emod_nonneg _ (by omega)) (Int.emod_lt_of_pos _ hm) ?_⟩
   exact⟨u/m,v,Zc,Int.ediv_nonneg hu (by omega),hv,CO⟩
  ·rw[decide_eq_false h0]
   refine aF ?_
   refine⟨_,rfl,p,_,_,_,rfl,rfl,s0,bZ,_,_,rfl,rfl,.inr ⟨by decide,by decide⟩,_,_,rfl,rfl,_,_,rfl,rfl,(by show(0:Int)<2147483647;decide),?_⟩
   refine⟨_,rfl,p,_,1,1,rfl,rfl,hp,rfl,?_⟩
   have b1:0≤((v*48271+29)%2147483647):=Int.emod_nonneg _ (by decide)
   have b2:((v*48271+29)%2147483647)<2147483647:=Int.emod_lt_of_pos _ (by decide)
   have s1:ak K (upd H p (.lst (([V.int u,V.int v]:List V).set 1 (V.int ((v*48271+29)%2147483647))))) p [.int u,.int ((v*48271+29)%2147483647)]:=ak.of Zc
   have lo:∀{t:Int},0≤t→ -(2^64)<t:=fun h=>Int.lt_of_lt_of_le (by decide) h
   have hi:∀{t:Int},t<2147483647→t<2^64:=fun h=>Int.lt_trans h (by decide)
   refine⟨_,rfl,p,_,_,_,rfl,rfl,s1,bZ,_,rfl,p,_,_,_,rfl,rfl,s1,bZ,_,_,rfl,rfl,.inl ⟨lo b1,hi b2⟩,?_⟩
   refine⟨_,rfl,p,_,_,_,rfl,rfl,s1,bZ,_,_,rfl,rfl,.inl ⟨by decide,by decide⟩,_,_,rfl,rfl,_,_,rfl,rfl,_,_,rfl,rfl,(by show(0:Int)<2147483629;decide),?_⟩
   have c1:0≤((((v*48271+29)%2147483647)*((v*48271+29)%2147483647)+39373*((v*48271+29)%2147483647)+7)%2147483629):=Int.emod_nonneg _ (by decide)
   have c2:((((v*48271+29)%2147483647)*((v*48271+29)%2147483647)+39373*((v*48271+29)%2147483647)+7)%2147483629)<2147483647:=Int.lt_trans (Int.emod_lt_of_pos _ (by decide)) (by decide)
   refine⟨_,rfl,_,rfl,_,_,rfl,rfl,.inl ⟨lo c1,hi c2⟩,_,rfl,_,_,rfl,rfl,.inl ⟨by decide,by decide⟩,_,_,rfl,rfl,_,_,rfl,rfl,(by show(0:Int)<2147483587;decide),?_⟩
   refine⟨_,rfl,_,_,rfl,rfl,⟨by decide,by decide⟩,_,rfl,_,_,rfl,rfl,hm,?_⟩
   refine q _ _ (Int.emod_nonneg _ (by omega)) (Int.emod_lt_of_pos _ hm) ?_
   exact⟨u,_,Zc,hu,b1,b2⟩
abbrev qU:Stmt:=top 35
def og:Sp:=fun vs H Q _=> ∃(p:Addr) (m:Int),vs=[.ref p,.int m]∧bo H p∧0<m∧m<1000∧
 ∀(b:Addr) (H':Hp) (wd hg:Int),1≤wd→wd≤m→1≤hg→hg≤m→au p H H'→bo H' p→H' b=some (.tup [.int wd,.int hg])→b≠p→Q (.ref b) H'
theorem vF:bu ["_law_state_here", "_law_upto", "_law_way", "_law_wide", "_law_high"] ["_law_state_here", "_law_upto"] (ar qU):=⟨rfl,rfl,rfl,by decide+kernel,rfl,by decide+kernel,by decide+kernel⟩
theorem ID {f:Addr}{fd:FuncData}(F:aP K "_law_board" "_law_board" qU f fd) (D1:Def P w K mg base 1 "_law_take" ["_law_state_here", "_law_many"] iQ):aC P w K mg base av 2 f fd ["_law_state_here", "_law_upto"] og:=by
 refine F.ok vF (fun vs H Q E h=> ?_) (fun aq A outer s H vs Q E hr h=> ?_)
 ·obtain⟨p,m,rfl,_⟩:=h
  rfl
 ·obtain⟨p,m,rfl,st,hm,fU,q⟩:=h
  refine⟨_,Ze (WY (i:=2) (j:=3) (k:=4) rfl vF.nd rfl rfl rfl rfl rfl rfl
    (Za (Zj D1 hr (Za (pv 0) (Za Zf Zb))) (Za (Zm Z6 Zf (Zj D1 hr (Za (pv 0) (Za (pv 1) Zb)))) (Za (Zm Z6 Zf (Zj D1 hr (Za (pv 0) (Za (pv 1) Zb)))) Zb))))
   (Zk (Zu (Y7 (ZU YH (pv 2) Zf (bU _)) (ZH (Za (pv 3) (Za (pv 3) Zb))) (ZH (Za (pv 3) (Za (pv 4) Zb)))))),?_⟩
  refine⟨_,rfl,p,3,rfl,st,by decide,by decide,fun r1 o1 h1 gG ck=> ?_⟩
  refine⟨_,rfl,_,rfl,p,m,rfl,ck,hm,fU,fun r2 o2 h2 dB bM=> ⟨_,_,rfl,rfl,?_⟩⟩
  refine⟨_,rfl,_,rfl,p,m,rfl,bM,hm,fU,fun r3 o3 h3 tm cj=> ⟨_,_,rfl,rfl,_,_,_,rfl,?_⟩⟩
  have sx:au p H (upd (upd (upd H p o1) p o2) p o3):=(au.upd.trans au.upd).trans au.upd
  have fin:∀wd hg:Int,1≤wd→wd≤m→1≤hg→hg≤m→∀b,upd (upd (upd H p o1) p o2) p o3 b=none→Q (.ref b) (upd (upd (upd (upd H p o1) p o2) p o3) b (.tup [.int wd,.int hg])):=fun wd hg a1 a2 a3 a4 b hb=>by
   obtain⟨u,v,e,x1,x2,x3⟩:=cj
   have xf:p≠b:=Zg e hb
   exact q b _ wd hg a1 a2 a3 a4 (fun c o hc hn=>by rw[Zh (Zg (sx c o hc hn) hb)];exact sx c o hc hn) ⟨u,v,by rw[Zh xf];exact e,x1,x2,x3⟩ Zc xf.symm
  refine⟨_,rfl,rfl,_,rfl,?_⟩
  refine rL (fun _=> ?_) (fun _=> ?_)
  ·exact⟨_,rfl,_,rfl,(by show 2≤sizeLine;decide),fun b hb=>fin (1+r2) (1+r2) (by omega) (by omega) (by omega) (by omega) b hb⟩
  ·exact⟨_,rfl,_,rfl,(by show 2≤sizeLine;decide),fun b hb=>fin (1+r2) (1+r3) (by omega) (by omega) (by omega) (by omega) b hb⟩
structure cD (wd hg:Int) (xs:List V):Prop where
 len:(xs.length:Int)=wd
 row:∀r∈rowsOf xs,aQ r 0 (hg - 1)=true
 nd:(rowsOf xs).Nodup
theorem cD.is {wd hg:Int}{xs:List V}(h:cD wd hg xs):cG wd hg (some xs)=true:=by
 show(decide ((xs.length:Int)=wd)&&((rowsOf xs).all fun r=>aQ r 0 (hg - 1))&&decide (rowsOf xs).Nodup)=true
 rw[decide_eq_true h.len,decide_eq_true h.nd,List.all_eq_true.mpr h.row]
 rfl
abbrev qT:Stmt:=top 37
def oa (K:PySem.W.Frag):Sp:=fun vs H Q _=> ∃(p b:Addr) (wd hg:Int),vs=[.ref p,.ref b]∧bo H p∧cN H (.ref b) wd hg∧
 ∀(l:Addr) (H':Hp) (xs:List V),au p H H'→bo H' p→H' l=some (.tup xs)→l≠p→cD wd hg xs→Q (.ref l) H'
theorem om:bu ["_law_state_here", "_law_board_here", "_law_way", "_law_left", "_law_found", "_law_line", "_law_share", "_law_spot"] ["_law_state_here", "_law_board_here"] (ar qT):=⟨rfl,rfl,rfl,by decide+kernel,rfl,by decide+kernel,by decide+kernel⟩
theorem ED {v:Int}(h:0≤v) (h':v<5):∃c:Int,cR ([V.int 4,.int 4,.int 3,.int 1,.int 0]:List V) v=some (.int c):=by
 have:v=0∨v=1∨v=2∨v=3∨v=4:=by omega
 rcases this with rfl |rfl |rfl |rfl |rfl<;>exact⟨_,rfl⟩
theorem GD {n:Nat}{i:Int}(h:0≤i) (h':i<n):seqIndex? i n=some i.toNat:=by
 have e:fv n i=some i.toNat:=by unfold fv;rw[if_pos h,if_pos h']
 exact(Ua e).1
theorem Yr (xs:List V) (y:V):rowsOf (xs++[y])=rowsOf xs++(if (!decide (y=V.ae))=true then [y] else []):=by
 unfold rowsOf
 rw[List.filter_append]
 cases hh:(!decide (y=V.ae))<;>simp[hh]
theorem JT:∀(l:List V) (k:Nat) (h:k<l.length),(l[k]::l.eraseIdx k).Perm l
 |x::l,0,_=> .refl _
 |x::l,k+1,h=>by
  have h':k<l.length:=by simpa using h
  show(l[k]::x::l.eraseIdx k).Perm (x::l)
  exact(List.Perm.swap x l[k] _).trans (List.Perm.cons x (JT l k h'))
theorem IE {f:Addr}{fd:FuncData}(F:aP K "_law_lay" "_law_lay" qT f fd) (G:Gs mg) (D1:Def P w K mg base 1 "_law_take" ["_law_state_here", "_law_many"] iQ):aC P w K mg base av 2 f fd ["_law_state_here", "_law_board_here"] (oa K):=by
 refine F.ok om (fun vs H Q E h=> ?_) (fun aq A outer s H vs Q E hr h=> ?_)
 ·obtain⟨p,b,wd,hg,rfl,_⟩:=h
  rfl
 ·obtain⟨p,b,wd,hg,rfl,st,bd,q⟩:=h
  refine⟨_,Ze (WY (i:=2) (j:=3) (k:=4) rfl om.nd rfl rfl rfl rfl rfl rfl
    (Za (Zj D1 hr (Za (pv 0) (Za Zf Zb))) (Za (Zz Wj rfl G.list boot_list (Za (Zz UX rfl G.range boot_range (Za (ZO Yq (pv 1) Zf (fun _ _=>rfl)) Zb)) Zb)) (Za (Zx Zb) Zb))))
   (Ze (YF PassesOwn.never rfl (Yd rfl G.range (Za (ZO Yq (pv 1) Zf (fun _ _=>rfl)) Zb)) (ZI (i:=5) om.nd rfl (Or.inl rfl))
    (Ze (uk (i:=6) (j:=7) rfl om.nd rfl rfl (by decide) rfl rfl (Za (Zj D1 hr (Za (pv 0) (Za Zf Zb))) (Za (Zj D1 hr (Za (pv 0) (Za Zf Zb))) Zb)) rfl)
    (Zk (ZN (PW.pt (Ur (ZU (FX hr.uR) (pv 3) (Zx Zb) (bU _)) (JR (ZU Gf (pv 6) (ZO ZM (Zx (Za Zf (Za Zf (Za Zf (Za Zf (Za Zf Zb)))))) (pv 2) (fun _ _=>rfl)) (bU _)))))
     (Zk (Ys (Yi PySem.F.plainAttrs_list PySem.F.slot_list_append PySem.F.type_list_append YO (pv 4) (Za Z5 Zb))))
     (Zk (Ys (Yi PySem.F.plainAttrs_list PySem.F.slot_list_append PySem.F.type_list_append YO (pv 4)
      (Za (Yi PySem.F.plainAttrs_list PySem.F.slot_list_pop PySem.F.type_list_pop IA (pv 3) (Za (Zm Yw (pv 7) (Zi Zy rfl G.len boot_len (Za (pv 3) Zb))) Zb)) Zb))))))))
   (Zk (Zu (Zz Z3 rfl G.tuple boot_tuple (Za (pv 4) Zb))))),?_⟩
  obtain⟨a,e,hb⟩:=ZF bd.1
  cases e
  obtain⟨_,w1,w2,g1,g2⟩:=id bd
  obtain⟨u0,v0,e0,_⟩:=id st
  have md:b≠p:=ud hb e0 (by intro z;cases z)
  refine⟨_,rfl,p,5,rfl,st,by decide,by decide,fun way o1 h1 gG ck=> ?_⟩
  have x1:au p H (upd H p o1):=au.upd
  have gE:=x1 _ _ hb md
  refine⟨_,rfl,b,_,_,_,rfl,rfl,aj.of gE,bZ,hg,rfl,fun q1 hJ=> ⟨q1,hg,rfl,Zc,by omega,by omega,fun L hL=> ⟨Nat.zero_le _,fun M hM=> ⟨_,_,_,rfl,?_⟩⟩⟩⟩
  generalize ya:upd (upd (upd (upd H p o1) q1 (.dX 0 hg)) L (.lst (L2.upTo hg.toNat))) M (.lst [])=H0
  have sA:ag (upd H p o1) (upd (upd H p o1) q1 (.dX 0 hg)):=fun c o hc=>by rw[Zh (Zg hc hJ)];exact hc
  have sB:ag (upd (upd H p o1) q1 (.dX 0 hg)) (upd (upd (upd H p o1) q1 (.dX 0 hg)) L (.lst (L2.upTo hg.toNat))):=fun c o hc=>by rw[Zh (Zg hc hL)];exact hc
  have sC:ag (upd (upd (upd H p o1) q1 (.dX 0 hg)) L (.lst (L2.upTo hg.toNat))) H0:=fun c o hc=>by rw[←ya,Zh (Zg hc hM)];exact hc
  have s0:ag (upd H p o1) H0:=sA.trans (sB.trans sC)
  have Eb:H0 M=some (.lst []):=by rw[←ya];exact Zc
  have Ed:H0 L=some (.lst (L2.upTo hg.toNat)):=sC _ _ Zc
  obtain⟨u1,v1,e1,y1,y2,y3⟩:=id ck
  have AS:bo H0 p:=⟨u1,v1,s0 _ _ e1,y1,y2,y3⟩
  have tN:=s0 _ _ e1
  have sX:L≠M:=Zg (by exact Zc) hM
  have xg:p≠L:=Zg (sA _ _ e1) hL
  have rW:p≠M:=Zg (sB _ _ (sA _ _ e1)) hM
  have DS:H0 b=some (.tup [.int wd,.int hg]):=s0 _ _ gE
  have xt:∀H2,(∀c o,H0 c=some o→c≠p→c≠L→c≠M→H2 c=some o)→au p H H2:=fun H2 k c o hc hn=>by
   have c1:=x1 c o hc hn
   exact k c o (s0 _ _ c1) hn (Zg (sA _ _ c1) hL) (Zg (sB _ _ (sA _ _ c1)) hM)
  refine⟨_,rfl,b,_,_,_,rfl,rfl,aj.of DS,iD,wd,rfl,by omega,by omega,?_⟩
  refine YC (n:=wd.toNat) (fun i σ H2=> ∃(ls fs:List V) (x5 x6 x7:Option V),σ=[some (.ref p),some (.ref b),some (.int way),some (.ref L),some (.ref M),x5,x6,x7]∧
    (∀c o,H0 c=some o→c≠p→c≠L→c≠M→H2 c=some o)∧bo H2 p∧H2 L=some (.lst ls)∧H2 M=some (.lst fs)∧fs.length=i∧(∀r∈rowsOf fs++ls,aQ r 0 (hg - 1)=true)∧(rowsOf fs++ls).Nodup)
   ⟨L2.upTo hg.toNat,[],none,none,none,rfl,fun c o hc _ _ _=>hc,AS,Ed,Eb,rfl,?_,?_⟩ ?_ ?_
  ·intro r cI
   have jZ:r∈L2.upTo hg.toNat:=cI
   unfold L2.upTo at jZ
   obtain⟨j,hj,rfl⟩:=List.mem_map.mp jZ
   have:=List.mem_range.mp hj
   show(decide ((0:Int)≤(j:Int))&&decide ((j:Int)≤hg - 1))=true
   rw[decide_eq_true (by omega),decide_eq_true (by omega)]
   rfl
  ·show(L2.upTo hg.toNat).Nodup
   unfold L2.upTo
   have e:((List.range hg.toNat).map fun(i:Nat)=>V.int (i:Int))=(((List.range hg.toNat).map fun(i:Nat)=> (i:Int))).map V.int:=by rw[List.map_map];rfl
   rw[e,WA]
   exact List.Pairwise.map _ (fun x y h z=>h (by omega)) List.nodup_range
  ·rintro i σ H2 hi ⟨ls,fs,x5,x6,x7,rfl,k2,bM,gA,fU,sy,lQ,dZ⟩
   refine⟨_,rfl,p,4,rfl,bM,by decide,by decide,fun sh o3 _ _ cj=> ?_⟩
   refine⟨_,rfl,p,12,rfl,cj,by decide,by decide,fun sp o4 oV jY kP=> ⟨_,_,rfl,?_⟩⟩
   generalize Eg:upd (upd H2 p o3) p o4=H4 at kP
   have x4:au p H2 H4:=by rw[←Eg];exact au.upd.trans au.upd
   have o9:=x4 _ _ gA xg.symm
   have xq:=x4 _ _ fU rW.symm
   have k4:∀c o,H0 c=some o→c≠p→c≠L→c≠M→H4 c=some o:=fun c o hc a1 a2 a3=>x4 c o (k2 c o hc a1 a2 a3) a1
   have hlen:fs.length<sizeLine:=by rw[sizeLine_eq];omega
   refine⟨_,rfl,Nat.zero_le _,fun q2 eK=> ⟨L,q2,ls,rfl,rfl,?_,ak.of Zc,_,rfl,?_⟩⟩
   ·exact ak.of (by rw[Zh (Zg o9 eK)];exact o9)
   have sD:ag H4 (upd H4 q2 (.lst [])):=fun c o hc=>by rw[Zh (Zg hc eK)];exact hc
   generalize LQ:upd H4 q2 (HO.lst [])=H5 at sD
   obtain⟨u4,v4,e4,z1,z2,z3⟩:=id kP
   have keep:∀H6,ag H4 H6→(∀c o,H0 c=some o→c≠p→c≠L→c≠M→H6 c=some o)∧bo H6 p:=fun H6 s6=> ⟨fun c o hc a1 a2 a3=>s6 _ _ (k4 c o hc a1 a2 a3),u4,v4,s6 _ _ e4,z1,z2,z3⟩
   have yG:∀H6,ag H4 H6→qd K "list" vV (nR 4) (gk (tC .ae) kK) [some (.ref p),some (.ref b),some (.int way),some (.ref L),some (.ref M),some (.int (0+(i:Int))),some (.int sh),some (.int sp)] H6 (fun _ H7=> ∃(ls fs:List V) (x5 x6 x7:Option V),([some (.ref p),some (.ref b),some (.int way),some (.ref L),some (.ref M),some (.int (0+(i:Int))),some (.int sh),some (.int sp)]:L2.St)=[some (.ref p),some (.ref b),some (.int way),some (.ref L),some (.ref M),x5,x6,x7]∧
     (∀c o,H0 c=some o→c≠p→c≠L→c≠M→H7 c=some o)∧bo H7 p∧H7 L=some (.lst ls)∧H7 M=some (.lst fs)∧fs.length=i+1∧(∀r∈rowsOf fs++ls,aQ r 0 (hg - 1)=true)∧(rowsOf fs++ls).Nodup):=fun H6 s6=>by
    obtain⟨k6,t6⟩:=keep H6 s6
    have lU:=s6 _ _ xq
    have cZ:=s6 _ _ o9
    refine⟨_,rfl,.inl ⟨rfl,_,ak.of lU⟩,M,fs,.ae,rfl,rfl,lU,hlen,ls,fs++[.ae],_,_,_,rfl,fun c o hc a1 a2 a3=>by rw[Zh a3];exact k6 c o hc a1 a2 a3,?_,by rw[Zh sX];exact cZ,Zc,by rw[List.length_append,sy];rfl,?_,?_⟩
    ·obtain⟨u,v,e,r⟩:=t6
     exact⟨u,v,by rw[Zh rW];exact e,r⟩
    ·rw[Yr];simpa using lQ
    ·rw[Yr];simpa using dZ
   cases xJ:ls.isEmpty with
   |true=>exact aw (aw (yG H5 sD))
   |false=>
    refine aF ?_
    have cK:ls≠[]:=fun z=>by rw[z]at xJ;cases xJ
    have LD:0<ls.length:=List.length_pos_iff.mpr cK
    refine⟨_,rfl,(by show 5≤sizeLine;decide),fun q3 C8=> ?_⟩
    obtain⟨c5,DM⟩:=ED h1 gG
    have sE:ag H5 (upd H5 q3 (.lst [.int 4,.int 4,.int 3,.int 1,.int 0])):=fun c o hc=>by rw[Zh (Zg hc C8)];exact hc
    refine⟨_,rfl,q3,_,_,_,rfl,rfl,ak.of Zc,DM,_,_,rfl,rfl,_,rfl,?_⟩
    generalize LP:upd H5 q3 (HO.lst [V.int 4,.int 4,.int 3,.int 1,.int 0])=H6 at sE
    have s6:=sD.trans sE
    refine rL (fun _=>yG H6 s6) (fun _=> ?_)
    obtain⟨k6,t6⟩:=keep H6 s6
    have lU:=s6 _ _ xq
    have cZ:=s6 _ _ o9
    have m1:0≤sp%(ls.length:Int):=Int.emod_nonneg _ (by omega)
    have m2:sp%(ls.length:Int)<ls.length:=Int.emod_lt_of_pos _ (by omega)
    have m3:(sp%(ls.length:Int)).toNat<ls.length:=by omega
    have m4:sp%(ls.length:Int)<2^63:=by
     by_cases hh:sp< (ls.length:Int)
     ·rw[Int.emod_eq_of_lt oV hh];omega
     ·omega
    refine⟨_,rfl,.inl ⟨rfl,_,ak.of lU⟩,_,rfl,.inl ⟨rfl,_,ak.of cZ⟩,_,rfl,_,rfl,L,ls,rfl,.inl (ak.of cZ),_,_,rfl,rfl,(by show(0:Int)< (ls.length:Int);omega),L,ls,_,_,_,rfl,rfl,cZ,by omega,m4,GD m1 m2,List.getElem?_eq_getElem m3,?_⟩
    generalize hk:(sp%(ls.length:Int)).toNat=k at m3
    have Dl:upd H6 L (.lst (ls.eraseIdx k)) M=some (.lst fs):=by rw[Zh sX.symm];exact lU
    have my:ls[k]∈ls:=List.getElem_mem m3
    have wy:aQ ls[k] 0 (hg - 1)=true:=lQ _ (List.mem_append_right _ my)
    have ny:(!decide (ls[k]=V.ae))=true:=by
     cases e:ls[k] with
     |ae=>rw[e]at wy;cases wy
     |_=>rfl
    have pm:(rowsOf fs++[ls[k]]++ls.eraseIdx k).Perm (rowsOf fs++ls):=by
     rw[List.append_assoc]
     exact List.Perm.append_left _ (JT ls k m3)
    refine⟨M,fs,_,rfl,rfl,Dl,hlen,ls.eraseIdx k,fs++[ls[k]],_,_,_,rfl,fun c o hc a1 a2 a3=>by rw[Zh a3,Zh a2];exact k6 c o hc a1 a2 a3,?_,by rw[Zh sX,Zc],Zc,by rw[List.length_append,sy];rfl,?_,?_⟩
    ·obtain⟨u,v,e,r⟩:=t6
     exact⟨u,v,by rw[Zh rW,Zh xg];exact e,r⟩
    ·rw[Yr,if_pos ny]
     intro r cI
     exact lQ r (pm.mem_iff.mp cI)
    ·rw[Yr,if_pos ny]
     exact pm.nodup_iff.mpr dZ
  ·rintro σ H2 ⟨ls,fs,x5,x6,x7,rfl,k2,bM,gA,fU,sy,lQ,dZ⟩
   refine⟨_,rfl,M,fs,rfl,.inl ⟨ak.of fU,fun l hl=> ?_⟩⟩
   obtain⟨u,v,e,r⟩:=id bM
   have cJ:p≠l:=Zg e hl
   refine q l _ fs (fun c o hc hn=> ?_) ⟨u,v,by rw[Zh cJ];exact e,r⟩ Zc cJ.symm ⟨by omega,fun r cI=>lQ r (List.mem_append_left _ cI),(List.nodup_append.mp dZ).1⟩
   have:=xt H2 k2 c o hc hn
   rw[Zh (Zg this hl)]
   exact this
end
section
def KD (xs:List V):Prop:=∀x∈xs,x=.ae∨∃i,x=.int i
theorem cD.ok {wd hg:Int}{xs:List V}(h:cD wd hg xs):KD xs:=fun x hx=>by
 by_cases e:x=.ae
 ·exact .inl e
 ·have m:x∈rowsOf xs:=List.mem_filter.mpr ⟨hx,by simp[e]⟩
  have q:=h.row x m
  cases x with
  |int i=>exact .inr ⟨i,rfl⟩
  |_=>cases q
end
section
variable {P:Program}{w:World}{K:PySem.W.Frag}{mg:Str→Option Value}{base:Heap}
theorem Paired.at {α β:Type}{F:α→β→Prop} :∀{g9:List α}{g8:List β}{i:Nat}{a:α},Paired F g9 g8→g9[i]? =some a→∃b,g8[i]? =some b∧F a b
 |_,_,_,_,.nil,e=>by simp at e
 |_,_,0,_,.cons r _,e=>by simp at e;subst e;exact⟨_,rfl,r⟩
 |_,_,i+1,a,.cons _ t,e=>by
  obtain⟨u,h1,h2⟩:=Paired.at (i:=i) (a:=a) t (by simpa using e)
  exact⟨u,by simpa using h1,h2⟩
end
section
def Bu (K:PySem.W.Frag):R2:=fun x y H Q=> ∃a b ys,x=.ref a∧y=.ref b∧aj K H a []∧aj K H b ys∧Q (.ref b) H
def lE (K:PySem.W.Frag):R2:=fun x y H Q=>Bu K x y H Q∨vT K x y H Q
theorem Yu {X:Cx} :aW X (binaryOp .Add) (lE X.K):=IJ.or GN
end
section
variable {P:Program}{w:World}{K:PySem.W.Frag}{mg:Str→Option Value}{base:Heap}
abbrev ou:Stmt:=top 25
def uu (H:Hp) (x y:V) (wd hg:Int) (xs:List V):Prop:=cN H x wd hg∧aS H y=some xs∧cD wd hg xs
theorem uu.pl {H:Hp}{x y:V}{wd hg:Int}{xs:List V}(h:uu H x y wd hg xs):cA K H y:=by
 obtain⟨a,rfl,ha⟩:=ZF h.2.1
 refine⟨⟨_,.tup ha⟩,fun zs e z hz=> ?_⟩
 rw[h.2.1]at e
 cases e
 rcases h.2.2.ok z hz with rfl |⟨i,rfl⟩
 ·exact⟨_,.ae⟩
 ·exact⟨_,.int i⟩
def qh:Sp:=fun vs H Q _=> ∃x y wd hg xs,vs=[x,y]∧uu H x y wd hg xs∧∀H',ag H H'→Q .ae H'
theorem vC:bu ["board", "lay"] ["board", "lay"] (ar ou):=⟨rfl,rfl,rfl,by decide+kernel,rfl,by decide+kernel,by decide+kernel⟩
theorem Kc {f:Addr}{fd:FuncData}(F:aP K "need_lay" "need_lay" ou f fd) (D1:Def P w K mg base 5 "is_lay" ["board", "thing"] (jJ K)):aC P w K mg base av 6 f fd ["board", "lay"] qh:=by
 refine F.ok vC (fun vs H Q E h=> ?_) (fun aq A outer s H vs Q E hr h=> ?_)
 ·obtain⟨x,y,wd,hg,xs,rfl,_⟩:=h
  rfl
 ·obtain⟨x,y,wd,hg,xs,rfl,l,q⟩:=h
  refine⟨_,Zk (ZN (Yc (ZJ (Zj D1 hr (Za (pv 0) (Za (pv 1) Zb))))) ZG Zt),?_⟩
  refine⟨x,rfl,y,rfl,x,y,wd,hg,rfl,l.1,l.pl,fun H' sm=> ⟨_,rfl,?_⟩⟩
  rw[l.2.1,l.2.2.is]
  exact aF (q H' sm)
end
section
abbrev iB:List Value:=[.type "ValueError",.type "Exception",.type "BaseException",.type "object"]
structure uB (K:PySem.W.Frag) (mg:Str→Option Value) (cB cL:Addr):Prop where
 mB:mg "NoBoard" =some (.ref cB)
 xB:PySem.W.excIn K cB iB "ValueError.__new__" =true
 mL:mg "NoLay" =some (.ref cL)
 xL:PySem.W.excIn K cL iB "ValueError.__new__" =true
def fL (K:PySem.W.Frag) (H:Hp) (x:V):Prop:=cA K H x∧gr (aS H x)=false
def K4 (K:PySem.W.Frag) (cB cL:Addr) (H:Hp) (x y:V) (C:Addr):Prop:=
 (C=cB∧fL K H x)∨(C=cL∧∃wd hg,cN H x wd hg∧cA K H y∧cG wd hg (aS H y)=false)
theorem Jx {K:PySem.W.Frag}{H H1:Hp}{y:V}(ty:cw K H y) (s1:ag H H1) (e:aS H y=none):aS H1 y=none:=by
 obtain⟨T,t⟩:=ty
 cases t with
 |tup e2=>rw[Zo e2]at e;cases e
 |lst e2=>rw[Zs,s1 _ _ e2];rfl
 |bP e2=>rw[Zs,s1 _ _ e2];rfl
 |dK e2=>rw[Zs,s1 _ _ e2];rfl
 |dT e2=>rw[Zs,s1 _ _ e2];rfl
 |_=>rfl
theorem Yn {K:PySem.W.Frag}{H H1:Hp}{y:V}(ty:cw K H y) (s1:ag H H1):aS H1 y=aS H y:=by
 cases e:aS H y with
 |none=>exact Jx ty s1 e
 |some xs=>exact s1.aS e
theorem cA.same {K:PySem.W.Frag}{H H1:Hp}{y:V}(p:cA K H y) (s1:ag H H1):cA K H1 y:=by
 refine⟨s1.jP p.1,fun xs e z hz=>s1.jP (p.2 xs ?_ z hz)⟩
 rw[←Yn p.1 s1];exact e
theorem fL.same {K:PySem.W.Frag}{H H1:Hp}{x:V}(b:fL K H x) (s1:ag H H1):fL K H1 x:=⟨b.1.same s1,by rw[Yn b.1.1 s1];exact b.2⟩
end
section
variable {P:Program}{w:World}{K:PySem.W.Frag}{mg:Str→Option Value}{base:Heap}{cB cL:Addr}
def qj (K:PySem.W.Frag) (cB:Addr):Sp:=fun vs H _ E=> ∃x,vs=[x]∧fL K H x∧∀e H',ag H H'→E (.ref e) (some cB) H'
theorem Wh {f:Addr}{fd:FuncData}(F:aP K "need_board" "need_board" ow f fd) (G:Gs mg) (X:uB K mg cB cL) (D1:Def P w K mg base 3 "is_board" ["thing"] (jK K)):aC P w K mg base (bz P w) 4 f fd ["board"] (qj K cB):=by
 obtain⟨tk,hL⟩:=G.longest
 refine F.jR vD (fun vs H Q E h=> ?_) (fun aq A outer s H vs Q E hr h=> ?_)
 ·obtain⟨x,rfl,_⟩:=h
  rfl
 ·obtain⟨x,rfl,b,q⟩:=h
  refine⟨_,Zk (ZN (Yc (ZJ (Zj D1 hr (Za (pv 0) Zb)))) (Zk (Y6 PySem.F.excBase_ValueError X.mB X.xB rfl (Za (GV Zv (ZQ (v:=.int 12) rfl hL ⟨_,rfl⟩)) Zb))) Zt),?_⟩
  refine⟨x,rfl,x,rfl,b.1,fun H' sm=> ⟨_,rfl,?_⟩⟩
  rw[b.2]
  exact aw ⟨_,rfl,by decide,12,rfl,by decide,by decide,fun z=> ⟨by show 1≤sizeLine;decide,fun e=>q e H' sm⟩⟩
def qk (K:PySem.W.Frag) (cB:Addr):Sp:=fun vs H _ E=> ∃x y,vs=[x,y]∧fL K H x∧∀e H',ag H H'→E (.ref e) (some cB) H'
theorem GK {f:Addr}{fd:FuncData}(F:aP K "is_lay" "is_lay" oy f fd) (D1:bJ P w K mg base 4 "need_board" ["board"] (qj K cB)):aC P w K mg base (bz P w) 5 f fd ["board", "thing"] (qk K cB):=by
 refine F.jR kZ (fun vs H Q E h=> ?_) (fun aq A outer s H vs Q E hr h=> ?_)
 ·obtain⟨x,y,rfl,_⟩:=h
  rfl
 ·obtain⟨x,y,rfl,b,q⟩:=h
  refine⟨_,Ze (Ys (JU D1 hr (Za (pv 0) Zb))) ZG,?_⟩
  exact⟨x,rfl,x,rfl,b,q⟩
def fM (K:PySem.W.Frag) (cB cL:Addr):Sp:=fun vs H _ E=> ∃x y C,vs=[x,y]∧K4 K cB cL H x y C∧∀e H',ag H H'→E (.ref e) (some C) H'
theorem Uw {f:Addr}{fd:FuncData}(F:aP K "need_lay" "need_lay" ou f fd) (X:uB K mg cB cL) (D1:bJ P w K mg base 5 "is_lay" ["board", "thing"] (qk K cB)) (D2:Def P w K mg base 5 "is_lay" ["board", "thing"] (jJ K)):
  aC P w K mg base (bz P w) 6 f fd ["board", "lay"] (fM K cB cL):=by
 refine F.jR vC (fun vs H Q E h=> ?_) (fun aq A outer s H vs Q E hr h=> ?_)
 ·obtain⟨x,y,C,rfl,_⟩:=h
  rfl
 ·obtain⟨x,y,C,rfl,b,q⟩:=h
  rcases b with ⟨rfl,b⟩ |⟨rfl,wd,hg,b1,b2,b3⟩
  ·refine⟨_,Zk (ZN (Yc (ZJ (JU D1 hr (Za (pv 0) (Za (pv 1) Zb))))) ZG Zt),?_⟩
   exact⟨x,rfl,y,rfl,x,y,rfl,b,q⟩
  ·refine⟨_,Zk (ZN (Yc (ZJ (Zj D2 hr (Za (pv 0) (Za (pv 1) Zb))))) (Zk (Y6 PySem.F.excBase_ValueError X.mL X.xL rfl (Za Zv Zb))) Zt),?_⟩
   refine⟨x,rfl,y,rfl,x,y,wd,hg,rfl,b1,b2,fun H' sm=> ⟨_,rfl,?_⟩⟩
   rw[b3]
   exact aw ⟨by show 1≤sizeLine;decide,fun e=>q e H' sm⟩
end
section
def rA:List Str:=["NoBoard", "NoLay", "NoNumber", "NoPoints", "NoPoint", "NoPaper", "NoUnlike", "NoPrime", "NoRoot", "NoTurn", "TooFew", "TooMany", "NoText", "NoLine", "NoDeed"]
structure dc (K:PySem.W.Frag) (mg:Str→Option Value) (cS C:Addr) (iC:Nat):Prop where
 z:iL K C
 ms:mg "StepError" =some (.ref cS)
 xs:PySem.W.exmOne K (.ref C) (.ref cS)=some true
 m:∀i,i<15→∃c,mg (rA.getD i "")=some (.ref c)∧PySem.W.kitOne K (.ref C) (.ref c)=some (decide (i=iC))
 mv:mg "ValueError" =none
 xv:PySem.W.kitOne K (.ref C) (.type "ValueError")=some true
end
section
variable {P:Program}{w:World}{K:PySem.W.Frag}{mg:Str→Option Value}{base:Heap}
abbrev qF:Stmt:=top 34
def jG (P:Program) (w:World) (K:PySem.W.Frag) (mg:Str→Option Value) (base:Heap) (cS:Addr) (k:Nat):Sp:=fun vs H Q _=> ∃f fd sp C iC,vs=[.ref f]∧iC<15∧dc K mg cS C iC∧(∀s,bg P w H s→PySem.W.FnAt f s)∧aC P w K mg base (bz P w) k f fd [] sp∧
 (∀s,BindsTo s fd ⟨[],[]⟩ [])∧(∀Q' E',(∀e H',ag H H'→E' (.ref e) (some C) H')→sp [] H Q' E')∧∀l H',ag H H'→H l=none→H' l=some (.lst [.int (iC:Int)])→Q (.ref l) H'
theorem gm:bu ["_law_call", "_law_error", "e", "_law_marks"] ["_law_call"] (ar qF):=⟨rfl,rfl,rfl,by decide+kernel,rfl,by decide+kernel,by decide+kernel⟩
def br (iC n:Nat):List V:=(List.range n).map fun i=>V.bl (decide (i=iC))
theorem Zd {H:Hp}{p:Addr}{o:HO}(h:H p=none):ag H (upd H p o):=fun b u hb=>by rw[Zh (Zg hb h)];exact hb
theorem FU {k:Nat}{f:Addr}{fd:FuncData}{cS:Addr}(F:aP K "_law_refused" "_law_refused" qF f fd) (G:Gs mg):aC P w K mg base av (k+1) f fd ["_law_call"] (jG P w K mg base cS k):=by
 refine F.ok gm (fun vs H Q E h=> ?_) (fun aq A outer s H vs Q E hr h=> ?_)
 ·obtain⟨f,fd,sp,C,iC,rfl,_⟩:=h
  rfl
 ·obtain⟨f,fd,sp,C,iC,rfl,hi,M,eo,Fl,sO,cH,q⟩:=h
  obtain⟨c0,m0,k0⟩:=M.m 0 (by decide)
  obtain⟨c1,m1,k1⟩:=M.m 1 (by decide)
  obtain⟨c2,m2,k2⟩:=M.m 2 (by decide)
  obtain⟨c3,m3,k3⟩:=M.m 3 (by decide)
  obtain⟨c4,m4,k4⟩:=M.m 4 (by decide)
  obtain⟨c5,m5,k5⟩:=M.m 5 (by decide)
  obtain⟨c6,m6,k6⟩:=M.m 6 (by decide)
  obtain⟨c7,m7,k7⟩:=M.m 7 (by decide)
  obtain⟨c8,m8,k8⟩:=M.m 8 (by decide)
  obtain⟨c9,m9,k9⟩:=M.m 9 (by decide)
  obtain⟨c10,B8,Cs⟩:=M.m 10 (by decide)
  obtain⟨c11,B7,Cr⟩:=M.m 11 (by decide)
  obtain⟨c12,B6,Cq⟩:=M.m 12 (by decide)
  obtain⟨c13,B4,Cp⟩:=M.m 13 (by decide)
  obtain⟨c14,B3,Co⟩:=M.m 14 (by decide)
  refine⟨_,Ze (Zp (i:=1) gm.nd rfl (Or.inl rfl) Z5)
   (Ze (U9 (ic:=0) (ie:=2) rfl rfl rfl gm.nd rfl (Or.inl rfl) rfl rfl M.ms rfl hr (fun e=>Zk (Zp (i:=1) gm.nd rfl (Or.inl rfl) (pv 2))))
   (Ze (Zp (i:=3) gm.nd rfl (Or.inr rfl) (Zx (Za (Zi Zr rfl G.isinstance boot_isinstance (Za (pv 1) (Za (ZQ (v:=.ref c0) rfl m0 rfl) Zb))) (Za (Zi Zr rfl G.isinstance boot_isinstance (Za (pv 1) (Za (ZQ (v:=.ref c1) rfl m1 rfl) Zb))) (Za (Zi Zr rfl G.isinstance boot_isinstance (Za (pv 1) (Za (ZQ (v:=.ref c2) rfl m2 rfl) Zb))) Zb)))))
   (Ze (Zp (i:=3) gm.nd rfl (Or.inr rfl) (Zm ZZ (pv 3) (Zx (Za (Zi Zr rfl G.isinstance boot_isinstance (Za (pv 1) (Za (ZQ (v:=.ref c3) rfl m3 rfl) Zb))) (Za (Zi Zr rfl G.isinstance boot_isinstance (Za (pv 1) (Za (ZQ (v:=.ref c4) rfl m4 rfl) Zb))) (Za (Zi Zr rfl G.isinstance boot_isinstance (Za (pv 1) (Za (ZQ (v:=.ref c5) rfl m5 rfl) Zb))) Zb))))))
   (Ze (Zp (i:=3) gm.nd rfl (Or.inr rfl) (Zm ZZ (pv 3) (Zx (Za (Zi Zr rfl G.isinstance boot_isinstance (Za (pv 1) (Za (ZQ (v:=.ref c6) rfl m6 rfl) Zb))) (Za (Zi Zr rfl G.isinstance boot_isinstance (Za (pv 1) (Za (ZQ (v:=.ref c7) rfl m7 rfl) Zb))) (Za (Zi Zr rfl G.isinstance boot_isinstance (Za (pv 1) (Za (ZQ (v:=.ref c8) rfl m8 rfl) Zb))) Zb))))))
   (Ze (Zp (i:=3) gm.nd rfl (Or.inr rfl) (Zm ZZ (pv 3) (Zx (Za (Zi Zr rfl G.isinstance boot_isinstance (Za (pv 1) (Za (ZQ (v:=.ref c9) rfl m9 rfl) Zb))) (Za (Zi Zr rfl G.isinstance boot_isinstance (Za (pv 1) (Za (ZQ (v:=.ref c10) rfl B8 rfl) Zb))) (Za (Zi Zr rfl G.isinstance boot_isinstance (Za (pv 1) (Za (ZQ (v:=.ref c11) rfl B7 rfl) Zb))) Zb))))))
   (Ze (Zp (i:=3) gm.nd rfl (Or.inr rfl) (Zm ZZ (pv 3) (Zx (Za (Zi Zr rfl G.isinstance boot_isinstance (Za (pv 1) (Za (ZQ (v:=.ref c12) rfl B6 rfl) Zb))) (Za (Zi Zr rfl G.isinstance boot_isinstance (Za (pv 1) (Za (ZQ (v:=.ref c13) rfl B4 rfl) Zb))) (Za (Zi Zr rfl G.isinstance boot_isinstance (Za (pv 1) (Za (ZQ (v:=.ref c14) rfl B3 rfl) Zb))) Zb))))))
   (Ze (ZN (Yc (ZJ (Zi Zr rfl G.isinstance boot_isinstance (Za (pv 1) (Za (ZA (v:=.ty "ValueError") rfl M.mv PyProof.Rows.Boot.«ValueError» rfl) Zb))))) (Zk (Zu Z5)) Zt)
   (Zk (Zu (Ye ["_law_k", "_law_marks"] 1 [3] (Yd rfl G.range (Za Zf Zb)) (fun C s H fp=>pb 0)
    (fun C s H fp=>WW (ZJ (ZO (show mZ (aI _ _ _ C s H fp) (oD K) from ZM) (pv 1) (pv 0) (fun _ _=>rfl)))) (fun C s H fp D=>df rfl (pv 0)))))))))))),?_⟩
  refine⟨f,fd,sp,rfl,eo,Fl,sO,cH _ _ fun e H1 s1=> ⟨e,C,rfl,rfl,M.xs,fun kd=> ⟨_,rfl,?_⟩⟩⟩
  have s2:ag H1 (upd H1 e (iy e C)):=Zd kd
  have he:upd H1 e (iy e C) e=some (iy e C):=Zc
  generalize upd H1 e (iy e C)=H2 at s2 he
  refine⟨_,rfl,e,C,_,_,_,rfl,he,M.z,fun _ h=>h,k0,_,rfl,e,C,_,_,_,rfl,he,M.z,fun _ h=>h,k1,_,rfl,e,C,_,_,_,rfl,he,M.z,fun _ h=>h,k2,(by show 3≤sizeLine;decide),fun l1 ji=> ?_⟩
  have sa:ag H2 (upd H2 l1 (.lst (br iC 3))):=Zd ji
  have ha:upd H2 l1 (.lst (br iC 3)) l1=some (.lst (br iC 3)):=Zc
  show _
  generalize Ei:upd H2 l1 (HO.lst (br iC 3))=Ha at sa ha
  rw[show upd H2 l1 (HO.lst [V.bl (decide (0=iC)),V.bl (decide (1=iC)),V.bl (decide (2=iC))])=Ha from Ei]
  have ph:=sa _ _ he
  refine⟨_,rfl,_,rfl,e,C,_,_,_,rfl,ph,M.z,fun _ h=>h,k3,_,rfl,e,C,_,_,_,rfl,ph,M.z,fun _ h=>h,k4,_,rfl,e,C,_,_,_,rfl,ph,M.z,fun _ h=>h,k5,(by show 3≤sizeLine;decide),fun m0 xw=> ⟨l1,m0,br iC 3,_,rfl,rfl,Zd xw _ _ ha,Zc,(by show 3+3≤sizeLine;decide),fun p0 xj=> ?_⟩⟩
  have qS:ag Ha (upd Ha m0 (.lst [V.bl (decide (3=iC)),V.bl (decide (4=iC)),V.bl (decide (5=iC))])):=Zd xw
  generalize upd Ha m0 (HO.lst [V.bl (decide (3=iC)),V.bl (decide (4=iC)),V.bl (decide (5=iC))])=nk at qS xj
  have qO:ag nk (upd nk p0 (.lst (br iC 6))):=Zd xj
  have x9:upd nk p0 (.lst (br iC 6)) p0=some (.lst (br iC 6)):=Zc
  generalize Em:upd nk p0 (HO.lst (br iC 6))=pS at qO x9
  rw[show upd nk p0 (HO.lst (br iC 3++[V.bl (decide (3=iC)),V.bl (decide (4=iC)),V.bl (decide (5=iC))]))=pS from Em]
  have kd:=qO _ _ (qS _ _ ph)
  refine⟨_,rfl,_,rfl,e,C,_,_,_,rfl,kd,M.z,fun _ h=>h,k6,_,rfl,e,C,_,_,_,rfl,kd,M.z,fun _ h=>h,k7,_,rfl,e,C,_,_,_,rfl,kd,M.z,fun _ h=>h,k8,(by show 3≤sizeLine;decide),fun m1 xu=> ⟨p0,m1,br iC 6,_,rfl,rfl,Zd xu _ _ x9,Zc,(by show 6+3≤sizeLine;decide),fun p1 oX=> ?_⟩⟩
  have qR:ag pS (upd pS m1 (.lst [V.bl (decide (6=iC)),V.bl (decide (7=iC)),V.bl (decide (8=iC))])):=Zd xu
  generalize upd pS m1 (HO.lst [V.bl (decide (6=iC)),V.bl (decide (7=iC)),V.bl (decide (8=iC))])=kz at qR oX
  have qN:ag kz (upd kz p1 (.lst (br iC 9))):=Zd oX
  have x8:upd kz p1 (.lst (br iC 9)) p1=some (.lst (br iC 9)):=Zc
  generalize El:upd kz p1 (HO.lst (br iC 9))=pR at qN x8
  rw[show upd kz p1 (HO.lst (br iC 6++[V.bl (decide (6=iC)),V.bl (decide (7=iC)),V.bl (decide (8=iC))]))=pR from El]
  have pj:=qN _ _ (qR _ _ kd)
  refine⟨_,rfl,_,rfl,e,C,_,_,_,rfl,pj,M.z,fun _ h=>h,k9,_,rfl,e,C,_,_,_,rfl,pj,M.z,fun _ h=>h,Cs,_,rfl,e,C,_,_,_,rfl,pj,M.z,fun _ h=>h,Cr,(by show 3≤sizeLine;decide),fun m2 fU=> ⟨p1,m2,br iC 9,_,rfl,rfl,Zd fU _ _ x8,Zc,(by show 9+3≤sizeLine;decide),fun p2 j4=> ?_⟩⟩
  have qQ:ag pR (upd pR m2 (.lst [V.bl (decide (9=iC)),V.bl (decide (10=iC)),V.bl (decide (11=iC))])):=Zd fU
  generalize upd pR m2 (HO.lst [V.bl (decide (9=iC)),V.bl (decide (10=iC)),V.bl (decide (11=iC))])=nj at qQ j4
  have qM:ag nj (upd nj p2 (.lst (br iC 12))):=Zd j4
  have xZ:upd nj p2 (.lst (br iC 12)) p2=some (.lst (br iC 12)):=Zc
  generalize Ek:upd nj p2 (HO.lst (br iC 12))=pQ at qM xZ
  rw[show upd nj p2 (HO.lst (br iC 9++[V.bl (decide (9=iC)),V.bl (decide (10=iC)),V.bl (decide (11=iC))]))=pQ from Ek]
  have kc:=qM _ _ (qQ _ _ pj)
  refine⟨_,rfl,_,rfl,e,C,_,_,_,rfl,kc,M.z,fun _ h=>h,Cq,_,rfl,e,C,_,_,_,rfl,kc,M.z,fun _ h=>h,Cp,_,rfl,e,C,_,_,_,rfl,kc,M.z,fun _ h=>h,Co,(by show 3≤sizeLine;decide),fun m3 xr=> ⟨p2,m3,br iC 12,_,rfl,rfl,Zd xr _ _ xZ,Zc,(by show 12+3≤sizeLine;decide),fun p3 lR=> ?_⟩⟩
  have qP:ag pQ (upd pQ m3 (.lst [V.bl (decide (12=iC)),V.bl (decide (13=iC)),V.bl (decide (14=iC))])):=Zd xr
  generalize upd pQ m3 (HO.lst [V.bl (decide (12=iC)),V.bl (decide (13=iC)),V.bl (decide (14=iC))])=ni at qP lR
  have qL:ag ni (upd ni p3 (.lst (br iC 15))):=Zd lR
  have xY:upd ni p3 (.lst (br iC 15)) p3=some (.lst (br iC 15)):=Zc
  generalize Ej:upd ni p3 (HO.lst (br iC 15))=zH at qL xY
  rw[show upd ni p3 (HO.lst (br iC 12++[V.bl (decide (12=iC)),V.bl (decide (13=iC)),V.bl (decide (14=iC))]))=zH from Ej]
  have DF:=qL _ _ (qP _ _ kc)
  refine⟨_,rfl,e,C,_,_,_,rfl,DF,M.z,fun _ h=>h,M.xv,_,rfl,?_⟩
  refine aF ?_
  refine⟨15,rfl,by decide,by decide,?_⟩
  refine YG (n:=15) (fun i ys σ H4=>ys=((List.range i).filter fun k=>decide (k=iC)).map (fun k:Nat=>V.int (k:Int))∧H4=zH∧∃v,σ=[v,some (.ref p3)]) ⟨rfl,rfl,none,rfl⟩ ?_ ?_
  ·rintro i ys σ H4 Dy ⟨rfl,rfl,v,rfl⟩
   have hm:cR (br iC 15) (0+(i:Int))=some (V.bl (decide (i=iC))):=by
    rw[Int.zero_add]
    refine Yl ?_
    unfold br
    rw[List.getElem?_map,List.getElem?_range Dy]
    rfl
   refine⟨_,rfl,_,rfl,p3,_,_,_,rfl,rfl,ak.of xY,hm,_,rfl,?_⟩
   have er:((List.range (i+1)).filter fun k=>decide (k=iC))=((List.range i).filter fun k=>decide (k=iC))++(if decide (i=iC)=true then [i] else []):=by
    rw[List.range_succ,List.filter_append]
    cases hd:decide (i=iC)<;>simp_all
   cases hd:decide (i=iC) with
   |true=>
    rw[hd]at er
    refine aw ⟨_,rfl,?_,?_,rfl,_,rfl⟩
    ·rw[List.length_map,sizeLine_eq]
     have:=List.length_filter_le (fun k=>decide (k=iC)) (List.range i)
     rw[List.length_range]at this
     omega
    ·rw[er,if_pos rfl,List.map_append,Int.zero_add]
     rfl
   |false=>
    rw[hd]at er
    exact aF ⟨by rw[er,if_neg Bool.false_ne_true,List.append_nil],rfl,_,rfl⟩
  ·rintro ys σ H4 ⟨rfl,rfl,v,rfl⟩ p hp
   have ef:((List.range 15).filter fun k=>decide (k=iC)).map (fun k:Nat=>V.int (k:Int))=[V.int (iC:Int)]:=by
    have c:iC=0∨iC=1∨iC=2∨iC=3∨iC=4∨iC=5∨iC=6∨iC=7∨iC=8∨iC=9∨iC=10∨iC=11∨iC=12∨iC=13∨iC=14:=by omega
    rcases c with rfl |rfl |rfl |rfl |rfl |rfl |rfl |rfl |rfl |rfl |rfl |rfl |rfl |rfl |rfl<;>rfl
   rw[ef]
   have de:=s1.trans (s2.trans (sa.trans (qS.trans (qO.trans (qR.trans (qN.trans (qQ.trans (qM.trans (qP.trans qL)))))))))
   exact q p _ (de.trans (Zd hp)) (de.free hp) Zc
end
section
theorem bo.same {H H':Hp}{p:Addr}(h:bo H p) (s:ag H H'):bo H' p:=by
 obtain⟨u,v,e,r⟩:=h
 exact⟨u,v,s _ _ e,r⟩
def gR:V→Bool
 | .int _=>true
 | .bl _=>true
 | .str _=>true
 | .ae=>true
 |_=>false
theorem zd {K:PySem.W.Frag}{H:Hp} :∀{v:V},gR v=true→cw K H v
 | .int i,_=> ⟨_,.int i⟩
 | .bl b,_=> ⟨_,.bl b⟩
 | .str x,_=> ⟨_,.str x⟩
 | .ae,_=> ⟨_,.ae⟩
def iZ:Lit→Bool
 | .sc v=>gR v
 | .tup xs=>xs.all gR
 |_=>true
def rG:Lit→Option (List V)
 | .tup xs=>some xs
 |_=>none
theorem JG {H:Hp}{v:V} :∀{l:Lit},iZ l=true→dF H v l→aS H v=rG l
 | .sc u,hp,h=>by
  have h':v=u:=h
  subst h'
  cases v with
  |ref a=>cases hp
  |_=>rfl
 | .tup xs,_,⟨a,e,h⟩=>by rw[e,Zo h];rfl
 | .lst xs,_,⟨a,e,h⟩=>by rw[e,Zs,h];rfl
 | .fB,_,⟨a,e,h⟩=>by rw[e,Zs,h];rfl
theorem uf {K:PySem.W.Frag}{H:Hp}{v:V} :∀{l:Lit},iZ l=true→dF H v l→cA K H v
 | .sc u,hp,h=>by
  have h':v=u:=h
  subst h'
  refine⟨zd hp,fun xs e y hy=> ?_⟩
  rw[JG (l:=.sc v) hp rfl]at e
  cases e
 | .tup xs,hp,⟨a,e,h⟩=>by
  subst e
  refine⟨⟨_,.tup h⟩,fun ys e y hy=> ?_⟩
  rw[Zo h]at e
  cases e
  exact zd (List.all_eq_true.mp hp y hy)
 | .lst xs,hp,⟨a,e,h⟩=>by
  subst e
  refine⟨⟨_,.lst h⟩,fun ys e y hy=> ?_⟩
  rw[Zs,h]at e
  cases e
 | .fB,hp,⟨a,e,h⟩=>by
  subst e
  refine⟨⟨_,.dK h⟩,fun ys e y hy=> ?_⟩
  rw[Zs,h]at e
  cases e
theorem Paired.app {α β:Type}{F:α→β→Prop} :∀{a c:List α}{b d:List β},Paired F a b→Paired F c d→Paired F (a++c) (b++d)
 |_,_,_,_,.nil,h=>h
 |_,_,_,_,.cons r t,h=> .cons r (Paired.app t h)
end
section
variable {P:Program}{w:World}{K:PySem.W.Frag}{mg:Str→Option Value}{base:Heap}
abbrev iW:Stmt:=top 36
def oJ:List Lit:=[.tup [.int 0,.int 1],.tup [.int 1,.int 13],.tup [.int 13,.int 1],.tup [.int 1,.int 0],.tup [.int (-1),.int 2],.tup [.bl true,.int 2],.tup [.int 2,.bl true],.tup [.bl false,.int 1],.tup [.int 2],.tup [.int 2,.int 2,.int 2]]
def oI:List Lit:=[.lst [.int 2,.int 2],.sc .ae,.sc (.int 4),.sc (.str "2x2"),.tup [.str "2",.int 2],.tup [.int 2,.ae],.tup [.int (10^(29:Int).toNat),.int 2],.fB]
def yC (l:Lit):Bool:=iZ l&& !gr (rG l)
theorem Hx:(oJ++oI).all yC=true:=by decide+kernel
def fY (p:Addr) (H:Hp) (v:V):Prop:=v≠.ref p∧∀xs,aS H v=some xs→∀y∈xs,y≠.ref p
def n8 (K:PySem.W.Frag):Sp:=fun vs H Q _=> ∃p:Addr,vs=[.ref p]∧bo H p∧∀v H',au p H H'→bo H' p→fL K H' v→fY p H' v→Q v H'
def rp:List Expr:=match bD iW with | .Assign _ (.List es _) _::_=>es |_=> []
def rn:List Expr:=match bD iW with |_:: .Return (some (.Subscript (.BinOp _ _ (.List es _) _) _ _)) _::_=>es |_=> []
def BQ (a b:List Expr):List Stmt:=match bD iW with
 | [.Assign x (.List _ p1) p2,.Return (some (.Subscript (.BinOp y o (.List _ p3) p4) z p5)) p6]=> [.Assign x (.List a p1) p2,.Return (some (.Subscript (.BinOp y o (.List b p3) p4) z p5)) p6]
 |_=> []
theorem HC:bD iW=BQ rp rn:=by kernel_rfl
theorem Hy:litsOf rp=some oJ:=by kernel_rfl
theorem HB:litsOf rn=some oI:=by kernel_rfl
theorem vB:bu ["_law_state_here", "_law_some"] ["_law_state_here"] (ar iW):=⟨rfl,rfl,rfl,by decide+kernel,rfl,by decide+kernel,by decide+kernel⟩
theorem FQ {f:Addr}{fd:FuncData}(F:aP K "_law_no_board" "_law_no_board" iW f fd) (D1:Def P w K mg base 1 "_law_take" ["_law_state_here", "_law_many"] iQ):aC P w K mg base av 2 f fd ["_law_state_here"] (n8 K):=by
 refine F.ok vB (fun vs H Q E h=> ?_) (fun aq A outer s H vs Q E hr h=> ?_)
 ·obtain⟨p,rfl,_⟩:=h
  rfl
 ·obtain⟨p,rfl,st,q⟩:=h
  rw[HC]
  have i1:=Hy
  have i2:=HB
  generalize rp=yo at i1
  generalize rn=yn at i2
  refine⟨_,Ze (Zp (i:=1) vB.nd rfl (Or.inl rfl) (Zx (YN (ls:=oJ) i1))) (Zk (Zu (ZO ZM (Zm ZZ (pv 1) (Zx (YN (ls:=oI) i2))) (Zj D1 hr (Za (pv 0) (Za Zf Zb))) (fun _ _=>rfl)))),?_⟩
  refine fun bf H1 s1 we n1=> ?_
  have l1:bf.length=10:=Paired.length we
  refine⟨by rw[l1];decide,fun L1 gF=> ?_⟩
  have s2:ag H1 (upd H1 L1 (.lst bf)):=Zd gF
  have eL:upd H1 L1 (.lst bf) L1=some (.lst bf):=Zc
  generalize upd H1 L1 (HO.lst bf)=H2 at s2 eL
  refine⟨_,rfl,fun bp H3 s3 vZ n2=> ?_⟩
  have l2:bp.length=8:=Paired.length vZ
  refine⟨by rw[l2];decide,fun L2 ki=> ?_⟩
  have s4:ag H3 (upd H3 L2 (.lst bp)):=Zd ki
  have eM:upd H3 L2 (.lst bp) L2=some (.lst bp):=Zc
  generalize upd H3 L2 (HO.lst bp)=H4 at s4 eM
  refine⟨L1,L2,_,_,rfl,rfl,s4 _ _ (s3 _ _ eL),eM,by rw[l1,l2];decide,fun L3 Ec=> ?_⟩
  have s5:ag H4 (upd H4 L3 (.lst (bf++bp))):=Zd Ec
  have eN:upd H4 L3 (.lst (bf++bp)) L3=some (.lst (bf++bp)):=Zc
  generalize upd H4 L3 (HO.lst (bf++bp))=H5 at s5 eN
  have de:ag H H5:=s1.trans (s2.trans (s3.trans (s4.trans s5)))
  have pr:Paired (dF H5) (bf++bp) (oJ++oI):=Paired.app (Paired.g7 we fun _ _ h=>h.same (s2.trans (s3.trans (s4.trans s5)))) (Paired.g7 vZ fun _ _ h=>h.same (s4.trans s5))
  have bF:=st.same de
  refine⟨_,rfl,p,18,rfl,bF,by decide,by decide,fun r o h0 LR du=> ?_⟩
  obtain⟨u0,v0,mC,_⟩:=id bF
  have rJ:(bf++bp).length=18:=by rw[List.length_append,l1,l2]
  have nL:L3≠p:=fun z=>by
   rw[z,mC]at eN
   have y:[V.int u0,V.int v0]=bf++bp:=by injection eN with y;injection y
   rw[←y]at rJ
   cases rJ
  have aA:r.toNat< (bf++bp).length:=by rw[rJ];omega
  have ej:=List.getElem?_eq_getElem aA
  have jo:=Yl ej
  rw[Int.toNat_of_nonneg h0]at jo
  obtain⟨l,hl,eF⟩:=Paired.at pr ej
  have hb:=List.all_eq_true.mp Hx l (List.mem_of_getElem? hl)
  unfold yC at hb
  rw[Bool.and_eq_true]at hb
  refine⟨L3,_,_,_,rfl,rfl,ak.of (by rw[Zh nL];exact eN),jo,?_⟩
  have keep:∀c u,H5 c=some u→c≠p→upd H5 p o c=some u:=fun c u hc hn=>by rw[Zh hn];exact hc
  have kq:dF (upd H5 p o) (bf++bp)[r.toNat] l:=by
   cases l with
   |sc v=>exact eF
   |tup xs=>
    obtain⟨a,e,h⟩:=eF
    exact⟨a,e,keep _ _ h fun z=>by rw[z,mC]at h;cases h⟩
   |lst xs=>
    obtain⟨a,e,h⟩:=eF
    refine⟨a,e,keep _ _ h fun z=> ?_⟩
    have hm:V.ref a∈bf++bp:=by rw[←e];exact List.getElem_mem aA
    obtain⟨_,_,y,_⟩:=id st
    rcases List.mem_append.mp hm with hm |hm
    ·have:=n1 a hm
     rw[z,y]at this
     cases this
    ·have:=n2 a hm
     rw[z,(s1.trans s2) _ _ y]at this
     cases this
   |fB=>
    obtain⟨a,e,h⟩:=eF
    exact⟨a,e,keep _ _ h fun z=>by rw[z,mC]at h;cases h⟩
  have nr:fY p (upd H5 p o) (bf++bp)[r.toNat]:=by
   have pE:upd H5 p o p=some o:=Zc
   cases l with
   |sc v=>
    have e:(bf++bp)[r.toNat]=v:=kq
    rw[e]
    have hs:gR v=true:=hb.1
    refine⟨fun z=> (by rw[z]at hs;cases hs),fun xs h y hy=> ?_⟩
    rw[JG (l:=.sc v) hs rfl]at h
    cases h
   |tup xs=>
    obtain⟨a,e,h⟩:=eF
    have cK:a≠p:=fun z=>by rw[z,mC]at h;cases h
    rw[e]
    refine⟨fun z=>cK (by cases z;rfl),fun ys h2 y hy z=> ?_⟩
    rw[Zo (keep _ _ h cK)]at h2
    cases h2
    have hs:=List.all_eq_true.mp (show xs.all gR=true from hb.1) y hy
    rw[z]at hs
    cases hs
   |lst xs=>
    obtain⟨a,e,h⟩:=kq
    have hm:V.ref a∈bf++bp:=by rw[←e];exact List.getElem_mem aA
    obtain⟨_,_,y,_⟩:=id st
    have cK:a≠p:=fun z=>by
     rcases List.mem_append.mp hm with hm |hm
     ·have:=n1 a hm
      rw[z,y]at this
      cases this
     ·have:=n2 a hm
      rw[z,(s1.trans s2) _ _ y]at this
      cases this
    rw[e]
    refine⟨fun z=>cK (by cases z;rfl),fun ys h2 y hy=> ?_⟩
    rw[Zs,h]at h2
    cases h2
   |fB=>
    obtain⟨a,e,h⟩:=eF
    have cK:a≠p:=fun z=>by rw[z,mC]at h;cases h
    rw[e]
    refine⟨fun z=>cK (by cases z;rfl),fun ys h2 y hy=> ?_⟩
    rw[Zs,keep _ _ h cK]at h2
    cases h2
  refine q _ _ (fun c u hc hn=>keep c u (de _ _ hc) hn) du ⟨uf hb.1 kq,?_⟩ nr
  rw[JG hb.1 kq]
  simpa using hb.2
end
section
theorem Yf {wd hg:Int}{xs:List V}(h:(xs.length:Int)≠wd):cG wd hg (some xs)=false:=by
 show(decide ((xs.length:Int)=wd)&&_&&_)=false
 rw[decide_eq_false h,Bool.false_and,Bool.false_and]
theorem W6 {wd hg:Int}{xs:List V}{y:V}{k:Nat}(hn:y≠.ae) (hw:aQ y 0 (hg - 1)=false):cG wd hg (some (xs.take k++[y]++xs.drop (k+1)))=false:=by
 show(decide _&&((rowsOf (xs.take k++[y]++xs.drop (k+1))).all fun r=>aQ r 0 (hg - 1))&&_)=false
 have hm:y∈rowsOf (xs.take k++[y]++xs.drop (k+1)):=by
  unfold rowsOf
  refine List.mem_filter.mpr ⟨by simp,by simp[hn]⟩
 have:((rowsOf (xs.take k++[y]++xs.drop (k+1))).all fun r=>aQ r 0 (hg - 1))=false:=by
  rw[Bool.eq_false_iff]
  intro h
  have:=List.all_eq_true.mp h y hm
  rw[hw]at this
  cases this
 rw[this,Bool.and_false,Bool.false_and]
theorem Up (a b:List V):rowsOf (a++b)=rowsOf a++rowsOf b:=by unfold rowsOf;rw[List.filter_append]
theorem Hq {wd hg:Int}{xs:List V}{y:V}{j k:Nat}(hj:xs[j]? =some y) (LK:j≠k) (hn:y≠.ae):cG wd hg (some (xs.take k++[y]++xs.drop (k+1)))=false:=by
 show(decide _&&_&&decide (rowsOf (xs.take k++[y]++xs.drop (k+1))).Nodup)=false
 have:¬(rowsOf (xs.take k++[y]++xs.drop (k+1))).Nodup:=by
  rw[Up,Up]
  have e1:rowsOf [y]=[y]:=by unfold rowsOf;simp[hn]
  rw[e1]
  intro nd
  have gC:∀l:List V,y∈l→y∈rowsOf l:=fun l hl=>List.mem_filter.mpr ⟨hl,by simp[hn]⟩
  obtain⟨n1,n2,n3⟩:=List.nodup_append.mp nd
  obtain⟨m1,m2,m3⟩:=List.nodup_append.mp n1
  by_cases aA:j<k
  ·have:y∈xs.take k:=List.mem_of_getElem? (i:=j) (by rw[List.getElem?_take,if_pos aA];exact hj)
   exact m3 y (gC _ this) y (by simp) rfl
  ·have:y∈xs.drop (k+1):=List.mem_of_getElem? (i:=j - (k+1)) (by rw[List.getElem?_drop,show k+1+(j - (k+1))=j by omega];exact hj)
   exact n3 y (by simp) y (gC _ this) rfl
 rw[decide_eq_false this,Bool.and_false]
def gb (K:PySem.W.Frag) (wd hg:Int) (H:Hp) (v:V):Prop:=cA K H v∧cG wd hg (aS H v)=false
theorem gb.same {K:PySem.W.Frag}{wd hg:Int}{H H':Hp}{v:V}(b:gb K wd hg H v) (s:ag H H'):gb K wd hg H' v:=⟨b.1.same s,by rw[Yn b.1.1 s];exact b.2⟩
theorem He {K:PySem.W.Frag}{wd hg:Int}{H:Hp}{a:Addr}{xs:List V}(h:H a=some (.tup xs)) (hp:∀y∈xs,cw K H y) (hb:cG wd hg (some xs)=false):gb K wd hg H (.ref a):=by
 refine⟨⟨⟨_,.tup h⟩,fun ys e y hy=> ?_⟩,by rw[Zo h];exact hb⟩
 rw[Zo h]at e
 cases e
 exact hp y hy
theorem UY {K:PySem.W.Frag}{wd hg:Int}{H:Hp}{v:V}{l:Lit}(hp:iZ l=true) (hn:rG l=none) (h:dF H v l):gb K wd hg H v:=⟨uf hp h,by rw[JG hp h,hn];rfl⟩
theorem Hd {K:PySem.W.Frag}{wd hg:Int}{H:Hp}{a:Addr}{xs:List V}(h:H a=some (.lst xs)):gb K wd hg H (.ref a):=by
 have e0:aS H (.ref a)=none:=by rw[Zs,h];rfl
 exact⟨⟨⟨_,.lst h⟩,fun ys e=>by rw[e0]at e;cases e⟩,by rw[e0];rfl⟩
def kU:V→Bool
 | .int i=>decide (i.natAbs.log2<1920)
 | .bl _=>true
 | .ae=>true
 | .str x=>x== "0" ||x== "1x1: ."
 |_=>false
def gn (H:Hp) (y:V):Prop:=kU y=true∨∃(b:Addr) (z:V),y=.ref b∧(H b=some (.tup [z])∨H b=some (.lst [z]))∧kU z=true
def iE (p:Addr) (H:Hp) (v:V):Prop:=kU v=true∨(∃(a:Addr) (xs:List V),v=.ref a∧xs.length≤1000∧(H a=some (.tup xs)∨(a≠p∧H a=some (.lst xs)))∧∀y∈xs,gn H y)∨∃a:Addr,v=.ref a∧H a=some (.dK [])
theorem gn.same {H H':Hp}{y:V}(h:gn H y) (s:ag H H'):gn H' y:=by
 rcases h with h |⟨b,z,e,h |h,hz⟩
 ·exact .inl h
 ·exact .inr ⟨b,z,e,.inl (s _ _ h),hz⟩
 ·exact .inr ⟨b,z,e,.inr (s _ _ h),hz⟩
theorem iE.same {p:Addr}{H H':Hp}{v:V}(h:iE p H v) (s:ag H H'):iE p H' v:=by
 rcases h with h |⟨a,xs,e,hl,h |⟨n,h⟩,hy⟩ |⟨a,e,h⟩
 ·exact .inl h
 ·exact .inr (.inl ⟨a,xs,e,hl,.inl (s _ _ h),fun y m=> (hy y m).same s⟩)
 ·exact .inr (.inl ⟨a,xs,e,hl,.inr ⟨n,s _ _ h⟩,fun y m=> (hy y m).same s⟩)
 ·exact .inr (.inr ⟨a,e,s _ _ h⟩)
def iF (K:PySem.W.Frag) (H:Hp) (y:V):Prop:=cw K H y∧gn H y
theorem iF.same {K:PySem.W.Frag}{H H':Hp}{y:V}(h:iF K H y) (s:ag H H'):iF K H' y:=⟨s.jP h.1,h.2.same s⟩
def bc (K:PySem.W.Frag) (p:Addr) (wd hg:Int) (H:Hp) (v:V):Prop:=gb K wd hg H v∧iE p H v
theorem bc.same {K:PySem.W.Frag}{p:Addr}{wd hg:Int}{H H':Hp}{v:V}(b:bc K p wd hg H v) (s:ag H H'):bc K p wd hg H' v:=⟨b.1.same s,b.2.same s⟩
theorem ZT {K:PySem.W.Frag}{p:Addr}{wd hg:Int}{H:Hp}{a:Addr}{xs:List V}(h:H a=some (.tup xs)) (hp:∀y∈xs,iF K H y) (hb:cG wd hg (some xs)=false) (hl:xs.length≤1000:=by(simp only[List.length_append,List.length_cons,List.length_nil,List.length_take,List.length_drop];omega)):bc K p wd hg H (.ref a):=⟨He h (fun y hy=> (hp y hy).1) hb,.inr (.inl ⟨a,xs,rfl,hl,.inl h,fun y hy=> (hp y hy).2⟩)⟩
theorem YU {K:PySem.W.Frag}{p:Addr}{wd hg:Int}{H:Hp}{v:V}(hp:iZ (.sc v)=true) (hs:kU v=true):bc K p wd hg H v:=⟨UY (l:=.sc v) hp rfl rfl,.inl hs⟩
theorem Wb {K:PySem.W.Frag}{p:Addr}{wd hg:Int}{H:Hp}{a:Addr}(h:H a=some (.dK [])):bc K p wd hg H (.ref a):=⟨UY (l:=.fB) rfl rfl ⟨a,rfl,h⟩,.inr (.inr ⟨a,rfl,h⟩)⟩
theorem Wa {K:PySem.W.Frag}{p:Addr}{wd hg:Int}{H:Hp}{a:Addr}{xs:List V}(h:H a=some (.lst xs)) (np:a≠p) (hl:xs.length≤1000) (hp:∀y∈xs,gn H y):bc K p wd hg H (.ref a):=⟨Hd h,.inr (.inl ⟨a,xs,rfl,hl,.inr ⟨np,h⟩,hp⟩)⟩
theorem Yg {K:PySem.W.Frag}{a b:Addr}{xs ys:List V}{H:Hp}{Q:VK}(ha:H a=some (.tup xs)) (hb:H b=some (.tup ys)) (hl:xs.length+ys.length≤1000) (q:∀(c:Addr) (H':Hp),ag H H'→H' c=some (.tup (xs++ys))→Q (.ref c) H'):lE K (.ref a) (.ref b) H Q:=by
 cases xs with
 |nil=>exact .inl ⟨a,b,ys,rfl,rfl,aj.of ha,aj.of hb,q b H (ag.refl H) hb⟩
 |cons x r=>
  refine .inr ⟨a,b,x::r,ys,rfl,rfl,aj.of ha,aj.of hb,(by simp),Nat.le_of_lt (qp hl),fun e=> ?_,fun e p hp=> ?_⟩
  ·subst e
   exact q a H (ag.refl H) (by rw[List.append_nil];exact ha)
  ·exact q p _ (Zd hp) Zc
theorem Gk {K:PySem.W.Frag}{a:Addr}{xs:List V}{H:Hp}{Q:VK}{k:Nat}(ha:H a=some (.tup xs)) (hk:k<xs.length) (q:∀p:Addr,H p=none→Q (.ref p) (upd H p (.tup (xs.take k)))):gX K (.ref a) none (some (k:Int)) H Q:=by
 refine⟨a,xs,rfl,aj.of ha,fun h=> ?_,fun p hp=> ?_⟩
 ·rw[HT.ll]at h
  omega
 ·have e:da xs none (some (k:Int))=xs.take k:=by
   unfold da
   rw[HT.qK,HT.ll,List.drop_zero,Nat.sub_zero,Nat.min_eq_left (by omega)]
  rw[e]
  exact q p hp
theorem UU {K:PySem.W.Frag}{a:Addr}{xs:List V}{H:Hp}{Q:VK}{k:Nat}(ha:H a=some (.tup xs)) (hk:0<k) (j8:k≤xs.length) (q:∀p:Addr,H p=none→Q (.ref p) (upd H p (.tup (xs.drop k)))):gX K (.ref a) (some (k:Int)) none H Q:=by
 refine⟨a,xs,rfl,aj.of ha,fun h=> ?_,fun p hp=> ?_⟩
 ·rw[HT.ll]at h
  omega
 ·have e:da xs (some (k:Int)) none=xs.drop k:=by
   unfold da
   rw[HT.qK,HT.ll,Nat.min_eq_left j8]
   exact List.take_of_length_le (by rw[List.length_drop];omega)
  rw[e]
  exact q p hp
theorem WV {K:PySem.W.Frag}{a:Addr}{xs:List V}{y:V}{H:Hp}{Q:VK}{k:Nat}{σ:L2.St}{te tl th uT:TE}(ha:H a=some (.tup xs)) (hk:k<xs.length) (hl:xs.length≤100)
  (e1:∀H Q,Q (.ref a) H→te σ H Q) (e2:∀H Q,Q (.int (k:Int)) H→tl σ H Q) (e3:∀H Q,Q y H→th σ H Q) (e4:∀H Q,Q (.int ((k+1:Nat):Int)) H→uT σ H Q)
  (q:∀(c:Addr) (H':Hp),ag H H'→H' c=some (.tup (xs.take k++[y]++xs.drop (k+1)))→Q (.ref c) H'):
  gP (lE K) (gP (lE K) (nS (gX K) te kJ (nT tl)) (va (gk th kK))) (nS (gX K) te (nT uT) kJ) σ H Q:=by
 refine e1 _ _ (e2 _ _ ⟨_,rfl,Gk ha hk fun p1 oX=>e3 _ _ ⟨(by show 1≤sizeLine;decide),fun p2 j4=> ?_⟩⟩)
 have s1:ag H (upd H p1 (.tup (xs.take k))):=Zd oX
 have s2:=Zd (o:=.tup [y]) j4
 refine Yg (s2 _ _ Zc) Zc (by rw[List.length_take];simp;omega) fun c H3 s3 hc=> ?_
 have sA:=s1.trans (s2.trans s3)
 refine e1 _ _ (e4 _ _ ⟨_,rfl,?_⟩)
 show gX K (.ref a) (some ((k+1:Nat):Int)) none H3 (fun y H2=>lE K (.ref c) y H2 Q)
 refine UU (k:=k+1) (sA _ _ ha) (by omega) (by omega) fun p4 Dc=> ?_
 have s4:=Zd (o:=.tup (xs.drop (k+1))) Dc
 refine Yg (s4 _ _ hc) Zc (by rw[List.length_append,List.length_take,List.length_drop];simp;omega) fun c2 H5 s5 jl=> ?_
 exact q c2 H5 (sA.trans (s4.trans s5)) jl
end
section
variable {P:Program}{w:World}{K:PySem.W.Frag}{mg:Str→Option Value}{base:Heap}
abbrev iV:Stmt:=top 38
def i6:List Lit:=[.sc (.int (-1)),.sc (.bl true),.sc (.bl false),.sc (.str "0"),.tup [.int 0],.sc (.int (10^(29:Int).toNat)),.lst [.int 0]]
def lM:List Lit:=[.sc (.int 0),.sc (.int 0),.sc (.int 0),.sc (.int 1),.sc (.int 1),.sc (.int 2),.sc (.int 3),.sc (.int 4),.sc (.int 5),.sc (.int 6),.sc (.int 7),.sc (.int 8)]
theorem HG {K:PySem.W.Frag}{H:Hp}{v:V}{l:Lit}{hg:Int}(h2:hg≤12) (hl:l∈i6) (h:dF H v l):v≠.ae∧aQ v 0 (hg - 1)=false∧iF K H v:=by
 have hp:iZ l=true:=List.all_eq_true.mp (show i6.all iZ=true by decide+kernel) l hl
 refine⟨?_,?_,(uf hp h).1,?_⟩
 ·simp only[i6,List.mem_cons,List.not_mem_nil,or_false]at hl
  rcases hl with rfl |rfl |rfl |rfl |rfl |rfl |rfl
  ·rw[show v=_ from h];simp
  ·rw[show v=_ from h];simp
  ·rw[show v=_ from h];simp
  ·rw[show v=_ from h];simp
  ·obtain⟨a,e,_⟩:=h;rw[e];simp
  ·rw[show v=_ from h];simp
  ·obtain⟨a,e,_⟩:=h;rw[e];simp
 ·simp only[i6,List.mem_cons,List.not_mem_nil,or_false]at hl
  rcases hl with rfl |rfl |rfl |rfl |rfl |rfl |rfl
  ·rw[show v=_ from h];rfl
  ·rw[show v=_ from h];rfl
  ·rw[show v=_ from h];rfl
  ·rw[show v=_ from h];rfl
  ·obtain⟨a,e,_⟩:=h;rw[e];rfl
  ·rw[show v=_ from h]
   show(decide ((0:Int)≤10^(29:Int).toNat)&&decide ((10:Int)^(29:Int).toNat≤hg - 1))=false
   have:¬(10:Int)^(29:Int).toNat≤hg - 1:=by
    have:(10:Int)^(29:Int).toNat=100000000000000000000000000000:=by decide
    omega
   rw[decide_eq_false this,Bool.and_false]
  ·obtain⟨a,e,_⟩:=h;rw[e];rfl
 ·simp only[i6,List.mem_cons,List.not_mem_nil,or_false]at hl
  rcases hl with rfl |rfl |rfl |rfl |rfl |rfl |rfl
  ·rw[show v=_ from h];exact .inl (by decide)
  ·rw[show v=_ from h];exact .inl (by decide)
  ·rw[show v=_ from h];exact .inl (by decide)
  ·rw[show v=_ from h];exact .inl (by decide)
  ·obtain⟨a,e,h1⟩:=h;exact .inr ⟨a,.int 0,e,.inl h1,by decide⟩
  ·rw[show v=_ from h];exact .inl (by decide)
  ·obtain⟨a,e,h1⟩:=h;exact .inr ⟨a,.int 0,e,.inr h1,by decide⟩
theorem Ub {r:Int}{vs:List V}{H:Hp}(h0:0≤r) (h1:r<12) (pr:Paired (dF H) vs lM):∃c:Nat,c≤8∧cR vs r=some (.int (c:Int)):=by
 have key:∀(vs:List V) (ls:List Lit),Paired (dF H) vs ls→ls.all (fun l=>match l with | .sc (.int i)=>decide (0≤i∧i≤8) |_=>false)=true→∀i:Nat,i<ls.length→∃c:Nat,c≤8∧vs[i]? =some (.int (c:Int)):=by
  intro vs ls pr
  induction pr with
  |nil=>intro _ i hi;simp at hi
  |cons r t ih=>
   rename_i v l zU Lr
   intro ha i hi
   rw[List.all_cons,Bool.and_eq_true]at ha
   cases i with
   |zero=>
    cases l with
    |sc u=>
     have e:v=u:=r
     subst e
     cases v with
     |int j=>
      have hj:=of_decide_eq_true ha.1
      exact⟨j.toNat,by omega,by simp;omega⟩
     |_=>cases ha.1
    |_=>cases ha.1
   |succ i=>
    obtain⟨c,h1,h2⟩:=ih ha.2 i (by simpa using hi)
    exact⟨c,h1,by simpa using h2⟩
 obtain⟨c,h2,h3⟩:=key vs lM pr (by decide+kernel) r.toNat (by show r.toNat<12;omega)
 have:=Yl h3
 rw[Int.toNat_of_nonneg h0]at this
 exact⟨c,h2,this⟩
theorem Ja {wd hg:Int}{xs:List V}(h:cD wd hg xs):∀x∈xs,x=.ae∨∃i:Int,x=.int i:=fun x hx=>by
 by_cases e:x=.ae
 ·exact .inl e
 ·have m:x∈rowsOf xs:=List.mem_filter.mpr ⟨hx,by simp[e]⟩
  have q':=h.row x m
  cases x with
  |int i=>exact .inr ⟨i,rfl⟩
  |_=>cases q'
theorem yR {i:Int}(h0:0≤i) (h1:i≤12):kU (.int i)=true:=by
 have c:i=0∨i=1∨i=2∨i=3∨i=4∨i=5∨i=6∨i=7∨i=8∨i=9∨i=10∨i=11∨i=12:=by omega
 rcases c with rfl |rfl |rfl |rfl |rfl |rfl |rfl |rfl |rfl |rfl |rfl |rfl |rfl<;>decide
theorem ZK {K:PySem.W.Frag}{H:Hp}{wd hg:Int}{xs:List V}(g2:hg≤12) (h:cD wd hg xs):∀x∈xs,iF K H x:=fun x hx=>by
 rcases Ja h x hx with rfl |⟨i,rfl⟩
 ·exact⟨⟨_,.ae⟩,.inl rfl⟩
 ·have hm:V.int i∈rowsOf xs:=List.mem_filter.mpr ⟨hx,by simp⟩
  have hw:(decide (0≤i)&&decide (i≤hg - 1))=true:=h.row _ hm
  rw[Bool.and_eq_true,decide_eq_true_eq,decide_eq_true_eq]at hw
  exact⟨⟨_,.int i⟩,.inl (yR hw.1 (by omega))⟩
theorem UN:∀(xs:List V) (i:Int),V.int i∈xs→(∀x∈xs,x=.ae∨∃j:Int,x=.int j)→∃j:Nat,xs[j]? =some (.int i)∧∀m y,m<j→xs[m]? =some y→cf y (.int i)=false
 | [],i,h,_=>by simp at h
 |x::r,i,h,hr=>by
  by_cases e:x=.int i
  ·exact⟨0,by rw[e];rfl,fun m y hm _=>absurd hm (Nat.not_lt_zero _)⟩
  ·have h':V.int i∈r:=by
    rcases List.mem_cons.mp h with z |z
    ·exact absurd z.symm e
    ·exact z
   obtain⟨j,hj,hn⟩:=UN r i h' fun y hy=>hr y (List.mem_cons_of_mem _ hy)
   refine⟨j+1,by simpa using hj,fun m y hm hy=> ?_⟩
   cases m with
   |zero=>
    have:y=x:=by simpa using hy.symm
    subst this
    rcases hr y List.mem_cons_self with rfl |⟨k,rfl⟩
    ·rfl
    ·show(k==i)=false
     have:k≠i:=fun z=>e (by rw[z])
     simpa using this
   |succ m=>exact hn m y (by omega) (by simpa using hy)
def nZ (K:PySem.W.Frag):Sp:=fun vs H Q _=> ∃(p b l:Addr) (wd hg:Int) (xs:List V),vs=[.ref p,.ref b,.ref l]∧bo H p∧cN H (.ref b) wd hg∧H l=some (.tup xs)∧cD wd hg xs∧∀v H',au p H H'→bo H' p→bc K p wd hg H' v→Q v H'
def rC:List Expr:=match bD iV with |_:: .Assign _ (.Subscript (.List (_::es) _) _ _) _::_=>es |_=> []
def rB:List Expr:=match bD iV with | [_,_,_,_,_,_,_,.Return (some (.Subscript _ (.Subscript (.List es _) _ _) _)) _]=>es |_=> []
def BR (a b:List Expr):List Stmt:=match bD iV with
 | [s0,.Assign x (.Subscript (.List (y::_) p1) z p2) p3,s2,s3,s4,s5,s6,.Return (some (.Subscript u (.Subscript (.List _ q1) v q2) q3)) q4]=> [s0,.Assign x (.Subscript (.List (y::a) p1) z p2) p3,s2,s3,s4,s5,s6,.Return (some (.Subscript u (.Subscript (.List b q1) v q2) q3)) q4]
 |_=> []
theorem Hw:bD iV=BR rC rB:=by kernel_rfl
theorem Hu:litsOf rC=some i6:=by kernel_rfl
theorem Hv:litsOf rB=some lM:=by kernel_rfl
theorem fN:bu ["_law_state_here", "_law_board_here", "_law_lay_here", "_law_way", "_law_at", "_law_to", "_law_odd", "_law_rows", "_law_twice", "_law_row", "_law_spot", "_law_some"] ["_law_state_here", "_law_board_here", "_law_lay_here"] (ar iV):=⟨rfl,rfl,rfl,by decide+kernel,rfl,by decide+kernel,by decide+kernel⟩
theorem ZW {D:Ends}{σ:L2.St}{H:Hp}(h:D.nx σ H):vf D σ H:=h
theorem Zn {t u:TS}{D:Ends}{σ:L2.St}{H:Hp}(h:t {D with nx:=u D} σ H):vc t u D σ H:=h
theorem Zw {te:TE}{g:TG}{D:Ends}{σ:L2.St}{H:Hp}(h:te σ H fun v H1=>g v σ H1 D.nx):kL te g D σ H:=h
theorem U5 {t:TA}{σ:L2.St}{H:Hp}{Q:VK}(h:t σ H fun xs H1=>xs.length≤sizeLine∧∀p,H1 p=none→Q (.ref p) (upd H1 p (.lst xs))):qb t σ H Q:=h
theorem YK {ta:TE}{tr:TA}{σ:L2.St}{H:Hp}{Q:List V→Hp→Prop}(h:ta σ H fun x H1=>tr σ H1 fun xs H2=>Q (x::xs) H2):gk ta tr σ H Q:=h
theorem Zl {i:Nat}{v:V}{σ:L2.St}{H:Hp}{Q:L2.St→Hp→Prop}(h:Q (σ.set i (some v)) H):iu i v σ H Q:=h
theorem Y1 {K:PySem.W.Frag}{a:Addr}{xs:List V}{H:Hp}{Q:VK}{k:Nat}{σ:L2.St}{te tl:TE}(ha:H a=some (.tup xs)) (hk:0<k) (j8:k≤xs.length) (e1:∀H Q,Q (.ref a) H→te σ H Q) (e2:∀H Q,Q (.int (k:Int)) H→tl σ H Q)
  (q:∀p:Addr,H p=none→Q (.ref p) (upd H p (.tup (xs.drop k)))):nS (gX K) te (nT tl) kJ σ H Q:=e1 _ _ (e2 _ _ ⟨_,rfl,show gX K (.ref a) (some (k:Int)) none H Q from UU ha hk j8 q⟩)
theorem FT {f:Addr}{fd:FuncData}(F:aP K "_law_no_lay" "_law_no_lay" iV f fd) (G:Gs mg) (D1:Def P w K mg base 1 "_law_take" ["_law_state_here", "_law_many"] iQ):aC P w K mg base av 2 f fd ["_law_state_here", "_law_board_here", "_law_lay_here"] (nZ K):=by
  refine F.ok fN (fun vs H Q E h=> ?_) (fun aq A outer s H vs Q E hr h=> ?_)
  · obtain⟨p,b,l,wd,hg,xs,rfl,_⟩:=h
    rfl
  · obtain⟨p,b,l,wd,hg,xs,rfl,st,bd,hl,lay,q⟩:=h
    rw[Hw]
    have i1:=Hu
    have i2:=Hv
    generalize rC=yo at i1
    generalize rB=yn at i2
    refine⟨_,Ze (WY (i:=3) (j:=4) (k:=5) rfl fN.nd rfl rfl rfl rfl rfl rfl
        (Za (Zj D1 hr (Za (pv 0) (Za Zf Zb))) (Za (Zj D1 hr (Za (pv 0) (Za (ZO Yq (pv 1) Zf (fun _ _=>rfl)) Zb))) (Za (Zj D1 hr (Za (pv 0) (Za Zf Zb))) Zb))))
      (Ze (Zp (i:=6) fN.nd rfl (Or.inl rfl) (ZO ZM (Zx (Za (ZO Yq (pv 1) Zf (fun _ _=>rfl)) (YN (ls:=i6) i1))) (Zj D1 hr (Za (pv 0) (Za Zf Zb))) (fun _ _=>rfl)))
      (Ze (WX ["_law_row"] 1 [] (i:=7) fN.nd rfl (Or.inl rfl) (Jm (pv 2)) (fun C s H fp=>pb 0) (fun C s H fp=>WW (YI (W0 (pv 0)))) (fun C s H fp D=>df rfl (pv 0)))
      (Ze (Zp (i:=8) fN.nd rfl (Or.inl rfl) (Zm Yu (pv 2) (ZH (Za Z5 Zb))))
      (Ze (ZN (PW.pt (JS (ZU (FZ hr.uR) (pv 7) (Zx Zb) (bU _)) (WU (ZU yM (Zi Zy rfl G.len boot_len (Za (pv 2) Zb)) Zf (bU _)))))
        (Ze (Zp (i:=9) fN.nd rfl (Or.inl rfl) (ZO ZM (pv 7) (Zm Yw (pv 5) (Zi Zy rfl G.len boot_len (Za (pv 7) Zb))) (fun _ _=>rfl)))
        (Ze (Zp (i:=10) fN.nd rfl (Or.inl rfl) (Zm Yw (Zm Z6 (Zm Z6 (Yi PySem.F.plainAttrs_tuple PySem.F.slot_tuple_index PySem.F.type_tuple_index Kt (pv 2) (Za (pv 9) Zb)) Zf) (Zm Yw (pv 4) (Zm W2 (Zi Zy rfl G.len boot_len (Za (pv 2) Zb)) Zf))) (Zi Zy rfl G.len boot_len (Za (pv 2) Zb))))
        (Zk (Zp (i:=8) fN.nd rfl (Or.inl rfl) (Zm Yu (Zm Yu (ZD JP (pv 2) ZP (ZL (pv 10))) (ZH (Za (pv 9) Zb))) (ZD JP (pv 2) (ZL (Zm Z6 (pv 10) Zf)) ZP)))))) Zt)
      (Ze (Zp (i:=11) fN.nd rfl (Or.inl rfl) (Zx (Za (Zm Yu (Zm Yu (ZD JP (pv 2) ZP (ZL (pv 4))) (ZH (Za (pv 6) Zb))) (ZD JP (pv 2) (ZL (Zm Z6 (pv 4) Zf)) ZP))
        (Za (pv 8) (Za (Zm Yu (pv 2) (ZH (Za Z5 Zb))) (Za (ZD JP (pv 2) (ZL Zf) ZP) (Za (Zz Ue rfl G.list boot_list (Za (pv 2) Zb)) Zb)))))))
      (Ze (Zp (i:=11) fN.nd rfl (Or.inl rfl) (Zm ZZ (pv 11) (Zx (Za Z5 (Za Zv (Za Ut (Za (Zm Yu (pv 2) (pv 2)) Zb)))))))
      (Zk (Zu (ZO ZM (pv 11) (ZO ZM (Zx (YN (ls:=lM) i2)) (pv 3) (fun _ _=>rfl)) (fun _ _=>rfl)))))))))),?_⟩
    obtain⟨DN,w1,w2,g1,g2⟩:=id bd
    have hb:H b=some (.tup [.int wd,.int hg]):=by
      obtain⟨a,e,h⟩:=ZF DN
      cases e
      exact h
    obtain⟨u0,v0,ep,_⟩:=id st
    have md:b≠p:=ud hb ep (by intro z;cases z)
    have xy:l≠p:=ud hl ep (by intro z;cases z)
    have hlen:=lay.len
    refine⟨_,rfl,p,12,rfl,st,by decide,by decide,fun r1 o1 a1 a2 ck=> ?_⟩
    refine⟨_,rfl,_,rfl,b,_,_,_,rfl,rfl,aj.of (by rw[Zh md];exact hb),iD,p,wd,rfl,ck,by omega,by omega,fun r2 o2 a3 a4 bM=> ?_⟩
    obtain⟨k2,rfl⟩:=Int.eq_ofNat_of_zero_le a3
    refine⟨_,rfl,p,12,rfl,bM,by decide,by decide,fun r3 o3 a5 a6 cj=> ⟨_,_,_,rfl,?_⟩⟩
    have x3:au p H (upd (upd (upd H p o1) p o2) p o3):=(au.upd.trans au.upd).trans au.upd
    generalize upd (upd (upd H p o1) p o2) p o3=H3 at cj x3
    have sQ:=x3 _ _ hb md
    have LJ:=x3 _ _ hl xy
    refine⟨_,rfl,b,_,_,_,rfl,rfl,aj.of sQ,bZ,fun gp H4 s4 vY n4=> ?_⟩
    have lo:gp.length=7:=Paired.length vY
    refine⟨by show gp.length+1≤sizeLine;rw[lo];decide,fun L4 kh=> ?_⟩
    have s5:ag H4 (upd H4 L4 (.lst (V.int hg::gp))):=Zd kh
    have e5:upd H4 L4 (.lst (V.int hg::gp)) L4=some (.lst (V.int hg::gp)):=Zc
    generalize upd H4 L4 (HO.lst (V.int hg::gp))=H5 at s5 e5
    have vM:ag H3 H5:=s4.trans s5
    refine⟨_,rfl,p,8,rfl,cj.same vM,by decide,by decide,fun r4 o4 a7 a8 du=> ?_⟩
    obtain⟨u3,v3,yp,_⟩:=id cj
    have BZ:L4≠p:=fun z=>by rw[z,s4 _ _ yp]at kh;cases kh
    have aA:r4.toNat< (V.int hg::gp).length:=by rw[List.length_cons,lo];omega
    have ej:=List.getElem?_eq_getElem aA
    have jo:=Yl ej
    rw[Int.toNat_of_nonneg a7]at jo
    have uO:au p H5 (upd H5 p o4):=au.upd
    refine⟨L4,_,_,_,rfl,rfl,ak.of (by rw[Zh BZ];exact e5),jo,?_⟩
    generalize oY:(V.int hg::gp)[r4.toNat]=od at ej
    have odd:od≠.ae∧aQ od 0 (hg - 1)=false∧iF K (upd H5 p o4) od:=by
      cases hr:r4.toNat with
      |zero=>
       rw[hr]at ej
       have e:V.int hg=od:=by simpa using ej
       rw[←e]
       refine⟨by simp,?_,⟨_,.int hg⟩,.inl (yR (by omega) (by omega))⟩
       show(decide (0≤hg)&&decide (hg≤hg - 1))=false
       rw[decide_eq_false (show ¬hg≤hg - 1 by omega),Bool.and_false]
      |succ k=>
       rw[hr]at ej
       have hk:gp[k]? =some od:=by simpa using ej
       obtain⟨lt,Dm,Fu⟩:=Wv vY hk
       have eF:=Fu.same s5
       have kq:dF (upd H5 p o4) od lt:=by
         have ft:∀a,od=.ref a→a≠p:=fun a e z=>by
           have:=n4 a (by rw[←e];exact List.mem_of_getElem? hk)
           rw[z,yp]at this
           cases this
         cases lt with
         |sc v=>exact eF
         |tup ys=>
          obtain⟨a,e,h⟩:=eF
          exact⟨a,e,by rw[Zh (ft a e)];exact h⟩
         |lst ys=>
          obtain⟨a,e,h⟩:=eF
          exact⟨a,e,by rw[Zh (ft a e)];exact h⟩
         |fB=>
          obtain⟨a,e,h⟩:=eF
          exact⟨a,e,by rw[Zh (ft a e)];exact h⟩
       exact HG g2 (List.mem_of_getElem? Dm) kq
    have x6:au p H (upd H5 p o4):=(x3.trans vM.x).trans uO
    generalize upd H5 p o4=H6 at du odd x6
    clear uO e5 kh
    have cZ:=x6 _ _ hl xy
    have sP:=x6 _ _ hb md
    obtain⟨rj,rg,rh⟩:=odd
    obtain⟨u6,v6,pE,_⟩:=id du
    refine⟨_,rfl,l,rfl,⟨xs,aj.of cZ⟩,?_⟩
    refine Y9 (xs:=xs) (fun i ys σ H2=>ys=rowsOf (xs.take i)∧H2=H6∧∃v,σ=[v]) ⟨rfl,rfl,none,rfl⟩ (fun i ys σ H2 _ ⟨_,e2,_⟩=>by rw[e2];exact aj.of cZ) ?_ ?_
    · rintro i r ys σ H2 cI ⟨rfl,rfl,v,rfl⟩
      have et:rowsOf (xs.take (i+1))=rowsOf (xs.take i)++(if (!decide (r=V.ae))=true then [r] else []):=by
        unfold rowsOf
        rw[List.take_add_one,cI,List.filter_append]
        cases hh:(!decide (r=V.ae)) with
        |true=>simp[hh]
        |false=>simp[hh]
      refine⟨r,rfl,_,rfl,?_⟩
      cases hh:(!decide (r=V.ae)) with
      |true=>
       rw[hh]at et
       refine aw ?_
       refine⟨r,rfl,?_,?_⟩
       · have:=List.length_filter_le (fun x=> !decide (x=V.ae)) (xs.take i)
         unfold rowsOf
         rw[sizeLine_eq]
         rw[List.length_take]at this
         omega
       · exact⟨by rw[et,if_pos rfl],rfl,_,rfl⟩
      |false=>
       rw[hh]at et
       exact aF ⟨by rw[et,if_neg Bool.false_ne_true,List.append_nil],rfl,_,rfl⟩
    · rintro ys σ H2 ⟨rfl,rfl,v,rfl⟩ R7 DY
      rw[List.take_length]
      have s7:ag H2 (upd H2 R7 (.lst (rowsOf xs))):=Zd DY
      have e7:upd H2 R7 (.lst (rowsOf xs)) R7=some (.lst (rowsOf xs)):=Zc
      generalize upd H2 R7 (HO.lst (rowsOf xs))=H7 at s7 e7
      refine⟨_,rfl,(by show 1≤sizeLine;decide),fun t8 CV=> ?_⟩
      have s8:ag H7 (upd H7 t8 (.tup [.ae])):=Zd CV
      refine Yg (s8 _ _ (s7 _ _ cZ)) Zc (by simp;omega) fun c9 H9 s9 DL=> ?_
      have oB:ag H2 H9:=s7.trans (s8.trans s9)
      have BC:∀y∈xs++[V.ae],iF K H9 y:=fun y hy=>by
        rcases List.mem_append.mp hy with m |m
        · exact ZK g2 lay y m
        · rw[List.mem_singleton.mp m];exact⟨⟨_,.ae⟩,.inl rfl⟩
      have Fo:bc K p wd hg H9 (.ref c9):=ZT DL BC (Yf (by rw[List.length_append];simp;omega))
      have e9:=(s8.trans s9) _ _ e7
      refine⟨_,rfl,Nat.zero_le _,fun kF CG=> ?_⟩
      have sz:ag H9 (upd H9 kF (.lst [])):=Zd CG
      have ez:upd H9 kF (.lst []) kF=some (.lst []):=Zc
      generalize upd H9 kF (HO.lst [])=gN at sz ez
      have aO:ag H2 gN:=oB.trans sz
      refine⟨R7,kF,rowsOf xs,rfl,rfl,ak.of (sz _ _ e9),ak.of ez,_,rfl,?_⟩
      have fE:=Fo.same sz
      cases hE:(rowsOf xs).isEmpty with
      |true=>
       refine aF (aF (ZW ?_))
       dsimp only
       have cP:=aO _ _ cZ
       refine Zn (Zw (U5 (YK ?_)))
       refine WV (K:=K) (a:=l) (xs:=xs) (y:=od) (k:=k2) cP (by omega) (by omega) (fun H Q h=> ⟨_,rfl,h⟩) (fun H Q h=> ⟨_,rfl,h⟩) (fun H Q h=> ⟨_,rfl,h⟩)
         (fun H Q h=> ⟨_,rfl,_,_,rfl,rfl,(by have e:((k2+1:Nat):Int)=(k2:Int)+1:=by omega
                                             rw[e]at h;exact h)⟩) fun c11 gM aU ma=> ?_
       have b11:bc K p wd hg gM (.ref c11):=ZT ma (fun y hy=>by
         rcases List.mem_append.mp hy with m |m
         · rcases List.mem_append.mp m with m |m
           · exact ZK g2 lay y (List.mem_of_mem_take m)
           · rw[List.mem_singleton.mp m];exact rh.same (aO.trans aU)
         · exact ZK g2 lay y (List.mem_of_mem_drop m)) (W6 rj rg)
       replace fE:=fE.same aU
       have ik:=aU _ _ cP
       refine⟨_,rfl,_,rfl,(by show 1≤sizeLine;decide),fun vo lO=> ?_⟩
       have bN:=Zd (o:=.tup [V.ae]) lO
       refine Yg (bN _ _ ik) Zc (by simp;omega) fun c13 cU fq l9=> ?_
       have sA:=bN.trans fq
       have b13:bc K p wd hg cU (.ref c13):=ZT l9 (fun y hy=>by
         rcases List.mem_append.mp hy with m |m
         · exact ZK g2 lay y m
         · rw[List.mem_singleton.mp m];exact⟨⟨_,.ae⟩,.inl rfl⟩) (Yf (by rw[List.length_append];simp;omega))
       have ij:=sA _ _ ik
       refine YK (Y1 (K:=K) (a:=l) (xs:=xs) (k:=1) ij (by omega) (by omega) (fun H Q h=> ⟨_,rfl,h⟩) (fun H Q h=>h) fun c14 l8=> ?_)
       have cq:=Zd (o:=.tup (xs.drop 1)) l8
       have b14:bc K p wd hg (upd cU c14 (.tup (xs.drop 1))) (.ref c14):=ZT Zc (fun y hy=>ZK g2 lay y (List.mem_of_mem_drop hy)) (Yf (by rw[List.length_drop];omega))
       generalize upd cU c14 (HO.tup (xs.drop 1))=fK at cq b14
       have ig:=cq _ _ ij
       refine⟨_,rfl,l,xs,rfl,.inr (aj.of ig),fun c15 iq=> ?_⟩
       have cm:=Zd (o:=.lst xs) iq
       have lI:c15≠p:=fun z=>by
         have h:=cq _ _ (sA _ _ (aU _ _ (aO _ _ pE)))
         rw[←z,iq]at h
         cases h
       have b15:bc K p wd hg (upd fK c15 (.lst xs)) (.ref c15):=Wa Zc lI (by omega) fun y hy=> (ZK (K:=K) g2 lay y hy).2
       generalize upd fK c15 (HO.lst xs)=gL at cm b15
       refine⟨(by show 5≤sizeLine;decide),fun dU mq=> ?_⟩
       have dJ:=Zd (o:=.lst [V.ref c11,V.ref c9,V.ref c13,V.ref c14,V.ref c15]) mq
       have e16:upd gL dU (.lst [V.ref c11,V.ref c9,V.ref c13,V.ref c14,V.ref c15]) dU=some (.lst [V.ref c11,V.ref c9,V.ref c13,V.ref c14,V.ref c15]):=Zc
       generalize upd gL dU (HO.lst [V.ref c11,V.ref c9,V.ref c13,V.ref c14,V.ref c15])=iJ at dJ e16
       have lV:=dJ _ _ (cm _ _ ig)
       refine⟨_,rfl,fun aR lY=> ?_⟩
       have cW:=Zd (o:=.dK []) lY
       have b17:bc K p wd hg (upd iJ aR (.dK [])) (.ref aR):=Wb Zc
       generalize upd iJ aR (HO.dK [])=zJ at cW b17
       have hW:=cW _ _ lV
       refine⟨_,rfl,_,rfl,Yg hW hW (by omega) fun c18 fJ dI lZ=> ?_⟩
       have b18:bc K p wd hg fJ (.ref c18):=ZT lZ (fun y hy=>by
         rcases List.mem_append.mp hy with m |m
         · exact ZK g2 lay y m
         · exact ZK g2 lay y m) (Yf (by rw[List.length_append];omega))
       refine⟨(by show 4≤sizeLine;decide),fun fH mn=> ?_⟩
       have fo:=Zd (o:=.lst [V.ae,V.str "1x1: .",V.ref aR,V.ref c18]) mn
       refine⟨dU,fH,_,_,rfl,rfl,fo _ _ (dI _ _ (cW _ _ e16)),Zc,(by show 5+4≤sizeLine;decide),fun dS ml=> ?_⟩
       have gW:=Zd (o:=.lst ([V.ref c11,V.ref c9,V.ref c13,V.ref c14,V.ref c15]++[V.ae,V.str "1x1: .",V.ref aR,V.ref c18])) ml
       have e20:upd (upd fJ fH (.lst [V.ae,V.str "1x1: .",V.ref aR,V.ref c18])) dS (.lst ([V.ref c11,V.ref c9,V.ref c13,V.ref c14,V.ref c15]++[V.ae,V.str "1x1: .",V.ref aR,V.ref c18])) dS=some (.lst ([V.ref c11,V.ref c9,V.ref c13,V.ref c14,V.ref c15]++[V.ae,V.str "1x1: .",V.ref aR,V.ref c18])):=Zc
       generalize upd (upd fJ fH (.lst [V.ae,V.str "1x1: .",V.ref aR,V.ref c18])) dS (HO.lst ([V.ref c11,V.ref c9,V.ref c13,V.ref c14,V.ref c15]++[V.ae,V.str "1x1: .",V.ref aR,V.ref c18]))=zI at gW e20
       refine⟨_,rfl,fun fw nq gU gZ wF=> ?_⟩
       have li:fw.length=12:=Paired.length gZ
       refine⟨by rw[li];decide,fun iH mj=> ?_⟩
       have gT:=Zd (o:=.lst fw) mj
       obtain⟨ci,pA,jq⟩:=Ub a1 a2 gZ
       refine⟨_,rfl,iH,_,_,_,rfl,rfl,ak.of Zc,jq,?_⟩
       have sB:=fo.trans (gW.trans (gU.trans gT))
       have mO:∀v∈[V.ref c11,V.ref c9,V.ref c13,V.ref c14,V.ref c15]++[V.ae,V.str "1x1: .",V.ref aR,V.ref c18],bc K p wd hg (upd nq iH (.lst fw)) v:=by
         intro v hv
         have sC:=dI.trans sB
         have sD:=cW.trans sC
         have sE:=dJ.trans sD
         have sF:=cm.trans sE
         have sG:=cq.trans sF
         simp only[List.cons_append,List.nil_append,List.mem_cons,List.not_mem_nil,or_false]at hv
         rcases hv with rfl |rfl |rfl |rfl |rfl |rfl |rfl |rfl |rfl
         · exact b11.same (sA.trans sG)
         · exact fE.same (sA.trans sG)
         · exact b13.same sG
         · exact b14.same sF
         · exact b15.same sE
         · exact YU rfl rfl
         · exact YU rfl (by decide)
         · exact b17.same sC
         · exact b18.same sB
       have hV:ci< ([V.ref c11,V.ref c9,V.ref c13,V.ref c14,V.ref c15]++[V.ae,V.str "1x1: .",V.ref aR,V.ref c18]).length:=by show ci<9;omega
       refine⟨dS,_,_,_,rfl,rfl,ak.of ((gU.trans gT) _ _ e20),Yl (List.getElem?_eq_getElem hV),?_⟩
       have de:=aO.trans (aU.trans (sA.trans (cq.trans (cm.trans (dJ.trans (cW.trans (dI.trans sB)))))))
       exact q _ _ (x6.trans de.x) (du.same de) (mO _ (List.getElem_mem hV))
      |false=>
       refine aw ?_
       refine⟨_,rfl,l,xs,rfl,.inr (aj.of (aO _ _ cZ)),_,_,rfl,rfl,_,rfl,?_⟩
       refine rL (fun h1=> ?_) (fun _=> ?_)
       · have gG:1<xs.length:=by
           have:=of_decide_eq_true h1
           omega
         have nr:0< (rowsOf xs).length:=by
           cases C7:rowsOf xs with
           |nil=>rw[C7]at hE;cases hE
           |cons a b=>simp
         have Dj:0≤r3%((rowsOf xs).length:Int)∧r3%((rowsOf xs).length:Int)< ((rowsOf xs).length:Int):=⟨Int.emod_nonneg _ (by omega),Int.emod_lt_of_pos _ (by omega)⟩
         have xx:(r3%((rowsOf xs).length:Int)).toNat< (rowsOf xs).length:=by omega
         have sR:=Yl (List.getElem?_eq_getElem xx)
         rw[Int.toNat_of_nonneg Dj.1]at sR
         have r6:(rowsOf xs)[(r3%((rowsOf xs).length:Int)).toNat]∈rowsOf xs:=List.getElem_mem xx
         generalize (rowsOf xs)[(r3%((rowsOf xs).length:Int)).toNat]=row at sR r6
         have xo:row∈xs:=(List.mem_filter.mp r6).1
         have C5:row≠.ae:=by simpa using (List.mem_filter.mp r6).2
         obtain⟨ri,rfl⟩:∃ri:Int,row=.int ri:=by
           rcases Ja lay row xo with z |z
           · exact absurd z C5
           · exact z
         obtain⟨j,hj,fT⟩:=UN xs ri xo (Ja lay)
         have sk:j<xs.length:=(List.getElem?_eq_some_iff.mp hj).1
         have flat:xs.all eV=true:=List.all_eq_true.mpr fun x hx=>by
           rcases Ja lay x hx with z |⟨i,z⟩<;>rw[z]<;>rfl
         have cP:=aO _ _ cZ
         refine⟨_,rfl,_,rfl,_,rfl,R7,_,rfl,.inl (ak.of (sz _ _ e9)),_,_,rfl,rfl,by omega,R7,_,_,_,rfl,rfl,ak.of (sz _ _ e9),sR,?_⟩
         refine⟨_,rfl,.inr (.inl ⟨rfl,.inr ⟨_,cP⟩⟩),_,rfl,l,xs,.int ri,j,rfl,rfl,aj.of cP,rfl,flat,⟨_,hj,by show(ri==ri)=true;simp⟩,fT,?_⟩
         have vw:0≤((j:Int)+1+(k2:Int)%((xs.length:Int) - 1))%(xs.length:Int)∧((j:Int)+1+(k2:Int)%((xs.length:Int) - 1))%(xs.length:Int)< (xs.length:Int):=⟨Int.emod_nonneg _ (by omega),Int.emod_lt_of_pos _ (by omega)⟩
         have AV:((j:Int)+1+(k2:Int)%((xs.length:Int) - 1))%(xs.length:Int)≠(j:Int):=by
           have m1:0≤(k2:Int)%((xs.length:Int) - 1):=Int.emod_nonneg _ (by omega)
           have m2:(k2:Int)%((xs.length:Int) - 1)< (xs.length:Int) - 1:=Int.emod_lt_of_pos _ (by omega)
           generalize (k2:Int)%((xs.length:Int) - 1)=m at m1 m2
           intro hz
           by_cases aA:(j:Int)+1+m< (xs.length:Int)
           · rw[Int.emod_eq_of_lt (by omega) aA]at hz
             omega
           · have e:((j:Int)+1+m)%(xs.length:Int)=(j:Int)+1+m - (xs.length:Int):=by
               rw[←Int.sub_emod_right,Int.emod_eq_of_lt (by omega) (by omega)]
             rw[e]at hz
             omega
         refine⟨_,_,rfl,rfl,_,rfl,_,rfl,l,xs,rfl,.inr (aj.of cP),_,_,rfl,rfl,_,_,rfl,rfl,by omega,_,_,rfl,rfl,_,rfl,l,xs,rfl,.inr (aj.of cP),_,_,rfl,rfl,by omega,?_⟩
         refine Zl ?_
         dsimp only
         generalize ((j:Int)+1+(k2:Int)%((xs.length:Int) - 1))%(xs.length:Int)=Lc at vw AV ⊢
         obtain⟨sp,rfl⟩:=Int.eq_ofNat_of_zero_le vw.1
         have C1:sp<xs.length:=by omega
         have C2:j≠sp:=by omega
         refine Zw ?_
         refine WV (K:=K) (a:=l) (xs:=xs) (y:=.int ri) (k:=sp) cP C1 (by omega) (fun H Q h=> ⟨_,rfl,h⟩) (fun H Q h=> ⟨_,rfl,h⟩) (fun H Q h=> ⟨_,rfl,h⟩)
           (fun H Q h=> ⟨_,rfl,_,_,rfl,rfl,(by have e:((sp+1:Nat):Int)=(sp:Int)+1:=by omega
                                               rw[e]at h;exact h)⟩) fun cz Hz AO DJ=> ?_
         refine Zl ?_
         dsimp only
         have Fn:bc K p wd hg Hz (.ref cz):=ZT DJ (fun y hy=>by
           rcases List.mem_append.mp hy with m |m
           · rcases List.mem_append.mp m with m |m
             · exact ZK g2 lay y (List.mem_of_mem_take m)
             · rw[List.mem_singleton.mp m];exact ZK g2 lay _ (List.mem_of_getElem? hj)
           · exact ZK g2 lay y (List.mem_of_mem_drop m)) (Hq hj C2 (by simp))
         clear fE
         have aO:=aO.trans AO
         have fE:=Fn
         clear cP
         have cP:=aO _ _ cZ
         refine Zn (Zw (U5 (YK ?_)))
         refine WV (K:=K) (a:=l) (xs:=xs) (y:=od) (k:=k2) cP (by omega) (by omega) (fun H Q h=> ⟨_,rfl,h⟩) (fun H Q h=> ⟨_,rfl,h⟩) (fun H Q h=> ⟨_,rfl,h⟩)
           (fun H Q h=> ⟨_,rfl,_,_,rfl,rfl,(by have e:((k2+1:Nat):Int)=(k2:Int)+1:=by omega
                                               rw[e]at h;exact h)⟩) fun c11 gM aU ma=> ?_
         have b11:bc K p wd hg gM (.ref c11):=ZT ma (fun y hy=>by
           rcases List.mem_append.mp hy with m |m
           · rcases List.mem_append.mp m with m |m
             · exact ZK g2 lay y (List.mem_of_mem_take m)
             · rw[List.mem_singleton.mp m];exact rh.same (aO.trans aU)
           · exact ZK g2 lay y (List.mem_of_mem_drop m)) (W6 rj rg)
         replace fE:=fE.same aU
         have ik:=aU _ _ cP
         refine⟨_,rfl,_,rfl,(by show 1≤sizeLine;decide),fun vo lO=> ?_⟩
         have bN:=Zd (o:=.tup [V.ae]) lO
         refine Yg (bN _ _ ik) Zc (by simp;omega) fun c13 cU fq l9=> ?_
         have sA:=bN.trans fq
         have b13:bc K p wd hg cU (.ref c13):=ZT l9 (fun y hy=>by
           rcases List.mem_append.mp hy with m |m
           · exact ZK g2 lay y m
           · rw[List.mem_singleton.mp m];exact⟨⟨_,.ae⟩,.inl rfl⟩) (Yf (by rw[List.length_append];simp;omega))
         have ij:=sA _ _ ik
         refine YK (Y1 (K:=K) (a:=l) (xs:=xs) (k:=1) ij (by omega) (by omega) (fun H Q h=> ⟨_,rfl,h⟩) (fun H Q h=>h) fun c14 l8=> ?_)
         have cq:=Zd (o:=.tup (xs.drop 1)) l8
         have b14:bc K p wd hg (upd cU c14 (.tup (xs.drop 1))) (.ref c14):=ZT Zc (fun y hy=>ZK g2 lay y (List.mem_of_mem_drop hy)) (Yf (by rw[List.length_drop];omega))
         generalize upd cU c14 (HO.tup (xs.drop 1))=fK at cq b14
         have ig:=cq _ _ ij
         refine⟨_,rfl,l,xs,rfl,.inr (aj.of ig),fun c15 iq=> ?_⟩
         have cm:=Zd (o:=.lst xs) iq
         have lI:c15≠p:=fun z=>by
           have h:=cq _ _ (sA _ _ (aU _ _ (aO _ _ pE)))
           rw[←z,iq]at h
           cases h
         have b15:bc K p wd hg (upd fK c15 (.lst xs)) (.ref c15):=Wa Zc lI (by omega) fun y hy=> (ZK (K:=K) g2 lay y hy).2
         generalize upd fK c15 (HO.lst xs)=gL at cm b15
         refine⟨(by show 5≤sizeLine;decide),fun dU mq=> ?_⟩
         have dJ:=Zd (o:=.lst [V.ref c11,V.ref cz,V.ref c13,V.ref c14,V.ref c15]) mq
         have e16:upd gL dU (.lst [V.ref c11,V.ref cz,V.ref c13,V.ref c14,V.ref c15]) dU=some (.lst [V.ref c11,V.ref cz,V.ref c13,V.ref c14,V.ref c15]):=Zc
         generalize upd gL dU (HO.lst [V.ref c11,V.ref cz,V.ref c13,V.ref c14,V.ref c15])=iJ at dJ e16
         have lV:=dJ _ _ (cm _ _ ig)
         refine⟨_,rfl,fun aR lY=> ?_⟩
         have cW:=Zd (o:=.dK []) lY
         have b17:bc K p wd hg (upd iJ aR (.dK [])) (.ref aR):=Wb Zc
         generalize upd iJ aR (HO.dK [])=zJ at cW b17
         have hW:=cW _ _ lV
         refine⟨_,rfl,_,rfl,Yg hW hW (by omega) fun c18 fJ dI lZ=> ?_⟩
         have b18:bc K p wd hg fJ (.ref c18):=ZT lZ (fun y hy=>by
           rcases List.mem_append.mp hy with m |m
           · exact ZK g2 lay y m
           · exact ZK g2 lay y m) (Yf (by rw[List.length_append];omega))
         refine⟨(by show 4≤sizeLine;decide),fun fH mn=> ?_⟩
         have fo:=Zd (o:=.lst [V.ae,V.str "1x1: .",V.ref aR,V.ref c18]) mn
         refine⟨dU,fH,_,_,rfl,rfl,fo _ _ (dI _ _ (cW _ _ e16)),Zc,(by show 5+4≤sizeLine;decide),fun dS ml=> ?_⟩
         have gW:=Zd (o:=.lst ([V.ref c11,V.ref cz,V.ref c13,V.ref c14,V.ref c15]++[V.ae,V.str "1x1: .",V.ref aR,V.ref c18])) ml
         have e20:upd (upd fJ fH (.lst [V.ae,V.str "1x1: .",V.ref aR,V.ref c18])) dS (.lst ([V.ref c11,V.ref cz,V.ref c13,V.ref c14,V.ref c15]++[V.ae,V.str "1x1: .",V.ref aR,V.ref c18])) dS=some (.lst ([V.ref c11,V.ref cz,V.ref c13,V.ref c14,V.ref c15]++[V.ae,V.str "1x1: .",V.ref aR,V.ref c18])):=Zc
         generalize upd (upd fJ fH (.lst [V.ae,V.str "1x1: .",V.ref aR,V.ref c18])) dS (HO.lst ([V.ref c11,V.ref cz,V.ref c13,V.ref c14,V.ref c15]++[V.ae,V.str "1x1: .",V.ref aR,V.ref c18]))=zI at gW e20
         refine⟨_,rfl,fun fw nq gU gZ wF=> ?_⟩
         have li:fw.length=12:=Paired.length gZ
         refine⟨by rw[li];decide,fun iH mj=> ?_⟩
         have gT:=Zd (o:=.lst fw) mj
         obtain⟨ci,pA,jq⟩:=Ub a1 a2 gZ
         refine⟨_,rfl,iH,_,_,_,rfl,rfl,ak.of Zc,jq,?_⟩
         have sB:=fo.trans (gW.trans (gU.trans gT))
         have mO:∀v∈[V.ref c11,V.ref cz,V.ref c13,V.ref c14,V.ref c15]++[V.ae,V.str "1x1: .",V.ref aR,V.ref c18],bc K p wd hg (upd nq iH (.lst fw)) v:=by
           intro v hv
           have sC:=dI.trans sB
           have sD:=cW.trans sC
           have sE:=dJ.trans sD
           have sF:=cm.trans sE
           have sG:=cq.trans sF
           simp only[List.cons_append,List.nil_append,List.mem_cons,List.not_mem_nil,or_false]at hv
           rcases hv with rfl |rfl |rfl |rfl |rfl |rfl |rfl |rfl |rfl
           · exact b11.same (sA.trans sG)
           · exact fE.same (sA.trans sG)
           · exact b13.same sG
           · exact b14.same sF
           · exact b15.same sE
           · exact YU rfl rfl
           · exact YU rfl (by decide)
           · exact b17.same sC
           · exact b18.same sB
         have hV:ci< ([V.ref c11,V.ref cz,V.ref c13,V.ref c14,V.ref c15]++[V.ae,V.str "1x1: .",V.ref aR,V.ref c18]).length:=by show ci<9;omega
         refine⟨dS,_,_,_,rfl,rfl,ak.of ((gU.trans gT) _ _ e20),Yl (List.getElem?_eq_getElem hV),?_⟩
         have de:=aO.trans (aU.trans (sA.trans (cq.trans (cm.trans (dJ.trans (cW.trans (dI.trans sB)))))))
         exact q _ _ (x6.trans de.x) (du.same de) (mO _ (List.getElem_mem hV))
       · refine ZW ?_
         dsimp only
         have cP:=aO _ _ cZ
         refine Zn (Zw (U5 (YK ?_)))
         refine WV (K:=K) (a:=l) (xs:=xs) (y:=od) (k:=k2) cP (by omega) (by omega) (fun H Q h=> ⟨_,rfl,h⟩) (fun H Q h=> ⟨_,rfl,h⟩) (fun H Q h=> ⟨_,rfl,h⟩)
           (fun H Q h=> ⟨_,rfl,_,_,rfl,rfl,(by have e:((k2+1:Nat):Int)=(k2:Int)+1:=by omega
                                               rw[e]at h;exact h)⟩) fun c11 gM aU ma=> ?_
         have b11:bc K p wd hg gM (.ref c11):=ZT ma (fun y hy=>by
           rcases List.mem_append.mp hy with m |m
           · rcases List.mem_append.mp m with m |m
             · exact ZK g2 lay y (List.mem_of_mem_take m)
             · rw[List.mem_singleton.mp m];exact rh.same (aO.trans aU)
           · exact ZK g2 lay y (List.mem_of_mem_drop m)) (W6 rj rg)
         replace fE:=fE.same aU
         have ik:=aU _ _ cP
         refine⟨_,rfl,_,rfl,(by show 1≤sizeLine;decide),fun vo lO=> ?_⟩
         have bN:=Zd (o:=.tup [V.ae]) lO
         refine Yg (bN _ _ ik) Zc (by simp;omega) fun c13 cU fq l9=> ?_
         have sA:=bN.trans fq
         have b13:bc K p wd hg cU (.ref c13):=ZT l9 (fun y hy=>by
           rcases List.mem_append.mp hy with m |m
           · exact ZK g2 lay y m
           · rw[List.mem_singleton.mp m];exact⟨⟨_,.ae⟩,.inl rfl⟩) (Yf (by rw[List.length_append];simp;omega))
         have ij:=sA _ _ ik
         refine YK (Y1 (K:=K) (a:=l) (xs:=xs) (k:=1) ij (by omega) (by omega) (fun H Q h=> ⟨_,rfl,h⟩) (fun H Q h=>h) fun c14 l8=> ?_)
         have cq:=Zd (o:=.tup (xs.drop 1)) l8
         have b14:bc K p wd hg (upd cU c14 (.tup (xs.drop 1))) (.ref c14):=ZT Zc (fun y hy=>ZK g2 lay y (List.mem_of_mem_drop hy)) (Yf (by rw[List.length_drop];omega))
         generalize upd cU c14 (HO.tup (xs.drop 1))=fK at cq b14
         have ig:=cq _ _ ij
         refine⟨_,rfl,l,xs,rfl,.inr (aj.of ig),fun c15 iq=> ?_⟩
         have cm:=Zd (o:=.lst xs) iq
         have lI:c15≠p:=fun z=>by
           have h:=cq _ _ (sA _ _ (aU _ _ (aO _ _ pE)))
           rw[←z,iq]at h
           cases h
         have b15:bc K p wd hg (upd fK c15 (.lst xs)) (.ref c15):=Wa Zc lI (by omega) fun y hy=> (ZK (K:=K) g2 lay y hy).2
         generalize upd fK c15 (HO.lst xs)=gL at cm b15
         refine⟨(by show 5≤sizeLine;decide),fun dU mq=> ?_⟩
         have dJ:=Zd (o:=.lst [V.ref c11,V.ref c9,V.ref c13,V.ref c14,V.ref c15]) mq
         have e16:upd gL dU (.lst [V.ref c11,V.ref c9,V.ref c13,V.ref c14,V.ref c15]) dU=some (.lst [V.ref c11,V.ref c9,V.ref c13,V.ref c14,V.ref c15]):=Zc
         generalize upd gL dU (HO.lst [V.ref c11,V.ref c9,V.ref c13,V.ref c14,V.ref c15])=iJ at dJ e16
         have lV:=dJ _ _ (cm _ _ ig)
         refine⟨_,rfl,fun aR lY=> ?_⟩
         have cW:=Zd (o:=.dK []) lY
         have b17:bc K p wd hg (upd iJ aR (.dK [])) (.ref aR):=Wb Zc
         generalize upd iJ aR (HO.dK [])=zJ at cW b17
         have hW:=cW _ _ lV
         refine⟨_,rfl,_,rfl,Yg hW hW (by omega) fun c18 fJ dI lZ=> ?_⟩
         have b18:bc K p wd hg fJ (.ref c18):=ZT lZ (fun y hy=>by
           rcases List.mem_append.mp hy with m |m
           · exact ZK g2 lay y m
           · exact ZK g2 lay y m) (Yf (by rw[List.length_append];omega))
         refine⟨(by show 4≤sizeLine;decide),fun fH mn=> ?_⟩
         have fo:=Zd (o:=.lst [V.ae,V.str "1x1: .",V.ref aR,V.ref c18]) mn
         refine⟨dU,fH,_,_,rfl,rfl,fo _ _ (dI _ _ (cW _ _ e16)),Zc,(by show 5+4≤sizeLine;decide),fun dS ml=> ?_⟩
         have gW:=Zd (o:=.lst ([V.ref c11,V.ref c9,V.ref c13,V.ref c14,V.ref c15]++[V.ae,V.str "1x1: .",V.ref aR,V.ref c18])) ml
         have e20:upd (upd fJ fH (.lst [V.ae,V.str "1x1: .",V.ref aR,V.ref c18])) dS (.lst ([V.ref c11,V.ref c9,V.ref c13,V.ref c14,V.ref c15]++[V.ae,V.str "1x1: .",V.ref aR,V.ref c18])) dS=some (.lst ([V.ref c11,V.ref c9,V.ref c13,V.ref c14,V.ref c15]++[V.ae,V.str "1x1: .",V.ref aR,V.ref c18])):=Zc
         generalize upd (upd fJ fH (.lst [V.ae,V.str "1x1: .",V.ref aR,V.ref c18])) dS (HO.lst ([V.ref c11,V.ref c9,V.ref c13,V.ref c14,V.ref c15]++[V.ae,V.str "1x1: .",V.ref aR,V.ref c18]))=zI at gW e20
         refine⟨_,rfl,fun fw nq gU gZ wF=> ?_⟩
         have li:fw.length=12:=Paired.length gZ
         refine⟨by rw[li];decide,fun iH mj=> ?_⟩
         have gT:=Zd (o:=.lst fw) mj
         obtain⟨ci,pA,jq⟩:=Ub a1 a2 gZ
         refine⟨_,rfl,iH,_,_,_,rfl,rfl,ak.of Zc,jq,?_⟩
         have sB:=fo.trans (gW.trans (gU.trans gT))
         have mO:∀v∈[V.ref c11,V.ref c9,V.ref c13,V.ref c14,V.ref c15]++[V.ae,V.str "1x1: .",V.ref aR,V.ref c18],bc K p wd hg (upd nq iH (.lst fw)) v:=by
           intro v hv
           have sC:=dI.trans sB
           have sD:=cW.trans sC
           have sE:=dJ.trans sD
           have sF:=cm.trans sE
           have sG:=cq.trans sF
           simp only[List.cons_append,List.nil_append,List.mem_cons,List.not_mem_nil,or_false]at hv
           rcases hv with rfl |rfl |rfl |rfl |rfl |rfl |rfl |rfl |rfl
           · exact b11.same (sA.trans sG)
           · exact fE.same (sA.trans sG)
           · exact b13.same sG
           · exact b14.same sF
           · exact b15.same sE
           · exact YU rfl rfl
           · exact YU rfl (by decide)
           · exact b17.same sC
           · exact b18.same sB
         have hV:ci< ([V.ref c11,V.ref c9,V.ref c13,V.ref c14,V.ref c15]++[V.ae,V.str "1x1: .",V.ref aR,V.ref c18]).length:=by show ci<9;omega
         refine⟨dS,_,_,_,rfl,rfl,ak.of ((gU.trans gT) _ _ e20),Yl (List.getElem?_eq_getElem hV),?_⟩
         have de:=aO.trans (aU.trans (sA.trans (cq.trans (cm.trans (dJ.trans (cW.trans (dI.trans sB)))))))
         exact q _ _ (x6.trans de.x) (du.same de) (mO _ (List.getElem_mem hV))
abbrev lh:Stmt:=top 42
def dW (R:Hp→V→V→Prop):Sp:=fun vs H Q _=> ∃x y,vs=[x,y]∧R H x y∧∀H',ag H H'→Q (.bl true) H'
theorem qq:bu ["_law_found", "_law_due"] ["_law_found", "_law_due"] (ar lh):=⟨rfl,rfl,rfl,by decide+kernel,rfl,by decide+kernel,by decide+kernel⟩
end
end U
namespace U
open PySem L2 PyProof.Rows PyProof.Rows.dR
section
variable {P:Program}{w:World}{K:PySem.W.Frag}{mg:Str→Option Value}{base:Heap}
def Rl (_:Hp) (x y:V):Prop:=(∃i:Int,x=.int i∧y=.int i)∨(∃k:Bool,x=.bl k∧y=.bl k)∨(x=.ae∧y=.ae)
def dE (R:Hp→V→V→Prop) (H:Hp) (x y:V):Prop:=∃(a b:Addr) (xs ys:List V),x=.ref a∧y=.ref b∧H a=some (.tup xs)∧H b=some (.tup ys)∧Paired (R H) xs ys∧xs.length≤1000
theorem Rl.same {H H':Hp}{x y:V}(r:Rl H x y) (_:ag H H'):Rl H' x y:=r
theorem IF {f:Addr}{fd:FuncData}(F:aP K "_law_same" "_law_same" lh f fd) (G:Gs mg) {k:Nat} :aC P w K mg base av (k+1) f fd ["_law_found", "_law_due"] (dW Rl):=by
 refine F.ok qq (fun vs H Q E h=> ?_) (fun aq A outer s H vs Q E hr h=> ?_)
 ·obtain⟨x,y,rfl,_⟩:=h
  rfl
 ·obtain⟨x,y,rfl,r,q⟩:=h
  refine⟨_,Ze (ZN (ZJ (Zi (YY (a:= "tuple") (b:= "list")) rfl G.isinstance boot_isinstance (Za (pv 1) (Za (ZH (Za (ZA (v:=.ty "tuple") rfl G.tuple boot_tuple rfl) (Za (ZA (v:=.ty "list") rfl G.list boot_list rfl) Zb))) Zb)))) ZG Zt)
   (Zk (Zu (Yp (Yj YH (Zi (Zq (c:= "bool")) rfl G.isinstance boot_isinstance (Za (pv 0) (Za (ZA (v:=.ty "bool") rfl G.bool boot_bool rfl) Zb)))
     (Zi (Zq (c:= "bool")) rfl G.isinstance boot_isinstance (Za (pv 1) (Za (ZA (v:=.ty "bool") rfl G.bool boot_bool rfl) Zb))) (bU _))
    (Yv (Yj YH (pv 0) (pv 1) (bU _)))))),?_⟩
  refine⟨_,rfl,(by show 2≤sizeLine;decide),fun t ht=> ?_⟩
  have s1:=Zd (o:=.tup [V.ty "tuple",V.ty "list"]) ht
  rcases r with ⟨i,rfl,rfl⟩ |⟨k,rfl,rfl⟩ |⟨rfl,rfl⟩
  ·refine⟨_,t,_,_,rfl,aj.of Zc,.inl ⟨i,rfl,rfl⟩,(show _=some false from rfl),_,rfl,aF ?_⟩
   refine⟨_,rfl,_,_,_,rfl,.int i,(show _=some false from rfl),_,rfl,_,_,_,rfl,.int i,(show _=some false from rfl),rfl,_,rfl,?_⟩
   refine aw ⟨_,rfl,_,rfl,rfl,?_⟩
   have e:decide (V.int i=V.int i)=true:=decide_eq_true rfl
   rw[e]
   exact q _ s1
  ·refine⟨_,t,_,_,rfl,aj.of Zc,.inr (.inl ⟨k,rfl,rfl⟩),(show _=some false from rfl),_,rfl,aF ?_⟩
   refine⟨_,rfl,_,_,_,rfl,.bl k,(show _=some true from rfl),_,rfl,_,_,_,rfl,.bl k,(show _=some true from rfl),rfl,_,rfl,?_⟩
   refine aw ⟨_,rfl,_,rfl,(by cases k<;>rfl),?_⟩
   have e:decide (V.bl k=V.bl k)=true:=decide_eq_true rfl
   rw[e]
   exact q _ s1
  ·refine⟨_,t,_,_,rfl,aj.of Zc,.inr (.inr (.inl ⟨rfl,rfl⟩)),(show _=some false from rfl),_,rfl,aF ?_⟩
   refine⟨_,rfl,_,_,_,rfl,.ae,(show _=some false from rfl),_,rfl,_,_,_,rfl,.ae,(show _=some false from rfl),rfl,_,rfl,?_⟩
   refine aw ⟨_,rfl,_,rfl,rfl,?_⟩
   have e:decide (V.ae=V.ae)=true:=decide_eq_true rfl
   rw[e]
   exact q _ s1
theorem Wz {R:Hp→V→V→Prop}{k:Nat}(hR:∀{H H':Hp}{x y:V},R H x y→ag H H'→R H' x y) {f:Addr}{fd:FuncData}(F:aP K "_law_same" "_law_same" lh f fd) (G:Gs mg) (D:Def P w K mg base k "_law_same" ["_law_found", "_law_due"] (dW R)):
  aC P w K mg base av (k+1) f fd ["_law_found", "_law_due"] (dW (dE R)):=by
 refine F.ok qq (fun vs H Q E h=> ?_) (fun aq A outer s H vs Q E hr h=> ?_)
 ·obtain⟨x,y,rfl,_⟩:=h
  rfl
 ·obtain⟨x,y,rfl,⟨a,b,xs,ys,rfl,rfl,ha,hb,pr,hl⟩,q⟩:=h
  refine⟨_,Ze (ZN (ZJ (Zi (YY (a:= "tuple") (b:= "list")) rfl G.isinstance boot_isinstance (Za (pv 1) (Za (ZH (Za (ZA (v:=.ty "tuple") rfl G.tuple boot_tuple rfl) (Za (ZA (v:=.ty "list") rfl G.list boot_list rfl) Zb))) Zb))))
    (Ze (ZN (PW.pt (Ur (ZU ue (Zi (Zq (c:= "tuple")) rfl G.isinstance boot_isinstance (Za (pv 0) (Za (ZA (v:=.ty "tuple") rfl G.tuple boot_tuple rfl) Zb))) (Zi (Zq (c:= "tuple")) rfl G.isinstance boot_isinstance (Za (pv 1) (Za (ZA (v:=.ty "tuple") rfl G.tuple boot_tuple rfl) Zb))) (bU _))
      (JR (ZU ue (Zi (Zq (c:= "list")) rfl G.isinstance boot_isinstance (Za (pv 0) (Za (ZA (v:=.ty "list") rfl G.list boot_list rfl) Zb))) (Zi (Zq (c:= "list")) rfl G.isinstance boot_isinstance (Za (pv 1) (Za (ZA (v:=.ty "list") rfl G.list boot_list rfl) Zb))) (bU _))))) ZG Zt)
    (Zk (Zu (Yp (Yj YH (Zi Zy rfl G.len boot_len (Za (pv 0) Zb)) (Zi Zy rfl G.len boot_len (Za (pv 1) Zb)) (bU _))
     (Yv (Zi J9 rfl G.all boot_all (Za (Ye ["_law_one", "_law_other"] 2 [] (GZ rfl G.zip (Za (pv 0) (Za (pv 1) Zb)))
      (fun C s H fp=>show PG (aI _ _ _ C s H fp) _ (yb K 2 (tE (iu 0) (tE (iu 1) yc))) from WZ rfl (Yh (pb 0) (Yh (pb 1) JC))) (fun C s H fp=>Z4)
      (fun C s H fp D'=>df rfl (Zj D hr (Za (pv 0) (Za (pv 1) Zb))))) Zb))))))) Zt) ZG,?_⟩
  refine⟨_,rfl,(by show 2≤sizeLine;decide),fun t ht=> ?_⟩
  have s1:=Zd (o:=.tup [V.ty "tuple",V.ty "list"]) ht
  have e1:upd H t (.tup [V.ty "tuple",V.ty "list"]) t=some (.tup [V.ty "tuple",V.ty "list"]):=Zc
  generalize upd H t (HO.tup [V.ty "tuple",V.ty "list"])=H1 at s1 e1
  have mh:=s1 _ _ ha
  have gE:=s1 _ _ hb
  refine⟨_,t,_,_,rfl,aj.of e1,.inr (.inr (.inr (.inr ⟨b,ys,rfl,gE,rfl⟩))),(show _=some true from rfl),_,rfl,aw ?_⟩
  refine⟨_,rfl,_,_,_,rfl,.tup mh,(show _=some true from rfl),_,rfl,_,_,_,rfl,.tup gE,(show _=some true from rfl),rfl,_,rfl,aF ?_⟩
  refine⟨_,rfl,_,_,_,rfl,.tup mh,(show _=some false from rfl),_,rfl,_,_,_,rfl,.tup gE,(show _=some false from rfl),rfl,_,rfl,aF ?_⟩
  have hlen:xs.length=ys.length:=Paired.length pr
  refine⟨_,rfl,a,xs,rfl,.inr (aj.of mh),_,rfl,b,ys,rfl,.inr (aj.of gE),rfl,_,rfl,?_⟩
  have el:decide (V.int (xs.length:Int)=V.int (ys.length:Int))=true:=decide_eq_true (by rw[hlen])
  rw[el]
  refine aw ⟨_,rfl,_,rfl,a,b,rfl,⟨xs,ys,aj.of mh,aj.of gE⟩,?_⟩
  refine Ku (xs:=xs) (zs:=ys) hlen (fun i zs σ H2=> ∃v0 v1,σ=[v0,v1]∧ag H1 H2∧zs=List.replicate i (V.bl true)) ⟨_,_,rfl,ag.refl _,rfl⟩ (fun i zs σ H2 _ ⟨_,_,_,s2,_⟩=> ⟨aj.of (s2 _ _ mh),aj.of (s2 _ _ gE)⟩) ?_ ?_
  ·rintro i x y T zs σ H2 hx hy hT ⟨v0,v1,rfl,s2,rfl⟩
   obtain⟨y',oR,r⟩:=Wv pr hx
   rw[hy]at oR
   cases oR
   have sT:=Zd (o:=.par [x,y]) hT
   have hi:i<xs.length:=(List.getElem?_eq_some_iff.mp hx).1
   refine⟨T,_,rfl,aj.BH Zc,rfl,_,_,rfl,_,_,rfl,rfl,?_⟩
   refine⟨x,rfl,y,rfl,x,y,rfl,hR r (s1.trans (s2.trans sT)),fun H3 s3=> ⟨by rw[List.length_replicate,sizeLine_eq];omega,_,_,rfl,s2.trans (sT.trans s3),?_⟩⟩
   rw[List.replicate_succ']
  ·rintro zs σ H2 ⟨v0,v1,rfl,s2,rfl⟩ p hp
   refine⟨p,List.replicate xs.length true,rfl,?_,?_⟩
   ·rw[List.map_replicate]
    exact ak.of Zc
   ·have e:(List.replicate xs.length true).all id=true:=by simp
    rw[e]
    exact q _ (s1.trans (s2.trans (Zd hp)))
end
section
def nF (Y:Cx) (cl:List (Str×Addr)) (x:Str) (v:V) (H:Hp) (s:Shared):Prop:=∃c u,cl.lookup x=some c∧s.heap.IsCell c (some u)∧RelV v u∧H c=none∧c∉aN Y.stack
def Cf (so si:Scope):Bool:=si.names.all fun z=>z.2 !=.free||so.names.lookup z.1==some .cell||so.names.lookup z.1==some .free
theorem UB {X:Cx}{scope:Scope}(h:Cf X.env.scope scope=true):∀z∈scope.names,z.2=.free→X.env.kindOf z.1=some .cell∨X.env.kindOf z.1=some .free:=fun z hz e=>by
 have:=List.all_eq_true.mp h z hz
 simp only[Bool.or_eq_true,bne_iff_ne,ne_eq,beq_iff_eq]at this
 rcases this with (h |h) |h
 ·exact absurd e h
 ·exact .inl h
 ·exact .inr h
end
section
variable {Y:Cx}{pins:List (Addr×Obj)}{σ:L2.St}{H:Hp}{s:Shared}
theorem UV {i:Nat}{x:Str}{v:V}{scope:Scope}(I:Inv Y pins σ H s) (hi:Y.N[i]? =some x) (gv:σ[i]? =some (some v)) (hk:Y.env.scope.names.lookup x=some .cell) (eo:Y.fn x=true) (ek:(x,NameKind.free)∈scope.names):nF Y (bQ scope Y.env) x v H s:=by
 obtain⟨m,hn,hl⟩:=I.loc
 obtain⟨u,r,l⟩:=hl i x v hi gv (.inr (.inl hk))
 obtain⟨c,hc⟩:=J8 (env:=Y.env) ek
 have e1:=(Z2 hc).1
 rcases l with ⟨dk,_⟩ |⟨_,c',bj,ip⟩
 ·have:Y.env.scope.names.lookup x=some .local:=dk
  rw[hk]at this
  cases this
 ·rw[bj]at e1
  have e2:c=c':=e1
  subst e2
  refine⟨c,u,hc,ip,r,I.dO x c bj,fun hm=> ?_⟩
  rcases List.mem_cons.mp (I.nW c hm) with z |z
  ·exact I.eW x c bj z
  ·obtain⟨_,o,ho,_⟩:=I.ok.cQ.mem z
   exact absurd (Nat.lt_of_lt_of_le (Heap.lt_size ho) (I.ok.iA x c eo bj)) (Nat.lt_irrefl _)
theorem yV {scope:Scope}{env:Env}{z:Str}{c:Addr}(h:(bQ scope env).lookup z=some c):(z,NameKind.free)∈scope.names:=(Z2 h).2
end
section
variable {X:Cx}{cS c P fR:Addr}{kf:Nat}
abbrev lq (X:Cx):Str:=X.env.qual++ "<lambda>"
theorem Z0 {H H':Hp}{P:Addr}{q:Str}(h:TabAt H P q) (s:ag H H'):TabAt H' P q:=by
 obtain⟨ps,h1,h2,h3⟩:=h
 exact⟨ps,s _ _ h1,h2,fun pos cv z=>by obtain⟨d,e,g⟩:=h3 pos cv z;exact⟨d,e,s _ _ g⟩⟩
structure LCtx (X:Cx) (cS c P fR:Addr) (kf:Nat):Prop where
 lam:zF X c P
 hR:∀b',Def X.prog X.w X.K X.mg b' (kf+2) "_law_refused" ["_law_call"] (jG X.prog X.w X.K X.mg b' cS (kf+1))
 room:bE (kf+2) X.A
 mR:X.mg "_law_refused" =some (.ref fR)
 kR:PySem.W.keepIn X.K (.ref fR)=true
structure LN (X:Cx) (x:Str) (i:Nat):Prop where
 nx:X.N[i]? =some x
 kx:X.env.scope.names.lookup x=some .cell
 fx:X.fn x=true
def KH (sp:Sp) (vs:List V) (C:Addr) (H:Hp):Prop:=∀Q' E',(∀e H',ag H H'→E' (.ref e) (some C) H')→sp vs H Q' E'
structure mY (params:Arguments) (body:Expr) (scope:Scope) (N:List Str):Prop where
 kind:scope.kind=.function
 co:scope.isCoroutine=false
 gen:scope.isGenerator=false
 dg:∀z∈scope.names,z.2≠.cell
 only:∀z∈scope.names,z.2=.free→z.1∈N
 free:∀x∈N,scope.names.lookup x=some .free
 bind:∀(q:Str) (cl:List (Str×Addr)) (pm:Value) (c:Addr) (ct:Value),bindArgs (PySem.W.kla_fn "<lambda>" q params body scope cl pm (.ref c) ct) ⟨[],[]⟩=pure []
def kC (X:Cx) (kf:Nat) (C:Addr) (f:Addr) (q:Str) (bd:Expr) (scope:Scope) (cl:List (Str×Addr)) (N:List Str) (ws:List V) (Pre:Hp→Prop):Prop:=
 ∀(bR:Heap) (cc:Addr) (A:Around) (outer:List Env) (s2:Shared) (H2:Hp) (Q2:VK) (E2:XK),bE kf (A.deeper (PySem.W.envX q scope s2.heap.objs.size f (.ref cc) cl))→Pre H2→(∀e H',ag H2 H'→E2 (.ref e) (some C) H')→
  ∃t,PE (gI X.prog X.w X.K X.mg bR N q scope f (.ref cc) cl A outer s2 H2 E2) bd t∧t (ws.map some) H2 Q2
theorem Ia {pins:List (Addr×Obj)}{σ:L2.St}{H:Hp}{s:Shared}{f C:Addr}{iC:Nat}{q:Str}{params:Arguments}{bd:Expr}{scope:Scope}{cl:List (Str×Addr)}{Q:VK}{N:List Str}{ws:List V}{Pre:Hp→Prop}(L:LCtx X cS c P fR kf)
  (LS:mY params bd scope N) (I:Inv X pins σ H s) (hl:fG H f q params bd scope cl) (hlen:ws.length=N.length) (dm:∀(i:Nat) x v,N[i]? =some x→ws[i]? =some v→nF X cl x v H s) (gz:∀z c,cl.lookup z=some c→(z,NameKind.free)∈scope.names)
  (su:∀a b c,cl.lookup a=some c→cl.lookup b=some c→a=b) (hi:iC<15) (M:dc X.K X.mg cS C iC) (bad:kC X kf C f q bd scope cl N ws Pre) (pre:Pre H) (hq:∀l H',ag H H'→H l=none→H' l=some (.lst [.int (iC:Int)])→Q (.ref l) H'):
  wpAny (model X.prog X.w) X.A (call (.ref fR) [.ref f]) (EP X pins σ Q) X.xe s:=by
 obtain⟨bR,st,e0,bt⟩:=I.rebase
 obtain⟨pm,cc,ct,hf,hc⟩:=hl
 have T:Cells bR scope cl N ws:=⟨hlen,fun u hu=>by
   rcases hu with hu |hu
   ·exact absurd rfl (LS.dg _ (PySem.mem_of_lookup hu))
   ·exact LS.only _ (PySem.mem_of_lookup hu) rfl,fun i a v h1 h2=>by
   obtain⟨ax,ux,lx,⟨ox,gx,dx⟩,rx,nx,fx⟩:=dm i a v h1 h2
   exact⟨LS.free a (List.mem_of_getElem? h1),ax,ux,lx,⟨ox,bt _ _ gx nx fx,dx⟩,rx⟩,fun u c h=>LS.only _ (gz u c h) rfl,su⟩
 have FL:aC X.prog X.w X.K X.mg bR (bz X.prog X.w) (kf+1) f (PySem.W.kla_fn "<lambda>" q params bd scope cl pm (.ref cc) ct) []
   (fun vs H2 Q2 E2=> (vs=[]∧H2 f=some (i9 f q params bd scope cl pm cc ct)∧H2 cc=some (eE cc q))∧Pre H2∧∀e H',ag H2 H'→E2 (.ref e) (some C) H'):=by
  refine zv (k:=kf) T LS.kind LS.co LS.gen LS.dg (fun vs H2 Q2 E2 h=>h.1) fun A outer s2 H2 Q2 E2 jZ h=> ?_
  exact bad bR cc A outer s2 H2 Q2 E2 jZ h.2.1 h.2.2
 obtain⟨EE,yl,FR,cY,hk,hb⟩:=L.hR bR
 rw[L.mR]at cY
 cases cY
 refine wpAny_call (codeAny_mono (FR.run X.A X.stack s H ⟨[.ref f],[]⟩ [.ref f] [.ref f] Q E0 L.room e0 (hb s [.ref f] I.bC rfl) (.cons rfl .nil)
  ⟨f,_,_,C,iC,rfl,hi,M,fun h ai=> ?_,FL,fun s2=> .of_eq (LS.bind q cl pm cc ct),fun Q' E' hE=> ⟨⟨rfl,hf,hc⟩,pre,hE⟩,hq⟩) fun r s' h=> ?_)
 ·have z:h.get? f=some _:=(ai f _ hf).1
  exact⟨_,_,_,_,z⟩
 ·cases r with
  |error e=>exact h.elim
  |ok fl=>
   cases fl with
   |ret u=>exact I.after h
   |next=>exact False.elim h
   |brk=>exact False.elim h
   |cont=>exact False.elim h
def Al (X:Cx) (cS P:Addr) (kf:Nat) (bd:Expr) (scope:Scope) (N:List Str) (idx:List Nat):TE:=fun σ H Q=> ∃(ws:List V) (C:Addr) (iC:Nat) (Pre:Hp→Prop),ws.length=idx.length∧(∀(k i:Nat) v,idx[k]? =some i→ws[k]? =some v→σ[i]? =some (some v))∧TabAt H P (lq X)∧iC<15∧dc X.K X.mg cS C iC∧
 (∀f,kC X kf C f (lq X) bd scope (bQ scope X.env) N ws Pre)∧(∀H',au P H H'→Pre H')∧∀l H',au P H H'→TabAt H' P (lq X)→H l=none→H' l=some (.lst [.int (iC:Int)])→Q (.ref l) H'
theorem GX {params:Arguments}{scope:Scope}{bd:Expr}{p lp pos:Pos}{N:List Str}{idx:List Nat}(L:LCtx X cS c P fR kf) (LS:mY params bd scope N) (hN:idx.length=N.length) (KN:∀(k:Nat) x i,N[k]? =some x→idx[k]? =some i→LN X x i) (hg:Gl X "_law_refused") (sJ:defaultsOf params X.env=([],[]))
  (ek:∀z∈scope.names,z.2=.free→X.env.kindOf z.1=some .cell∨X.env.kindOf z.1=some .free):
  PE X (.Call (.Name "_law_refused" p) [.Lambda params bd scope lp] [] pos) (Al X cS P kf bd scope N idx):=by
 intro pins s σ H Q I h
 obtain⟨ws,C,iC,Pre,rQ,gv,tab,hi,M,bad,pre,q⟩:=h
 refine wpAny_Call_Name_kw (YQ I hg L.mR ?_ (by decide))
 have ha:PA X [.Lambda params bd scope lp] _:=Za (uj L.lam sJ ek) Zb
 refine PySem.W.callWith_K (h₀:=X.base) I.ok.mod.ja L.kR (ao (ha pos pins s σ H (fun vs H1=> ∃f,vs=[.ref f]∧au P H H1∧TabAt H1 P (lq X)∧fG H1 f (lq X) params bd scope (bQ scope X.env)) I ⟨tab,fun f H1 sx nf t1 l1=> ⟨f,rfl,sx,t1,l1⟩⟩) fun us s1 ⟨vs,H1,I1,r,f,ev,sx,t1,l1⟩=> ⟨I1.bC,?_⟩) rfl rfl
 subst ev
 obtain⟨u,rfl,ru⟩:=vals1 r
 cases ru
 refine Ia L LS I1 l1 (by rw[rQ,hN]) (fun i x v h1 h2=> ?_) (fun z c h=>yV h) (fun a b c h1 h2=> ?_) hi M (bad f) (pre H1 sx) fun l H2 s2 nl hl=>q l H2 (sx.trans s2.x) (Z0 t1 s2) ?_ hl
 ·have hi:i<idx.length:=by
   have:=(List.getElem?_eq_some_iff.mp h1).1
   omega
  have ei:=List.getElem?_eq_getElem hi
  have n:=KN i x _ h1 ei
  exact UV I1 n.nx (gv i _ v ei h2) n.kx n.fx (PySem.mem_of_lookup (LS.free x (List.mem_of_getElem? h1)))
 obtain⟨e1,m1⟩:=Z2 h1
 obtain⟨e2,m2⟩:=Z2 h2
 obtain⟨c1,g1⟩:=I1.ok.has a (ek _ m1 rfl)
 obtain⟨c2,g2⟩:=I1.ok.has b (ek _ m2 rfl)
 rw[g1]at e1
 rw[g2]at e2
 have z1:c1=c2:=by
  have y1:_=c1:=e1
  have y2:_=c2:=e2
  rw[←y1,←y2]
 subst z1
 exact I1.ok.inj _ _ _ g1 g2
 cases hh:H l with
 |none=>rfl
 |some u=>
  by_cases z:l=P
  ·obtain⟨ps,e,_⟩:=t1
   rw[z,e]at nl;cases nl
  ·rw[sx _ _ hh z]at nl;cases nl
end
section
theorem tZ {H H':Hp}{P p:Addr}{q:Str}{o:HO}(h:TabAt H P q) (s:au p H H') (hp:H p=some o) (h1:∀ps,o≠.bS ps) (h2:∀c,o≠eE c q):TabAt H' P q:=by
 obtain⟨ps,e,t,f⟩:=h
 refine⟨ps,s _ _ e fun z=>by rw[z,hp]at e;cases e;exact h1 _ rfl,t,fun pos cv z=> ?_⟩
 obtain⟨d,e1,e2⟩:=f pos cv z
 exact⟨d,e1,s _ _ e2 fun z=>by rw[z,hp]at e2;cases e2;exact h2 _ rfl⟩
theorem Y2 {K:PySem.W.Frag}{H H':Hp}{p:Addr}{v:V}(t:cw K H v) (s:au p H H') (hn:v≠.ref p):aS H' v=aS H v:=by
 obtain⟨T,t⟩:=t
 cases t with
 |tup e=>rw[Zo e,Zo (s _ _ e fun z=>hn (by rw[z]))]
 |lst e=>rw[Zs,Zs,e,s _ _ e fun z=>hn (by rw[z])]
 |bP e=>rw[Zs,Zs,e,s _ _ e fun z=>hn (by rw[z])]
 |dK e=>rw[Zs,Zs,e,s _ _ e fun z=>hn (by rw[z])]
 |dT e=>rw[Zs,Zs,e,s _ _ e fun z=>hn (by rw[z])]
 |_=>rfl
theorem yH {K:PySem.W.Frag}{H H':Hp}{p:Addr}{v:V}(t:cw K H v) (s:au p H H') (hn:v≠.ref p):cw K H' v:=by
 obtain⟨T,t⟩:=t
 cases t with
 |tup e=>exact⟨_,.tup (s _ _ e fun z=>hn (by rw[z]))⟩
 |lst e=>exact⟨_,.lst (s _ _ e fun z=>hn (by rw[z]))⟩
 |bP e=>exact⟨_,.bP (s _ _ e fun z=>hn (by rw[z]))⟩
 |dK e=>exact⟨_,.dK (s _ _ e fun z=>hn (by rw[z]))⟩
 |dT e=>exact⟨_,.dT (s _ _ e fun z=>hn (by rw[z]))⟩
 |ae=>exact⟨_,.ae⟩
 |bl b=>exact⟨_,.bl b⟩
 |int i=>exact⟨_,.int i⟩
 |str x=>exact⟨_,.str x⟩
 |fA x=>exact⟨_,.fA x⟩
theorem tY {K:PySem.W.Frag}{H H':Hp}{p:Addr}{v:V}(t:cA K H v) (s:au p H H') (n:fY p H v):cA K H' v:=by
 refine⟨yH t.1 s n.1,fun xs e y hy=> ?_⟩
 rw[Y2 t.1 s n.1]at e
 exact yH (t.2 xs e y hy) s (n.2 xs e y hy)
theorem JF {K:PySem.W.Frag}{H H':Hp}{p q:Addr}{v:V}(t:cw K H v) (s:au q H H') (hq:v≠.ref q) (n:fY p H v):fY p H' v:=⟨n.1,fun xs e=>n.2 xs (by rw[←Y2 t s hq];exact e)⟩
theorem Wc {K:PySem.W.Frag}{H H':Hp}{p:Addr}{v:V}(b:fL K H v) (s:au p H H') (n:fY p H v):fL K H' v:=⟨tY b.1 s n,by rw[Y2 b.1.1 s n.1];exact b.2⟩
theorem Gj {K:PySem.W.Frag}{wd hg:Int}{H H':Hp}{p:Addr}{v:V}(b:gb K wd hg H v) (s:au p H H') (n:fY p H v):gb K wd hg H' v:=⟨tY b.1 s n,by rw[Y2 b.1.1 s n.1];exact b.2⟩
theorem WB {K:PySem.W.Frag}{H:Hp}{P:Addr}{ps:Array Value}{v:V}(t:cA K H v) (h:H P=some (.bS ps)):fY P H v:=by
 have key:∀y,cw K H y→y≠.ref P:=fun y ⟨T,ty⟩ z=>by
  subst z
  cases ty with
  |lst e=>rw[h]at e;cases e
  |bP e=>rw[h]at e;cases e
  |tup e=>rw[h]at e;cases e
  |dK e=>rw[h]at e;cases e
  |dT e=>rw[h]at e;cases e
 exact⟨key v t.1,fun xs e y hy=>key y (t.2 xs e y hy)⟩
abbrev dh:Arguments:= {posonlyargs:=[],args:=[],vararg:=none,kwonlyargs:=[],kw_defaults:=[],kwarg:=none,defaults:=[]}
end
end U
namespace U.T
open PySem L2 PyProof.Rows
end U.T
namespace L2
open PySem PySem.Spec PyProof.Rows
theorem Ho {a b:Key}(h:kV a=kV b):a=b:=by
 cases a<;>cases b<;>first |(cases h;rfl) |cases h
theorem DC.yi:∀{ps qs:List (Key×V)},DC.eC ps=DC.eC qs→ps=qs
 | [],[],_=>rfl
 | [],q::qs,h=>by cases h
 |p::ps,[],h=>by cases h
 |(a,v)::ps,(b,w)::qs,h=>by
  have h':kV a::v::DC.eC ps=kV b::w::DC.eC qs:=h
  injection h' with h1 h2
  injection h2 with h2 h3
  rw[Ho h1,h2,DC.yi h3]
theorem Ji {j:Nat}(h:j<1000):((j:Int)).natAbs.log2<1920:=by
 rw[Int.natAbs_natCast]
 by_cases h0:j=0
 ·subst h0;decide
 ·exact(Nat.log2_lt h0).mpr (Nat.lt_of_lt_of_le h (Nat.le_trans (by decide:1000≤2^10) (Nat.pow_le_pow_right (by decide) (by decide))))
end L2
namespace U
open PySem L2 PyProof.Rows
def g6 (n:Nat):List (Key×V):=(List.range n).map fun(k:Nat)=> (.inr (Str.ofString (toString (k:Int))),.int (k:Int))
theorem Kw (n:Nat):g6 (n+1)=g6 n++[(.inr (Str.ofString (toString (n:Int))),.int (n:Int))]:=by
 unfold g6
 rw[List.range_succ,List.map_append]
 rfl
def aH (z:Str):V:=(bH (DC.eA (g6 100)) (.inr z)).getD .ae
section
variable {P:Program}{w:World}{K:PySem.W.Frag}{mg:Str→Option Value}{base:Heap}
abbrev qH:Stmt:=top 27
theorem vE:bu ["word", "numbers"] ["word"] (ar qH):=⟨rfl,rfl,rfl,by decide+kernel,rfl,by decide+kernel,by decide+kernel⟩
def n9:Sp:=fun vs H Q _=> ∃z:Str,vs=[.str z]∧∀H',ag H H'→Q (aH z) H'
theorem F9 {f:Addr}{fd:FuncData}(F:aP K "number_of" "number_of" qH f fd) (G:Gs mg):aC P w K mg base av 1 f fd ["word"] n9:=by
 refine F.ok vE (fun vs H Q E h=> ?_) (fun aq A outer s H vs Q E hr h=> ?_)
 ·obtain⟨z,rfl,_⟩:=h
  rfl
 ·obtain⟨z,rfl,q⟩:=h
  have hu:=uc hr
  refine⟨_,Ze (DC.Bx (elt:=(_,_)) ["number"] 1 [] (i:=1) vE.nd rfl (Or.inl rfl) (Yd rfl G.range (Za Zf Zb)) (fun C s H fp=>pb 0) (fun C s H fp=>Z4) (fun C s H fp D=>DC.df rfl (Zz ZS rfl G.str PyProof.Rows.Boot.«str» (Za (pv 0) Zb)) (pv 0)))
   (Zk (Zu (HW hu (pv 1) (pv 0) ⟨rfl,rfl,rfl,rfl⟩))),?_⟩
  refine Zn (Zw ⟨100,rfl,by decide,by decide,?_⟩)
  refine YG (n:=(100:Int).toNat) (fun j ys af H'=>H'=H∧ys=DC.eC (g6 j)∧∃v,af=[v]) ⟨rfl,rfl,none,rfl⟩ ?_ ?_
  ·rintro j ys af H' hj ⟨rfl,rfl,v,rfl⟩
   have j9:j<100:=hj
   rw[Int.zero_add]
   refine Zl ?_
   dsimp only[List.set]
   try unfold gj
   refine aw ⟨_,rfl,(j:Int),rfl,Ji (by omega),_,rfl,.inr (Str.ofString (toString (j:Int))),rfl,?_,rfl,?_,_,rfl⟩
   ·rw[DC.yh]
    unfold g6
    rw[List.length_map,List.length_range,sizeLine_eq]
    omega
   ·rw[Kw,DC.yg]
  ·rintro ys af H' ⟨rfl,rfl,v,rfl⟩ ps ep D hD
   have mD:=DC.yi ep
   subst mD
   refine Zl ?_
   dsimp only[List.set]
   have m:=Zd (o:=.dK (DC.eA (g6 (100:Int).toNat))) hD
   exact⟨_,rfl,D,rfl,.inl ⟨_,.inl Zc⟩,_,rfl,_,fc.k (k:=.inr z) Zc,q _ m⟩
end
def bB:V→Str
 | .int r=>Str.ofString (toString r)
 |_=> "."
def bO (wd hg:Int):Str:=Str.ofString (toString wd)++ "x" ++Str.ofString (toString hg)++ ":"
def dw (wd hg:Int) (xs:List V):Str:=Txt.join " " (bO wd hg::xs.map bB)
theorem J4 (sep:Str):∀(ws:List Str) (h:Str),(⟨ws.foldl (fun acc p=>acc++sep.cps++p.cps) h.cps⟩:Str)=ws.foldl (fun t w=>t++sep++w) h
 | [],h=>rfl
 |w::ws,h=>J4 sep ws (h++sep++w)
theorem YR (sep h:Str) (ws:List Str):Txt.join sep (h::ws)=ws.foldl (fun t w=>t++sep++w) h:=J4 sep ws h
theorem Im (sep h:Str) (ws:List Str) (w:Str):Txt.join sep (h::(ws++[w]))=Txt.join sep (h::ws)++sep++w:=by
 rw[YR,YR,List.foldl_append]
 rfl
theorem Yk {n:Int}(h0:0≤n) (h:n≤12):(Str.ofString (toString n)).length≤2:=by
 have c:n=0∨n=1∨n=2∨n=3∨n=4∨n=5∨n=6∨n=7∨n=8∨n=9∨n=10∨n=11∨n=12:=by omega
 rcases c with rfl |rfl |rfl |rfl |rfl |rfl |rfl |rfl |rfl |rfl |rfl |rfl |rfl<;>decide
theorem UG (sep:Str):∀ws:List Str,(∀w∈ws,w.length≤20)→(ws.map (·.length)).sum≤20*ws.length
 | [],_=>Nat.le_refl _
 |w::ws,h=>by
  have h1:=h w List.mem_cons_self
  have h2:=UG sep ws fun u hu=>h u (List.mem_cons_of_mem _ hu)
  rw[List.map_cons,List.sum_cons,List.length_cons]
  omega
theorem zq {ws:List Str}(h:∀w∈ws,w.length≤20) (hl:ws.length≤1000):JoinOk " " ws=true:=by
 unfold JoinOk Builtin.Str.tooLong
 rw[StrLaws.joinTotal]
 have h1:=UG " " ws h
 have h2:(Str.ofString " ").length=1:=by decide
 rw[h2,decide_eq_false (by rw[sizeLine_eq];omega)]
 rfl
theorem JB {wd hg:Int}{xs:List V}(ly:cD wd hg xs) (g:hg≤12):∀w∈xs.map bB,w.length≤20:=fun w hw=>by
 obtain⟨v,hv,rfl⟩:=List.mem_map.mp hw
 by_cases hn:v=.ae
 ·subst hn;decide
 ·have hm:v∈rowsOf xs:=List.mem_filter.mpr ⟨hv,by simp[hn]⟩
  have q:=ly.row v hm
  cases v with
  |int r=>
   have q':(decide (0≤r)&&decide (r≤hg - 1))=true:=q
   rw[Bool.and_eq_true,decide_eq_true_eq,decide_eq_true_eq]at q'
   have:=Yk (n:=r) q'.1 (by omega)
   show(Str.ofString (toString r)).length≤20
   omega
  |_=>show(Str.ofString ".").length≤20;decide
theorem J5 {wd hg:Int}(w1:1≤wd) (aY:wd≤12) (g1:1≤hg) (aZ:hg≤12):(bO wd hg).length≤6:=by
 have h1:=Yk (n:=wd) (by omega) aY
 have h2:=Yk (n:=hg) (by omega) aZ
 have h3:(Str.ofString "x").length=1:=by decide
 have h4:(Str.ofString ":").length=1:=by decide
 unfold bO
 rw[Str.length_append,Str.length_append,Str.length_append]
 omega
theorem Z7 {i:Int}(h0:0≤i) (h:i<1000):i.natAbs.log2<1920:=by
 obtain⟨j,rfl⟩:∃j:Nat,i=j:=⟨i.toNat,by omega⟩
 exact Ji (by omega)
section
variable {P:Program}{w:World}{K:PySem.W.Frag}{mg:Str→Option Value}{base:Heap}
abbrev oz:Stmt:=top 28
theorem qt:bu ["board", "lay", "rows"] ["board", "lay"] (ar oz):=⟨rfl,rfl,rfl,by decide+kernel,rfl,by decide+kernel,by decide+kernel⟩
def fj:Sp:=fun vs H Q _=> ∃(b l:Addr) (wd hg:Int) (xs:List V),vs=[.ref b,.ref l]∧cN H (.ref b) wd hg∧H l=some (.tup xs)∧cD wd hg xs∧∀H',ag H H'→Q (.str (dw wd hg xs)) H'
theorem F7 {f:Addr}{fd:FuncData}(F:aP K "lay_text" "lay_text" oz f fd) (G:Gs mg) (nC:Def P w K mg base 6 "need_lay" ["board", "lay"] qh):aC P w K mg base av 7 f fd ["board", "lay"] fj:=by
 refine F.ok qt (fun vs H Q E h=> ?_) (fun aq A outer s H vs Q E hr h=> ?_)
 ·obtain⟨b,l,wd,hg,xs,rfl,_⟩:=h
  rfl
 ·obtain⟨b,l,wd,hg,xs,rfl,bd,hl,ly,q⟩:=h
  refine⟨_,Ze (Ys (Zj nC hr (Za (pv 0) (Za (pv 1) Zb))))
   (Ze (WX ["row"] 1 [] (i:=2) qt.nd rfl (Or.inl rfl) (Jm (pv 1)) (fun C s H fp=>pb 0) (fun C s H fp=>Z4) (fun C s H fp D=>df rfl (Y7 (YI (W1 (pv 0))) Zv (Zz ZS rfl G.str PyProof.Rows.Boot.«str» (Za (pv 0) Zb)))))
   (Zk (Zu (Yi PySem.F.plainAttrs_str PySem.F.slot_str_join PySem.F.type_str_join zw Zv (Za (Zm ZZ (Zx (Za (HX (ZO Yq (pv 0) Zf (fun _ _=>rfl)) Zv (ZO Yq (pv 0) Zf (fun _ _=>rfl)) Zv) Zb)) (pv 2)) Zb))))),?_⟩
  refine Zn ⟨_,rfl,_,rfl,.ref b,.ref l,wd,hg,xs,rfl,⟨bd,Zo hl,ly⟩,fun H1 s1=> ?_⟩
  dsimp only
  have ji:=s1 _ _ hl
  obtain⟨b',eb,hb⟩:=ZF bd.1
  cases eb
  obtain⟨_,w1,aY,g1,aZ⟩:=id bd
  have hlen:=ly.len
  refine Zn (Zw ⟨_,rfl,l,rfl,⟨_,aj.of ji⟩,?_⟩)
  refine Y9 (xs:=xs) (fun j ys af H'=>H'=H1∧ys=((xs.take j).map bB).map V.str∧∃v,af=[v]) ⟨rfl,rfl,none,rfl⟩ (fun j ys af H' _ ⟨e,_⟩=>by rw[e];exact aj.of ji) ?_ ?_
  ·rintro j y ys af H' hy ⟨rfl,rfl,v,rfl⟩
   have hj:=(List.getElem?_eq_some_iff.mp hy).1
   refine Zl ?_
   dsimp only[List.set]
   try unfold gj
   have ln:(List.map V.str (List.map bB (List.take j xs))).length<sizeLine:=by rw[List.length_map,List.length_map,List.length_take,sizeLine_eq];omega
   have es:((xs.take (j+1)).map bB).map V.str=((xs.take j).map bB).map V.str++[V.str (bB y)]:=by rw[List.take_add_one,hy,List.map_append,List.map_append];rfl
   refine aw ⟨_,rfl,_,rfl,?_⟩
   rcases ly.ok y (List.mem_of_getElem? hy) with rfl |⟨r,rfl⟩
   ·exact aw ⟨ln,rfl,es.symm,_,rfl⟩
   ·have hm:V.int r∈rowsOf xs:=List.mem_filter.mpr ⟨List.mem_of_getElem? hy,by simp⟩
    have q':(decide (0≤r)&&decide (r≤hg - 1))=true:=ly.row _ hm
    rw[Bool.and_eq_true,decide_eq_true_eq,decide_eq_true_eq]at q'
    exact aF ⟨_,rfl,r,rfl,Z7 q'.1 (by omega),ln,rfl,es.symm,_,rfl⟩
  ·rintro ys af H' ⟨rfl,rfl,v,rfl⟩ L hL
   rw[List.take_length]
   have m1:=Zd (o:=.lst ((xs.map bB).map V.str)) hL
   have e1:upd H' L (.lst ((xs.map bB).map V.str)) L=some (.lst ((xs.map bB).map V.str)):=Zc
   generalize upd H' L (.lst ((xs.map bB).map V.str))=H2 at m1 e1
   refine Zl ?_
   dsimp only[List.set]
   have me:=m1 _ _ (s1 _ _ hb)
   have a1:=Yk (n:=wd) (by omega) aY
   have a2:=Yk (n:=hg) (by omega) aZ
   have a3:(Str.ofString "x").length=1:=by decide
   have a4:(Str.ofString ":").length=1:=by decide
   have a5:Str.empty.length=0:=by decide
   refine⟨rfl,?_⟩
   refine⟨_,rfl,b,_,_,_,rfl,rfl,aj.of me,iD,wd,rfl,Z7 (by omega) (by omega),by rw[Str.length_append,sizeLine_eq];omega,_,rfl,by rw[Str.length_append,Str.length_append,sizeLine_eq];omega,_,rfl,b,_,_,_,rfl,rfl,aj.of me,bZ,hg,rfl,Z7 (by omega) (by omega),by rw[Str.length_append,Str.length_append,Str.length_append,sizeLine_eq];omega,_,rfl,by rw[Str.length_append,Str.length_append,Str.length_append,Str.length_append,sizeLine_eq];omega,?_⟩
   have eh:Str.empty++Str.ofString (toString wd)++ "x" ++Str.ofString (toString hg)++ ":" =bO wd hg:=by
    unfold bO
    rw[Str.empty_append]
   rw[eh]
   refine⟨(by show 1≤sizeLine;decide),fun d hd=> ?_⟩
   have m2:=Zd (o:=.lst [V.str (bO wd hg)]) hd
   refine⟨_,rfl,d,L,_,_,rfl,rfl,Zc,m2 _ _ e1,by rw[List.length_map,List.length_map,sizeLine_eq];show 1+xs.length≤_;omega,fun d2 hd2=> ?_⟩
   have m3:=Zd (o:=.lst ([V.str (bO wd hg)]++(xs.map bB).map V.str)) hd2
   refine⟨" ",d2,bO wd hg::xs.map bB,rfl,rfl,ak.of Zc,zq (fun u hu=> ?_) (by rw[List.length_cons,List.length_map];omega),q _ (s1.trans (m1.trans (m2.trans m3)))⟩
   rcases List.mem_cons.mp hu with rfl |hu
   ·have:=J5 w1 aY g1 aZ;omega
   ·exact JB ly aZ u hu
end
theorem UM:∀(ps d:List (Key×V)),(∀p∈ps,∃i,p.2=V.int i)→(∀j y,bH d j=some y→∃i,y=V.int i)→∀j y,bH (ps.foldl (fun d p=>putK d p.1 p.2) d) j=some y→∃i,y=V.int i
 | [],d,_,h=>h
 |p::ps,d,h,hd=>by
  refine UM ps _ (fun q hq=>h q (List.mem_cons_of_mem _ hq)) fun j y e=> ?_
  rw[Uj]at e
  split at e
  ·cases e;exact h p List.mem_cons_self
  ·exact hd j y e
theorem Kx (z:Str):aH z=.ae∨∃i,aH z=.int i:=by
 unfold aH
 cases h:bH (DC.eA (g6 100)) (.inr z) with
 |none=>exact .inl rfl
 |some y=>
  refine .inr (UM _ [] (fun p hp=> ?_) (fun j y e=>by cases e) _ _ h)
  obtain⟨k,_,rfl⟩:=List.mem_map.mp hp
  exact⟨_,rfl⟩
theorem W4 {K:PySem.W.Frag}{H:Hp}(z:Str):cw K H (aH z):=by
 rcases Kx z with e |⟨i,e⟩
 ·rw[e];exact⟨_,.ae⟩
 ·rw[e];exact⟨_,.int i⟩
theorem HD:aH "." =.ae:=by decide+kernel
theorem HE:∀j∈List.range 13,aH (Str.ofString (toString (j:Int)))=.int (j:Int):=by decide+kernel
def ke (z:Str):Str:=(Txt.split z " ").headD Str.empty
def jO (z:Str):List Str:=(Txt.split z " ").tail
def jv (z:Str):List V:=(Txt.split (Txt.removesuffix (ke z) ":") "x").map aH
def gq (z:Str):List V:=(jO z).map aH
theorem Jc:∀a∈List.range 13,∀b∈List.range 13,(Txt.split (Txt.removesuffix (bO (a:Int) (b:Int)) ":") "x").map aH=[V.int (a:Int),V.int (b:Int)]∧32∉(bO (a:Int) (b:Int)).cps.toList:=by decide+kernel
theorem G3:∀a∈List.range 13,32∉(Str.ofString (toString (a:Int))).cps.toList:=by decide+kernel
theorem W9 (sep:Str) (ws:List Str):Txt.join sep ws=Str.join sep ws:=StrLaws.glued_eq_join sep ws
theorem Yo:(" " :Str)=⟨#[32]⟩:=by decide+kernel
theorem UD {wd hg:Int}{xs:List V}(ly:cD wd hg xs) (g:hg≤12):∀v∈xs,aH (bB v)=v∧32∉(bB v).cps.toList:=fun v hv=>by
 rcases ly.ok v hv with rfl |⟨r,rfl⟩
 ·exact⟨HD,by decide+kernel⟩
 ·have hm:V.int r∈rowsOf xs:=List.mem_filter.mpr ⟨hv,by simp⟩
  have q':(decide (0≤r)&&decide (r≤hg - 1))=true:=ly.row _ hm
  rw[Bool.and_eq_true,decide_eq_true_eq,decide_eq_true_eq]at q'
  obtain⟨j,rfl⟩:∃j:Nat,r=j:=⟨r.toNat,by omega⟩
  have hj:j∈List.range 13:=List.mem_range.mpr (by omega)
  exact⟨HE j hj,G3 j hj⟩
theorem Iz {wd hg:Int}{xs:List V}(w1:1≤wd) (aY:wd≤12) (g1:1≤hg) (aZ:hg≤12) (ly:cD wd hg xs):jv (dw wd hg xs)=[.int wd,.int hg]∧gq (dw wd hg xs)=xs:=by
 obtain⟨a,rfl⟩:∃j:Nat,wd=j:=⟨wd.toNat,by omega⟩
 obtain⟨b,rfl⟩:∃j:Nat,hg=j:=⟨hg.toNat,by omega⟩
 obtain⟨h1,h2⟩:=Jc a (List.mem_range.mpr (by omega)) b (List.mem_range.mpr (by omega))
 have fr:=UD ly aZ
 have e:Txt.split (dw (a:Int) (b:Int) xs) " " =bO (a:Int) (b:Int)::xs.map bB:=by
  unfold dw
  rw[W9,Yo]
  refine JN (by decide) _ _ fun w hw=> ?_
  rcases List.mem_cons.mp hw with rfl |hw
  ·exact h2
  ·obtain⟨v,hv,rfl⟩:=List.mem_map.mp hw
   exact(fr v hv).2
 unfold jv gq ke jO
 rw[e]
 refine⟨h1,?_⟩
 show(xs.map bB).map aH=xs
 rw[List.map_map]
 exact(List.map_congr_left fun v hv=> (fr v hv).1).trans (List.map_id _)
def dD (z:Str) (wd hg:Int) (xs:List V):Prop:=1≤wd∧wd≤12∧1≤hg∧hg≤12∧cD wd hg xs∧z=dw wd hg xs
theorem Jb {wd hg:Int}{xs:List V}(h:cG wd hg (some xs)=true):cD wd hg xs:=by
 have h':(decide ((xs.length:Int)=wd)&&((rowsOf xs).all fun r=>aQ r 0 (hg - 1))&&decide (rowsOf xs).Nodup)=true:=h
 rw[Bool.and_eq_true,Bool.and_eq_true,decide_eq_true_eq,decide_eq_true_eq]at h'
 exact⟨h'.1.1,List.all_eq_true.mp h'.1.2,h'.2⟩
theorem Hf {xs:List V}(h:gr (some xs)=true):∃wd hg:Int,xs=[.int wd,.int hg]∧1≤wd∧wd≤12∧1≤hg∧hg≤12:=by
 match xs,h with
 | [a,b],h=>
  have h':(aQ a 1 12&&aQ b 1 12)=true:=h
  rw[Bool.and_eq_true]at h'
  obtain⟨h1,h2⟩:=h'
  have one:∀v:V,aQ v 1 12=true→∃i:Int,v=.int i∧1≤i∧i≤12:=fun v hv=>by
   cases v with
   |int i=>
    have jd:(decide (1≤i)&&decide (i≤12))=true:=hv
    rw[Bool.and_eq_true,decide_eq_true_eq,decide_eq_true_eq]at jd
    exact⟨i,rfl,jd.1,jd.2⟩
   |_=>cases hv
  obtain⟨i,rfl,i1,i2⟩:=one a h1
  obtain⟨j,rfl,j1,j2⟩:=one b h2
  exact⟨i,j,rfl,i1,i2,j1,j2⟩
end U
namespace L2
open PySem PySem.StrLaws
theorem Wx (x:Str) (w:Nat):∀(yu:List Nat) (a:Nat),(partsFrom x w a yu).length=yu.length+1
 | [],a=>rfl
 |c::r,a=>congrArg (· +1) (Wx x w r _)
theorem HF (z:Str) (c:Nat):Builtin.Str.occurrences z ⟨#[c]⟩ 0 z.length (z.length+1)=(List.range' 0 (z.length+1)).filter (cX z ⟨#[c]⟩ z.length):=by
 have hw:(⟨#[c]⟩:Str).length=1:=rfl
 rw[occ_eq,Nat.sub_zero,JE hw z.length (z.length+1) (z.length+1) 0 (#[],0) (Nat.le_refl _) (by show 0+(z.length+1)≤_;omega)]
 rfl
theorem Yb (z:Str) (c:Nat):(Builtin.Str.partsBetween z (Builtin.Str.occurrences z ⟨#[c]⟩ 0 z.length (z.length+1)) (⟨#[c]⟩:Str).length).length≤z.length+2:=by
 rw[partsBetween_eq,Wx,HF]
 have:=List.length_filter_le (cX z ⟨#[c]⟩ z.length) (List.range' 0 (z.length+1))
 rw[List.length_range']at this
 omega
theorem zg (c:Nat):∀l:List Nat,bY c l≠[]
 | [],h=>by cases h
 |d::l,h=>by
  unfold bY at h
  split at h
  ·cases h
  ·split at h<;>cases h
theorem UT (c:Nat):∀(l:List Nat),∀p∈bY c l,p.length≤l.length
 | [],p,h=>by
  rcases List.mem_singleton.mp h with rfl
  exact Nat.le_refl _
 |d::l,p,h=>by
  have ih:=UT c l
  unfold bY at h
  split at h
  ·rcases List.mem_cons.mp h with rfl |h
   ·exact Nat.zero_le _
   ·exact Nat.le_succ_of_le (ih p h)
  ·split at h
   ·rename_i q r e
    rw[e]at ih
    rcases List.mem_cons.mp h with rfl |h
    ·exact Nat.succ_le_succ (ih q List.mem_cons_self)
    ·exact Nat.le_succ_of_le (ih p (List.mem_cons_of_mem _ h))
   ·rename_i e
    exact absurd e (zg c l)
theorem WK (c:Nat):∀(l:List Nat),(bY c l).length≤l.length+1
 | []=>Nat.le_refl _
 |d::l=>by
  have ih:=WK c l
  unfold bY
  split
  ·exact Nat.succ_le_succ ih
  ·split
   ·rename_i q r e
    rw[e]at ih
    exact Nat.le_succ_of_le ih
   ·exact Nat.succ_le_succ (Nat.zero_le _)
theorem Y5 {z:Str}{c:Nat}(hc:c<256):∃h r,Txt.split z ⟨#[c]⟩=h::r:=by
 have e:=YD (z:=z) hc
 cases hs:Txt.split z ⟨#[c]⟩ with
 |nil=>rw[hs]at e;exact absurd e.symm (zg c _)
 |cons h r=>exact⟨h,r,rfl⟩
theorem Yz {z:Str}{c:Nat}(hc:c<256):(Txt.split z ⟨#[c]⟩).length≤z.length+1:=by
 have e:=congrArg List.length (YD (z:=z) hc)
 rw[List.length_map]at e
 rw[e]
 have:=WK c z.cps.toList
 rw[Array.length_toList]at this
 exact this
theorem Js {z w:Str}{c:Nat}(hc:c<256) (h:w∈Txt.split z ⟨#[c]⟩):w.length≤z.length:=by
 have e:=YD (z:=z) hc
 have hm:w.cps.toList∈bY c z.cps.toList:=by rw[←e];exact List.mem_map_of_mem h
 have:=UT c _ _ hm
 rw[Array.length_toList,Array.length_toList]at this
 exact this
theorem JQ (z y:Str):(Txt.removesuffix z y).length≤z.length:=by
 unfold Txt.removesuffix
 split
 ·unfold Txt.affix
  dsimp only
  try split
  all_goals first |exact Nat.le_refl _ |exact Nat.zero_le _ |(show(z.cps.extract _ _).size≤z.cps.size;rw[Array.size_extract];omega)
 ·exact Nat.le_refl _
end L2
namespace U
open PySem L2 PyProof.Rows
theorem pJ:("x" :Str)=⟨#[120]⟩:=by decide+kernel
section
variable {P:Program}{w:World}{K:PySem.W.Frag}{mg:Str→Option Value}{base:Heap}
abbrev lj:Stmt:=top 29
theorem fk:bu ["text", "head", "rows", "board", "lay"] ["text"] (ar lj):=⟨rfl,rfl,rfl,by decide+kernel,rfl,by decide+kernel,by decide+kernel⟩
theorem W7 (K:PySem.W.Frag):PySem.W.kitOne K (.type "str") (.type "str")=some true:=by rfl
def jH:Sp:=fun vs H Q _=> ∃(z:Str) (wd hg:Int) (xs:List V),vs=[.str z]∧z.length≤1000∧dD z wd hg xs∧∀(p b l:Addr) (H':Hp),ag H H'→H' p=some (.tup [.ref b,.ref l])→H' b=some (.tup [.int wd,.int hg])→H' l=some (.tup xs)→Q (.ref p) H'
def iR (cT:Addr):Sp:=fun vs H _ E=> ∃z:Str,vs=[.str z]∧z.length≤1000∧(∀wd hg xs,¬dD z wd hg xs)∧∀e H',ag H H'→E (.ref e) (some cT) H'
theorem Gb {f:Addr}{fd:FuncData}(F:aP K "read_lay" "read_lay" lj f fd) (G:Gs mg) (nB:Def P w K mg base 1 "number_of" ["word"] n9) (uH:Def P w K mg base 3 "is_board" ["thing"] (jK K)) (uG:Def P w K mg base 5 "is_lay" ["board", "thing"] (jJ K)) (iM:Def P w K mg base 7 "lay_text" ["board", "lay"] fj):aC P w K mg base av 8 f fd ["text"] jH:=by
 refine F.ok fk (fun vs H Q E h=> ?_) (fun aq A outer s H vs Q E hr h=> ?_)
 ·obtain⟨z,wd,hg,xs,rfl,_⟩:=h
  rfl
 ·obtain⟨z,wd,hg,xs,rfl,hz,wr,q⟩:=h
  refine⟨_,Ze (ZN (ZJ (Zi (Zq (c:= "str")) rfl G.isinstance boot_isinstance (Za (pv 0) (Za (ZA (v:=.ty "str") rfl G.str boot_str rfl) Zb))))
   (Ze (YZ (Yi PySem.F.plainAttrs_str PySem.F.slot_str_split PySem.F.type_str_split YB (pv 0) (Za Zv Zb)) (za rfl (ZI (i:=1) fk.nd rfl (Or.inl rfl)) (ZI (i:=2) fk.nd rfl (Or.inl rfl))))
   (Ze (Zp (i:=3) fk.nd rfl (Or.inl rfl) (Zz Z3 rfl G.tuple boot_tuple (Za (Ye ["side"] 1 [] (Yt (Yi PySem.F.plainAttrs_str PySem.F.slot_str_split PySem.F.type_str_split YB (Yi PySem.F.plainAttrs_str PySem.F.slot_str_removesuffix PySem.F.type_str_removesuffix WC (pv 1) (Za Zv Zb)) (Za Zv Zb))) (fun C s H fp=>pb 0) (fun C s H fp=>Z4) (fun C s H fp D=>df rfl (Zj nB (hr.mono (by decide)) (Za (pv 0) Zb)))) Zb)))
   (Ze (Zp (i:=4) fk.nd rfl (Or.inl rfl) (Zz Z3 rfl G.tuple boot_tuple (Za (Ye ["row"] 1 [] (Yt (pv 2)) (fun C s H fp=>pb 0) (fun C s H fp=>Z4) (fun C s H fp D=>df rfl (Zj nB (hr.mono (by decide)) (Za (pv 0) Zb)))) Zb)))
   (Zk (ZN (PW.pt (JS (ZJ (Zj uH (hr.mono (by decide)) (Za (pv 3) Zb))) (JS (ZJ (Zj uG (hr.mono (by decide)) (Za (pv 3) (Za (pv 4) Zb)))) (WU (ZU YH (Zj iM (hr.mono (by decide)) (Za (pv 3) (Za (pv 4) Zb))) (pv 0) (bU _))))))
    (Zk (Zu (ZH (Za (pv 3) (Za (pv 4) Zb))))) Zt))))) Zt) ZG,?_⟩
  obtain⟨h,rs,es⟩:=Y5 (z:=z) (c:=32) (by decide)
  have eh:ke z=h:=by unfold ke;rw[Yo,es];rfl
  have er:jO z=rs:=by unfold jO;rw[Yo,es];rfl
  have hh:h.length≤1000:=Nat.le_trans (Js (c:=32) (by decide) (by rw[es];exact List.mem_cons_self)) hz
  have xb:rs.length≤1000:=by
   have:=Yz (z:=z) (c:=32) (by decide)
   rw[es,List.length_cons]at this
   omega
  have rF:=Yb z 32
  refine Zn ?_
  refine⟨.str z,rfl,.str z,_,_,rfl,.str z,W7 K,_,rfl,?_⟩
  refine aw ?_
  refine Zn ?_
  refine⟨_,rfl,rfl,z,⟨#[32]⟩,rfl,(by rw[←Yo]),rfl,by rw[sizeLine_eq];omega,by rw[sizeLine_eq];omega,fun D hD=> ?_⟩
  rw[es]
  have m1:=Zd (o:=.lst ((h::rs).map V.str)) hD
  refine⟨D,.str h,rs.map V.str,rfl,ak.of Zc,fun L hL=> ?_⟩
  have m2:=Zd (o:=.lst (rs.map V.str)) hL
  have e2:upd (upd H D (.lst ((h::rs).map V.str))) L (.lst (rs.map V.str)) L=some (.lst (rs.map V.str)):=Zc
  generalize upd (upd H D (.lst ((h::rs).map V.str))) L (.lst (rs.map V.str))=H2 at m2 e2
  have s2:=m1.trans m2
  refine Zl (Zl ?_)
  dsimp only[List.set]
  have wV:=Nat.le_trans (JQ h ":") hh
  have B5:=Yb (Txt.removesuffix h ":") 120
  have Fm:=Yz (z:=Txt.removesuffix h ":") (c:=120) (by decide)
  refine Zn (Zw ?_)
  refine⟨_,rfl,rfl,h, ":",rfl,rfl,by rw[sizeLine_eq];omega,rfl,Txt.removesuffix h ":",⟨#[120]⟩,rfl,(by rw[←pJ]),rfl,by rw[sizeLine_eq];omega,by rw[sizeLine_eq];omega,fun D3 tf=> ?_⟩
  have m3:=Zd (o:=.lst ((Txt.split (Txt.removesuffix h ":") ⟨#[120]⟩).map V.str)) tf
  have e3:upd H2 D3 (.lst ((Txt.split (Txt.removesuffix h ":") ⟨#[120]⟩).map V.str)) D3=some (.lst ((Txt.split (Txt.removesuffix h ":") ⟨#[120]⟩).map V.str)):=Zc
  generalize upd H2 D3 (.lst ((Txt.split (Txt.removesuffix h ":") ⟨#[120]⟩).map V.str))=H3 at m3 e3
  refine⟨D3,rfl,⟨_,ak.of e3⟩,?_⟩
  refine Ym (xs:=(Txt.split (Txt.removesuffix h ":") ⟨#[120]⟩).map V.str) (fun j ys af H'=>ag H3 H'∧ys=((Txt.split (Txt.removesuffix h ":") ⟨#[120]⟩).take j).map aH∧∃v,af=[v]) ⟨ag.refl _,rfl,none,rfl⟩ (fun j ys af H' _ ⟨sm,_⟩=>ak.of (sm _ _ e3)) ?_ ?_
  ·rintro j y ys af H' hy ⟨sm,rfl,v,rfl⟩
   have hj:=(List.getElem?_eq_some_iff.mp hy).1
   rw[List.length_map]at hj
   rw[List.getElem?_map]at hy
   obtain⟨u,hu,rfl⟩:=Option.map_eq_some_iff.mp hy
   refine Zl ?_
   dsimp only[List.set]
   try unfold gj
   refine aw ⟨.str u,rfl,u,rfl,fun nu bA=> ⟨?_,sm.trans bA,?_,_,rfl⟩⟩
   ·rw[List.length_map,List.length_take,sizeLine_eq];omega
   ·rw[List.take_add_one,hu,List.map_append];rfl
  rintro ys af H' ⟨iT,rfl,v,rfl⟩ p hp
  rw[List.length_map,List.take_length]
  refine⟨p,_,rfl,.inl ⟨ak.of Zc,fun b hb=> ?_⟩⟩
  have n4:=Zd (o:=.lst ((Txt.split (Txt.removesuffix h ":") ⟨#[120]⟩).map aH)) hp
  have k4:=Zd (o:=.tup ((Txt.split (Txt.removesuffix h ":") ⟨#[120]⟩).map aH)) hb
  have e4:upd (upd H' p (.lst ((Txt.split (Txt.removesuffix h ":") ⟨#[120]⟩).map aH))) b (.tup ((Txt.split (Txt.removesuffix h ":") ⟨#[120]⟩).map aH)) b=some (.tup ((Txt.split (Txt.removesuffix h ":") ⟨#[120]⟩).map aH)):=Zc
  generalize upd (upd H' p (.lst ((Txt.split (Txt.removesuffix h ":") ⟨#[120]⟩).map aH))) b (.tup ((Txt.split (Txt.removesuffix h ":") ⟨#[120]⟩).map aH))=H4 at k4 e4
  clear hp
  refine Zl ?_
  dsimp only[List.set]
  have s4:=s2.trans (m3.trans (iT.trans (n4.trans k4)))
  have e24:=(m3.trans (iT.trans (n4.trans k4))) _ _ e2
  refine Zn (Zw ?_)
  refine⟨_,rfl,L,rfl,⟨_,ak.of e24⟩,?_⟩
  refine Ym (xs:=(rs).map V.str) (fun j ys af H'=>ag H4 H'∧ys=((rs).take j).map aH∧∃v,af=[v]) ⟨ag.refl _,rfl,none,rfl⟩ (fun j ys af H' _ ⟨sm,_⟩=>ak.of (sm _ _ e24)) ?_ ?_
  ·rintro j y ys af H' hy ⟨sm,rfl,v,rfl⟩
   have hj:=(List.getElem?_eq_some_iff.mp hy).1
   rw[List.length_map]at hj
   rw[List.getElem?_map]at hy
   obtain⟨u,hu,rfl⟩:=Option.map_eq_some_iff.mp hy
   refine Zl ?_
   dsimp only[List.set]
   try unfold gj
   refine aw ⟨.str u,rfl,u,rfl,fun nu bA=> ⟨?_,sm.trans bA,?_,_,rfl⟩⟩
   ·rw[List.length_map,List.length_take,sizeLine_eq];omega
   ·rw[List.take_add_one,hu,List.map_append];rfl
  rintro ys af H' ⟨kW,rfl,v,rfl⟩ p hp
  rw[List.length_map,List.take_length]
  refine⟨p,_,rfl,.inl ⟨ak.of Zc,fun l hl=> ?_⟩⟩
  have n5:=Zd (o:=.lst ((rs).map aH)) hp
  have k5:=Zd (o:=.tup ((rs).map aH)) hl
  have e5:upd (upd H' p (.lst ((rs).map aH))) l (.tup ((rs).map aH)) l=some (.tup ((rs).map aH)):=Zc
  generalize upd (upd H' p (.lst ((rs).map aH))) l (.tup ((rs).map aH))=H5 at k5 e5
  clear hp
  refine Zl ?_
  dsimp only[List.set]
  have lC:=kW.trans (n5.trans k5)
  have s5:=s4.trans lC
  have eb:(Txt.split (Txt.removesuffix h ":") ⟨#[120]⟩).map aH=jv z:=by unfold jv;rw[eh,pJ]
  have el:rs.map aH=gq z:=by unfold gq;rw[er]
  rw[el]at e5
  have eD:=lC _ _ e4
  rw[eb]at eD
  have q9:cA K H5 (.ref b):=⟨⟨_,.tup eD⟩,fun ys e y hy=>by
   rw[Zo eD]at e
   cases e
   obtain⟨u,_,rfl⟩:=List.mem_map.mp hy
   exact W4 u⟩
  have q0:∀{H':Hp},ag H5 H'→cA K H' (.ref l):=fun s'=> ⟨⟨_,.tup (s' _ _ e5)⟩,fun ys e y hy=>by
   rw[Zo (s' _ _ e5)]at e
   cases e
   obtain⟨u,_,rfl⟩:=List.mem_map.mp hy
   exact W4 u⟩
  clear e24 e4 k4 n4 k5 n5 iT kW m3 e3 m2 e2 m1
  obtain⟨w1,aY,g1,aZ,ly,ez⟩:=wr
  obtain⟨rb,rl⟩:=Iz w1 aY g1 aZ ly
  rw[←ez]at rb rl
  rw[rb]at eD
  rw[rl]at e5
  have bd:cN H5 (.ref b) wd hg:=⟨Zo eD,w1,aY,g1,aZ⟩
  refine⟨.ref b,rfl,.ref b,rfl,q9,fun H6 s6=> ⟨_,rfl,?_⟩⟩
  rw[bd.is]
  refine aw ⟨_,rfl,_,rfl,.ref b,.ref l,wd,hg,rfl,bd.same s6,q0 s6,fun H7 s7=> ⟨_,rfl,?_⟩⟩
  rw[Zo (s6 _ _ e5),ly.is]
  have gS:=s6.trans s7
  refine aw ⟨_,rfl,_,rfl,b,l,wd,hg,xs,rfl,bd.same gS,gS _ _ e5,ly,fun H8 s8=> ⟨_,rfl,rfl,_,rfl,?_⟩⟩
  rw[←ez,decide_eq_true rfl]
  have qX:=gS.trans s8
  refine aw ⟨_,rfl,_,rfl,(by show 2≤sizeLine;decide),fun p hp=> ?_⟩
  have m9:=Zd (o:=.tup [.ref b,.ref l]) hp
  exact q p b l _ (s5.trans (qX.trans m9)) Zc ((qX.trans m9) _ _ eD) ((qX.trans m9) _ _ e5)
theorem FW {cT:Addr}{f:Addr}{fd:FuncData}(F:aP K "read_lay" "read_lay" lj f fd) (G:Gs mg) (mT:mg "NoText" =some (.ref cT)) (xT:PySem.W.excIn K cT iB "ValueError.__new__" =true) (nB:Def P w K mg base 1 "number_of" ["word"] n9) (uH:Def P w K mg base 3 "is_board" ["thing"] (jK K)) (uG:Def P w K mg base 5 "is_lay" ["board", "thing"] (jJ K)) (iM:Def P w K mg base 7 "lay_text" ["board", "lay"] fj):aC P w K mg base (bz P w) 8 f fd ["text"] (iR cT):=by
 refine F.jR fk (fun vs H Q E h=> ?_) (fun aq A outer s H vs Q E hr h=> ?_)
 ·obtain⟨z,rfl,_⟩:=h
  rfl
 ·obtain⟨z,rfl,hz,nw,q⟩:=h
  refine⟨_,Ze (ZN (ZJ (Zi (Zq (c:= "str")) rfl G.isinstance boot_isinstance (Za (pv 0) (Za (ZA (v:=.ty "str") rfl G.str boot_str rfl) Zb))))
   (Ze (YZ (Yi PySem.F.plainAttrs_str PySem.F.slot_str_split PySem.F.type_str_split YB (pv 0) (Za Zv Zb)) (za rfl (ZI (i:=1) fk.nd rfl (Or.inl rfl)) (ZI (i:=2) fk.nd rfl (Or.inl rfl))))
   (Ze (Zp (i:=3) fk.nd rfl (Or.inl rfl) (Zz Z3 rfl G.tuple boot_tuple (Za (Ye ["side"] 1 [] (Yt (Yi PySem.F.plainAttrs_str PySem.F.slot_str_split PySem.F.type_str_split YB (Yi PySem.F.plainAttrs_str PySem.F.slot_str_removesuffix PySem.F.type_str_removesuffix WC (pv 1) (Za Zv Zb)) (Za Zv Zb))) (fun C s H fp=>pb 0) (fun C s H fp=>Z4) (fun C s H fp D=>df rfl (Zj nB (hr.mono (by decide)) (Za (pv 0) Zb)))) Zb)))
   (Ze (Zp (i:=4) fk.nd rfl (Or.inl rfl) (Zz Z3 rfl G.tuple boot_tuple (Za (Ye ["row"] 1 [] (Yt (pv 2)) (fun C s H fp=>pb 0) (fun C s H fp=>Z4) (fun C s H fp D=>df rfl (Zj nB (hr.mono (by decide)) (Za (pv 0) Zb)))) Zb)))
   (Zk (ZN (PW.pt (JS (ZJ (Zj uH (hr.mono (by decide)) (Za (pv 3) Zb))) (JS (ZJ (Zj uG (hr.mono (by decide)) (Za (pv 3) (Za (pv 4) Zb)))) (WU (ZU YH (Zj iM (hr.mono (by decide)) (Za (pv 3) (Za (pv 4) Zb))) (pv 0) (bU _))))))
    (Zk (Zu (ZH (Za (pv 3) (Za (pv 4) Zb))))) Zt))))) Zt) (Zk (Y6 PySem.F.excBase_ValueError mT xT rfl (Za Zv Zb))),?_⟩
  obtain⟨h,rs,es⟩:=Y5 (z:=z) (c:=32) (by decide)
  have eh:ke z=h:=by unfold ke;rw[Yo,es];rfl
  have er:jO z=rs:=by unfold jO;rw[Yo,es];rfl
  have hh:h.length≤1000:=Nat.le_trans (Js (c:=32) (by decide) (by rw[es];exact List.mem_cons_self)) hz
  have xb:rs.length≤1000:=by
   have:=Yz (z:=z) (c:=32) (by decide)
   rw[es,List.length_cons]at this
   omega
  have rF:=Yb z 32
  refine Zn ?_
  refine⟨.str z,rfl,.str z,_,_,rfl,.str z,W7 K,_,rfl,?_⟩
  refine aw ?_
  refine Zn ?_
  refine⟨_,rfl,rfl,z,⟨#[32]⟩,rfl,(by rw[←Yo]),rfl,by rw[sizeLine_eq];omega,by rw[sizeLine_eq];omega,fun D hD=> ?_⟩
  rw[es]
  have m1:=Zd (o:=.lst ((h::rs).map V.str)) hD
  refine⟨D,.str h,rs.map V.str,rfl,ak.of Zc,fun L hL=> ?_⟩
  have m2:=Zd (o:=.lst (rs.map V.str)) hL
  have e2:upd (upd H D (.lst ((h::rs).map V.str))) L (.lst (rs.map V.str)) L=some (.lst (rs.map V.str)):=Zc
  generalize upd (upd H D (.lst ((h::rs).map V.str))) L (.lst (rs.map V.str))=H2 at m2 e2
  have s2:=m1.trans m2
  refine Zl (Zl ?_)
  dsimp only[List.set]
  have wV:=Nat.le_trans (JQ h ":") hh
  have B5:=Yb (Txt.removesuffix h ":") 120
  have Fm:=Yz (z:=Txt.removesuffix h ":") (c:=120) (by decide)
  refine Zn (Zw ?_)
  refine⟨_,rfl,rfl,h, ":",rfl,rfl,by rw[sizeLine_eq];omega,rfl,Txt.removesuffix h ":",⟨#[120]⟩,rfl,(by rw[←pJ]),rfl,by rw[sizeLine_eq];omega,by rw[sizeLine_eq];omega,fun D3 tf=> ?_⟩
  have m3:=Zd (o:=.lst ((Txt.split (Txt.removesuffix h ":") ⟨#[120]⟩).map V.str)) tf
  have e3:upd H2 D3 (.lst ((Txt.split (Txt.removesuffix h ":") ⟨#[120]⟩).map V.str)) D3=some (.lst ((Txt.split (Txt.removesuffix h ":") ⟨#[120]⟩).map V.str)):=Zc
  generalize upd H2 D3 (.lst ((Txt.split (Txt.removesuffix h ":") ⟨#[120]⟩).map V.str))=H3 at m3 e3
  refine⟨D3,rfl,⟨_,ak.of e3⟩,?_⟩
  refine Ym (xs:=(Txt.split (Txt.removesuffix h ":") ⟨#[120]⟩).map V.str) (fun j ys af H'=>ag H3 H'∧ys=((Txt.split (Txt.removesuffix h ":") ⟨#[120]⟩).take j).map aH∧∃v,af=[v]) ⟨ag.refl _,rfl,none,rfl⟩ (fun j ys af H' _ ⟨sm,_⟩=>ak.of (sm _ _ e3)) ?_ ?_
  ·rintro j y ys af H' hy ⟨sm,rfl,v,rfl⟩
   have hj:=(List.getElem?_eq_some_iff.mp hy).1
   rw[List.length_map]at hj
   rw[List.getElem?_map]at hy
   obtain⟨u,hu,rfl⟩:=Option.map_eq_some_iff.mp hy
   refine Zl ?_
   dsimp only[List.set]
   try unfold gj
   refine aw ⟨.str u,rfl,u,rfl,fun nu bA=> ⟨?_,sm.trans bA,?_,_,rfl⟩⟩
   ·rw[List.length_map,List.length_take,sizeLine_eq];omega
   ·rw[List.take_add_one,hu,List.map_append];rfl
  rintro ys af H' ⟨iT,rfl,v,rfl⟩ p hp
  rw[List.length_map,List.take_length]
  refine⟨p,_,rfl,.inl ⟨ak.of Zc,fun b hb=> ?_⟩⟩
  have n4:=Zd (o:=.lst ((Txt.split (Txt.removesuffix h ":") ⟨#[120]⟩).map aH)) hp
  have k4:=Zd (o:=.tup ((Txt.split (Txt.removesuffix h ":") ⟨#[120]⟩).map aH)) hb
  have e4:upd (upd H' p (.lst ((Txt.split (Txt.removesuffix h ":") ⟨#[120]⟩).map aH))) b (.tup ((Txt.split (Txt.removesuffix h ":") ⟨#[120]⟩).map aH)) b=some (.tup ((Txt.split (Txt.removesuffix h ":") ⟨#[120]⟩).map aH)):=Zc
  generalize upd (upd H' p (.lst ((Txt.split (Txt.removesuffix h ":") ⟨#[120]⟩).map aH))) b (.tup ((Txt.split (Txt.removesuffix h ":") ⟨#[120]⟩).map aH))=H4 at k4 e4
  clear hp
  refine Zl ?_
  dsimp only[List.set]
  have s4:=s2.trans (m3.trans (iT.trans (n4.trans k4)))
  have e24:=(m3.trans (iT.trans (n4.trans k4))) _ _ e2
  refine Zn (Zw ?_)
  refine⟨_,rfl,L,rfl,⟨_,ak.of e24⟩,?_⟩
  refine Ym (xs:=(rs).map V.str) (fun j ys af H'=>ag H4 H'∧ys=((rs).take j).map aH∧∃v,af=[v]) ⟨ag.refl _,rfl,none,rfl⟩ (fun j ys af H' _ ⟨sm,_⟩=>ak.of (sm _ _ e24)) ?_ ?_
  ·rintro j y ys af H' hy ⟨sm,rfl,v,rfl⟩
   have hj:=(List.getElem?_eq_some_iff.mp hy).1
   rw[List.length_map]at hj
   rw[List.getElem?_map]at hy
   obtain⟨u,hu,rfl⟩:=Option.map_eq_some_iff.mp hy
   refine Zl ?_
   dsimp only[List.set]
   try unfold gj
   refine aw ⟨.str u,rfl,u,rfl,fun nu bA=> ⟨?_,sm.trans bA,?_,_,rfl⟩⟩
   ·rw[List.length_map,List.length_take,sizeLine_eq];omega
   ·rw[List.take_add_one,hu,List.map_append];rfl
  rintro ys af H' ⟨kW,rfl,v,rfl⟩ p hp
  rw[List.length_map,List.take_length]
  refine⟨p,_,rfl,.inl ⟨ak.of Zc,fun l hl=> ?_⟩⟩
  have n5:=Zd (o:=.lst ((rs).map aH)) hp
  have k5:=Zd (o:=.tup ((rs).map aH)) hl
  have e5:upd (upd H' p (.lst ((rs).map aH))) l (.tup ((rs).map aH)) l=some (.tup ((rs).map aH)):=Zc
  generalize upd (upd H' p (.lst ((rs).map aH))) l (.tup ((rs).map aH))=H5 at k5 e5
  clear hp
  refine Zl ?_
  dsimp only[List.set]
  have lC:=kW.trans (n5.trans k5)
  have s5:=s4.trans lC
  have eb:(Txt.split (Txt.removesuffix h ":") ⟨#[120]⟩).map aH=jv z:=by unfold jv;rw[eh,pJ]
  have el:rs.map aH=gq z:=by unfold gq;rw[er]
  rw[el]at e5
  have eD:=lC _ _ e4
  rw[eb]at eD
  have q9:cA K H5 (.ref b):=⟨⟨_,.tup eD⟩,fun ys e y hy=>by
   rw[Zo eD]at e
   cases e
   obtain⟨u,_,rfl⟩:=List.mem_map.mp hy
   exact W4 u⟩
  have q0:∀{H':Hp},ag H5 H'→cA K H' (.ref l):=fun s'=> ⟨⟨_,.tup (s' _ _ e5)⟩,fun ys e y hy=>by
   rw[Zo (s' _ _ e5)]at e
   cases e
   obtain⟨u,_,rfl⟩:=List.mem_map.mp hy
   exact W4 u⟩
  clear e24 e4 k4 n4 k5 n5 iT kW m3 e3 m2 e2 m1
  refine⟨.ref b,rfl,.ref b,rfl,q9,fun H6 s6=> ⟨_,rfl,?_⟩⟩
  rw[Zo eD]
  cases hb:gr (some (jv z)) with
  |false=>exact aF ⟨by show 1≤sizeLine;decide,fun e=>q e H6 (s5.trans s6)⟩
  |true=>
   obtain⟨wd,hg,ew,w1,aY,g1,aZ⟩:=Hf hb
   rw[ew]at eD
   have bd:cN H5 (.ref b) wd hg:=⟨Zo eD,w1,aY,g1,aZ⟩
   refine aw ⟨_,rfl,_,rfl,.ref b,.ref l,wd,hg,rfl,bd.same s6,q0 s6,fun H7 s7=> ⟨_,rfl,?_⟩⟩
   rw[Zo (s6 _ _ e5)]
   have gS:=s6.trans s7
   cases hl:cG wd hg (some (gq z)) with
   |false=>exact aF ⟨by show 1≤sizeLine;decide,fun e=>q e H7 (s5.trans gS)⟩
   |true=>
    have ly:=Jb hl
    refine aw ⟨_,rfl,_,rfl,b,l,wd,hg,gq z,rfl,bd.same gS,gS _ _ e5,ly,fun H8 s8=> ⟨_,rfl,rfl,_,rfl,?_⟩⟩
    rw[decide_eq_false fun e=>nw wd hg (gq z) ⟨w1,aY,g1,aZ,ly,by injection e with e;exact e.symm⟩]
    exact aF ⟨by show 1≤sizeLine;decide,fun e=>q e H8 (s5.trans (gS.trans s8))⟩
abbrev qI:Stmt:=top 39
theorem A6:bu ["_law_thing", "_law_least", "_law_upto"] ["_law_thing", "_law_least", "_law_upto"] (ar qI):=⟨rfl,rfl,rfl,by decide+kernel,rfl,by decide+kernel,by decide+kernel⟩
theorem F8 {f:Addr}{fd:FuncData}(F:aP K "_law_whole" "_law_whole" qI f fd) (G:Gs mg):aC P w K mg base av 1 f fd ["_law_thing", "_law_least", "_law_upto"] (iP K):=by
 refine F.ok A6 (fun vs H Q E h=> ?_) (fun aq A outer s H vs Q E hr h=> ?_)
 ·obtain⟨x,a,b,rfl,_⟩:=h
  rfl
 ·obtain⟨x,a,b,rfl,⟨T,t⟩,q⟩:=h
  refine⟨_,Zk (Zu (Yp (Zi (Zq (c:= "int")) rfl G.isinstance boot_isinstance (Za (pv 0) (Za (ZA (v:=.ty "int") rfl G.int boot_int rfl) Zb)))
   (Yp (yO (Zi (Zq (c:= "bool")) rfl G.isinstance boot_isinstance (Za (pv 0) (Za (ZA (v:=.ty "bool") rfl G.bool boot_bool rfl) Zb))))
   (Yv (Uu pK pK (pv 1) (pv 0) (pv 2)))))),?_⟩
  refine⟨x,rfl,x,_,_,rfl,t,zr t,_,rfl,?_⟩
  have kb:=UE t
  cases x with
  |int i=>
   refine aw ⟨_,rfl,_,_,_,rfl,t,kb,_,rfl,_,rfl,aw ⟨_,rfl,_,rfl,_,_,rfl,rfl,_,rfl,?_⟩⟩
   have e:aQ (.int i) a b=(decide (a≤i)&&decide (i≤b)):=rfl
   rw[e]at q
   cases e1:decide (a≤i) with
   |false=>rw[e1]at q;exact aF q
   |true=>rw[e1]at q;exact aw ⟨_,rfl,_,_,rfl,rfl,q⟩
  |bl c=>exact aw ⟨_,rfl,_,_,_,rfl,t,kb,_,rfl,_,rfl,aF q⟩
  |_=>exact aF q
theorem U7 {H H1:Hp}{L:Addr}{o:HO}(s:ag H H1) (n:H L=none):ag H (upd H1 L o):=fun b u h=>by
 rw[Zh (fun z=>by rw[z,n]at h;cases h)]
 exact s _ _ h
theorem Ki {xs:List V}{i:Nat}{v:V}(h:xs[i]? =some v):rowsOf (xs.take (i+1))=rowsOf (xs.take i)++(if v=.ae then [] else [v]):=by
 unfold rowsOf
 rw[List.take_add_one,h,List.filter_append]
 congr 1
 by_cases e:v=.ae
 ·rw[if_pos e,e];rfl
 ·rw[if_neg e]
  simp[e]
theorem Gx {r:Int}{zs:List V}(h:∀z∈zs,∃i:Int,z=.int i):jW (.int r) zs=decide (V.int r∈zs):=by
 induction zs with
 |nil=>rfl
 |cons z zs ih=>
  obtain⟨i,rfl⟩:=h z List.mem_cons_self
  have wO:=ih fun y hy=>h y (List.mem_cons_of_mem _ hy)
  unfold jW at wO ⊢
  rw[List.any_cons,wO]
  by_cases e:i=r
  ·subst e
   simp[cf]
  ·have:cf (.int i) (.int r)=false:=by simp[cf,e]
   rw[this,Bool.false_or]
   have:(V.int r∈V.int i::zs)↔V.int r∈zs:=by
    rw[List.mem_cons]
    exact⟨fun h=>h.resolve_left fun z=>e (by cases z;rfl),.inr⟩
   exact(decide_eq_decide.mpr this).symm
abbrev qJ:Stmt:=top 40
def qm (K:PySem.W.Frag):Sp:=fun vs H Q _=> ∃(b:Addr) (y:V) (wd hg:Int),vs=[.ref b,y]∧cN H (.ref b) wd hg∧cA K H y∧(∀xs,aS H y=some xs→xs.length≤1000)∧∀H',ag H H'→Q (.bl (cG wd hg (aS H y))) H'
abbrev BY:List Str:=["_law_board_here", "_law_thing", "_law_met", "_law_row"]
theorem qu:bu BY ["_law_board_here", "_law_thing"] (ar qJ):=⟨rfl,rfl,rfl,by decide+kernel,rfl,by decide+kernel,by decide+kernel⟩
theorem Hr {wd hg:Int}{xs:List V}{v:V}(hv:v∈xs) (hn:v≠.ae) (h:aQ v 0 (hg - 1)=false):cG wd hg (some xs)=false:=by
 show(decide ((xs.length:Int)=wd)&&((rowsOf xs).all fun r=>aQ r 0 (hg - 1))&&decide (rowsOf xs).Nodup)=false
 have:((rowsOf xs).all fun r=>aQ r 0 (hg - 1))=false:=by
  rw[List.all_eq_false]
  exact⟨v,List.mem_filter.mpr ⟨hv,by simp[hn]⟩,by rw[h];simp⟩
 rw[this,Bool.and_false,Bool.false_and]
theorem Hs {wd hg:Int}{xs:List V}(h:¬(rowsOf xs).Nodup):cG wd hg (some xs)=false:=by
 show(decide ((xs.length:Int)=wd)&&((rowsOf xs).all fun r=>aQ r 0 (hg - 1))&&decide (rowsOf xs).Nodup)=false
 rw[decide_eq_false h,Bool.and_false]
theorem F6 {f:Addr}{fd:FuncData}(F:aP K "_law_lay_good" "_law_lay_good" qJ f fd) (G:Gs mg) (D1:Def P w K mg base 1 "_law_whole" ["_law_thing", "_law_least", "_law_upto"] (iP K)):aC P w K mg base av 2 f fd ["_law_board_here", "_law_thing"] (qm K):=by
 refine F.ok qu (fun vs H Q E h=> ?_) (fun aq A outer s H vs Q E hr h=> ?_)
 ·obtain⟨b,y,wd,hg,rfl,_⟩:=h
  rfl
 ·obtain⟨b,y,wd,hg,rfl,bd,⟨⟨T,t⟩,pl⟩,ln,q⟩:=h
  refine⟨_,Ze (ZN (PW.pt (Ur (Yc (ZJ (Zi (Zq (c:= "tuple")) rfl G.isinstance boot_isinstance (Za (pv 1) (Za (ZA (v:=.ty "tuple") rfl G.tuple boot_tuple rfl) Zb)))))
    (JR (ZU ue (Zi Zy rfl G.len boot_len (Za (pv 1) Zb)) (ZO Yq (pv 0) Zf (fun _ _=>rfl)) (bU _))))) (Zk (Zu Uv)) Zt)
   (Ze (Zp (i:=2) qu.nd rfl (Or.inl rfl) (Zx Zb))
   (Ze (YF PassesOwn.never rfl (Jm (pv 1)) (ZI (i:=3) qu.nd rfl (Or.inl rfl))
    (Zk (ZN (YI (W0 (pv 3)))
     (Ze (ZN (PW.pt (Ur (Yc (ZJ (Zj D1 hr (Za (pv 3) (Za Zf (Za (Zm W2 (ZO Yq (pv 0) Zf (fun _ _=>rfl)) Zf) Zb)))))) (JR (ZU Kz (pv 3) (pv 2) rfl)))) (Zk (Zu Uv)) Zt)
     (Zk (Ys (Yi PySem.F.plainAttrs_list PySem.F.slot_list_append PySem.F.type_list_append YO (pv 2) (Za (pv 3) Zb))))) Zt)))
   (Zk (Zu Uv)))),?_⟩
  obtain⟨b',eb,hb⟩:=ZF bd.1
  cases eb
  obtain⟨_,w1,w2,g1,g2⟩:=id bd
  refine Zn ⟨y,rfl,y,_,_,rfl,t,WE t,_,rfl,?_⟩
  cases e:aS H y with
  |none=>
   rw[e]at q
   exact aw (aw (q H (ag.refl H)))
  |some xs=>
   rw[e]at q
   have Lp:=ln xs e
   have BB:=pl xs e
   obtain⟨a,rfl,ha⟩:=ZF e
   refine aF ⟨_,rfl,a,xs,rfl,.inr (aj.of ha),_,rfl,b,_,_,_,rfl,rfl,aj.of hb,iD,rfl,_,rfl,?_⟩
   by_cases hlen:(xs.length:Int)=wd
   ·have z:decide (V.int (xs.length:Int)=V.int wd)=true:=decide_eq_true (by rw[hlen])
    rw[z]
    refine aF (ZW ?_)
    dsimp only
    refine Zn (Zw ⟨Nat.zero_le _,fun m hm=>Zl ?_⟩)
    dsimp only[List.set]
    have s1:=Zd (o:=.lst []) hm
    have e1:upd H m (.lst []) m=some (.lst []):=Zc
    generalize upd H m (HO.lst [])=H1 at s1 e1
    refine Zn ⟨_,rfl,a,rfl,⟨xs,aj.of (s1 _ _ ha)⟩,?_⟩
    refine zj (xs:=xs) (fun i σ H'=> ∃v3,σ=[some (.ref b),some (.ref a),some (.ref m),v3]∧ag H H'∧H' m=some (.lst (rowsOf (xs.take i)))∧(∀r∈rowsOf (xs.take i),aQ r 0 (hg - 1)=true)∧(rowsOf (xs.take i)).Nodup) ⟨_,rfl,s1,e1,(fun r h=>by cases h),List.nodup_nil⟩ (fun i σ H' _ ⟨_,_,s',_⟩=>aj.of (s' _ _ ha)) ?_ ?_
    ·rintro i v σ H2 hv ⟨v3,rfl,s2,e2,jS,lK⟩
     have hi:=(List.getElem?_eq_some_iff.mp hv).1
     have er:=Ki hv
     refine Zl ?_
     dsimp only[List.set]
     refine⟨_,rfl,_,rfl,?_⟩
     by_cases hn:v=.ae
     ·subst hn
      rw[if_pos rfl,List.append_nil]at er
      refine aF (ZW ⟨_,rfl,s2,?_,?_,?_⟩)<;>rw[er]
      ·exact e2
      ·exact jS
      ·exact lK
     ·rw[if_neg hn]at er
      have gz:v∈xs:=List.mem_of_getElem? hv
      have wN:∀r∈rowsOf (xs.take i),∃k:Int,r=.int k:=fun r cI=>by
       have:=jS r cI
       cases r with
       |int k=>exact⟨k,rfl⟩
       |_=>cases this
      have me:=s2 _ _ hb
      have vW:cw K H2 v:=s2.jP (BB v gz)
      have wu:aQ v 0 (hg - 1)=false→Q (.bl false) H2:=fun hw=>by
       have h:=q H2 s2
       rw[Hr gz hn hw]at h
       exact h
      cases v with
      |ae=>exact absurd rfl hn
      |int k=>
       refine aw (Zn ⟨_,rfl,_,rfl,b,_,_,_,rfl,rfl,aj.of me,bZ,_,_,rfl,rfl,_,0,hg - 1,rfl,vW,_,rfl,?_⟩)
       cases hw:aQ (.int k) 0 (hg - 1) with
       |false=>exact aw (aw (wu hw))
       |true=>
        have flat:(rowsOf (xs.take i)).all eV=true:=List.all_eq_true.mpr fun r cI=>by
         obtain⟨z,rfl⟩:=wN r cI
         rfl
        refine aF ⟨_,rfl,_,rfl,m,_,rfl,.inl (ak.of e2),rfl,flat,_,rfl,?_⟩
        refine(show if (if false=true then !jW (.int k) (rowsOf (xs.take i)) else jW (.int k) (rowsOf (xs.take i)))=true then _ else _ from ?_)
        rw[if_neg Bool.false_ne_true,Gx wN]
        by_cases gC:V.int k∈rowsOf (xs.take i)
        ·rw[decide_eq_true gC]
         have nn:¬(rowsOf xs).Nodup:=fun nd=>by
          have sub:(rowsOf (xs.take (i+1))).Sublist (rowsOf xs):=List.Sublist.filter _ (List.take_sublist _ _)
          have:=nd.sublist sub
          rw[er]at this
          exact(List.nodup_append.mp this).2.2 _ gC _ (by simp) rfl
         have h:=q H2 s2
         rw[Hs nn]at h
         exact aw h
        ·rw[decide_eq_false gC]
         refine aF (ZW ?_)
         dsimp only
         have nm:H m=none:=hm
         refine⟨_,rfl,.inl ⟨rfl,_,ak.of e2⟩,_,rfl,m,_,_,rfl,rfl,e2,?_,ZW ⟨_,rfl,U7 s2 nm,?_,?_,?_⟩⟩
         ·have h1:(rowsOf (xs.take i)).length≤(xs.take i).length:=List.length_filter_le _ _
          rw[List.length_take]at h1
          rw[sizeLine_eq]
          omega
         ·rw[Zc,er]
         ·rw[er]
          intro r cI
          rcases List.mem_append.mp cI with h |h
          ·exact jS r h
          ·rw[List.mem_singleton.mp h];exact hw
         ·rw[er]
          exact List.nodup_append.mpr ⟨lK,by simp,fun x hx y hy e=>gC (by rw[List.mem_singleton.mp hy]at e;rw[←e];exact hx)⟩
      |_=>exact aw (Zn ⟨_,rfl,_,rfl,b,_,_,_,rfl,rfl,aj.of me,bZ,_,_,rfl,rfl,_,0,hg - 1,rfl,vW,_,rfl,aw (aw (wu rfl))⟩)
    ·rintro σ H2 ⟨v3,rfl,s2,e2,jS,lK⟩
     rw[List.take_length]at jS lK
     have:cG wd hg (some xs)=true:=by
      show(decide ((xs.length:Int)=wd)&&((rowsOf xs).all fun r=>aQ r 0 (hg - 1))&&decide (rowsOf xs).Nodup)=true
      rw[decide_eq_true hlen,List.all_eq_true.mpr jS,decide_eq_true lK]
      rfl
     rw[this]at q
     exact q H2 s2
   ·have z:decide (V.int (xs.length:Int)=V.int wd)=false:=decide_eq_false (fun z=>hlen (by cases z;rfl))
    rw[z]
    have:cG wd hg (some xs)=false:=by
     show(decide ((xs.length:Int)=wd)&&((rowsOf xs).all fun r=>aQ r 0 (hg - 1))&&decide (rowsOf xs).Nodup)=false
     rw[decide_eq_false hlen,Bool.false_and,Bool.false_and]
    rw[this]at q
    exact aw (q H (ag.refl H))
structure Mg (K:PySem.W.Frag) (mg:Str→Option Value) (cS:Addr) (cs:Nat→Addr):Prop where
 s:mg "StepError" =some (.ref cS)
 m:∀i,i<15→mg (rA.getD i "")=some (.ref (cs i))
 x:∀i,i<15→PySem.W.excIn K (cs i) iB "ValueError.__new__" =true
 z:∀i,i<15→iL K (cs i)
 k:∀i,i<15→PySem.W.kitOne K (.ref (cs i)) (.ref cS)=some true
end
section
variable {P:Program}{w:World}{K:PySem.W.Frag}{mg:Str→Option Value}{base:Heap}{cB cL:Addr}
theorem FP {f:Addr}{fd:FuncData}(F:aP K "lay_text" "lay_text" oz f fd) (D1:bJ P w K mg base 6 "need_lay" ["board", "lay"] (fM K cB cL)):aC P w K mg base (bz P w) 7 f fd ["board", "lay"] (fM K cB cL):=by
 refine F.jR qt (fun vs H Q E h=> ?_) (fun aq A outer s H vs Q E hr h=> ?_)
 ·obtain⟨x,y,C,rfl,_⟩:=h
  rfl
 ·obtain⟨x,y,C,rfl,b,q⟩:=h
  refine⟨_,Ze (Ys (JU D1 hr (Za (pv 0) (Za (pv 1) Zb)))) ZG,?_⟩
  exact⟨x,rfl,y,rfl,x,y,C,rfl,b,q⟩
def iS (K:PySem.W.Frag) (cT:Addr):Sp:=fun vs H _ E=> ∃x t,vs=[x]∧cg K H x t∧PySem.W.kitOne K t (.type "str")=some false∧∀e H',ag H H'→E (.ref e) (some cT) H'
theorem FV {cT:Addr}{f:Addr}{fd:FuncData}(F:aP K "read_lay" "read_lay" lj f fd) (G:Gs mg) (mT:mg "NoText" =some (.ref cT)) (xT:PySem.W.excIn K cT iB "ValueError.__new__" =true):aC P w K mg base (bz P w) 8 f fd ["text"] (iS K cT):=by
 refine F.jR fk (fun vs H Q E h=> ?_) (fun aq A outer s H vs Q E hr h=> ?_)
 ·obtain⟨x,t,rfl,_⟩:=h
  rfl
 ·obtain⟨x,t,rfl,ty,kt,q⟩:=h
  refine⟨_,Ze (ZN (ZJ (Zi (Zq (c:= "str")) rfl G.isinstance boot_isinstance (Za (pv 0) (Za (ZA (v:=.ty "str") rfl G.str boot_str rfl) Zb)))) ZG Zt) (Zk (Y6 PySem.F.excBase_ValueError mT xT rfl (Za Zv Zb))),?_⟩
  refine Zn ⟨x,rfl,x,t,_,rfl,ty,kt,_,rfl,?_⟩
  exact aF ⟨by show 1≤sizeLine;decide,fun e=>q e H (ag.refl H)⟩
abbrev qC:Stmt:=top 41
theorem oj:bu ["_law_board_here", "_law_lay_here", "_law_text_here", "_law_row"] ["_law_board_here", "_law_lay_here"] (ar qC):=⟨rfl,rfl,rfl,by decide+kernel,rfl,by decide+kernel,by decide+kernel⟩
theorem UC (wd hg:Int) {xs:List V}{j:Nat}{y:V}(h:xs[j]? =some y):dw wd hg (xs.take (j+1))=dw wd hg (xs.take j)++ " " ++bB y:=by
 unfold dw
 rw[List.take_add_one,h]
 show Txt.join " " (bO wd hg::(xs.take j++[y]).map bB)=_
 rw[List.map_append]
 exact Im " " (bO wd hg) ((xs.take j).map bB) (bB y)
theorem J0 {wd hg:Int}{xs:List V}(w1:1≤wd) (aY:wd≤12) (g1:1≤hg) (aZ:hg≤12) (ly:cD wd hg xs):∀j,j≤xs.length→(dw wd hg (xs.take j)).length≤6+21*j
 |0,_=>by
  have:=J5 w1 aY g1 aZ
  show(Txt.join " " [bO wd hg]).length≤_
  rw[YR]
  exact this
 |j+1,hj=>by
  have ih:=J0 w1 aY g1 aZ ly j (by omega)
  have hy:xs[j]? =some xs[j]:=List.getElem?_eq_getElem (by omega)
  have hr:=JB ly aZ _ (List.mem_map_of_mem (List.mem_of_getElem? hy))
  have h1:(Str.ofString " ").length=1:=by decide
  rw[UC wd hg hy,Str.length_append,Str.length_append]
  omega
theorem Ge {f:Addr}{fd:FuncData}(F:aP K "_law_text" "_law_text" qC f fd) (G:Gs mg):aC P w K mg base av 1 f fd ["_law_board_here", "_law_lay_here"] fj:=by
 refine F.ok oj (fun vs H Q E h=> ?_) (fun aq A outer s H vs Q E hr h=> ?_)
 ·obtain⟨b,l,wd,hg,xs,rfl,_⟩:=h
  rfl
 ·obtain⟨b,l,wd,hg,xs,rfl,bd,hl,ly,q⟩:=h
  refine⟨_,Ze (Zp (i:=2) oj.nd rfl (Or.inl rfl) (Zm ZV (Zm ZV (Zm ZV (Zz ZS rfl G.str PyProof.Rows.Boot.«str» (Za (ZO Yq (pv 0) Zf (fun _ _=>rfl)) Zb)) Zv) (Zz ZS rfl G.str PyProof.Rows.Boot.«str» (Za (ZO Yq (pv 0) Zf (fun _ _=>rfl)) Zb))) Zv))
   (Ze (YF PassesOwn.never rfl (Jm (pv 1)) (ZI (i:=3) oj.nd rfl (Or.inl rfl))
    (Zk (Zp (i:=2) oj.nd rfl (Or.inl rfl) (Zm ZV (Zm ZV (pv 2) Zv) (Y7 (YI (W1 (pv 3))) Zv (Zz ZS rfl G.str PyProof.Rows.Boot.«str» (Za (pv 3) Zb)))))))
   (Zk (Zu (pv 2)))),?_⟩
  obtain⟨b',eb,hb⟩:=ZF bd.1
  cases eb
  obtain⟨_,w1,aY,g1,aZ⟩:=id bd
  have hlen:=ly.len
  have a1:=Yk (n:=wd) (by omega) aY
  have a2:=Yk (n:=hg) (by omega) aZ
  have a3:(Str.ofString "x").length=1:=by decide
  have a4:(Str.ofString ":").length=1:=by decide
  have a5:(Str.ofString " ").length=1:=by decide
  refine Zn (Zw ?_)
  refine⟨_,rfl,b,_,_,_,rfl,rfl,aj.of hb,iD,wd,rfl,Z7 (by omega) (by omega),_,_,rfl,rfl,by rw[sizeLine_eq];omega,_,rfl,b,_,_,_,rfl,rfl,aj.of hb,bZ,hg,rfl,Z7 (by omega) (by omega),_,_,rfl,rfl,by rw[Str.length_append,sizeLine_eq];omega,_,_,rfl,rfl,by rw[Str.length_append,Str.length_append,sizeLine_eq];omega,Zl ?_⟩
  dsimp only[List.set]
  refine Zn ⟨_,rfl,l,rfl,⟨xs,aj.of hl⟩,?_⟩
  refine zj (xs:=xs) (fun i σ H'=> ∃v3,σ=[some (.ref b),some (.ref l),some (.str (dw wd hg (xs.take i))),v3]∧H'=H) ⟨none,?_,rfl⟩ (fun i σ H' _ ⟨_,_,s'⟩=>by rw[s'];exact aj.of hl) ?_ ?_
  ·rfl
  ·rintro i y σ H2 hy ⟨v3,rfl,rfl⟩
   have hi:=(List.getElem?_eq_some_iff.mp hy).1
   have hL:=J0 w1 aY g1 aZ ly i (by omega)
   have es:=UC wd hg hy
   have hr:=JB ly aZ _ (List.mem_map_of_mem (List.mem_of_getElem? hy))
   refine Zl ?_
   dsimp only[List.set]
   refine Zw ?_
   refine⟨_,rfl,_,_,rfl,rfl,by rw[sizeLine_eq];omega,_,rfl,_,rfl,?_⟩
   rcases ly.ok y (List.mem_of_getElem? hy) with rfl |⟨r,rfl⟩
   ·exact aw ⟨_,_,rfl,rfl,by rw[Str.length_append,sizeLine_eq];have:(Str.ofString ".").length=1:=(by decide);omega,Zl ⟨_,by rw[es];rfl,rfl⟩⟩
   ·have hm:V.int r∈rowsOf xs:=List.mem_filter.mpr ⟨List.mem_of_getElem? hy,by simp⟩
    have q':(decide (0≤r)&&decide (r≤hg - 1))=true:=ly.row _ hm
    rw[Bool.and_eq_true,decide_eq_true_eq,decide_eq_true_eq]at q'
    have cI:(Str.ofString (toString r)).length≤20:=hr
    exact aF ⟨_,rfl,r,rfl,Z7 q'.1 (by omega),_,_,rfl,rfl,by rw[Str.length_append,sizeLine_eq];omega,Zl ⟨_,by rw[es];rfl,rfl⟩⟩
  ·rintro σ H2 ⟨v3,rfl,rfl⟩
   rw[List.take_length]
   exact⟨_,rfl,q _ (ag.refl _)⟩
abbrev qE:Stmt:=top 43
theorem qr:bu ["_law_word", "_law_wide", "_law_high"] ["_law_word"] (ar qE):=⟨rfl,rfl,rfl,by decide+kernel,rfl,by decide+kernel,by decide+kernel⟩
def Sd (wd hg:Int):Prop:=1≤wd∧wd≤12∧1≤hg∧hg≤12
def qg:Sp:=fun vs H Q _=> ∃z:Str,vs=[.str z]∧(∀wd hg p H',Sd wd hg→z=bO wd hg→ag H H'→H' p=some (.tup [.int wd,.int hg])→Q (.ref p) H')∧((∀wd hg,Sd wd hg→z≠bO wd hg)→Q .ae H)
theorem Gd {f:Addr}{fd:FuncData}(F:aP K "_law_sides" "_law_sides" qE f fd) (G:Gs mg):aC P w K mg base av 1 f fd ["_law_word"] qg:=by
 refine F.ok qr (fun vs H Q E h=> ?_) (fun aq A outer s H vs Q E hr h=> ?_)
 ·obtain⟨z,rfl,_⟩:=h
  rfl
 ·obtain⟨z,rfl,q1,q2⟩:=h
  refine⟨_,Ze (YF PassesOwn.never rfl (Ww rfl G.range (Za Zf (Za Zf Zb))) (ZI (i:=1) qr.nd rfl (Or.inl rfl))
    (Zk (YF PassesOwn.never rfl (Ww rfl G.range (Za Zf (Za Zf Zb))) (ZI (i:=2) qr.nd rfl (Or.inl rfl))
     (Zk (ZN (ZU YH (pv 0) (Zm ZV (Zm ZV (Zm ZV (Zz ZS rfl G.str PyProof.Rows.Boot.«str» (Za (pv 1) Zb)) Zv) (Zz ZS rfl G.str PyProof.Rows.Boot.«str» (Za (pv 2) Zb))) Zv) (bU _))
      (Zk (Zu (ZH (Za (pv 1) (Za (pv 2) Zb))))) Zt)))))
   (Zk (Zu Z5)),?_⟩
  have a3:(Str.ofString "x").length=1:=by decide
  have a4:(Str.ofString ":").length=1:=by decide
  refine Zn ⟨1,13,rfl,⟨by omega,by omega,by omega,by omega⟩,?_⟩
  refine YC (lo:=1) (n:=(13 - 1:Int).toNat) (fun i σ H'=> ∃v1 v2,σ=[some (.str z),v1,v2]∧H'=H∧∀wd hg,Sd wd hg→wd≤i→z≠bO wd hg) ⟨none,none,rfl,rfl,fun wd hg h hw=>by have:=h.1;omega⟩ ?_ ?_
  ·rintro i σ H' hi ⟨v1,v2,rfl,rfl,no⟩
   have jj:i<12:=hi
   refine Zl ?_
   dsimp only[List.set]
   refine⟨1,13,rfl,⟨by omega,by omega,by omega,by omega⟩,?_⟩
   refine YC (lo:=1) (n:=(13 - 1:Int).toNat) (fun j σ H2=> ∃v2,σ=[some (.str z),some (.int (1+i)),v2]∧H2=H'∧∀hg,Sd (1+i) hg→hg≤j→z≠bO (1+i) hg) ⟨v2,rfl,rfl,fun hg h hw=>by have:=h.2.2.1;omega⟩ ?_ ?_
   ·rintro j σ H2 hj ⟨v2,rfl,rfl,rq⟩
    have j9:j<12:=hj
    refine Zl ?_
    dsimp only[List.set]
    have a1:=Yk (n:=1+i) (by omega) (by omega)
    have a2:=Yk (n:=1+j) (by omega) (by omega)
    refine⟨_,rfl,_,rfl,1+i,rfl,Z7 (by omega) (by omega),_,_,rfl,rfl,by rw[sizeLine_eq];omega,_,rfl,1+j,rfl,Z7 (by omega) (by omega),_,_,rfl,rfl,by rw[Str.length_append,sizeLine_eq];omega,_,_,rfl,rfl,by rw[Str.length_append,Str.length_append,sizeLine_eq];omega,rfl,_,rfl,?_⟩
    have sd:Sd (1+i) (1+j):=⟨by omega,by omega,by omega,by omega⟩
    by_cases e:z=bO (1+i) (1+j)
    ·have e':V.str z=V.str (Str.ofString (toString ((1:Int)+i))++ "x" ++Str.ofString (toString ((1:Int)+j))++ ":"):=congrArg V.str e
     rw[decide_eq_true e']
     refine aw ⟨_,rfl,_,rfl,(by show 2≤sizeLine;decide),fun p hp=> ?_⟩
     exact q1 (1+i) (1+j) p _ sd e (Zd hp) Zc
    ·have e':¬V.str z=V.str (Str.ofString (toString ((1:Int)+i))++ "x" ++Str.ofString (toString ((1:Int)+j))++ ":"):=fun h=>e (by injection h)
     rw[decide_eq_false e']
     refine aF (ZW ⟨_,rfl,rfl,fun hg h hh=> ?_⟩)
     by_cases c:hg≤j
     ·exact rq hg h c
     ·have:hg=1+(j:Int):=by omega
      rw[this];exact e
   ·rintro σ H2 ⟨v2,rfl,rfl,rq⟩
    refine⟨_,_,rfl,rfl,fun wd hg h hw=> ?_⟩
    by_cases c:wd≤i
    ·exact no wd hg h c
    ·have:wd=1+(i:Int):=by omega
     subst this
     exact rq hg h (by have:=h.2.2.2;show hg≤((12:Nat):Int);omega)
  ·rintro σ H' ⟨v1,v2,rfl,rfl,no⟩
   exact q2 fun wd hg h=>no wd hg h (by have:=h.2.1;show wd≤((12:Nat):Int);omega)
end
theorem Jo:∀(ps d:List (Key×V)) (j:Key) (y:V),bH (eI d ps) j=some y→(j,y)∈ps∨bH d j=some y
 | [],d,j,y,h=> .inr h
 |p::ps,d,j,y,h=>by
  rcases Jo ps (putK d p.1 p.2) j y h with h |h
  ·exact .inl (List.mem_cons_of_mem _ h)
  ·rw[Uj]at h
   split at h
   ·rename_i e
    cases h
    subst e
    exact .inl List.mem_cons_self
   ·exact .inr h
def jU (g:Nat):List (Key×V):=(List.range g).map (fun(k:Nat)=> ((.inr (Str.ofString (toString (k:Int))):Key),V.int (k:Int)))++[(.inr ".",.ae)]
def dz (g:Nat) (u:Str):Option V:=bH (eI [] (jU g)) (.inr u)
theorem FG {g:Nat}{u:Str}{v:V}(h:dz g u=some v):u=bB v:=by
 rcases Jo _ _ _ _ h with h |h
 ·rcases List.mem_append.mp h with h |h
  ·obtain⟨k,hk,e⟩:=List.mem_map.mp h
   injection e with e1 e2
   injection e1 with e1
   subst e2
   exact e1.symm
  ·rw[List.mem_singleton]at h
   injection h with e1 e2
   injection e1 with e1
   subst e2
   exact e1
 ·cases h
theorem FE:∀g∈List.range 13,dz g "." =some .ae∧∀r∈List.range g,dz g (Str.ofString (toString (r:Int)))=some (.int (r:Int)):=by decide+kernel
theorem FF {wd:Int}{g:Nat}{xs:List V}(ly:cD wd (g:Int) xs) (hg:g≤12):∀v∈xs,dz g (bB v)=some v:=fun v hv=>by
 obtain⟨h1,h2⟩:=FE g (List.mem_range.mpr (by omega))
 rcases ly.ok v hv with rfl |⟨r,rfl⟩
 ·exact h1
 ·have hm:V.int r∈rowsOf xs:=List.mem_filter.mpr ⟨hv,by simp⟩
  have q':(decide (0≤r)&&decide (r≤(g:Int) - 1))=true:=ly.row _ hm
  rw[Bool.and_eq_true,decide_eq_true_eq,decide_eq_true_eq]at q'
  obtain⟨j,rfl⟩:∃j:Nat,r=j:=⟨r.toNat,by omega⟩
  exact h2 j (List.mem_range.mpr (by omega))
theorem IB {z h:Str}{rs:List Str}(es:Txt.split z ⟨#[32]⟩=h::rs):z=Txt.join " " (h::rs):=by
 rw[W9,Yo,←es]
 exact(StrLaws.join_split z _).symm
theorem JI {z:Str}{wd hg:Int}{xs:List V}(wr:dD z wd hg xs):Txt.split z ⟨#[32]⟩=bO wd hg::xs.map bB:=by
 obtain⟨w1,aY,g1,aZ,ly,rfl⟩:=wr
 obtain⟨a,rfl⟩:∃j:Nat,wd=j:=⟨wd.toNat,by omega⟩
 obtain⟨b,rfl⟩:∃j:Nat,hg=j:=⟨hg.toNat,by omega⟩
 obtain⟨h1,h2⟩:=Jc a (List.mem_range.mpr (by omega)) b (List.mem_range.mpr (by omega))
 unfold dw
 rw[W9,Yo]
 refine JN (by decide) _ _ fun w hw=> ?_
 rcases List.mem_cons.mp hw with rfl |hw
 ·exact h2
 ·obtain⟨v,hv,rfl⟩:=List.mem_map.mp hw
  exact(UD ly aZ v hv).2
theorem Ir {a b c d:Int}(h1:Sd a b) (h2:Sd c d) (e:bO a b=bO c d):a=c∧b=d:=by
 obtain⟨a1,a2,b1,b2⟩:=h1
 obtain⟨c1,c2,d1,d2⟩:=h2
 obtain⟨i,rfl⟩:∃j:Nat,a=j:=⟨a.toNat,by omega⟩
 obtain⟨j,rfl⟩:∃j:Nat,b=j:=⟨b.toNat,by omega⟩
 obtain⟨k,rfl⟩:∃j:Nat,c=j:=⟨c.toNat,by omega⟩
 obtain⟨l,rfl⟩:∃j:Nat,d=j:=⟨d.toNat,by omega⟩
 have p:=(Jc i (List.mem_range.mpr (by omega)) j (List.mem_range.mpr (by omega))).1
 have q:=(Jc k (List.mem_range.mpr (by omega)) l (List.mem_range.mpr (by omega))).1
 rw[e,q]at p
 injection p with p1 p2
 injection p2 with p2 _
 injection p1 with p1
 injection p2 with p2
 exact⟨p1.symm,p2.symm⟩
theorem Ka {z h:Str}{rs:List Str}{wd hg:Int}{xs:List V}(es:Txt.split z ⟨#[32]⟩=h::rs) (sd:Sd wd hg) (eh:h=bO wd hg) (er:rs=xs.map bB) (ly:cD wd hg xs):dD z wd hg xs:=
 ⟨sd.1,sd.2.1,sd.2.2.1,sd.2.2.2,ly,by rw[IB es,eh,er];rfl⟩
theorem Fe (vs:List V):da vs (some 1) none=vs.drop 1:=by
 unfold da
 have h1:HT.ay vs.length 0 (some ((1:Nat):Int))=min 1 vs.length:=HT.ll _ _ _
 have gG:HT.ay vs.length 0 (some 1)=min 1 vs.length:=h1
 rw[gG,HT.qK]
 cases vs with
 |nil=>rfl
 |cons v r=>
  have:min 1 (v::r).length=1:=by rw[List.length_cons];omega
  rw[this,List.take_of_length_le (by rw[List.length_drop];omega)]
theorem GB {x:V}{r:List V} :cR (x::r) 0=some x:=by
 unfold cR fv
 simp
def hG (j:Nat):List (Key×V):=(List.range j).map (fun(k:Nat)=> ((.inr (Str.ofString (toString (k:Int))):Key),V.int (k:Int)))
theorem Iy (j:Nat):hG (j+1)=hG j++[(.inr (Str.ofString (toString (j:Int))),.int (j:Int))]:=by
 unfold hG
 rw[List.range_succ,List.map_append]
 rfl
theorem Us {H H':Hp}{ys:List V}{ah:List (Key×V)}(s:ag H H') (p:mS H ys ah):mS H' ys ah:=Paired.mono (fun a b ⟨c,e,h⟩=> ⟨c,e,s _ _ h⟩) p
theorem FH {g:Nat}{u:Str}{v:V}(h:dz g u=some v):v=.ae∨∃i,v=.int i:=by
 rcases Jo _ _ _ _ h with h |h
 ·rcases List.mem_append.mp h with h |h
  ·obtain⟨k,hk,e⟩:=List.mem_map.mp h
   injection e with e1 e2
   exact .inr ⟨_,e2.symm⟩
  ·rw[List.mem_singleton]at h
   injection h with e1 e2
   exact .inl e2
 ·cases h
theorem GF {K:PySem.W.Frag}{H:Hp}{g:Nat}{us:List Str}{xs:List V}(kn:us.map (dz g)=xs.map some):∀v∈xs,cw K H v:=fun v hv=>by
 have:some v∈us.map (dz g):=by rw[kn];exact List.mem_map_of_mem hv
 obtain⟨u,_,e⟩:=List.mem_map.mp this
 rcases FH e with rfl |⟨i,rfl⟩
 ·exact⟨_,.ae⟩
 ·exact⟨_,.int i⟩
theorem zt {g:Nat} :∀{us:List Str}{xs:List V},us.map (dz g)=xs.map some→us=xs.map bB
 | [],[],_=>rfl
 | [],_::_,h=>by cases h
 |_::_,[],h=>by cases h
 |u::us,v::xs,h=>by
  injection h with h1 h2
  rw[List.map_cons,←FG h1,←zt h2]
theorem Um:∀{xs ys:List V},xs.map some=ys.map some→xs=ys
 | [],[],_=>rfl
 | [],_::_,h=>by cases h
 |_::_,[],h=>by cases h
 |u::us,v::xs,h=>by
  injection h with h1 h2
  injection h1 with h1
  rw[h1,Um h2]
theorem Uh {z h:Str}{rs:List Str}{wd hg nN il:Int}{xs:List V}(es:Txt.split z ⟨#[32]⟩=h::rs) (sd:Sd wd hg) (eh:h=bO wd hg) (wr:dD z nN il xs):rs=xs.map bB∧cD wd hg xs∧rs.map (dz hg.toNat)=xs.map some:=by
 have e:=JI wr
 obtain⟨w1,aY,g1,aZ,ly,_⟩:=wr
 rw[es]at e
 injection e with e1 e2
 obtain⟨rfl,rfl⟩:=Ir sd ⟨w1,aY,g1,aZ⟩ (eh.symm.trans e1)
 obtain⟨g,rfl⟩:∃g:Nat,hg=g:=⟨hg.toNat,by omega⟩
 refine⟨e2,ly,?_⟩
 rw[e2,List.map_map,Int.toNat_natCast]
 exact List.map_congr_left fun v hv=>FF ly (by omega) v hv
section
variable {P:Program}{w:World}{K:PySem.W.Frag}{mg:Str→Option Value}{base:Heap}{cB cL:Addr}
abbrev qG:Stmt:=top 44
theorem jN:bu ["_law_thing", "_law_words", "_law_board_here", "_law_lay_here", "_law_known", "_law_word"] ["_law_thing"] (ar qG):=⟨rfl,rfl,rfl,by decide+kernel,rfl,by decide+kernel,by decide+kernel⟩
def jI (K:PySem.W.Frag):Sp:=fun vs H Q _=> ∃x,vs=[x]∧((∃z:Str,x=.str z∧z.length≤1000∧(∀wd hg xs (p b l:Addr) (H':Hp),dD z wd hg xs→ag H H'→H' p=some (.tup [.ref b,.ref l])→H' b=some (.tup [.int wd,.int hg])→H' l=some (.tup xs)→Q (.ref p) H')∧((∀wd hg xs,¬dD z wd hg xs)→∀H',ag H H'→Q .ae H'))∨
 ∃t,cg K H x t∧PySem.W.kitOne K t (.type "str")=some false∧Q .ae H)
theorem Ga {f:Addr}{fd:FuncData}(F:aP K "_law_read" "_law_read" qG f fd) (G:Gs mg) (KZ:Def P w K mg base 1 "_law_sides" ["_law_word"] qg) (K0:Def P w K mg base 2 "_law_lay_good" ["_law_board_here", "_law_thing"] (qm K)):aC P w K mg base av 3 f fd ["_law_thing"] (jI K):=by
 refine F.ok jN (fun vs H Q E h=> ?_) (fun aq A outer s H vs Q E hr h=> ?_)
 ·obtain⟨x,rfl,_⟩:=h
  rfl
 ·obtain⟨x,rfl,h⟩:=h
  have hu:=uc hr
  refine⟨_,Ze (ZN (Yc (ZJ (Zi (Zq (c:= "str")) rfl G.isinstance boot_isinstance (Za (pv 0) (Za (ZA (v:=.ty "str") rfl G.str boot_str rfl) Zb))))) (Zk (Zu Z5)) Zt)
   (Ze (Zp (i:=1) jN.nd rfl (Or.inl rfl) (Yi PySem.F.plainAttrs_str PySem.F.slot_str_split PySem.F.type_str_split YB (pv 0) (Za Zv Zb)))
   (Ze (uk (i:=2) (j:=3) rfl jN.nd rfl rfl (by decide) rfl rfl (Za (Zj KZ (hr.mono (by decide)) (Za (ZO ZM (pv 1) Zf (fun _ _=>rfl)) Zb)) (Za (ZH Zb) Zb)) rfl)
   (Ze (ZN (YI (W1 (pv 2))) (Zk (Zu Z5)) Zt)
   (Ze (Zp (i:=4) jN.nd rfl (Or.inl rfl) (Zz Wm rfl G.dict PyProof.Rows.Boot.«dict» (Za (Zm ZZ (Ye ["_law_row"] 1 [] (Yd rfl G.range (Za (ZO Yq (pv 2) Zf (fun _ _=>rfl)) Zb)) (fun C s H fp=>pb 0) (fun C s H fp=>Z4) (fun C s H fp D=>df rfl (ZH (Za (Zz ZS rfl G.str PyProof.Rows.Boot.«str» (Za (pv 0) Zb)) (Za (pv 0) Zb))))) (Zx (Za (ZH (Za Zv (Za Z5 Zb))) Zb))) Zb)))
   (Ze (YF PassesOwn.never rfl (Yt (ZD YE (pv 1) (ZL Zf) ZP)) (ZI (i:=5) jN.nd rfl (Or.inl rfl))
    (Ze (ZN (YI (Kg hu (pv 5) (pv 4))) (Zk (Zu Z5)) Zt)
    (Zk (Zp (i:=3) jN.nd rfl (Or.inl rfl) (Zm Yu (pv 3) (ZH (Za (GU hu (pv 4) (pv 5) (fun _ _=>rfl)) Zb)))))))
   (Zk (Zu (Y7 (ZJ (Zj K0 hr (Za (pv 2) (Za (pv 3) Zb)))) (ZH (Za (pv 2) (Za (pv 3) Zb))) Z5)))))))),?_⟩
  rcases h with ⟨z,rfl,hz,q1,q2⟩ |⟨t,ty,kt,q⟩
  ·obtain⟨h,rs,es⟩:=Y5 (z:=z) (c:=32) (by decide)
   have xb:rs.length≤1000:=by
    have:=Yz (z:=z) (c:=32) (by decide)
    rw[es,List.length_cons]at this
    omega
   have rF:=Yb z 32
   refine Zn ⟨.str z,rfl,.str z,_,_,rfl,.str z,W7 K,_,rfl,?_⟩
   refine aF (ZW ?_)
   dsimp only
   refine Zn (Zw ⟨_,rfl,rfl,z,⟨#[32]⟩,rfl,(by rw[←Yo]),rfl,by rw[sizeLine_eq];omega,by rw[sizeLine_eq];omega,fun D hD=> ?_⟩)
   rw[es]
   have m1:=Zd (o:=.lst ((h::rs).map V.str)) hD
   have e1:upd H D (.lst ((h::rs).map V.str)) D=some (.lst ((h::rs).map V.str)):=Zc
   generalize upd H D (.lst ((h::rs).map V.str))=H1 at m1 e1
   refine Zl ?_
   dsimp only[List.set]
   refine Zn ?_
   refine⟨_,rfl,D,_,_,_,rfl,rfl,ak.of e1,GB,h,rfl,fun wd hg p H2 sd eh s2 hp=> ?_,fun no=> ?_⟩
   ·have g0:0≤hg:=by have:=sd.2.2.1;omega
    have aZ:=sd.2.2.2
    refine⟨Nat.zero_le _,fun l0 se=> ⟨_,_,rfl,?_⟩⟩
    dsimp only[List.set]
    have m3:=Zd (o:=.tup []) se
    have e3:upd H2 l0 (.tup []) l0=some (.tup []):=Zc
    generalize upd H2 l0 (.tup [])=H3 at m3 e3
    refine Zn ⟨_,rfl,_,rfl,?_⟩
    refine aF (ZW ?_)
    dsimp only
    refine Zn (Zw ?_)
    refine⟨_,rfl,p,_,_,_,rfl,rfl,aj.of (m3 _ _ hp),bZ,hg,rfl,by omega,by omega,?_⟩
    refine YG (n:=hg.toNat) (fun j ys af H'=>ag H3 H'∧mS H' ys (hG j)∧∃v,af=[v]) ⟨ag.refl _,.nil,none,rfl⟩ ?_ ?_
    ·rintro j ys af H' hj ⟨sm,pr,v,rfl⟩
     rw[Int.zero_add]
     refine Zl ?_
     dsimp only[List.set]
     try unfold gj
     refine aw ⟨_,rfl,(j:Int),rfl,Ji (by omega),_,rfl,(by show 2≤sizeLine;decide),fun c hc=> ⟨?_,sm.trans (Zd hc),?_,_,rfl⟩⟩
     ·have:=Paired.length pr
      rw[this]
      unfold hG
      rw[List.length_map,List.length_range,sizeLine_eq]
      omega
     ·rw[Iy]
      exact(Us (Zd hc) pr).snoc ⟨c,rfl,Zc⟩
    rintro ys af H4 ⟨s4,pr,v,rfl⟩ L hL
    have m5:=Zd (o:=.lst ys) hL
    have e5:upd H4 L (.lst ys) L=some (.lst ys):=Zc
    generalize upd H4 L (.lst ys)=H5 at m5 e5
    refine⟨(by show 2≤sizeLine;decide),fun c hc=> ⟨(by show 1≤sizeLine;decide),fun d hd=> ?_⟩⟩
    have m6:=Zd (o:=.tup [.str ".",.ae]) hc
    have e6:upd H5 c (.tup [.str ".",.ae]) c=some (.tup [.str ".",.ae]):=Zc
    generalize upd H5 c (.tup [.str ".",.ae])=H6 at m6 e6 hd
    have m7:=Zd (o:=.lst [.ref c]) hd
    have e7:upd H6 d (.lst [.ref c]) d=some (.lst [.ref c]):=Zc
    generalize upd H6 d (.lst [.ref c])=H7 at m7 e7
    have Lo:=Paired.length pr
    have lk:(hG hg.toNat).length=hg.toNat:=by unfold hG;rw[List.length_map,List.length_range]
    refine⟨L,d,_,_,rfl,rfl,m7 _ _ (m6 _ _ e5),e7,by rw[sizeLine_eq];show ys.length+1≤_;omega,fun d2 hd2=> ?_⟩
    have m8:=Zd (o:=.lst (ys++[.ref c])) hd2
    have e8:upd H7 d2 (.lst (ys++[.ref c])) d2=some (.lst (ys++[.ref c])):=Zc
    generalize upd H7 d2 (.lst (ys++[.ref c]))=H8 at m8 e8
    refine⟨d2,ys++[.ref c],jU hg.toNat,rfl,e8,?_,by show(hG hg.toNat++[_]).length≤1000;rw[List.length_append,lk];show hg.toNat+1≤1000;omega,fun D9 En=>Zl ?_⟩
    ·exact(Us (m5.trans (m6.trans (m7.trans m8))) pr).snoc ⟨c,rfl,m8 _ _ (m7 _ _ e6)⟩
    dsimp only[List.set]
    have m9:=Zd (o:=.dK (eI [] (jU hg.toNat))) En
    have e9:upd H8 D9 (.dK (eI [] (jU hg.toNat))) D9=some (.dK (eI [] (jU hg.toNat))):=Zc
    generalize upd H8 D9 (.dK (eI [] (jU hg.toNat)))=H9 at m9 e9
    have vL:=s4.trans (m5.trans (m6.trans (m7.trans (m8.trans m9))))
    have oB:=m3.trans vL
    have fo:=s2.trans oB
    clear e8 e7 e6 e5 m9 m8 m7 m6 m5 s4
    refine Zn ?_
    refine⟨_,rfl,_,rfl,D,_,rfl,ak.of (fo _ _ e1),fun M hM=> ?_⟩
    have eM:upd H9 M (.lst (da ((h::rs).map V.str) (some 1) none)) M=some (.lst (rs.map V.str)):=by rw[Fe];exact Zc
    have mM:=Zd (o:=.lst (da ((h::rs).map V.str) (some 1) none)) hM
    generalize upd H9 M (.lst (da ((h::rs).map V.str) (some 1) none))=HA at mM eM
    have yr:=mM _ _ e9
    have vO:=m1.trans (fo.trans mM)
    refine⟨M,rfl,⟨_,ak.of eM⟩,?_⟩
    refine UL (xs:=rs.map V.str) (fun i σ H'=> ∃(l:Addr) (xs:List V) (v5:Option V),σ=[some (.str z),some (.ref D),some (.ref p),some (.ref l),some (.ref D9),v5]∧ag HA H'∧H' l=some (.tup xs)∧(rs.take i).map (dz hg.toNat)=xs.map some) ⟨l0,[],none,rfl,ag.refl _,mM _ _ (vL _ _ e3),rfl⟩ (fun i σ H' _ ⟨_,_,_,_,s',_⟩=>ak.of (s' _ _ eM)) ?_ ?_
    ·rintro i y σ H' hy ⟨l,xs,v5,rfl,sm,hl,kn⟩
     rw[List.getElem?_map]at hy
     obtain⟨u,lN,rfl⟩:=Option.map_eq_some_iff.mp hy
     have hi:=(List.getElem?_eq_some_iff.mp lN).1
     have lx:xs.length≤1000 - 1∧xs.length≤i:=by
      have:=congrArg List.length kn
      rw[List.length_map,List.length_map,List.length_take]at this
      omega
     refine Zl ?_
     dsimp only[List.set]
     refine Zn ⟨_,rfl,_,rfl,D9,dz hg.toNat u,rfl,fc.k (k:=.inr u) (sm _ _ yr),_,rfl,?_⟩
     cases hk:dz hg.toNat u with
     |none=>
      refine aw (q2 (fun nN il ff wr=> ?_) _ (vO.trans sm))
      obtain⟨_,_,k3⟩:=Uh es sd eh wr
      have:dz hg.toNat u∈rs.map (dz hg.toNat):=List.mem_map_of_mem (List.mem_of_getElem? lN)
      rw[k3,hk]at this
      obtain⟨_,_,e⟩:=List.mem_map.mp this
      cases e
     |some v=>
      refine aF (ZW ?_)
      dsimp only
      refine Zw ?_
      refine⟨_,rfl,_,rfl,_,rfl,D9,v,rfl,hk▸fc.k (k:=.inr u) (sm _ _ yr),(by show 1≤sizeLine;decide),fun c hc=> ?_⟩
      refine Yg (ys:=[v]) (Zd hc _ _ hl) Zc (by show xs.length+1≤1000;omega) fun l' nu bA gB=>Zl ?_
      exact⟨l',xs++[v],_,rfl,sm.trans ((Zd hc).trans bA),gB,by
       rw[List.take_add_one,lN,List.map_append,kn,List.map_append]
       show _++[dz hg.toNat u]=_
       rw[hk]
       rfl⟩
    ·rintro σ H' ⟨l,xs,v5,rfl,sm,hl,kn⟩
     rw[List.length_map,List.take_length]at kn
     have lx:xs.length≤1000:=by
      have:=congrArg List.length kn
      rw[List.length_map,List.length_map]at this
      omega
     have xh:=sm _ _ (mM _ _ (oB _ _ hp))
     refine⟨_,rfl,_,rfl,p,.ref l,wd,hg,rfl,⟨Zo xh,sd⟩,⟨⟨_,.tup hl⟩,fun ys e=>by rw[Zo hl]at e;cases e;exact GF kn⟩,fun ys e=>by rw[Zo hl]at e;cases e;exact lx,fun nu bA=> ⟨_,rfl,?_⟩⟩
     rw[Zo hl]
     have vN:=vO.trans (sm.trans bA)
     cases hL:cG wd hg (some xs) with
     |true=>
      refine aw ⟨_,rfl,_,rfl,(by show 2≤sizeLine;decide),fun t ht=> ?_⟩
      have mt:=Zd (o:=.tup [.ref p,.ref l]) ht
      exact q1 wd hg xs t p l _ (Ka es sd eh (zt kn) (Jb hL)) (vN.trans mt) Zc (mt _ _ (bA _ _ xh)) (mt _ _ (bA _ _ hl))
     |false=>
      refine aF (q2 (fun nN il ff wr=> ?_) _ vN)
      obtain⟨_,k2,k3⟩:=Uh es sd eh wr
      rw[Um (kn.symm.trans k3),k2.is]at hL
      cases hL
   ·refine⟨Nat.zero_le _,fun l0 se=> ⟨_,_,rfl,?_⟩⟩
    dsimp only[List.set]
    refine Zn ⟨_,rfl,_,rfl,aw (q2 (fun wd hg xs wr=> ?_) _ (m1.trans (Zd se)))⟩
    have e:=JI wr
    obtain⟨w1,aY,g1,aZ,_⟩:=wr
    rw[es]at e
    injection e with e _
    exact no wd hg ⟨w1,aY,g1,aZ⟩ e
  ·refine Zn ⟨x,rfl,x,t,_,rfl,ty,kt,_,rfl,?_⟩
   exact aw q
end
def WL (H:Hp) (a:Addr) (n:Nat):Prop:=∃ws:List Str,H a=some (.lst (ws.map V.str))∧(∀w∈ws,w.length≤20)∧ws.length≤n
theorem WL.same {H H':Hp}{a:Addr}{n:Nat}(h:WL H a n) (s:ag H H'):WL H' a n:=by
 obtain⟨ws,e,r⟩:=h
 exact⟨ws,s _ _ e,r⟩
theorem JJ {H:Hp}{p:Addr}{ys:List V}{ws:List Str}{n:Nat}(e:ys=ws.map V.str) (h:∀w∈ws,w.length≤20) (hn:ws.length≤n):WL (upd H p (.lst ys)) p n:=⟨ws,by rw[←e];exact Zc,h,hn⟩
theorem Ih (ws:List Str) (lo hi:Option Int):∃us:List Str,da (ws.map V.str) lo hi=us.map V.str∧(∀u∈us,u∈ws)∧us.length≤ws.length:=by
 unfold da
 refine⟨_,by rw[←List.map_drop,←List.map_take],fun u hu=>List.mem_of_mem_drop (List.mem_of_mem_take hu),?_⟩
 rw[List.length_take,List.length_drop]
 omega
theorem Yx {K:PySem.W.Frag}{H:Hp}{a:Addr}{n:Nat}{lo hi:Option Int}{Q:VK}(h:WL H a n) (q:∀p H',ag H H'→WL H' p n→Q (.ref p) H'):vR K (.ref a) lo hi H Q:=by
 obtain⟨ws,e,h1,h2⟩:=h
 refine⟨a,_,rfl,ak.of e,fun p hp=> ?_⟩
 obtain⟨us,e2,m,l⟩:=Ih ws lo hi
 exact q _ _ (Zd hp) (JJ e2 (fun u hu=>h1 u (m u hu)) (by omega))
theorem JK {H:Hp}{a b:Addr}{n m:Nat}{Q:VK}(h:WL H a n) (h':WL H b m) (hn:n+m≤1000) (q:∀p H',ag H H'→WL H' p (n+m)→Q (.ref p) H'):vU (.ref a) (.ref b) H Q:=by
 obtain⟨ws,e,h1,h2⟩:=h
 obtain⟨us,e',gG,dB⟩:=h'
 refine⟨a,b,_,_,rfl,rfl,e,e',by rw[List.length_map,List.length_map,sizeLine_eq];omega,fun p hp=> ?_⟩
 refine q _ _ (Zd hp) (JJ (ws:=ws++us) (by rw[List.map_append]) (fun u hu=> ?_) (by rw[List.length_append];omega))
 rcases List.mem_append.mp hu with hu |hu
 ·exact h1 u hu
 ·exact gG u hu
theorem ze:∀{ys:List V}{ws:List Str},(∀y∈ys,y∈ws.map V.str)→∃us:List Str,ys=us.map V.str∧∀u∈us,u∈ws
 | [],ws,_=> ⟨[],rfl,fun u hu=>by cases hu⟩
 |y::ys,ws,h=>by
  obtain⟨us,e,m⟩:=ze (ys:=ys) fun z hz=>h z (List.mem_cons_of_mem _ hz)
  obtain⟨u,hu,rfl⟩:=List.mem_map.mp (h y List.mem_cons_self)
  refine⟨u::us,by rw[e];rfl,fun z hz=> ?_⟩
  rcases List.mem_cons.mp hz with rfl |hz
  ·exact hu
  ·exact m z hz
theorem G8 {K:PySem.W.Frag}{H:Hp}{a:Addr}{n:Nat}{Q:VK}{te:TE}{σ:L2.St}(he:∀Q':VK,Q' (.ref a) H→te σ H Q') (h:WL H a n) (q:∀p H',ag H H'→WL H' p n→Q (.ref p) H'):vi K te σ H Q:=by
 obtain⟨ws,e,h1,h2⟩:=h
 refine he _ ⟨a,_,rfl,ak.of e,fun p ys hy hl hp=> ?_⟩
 obtain⟨us,e2,m⟩:=ze hy
 refine q _ _ (Zd hp) (JJ e2 (fun u hu=>h1 u (m u hu)) ?_)
 rw[e2,List.length_map,List.length_map]at hl
 omega
theorem J3:∀(ws:List Str) (h:Str),(∀w∈h::ws,w.length≤20)→(Txt.join " " (h::ws)).length≤21*(ws.length+1):=by
 intro ws
 suffices ∀(ws:List Str) (h:Str),(∀w∈ws,w.length≤20)→(ws.foldl (fun t w=>t++(Str.ofString " ")++w) h).length≤h.length+21*ws.length by
  intro h hw
  rw[YR]
  have h1:=this ws h fun w q=>hw w (List.mem_cons_of_mem _ q)
  have h2:=hw h List.mem_cons_self
  omega
 intro ws
 induction ws with
 |nil=>intro h _;exact Nat.le_refl _
 |cons w ws ih=>
  intro h hw
  have h1:=ih (h++(Str.ofString " ")++w) fun u q=>hw u (List.mem_cons_of_mem _ q)
  have h2:=hw w List.mem_cons_self
  have h3:(Str.ofString " ").length=1:=by decide
  rw[Str.length_append,Str.length_append]at h1
  rw[List.foldl_cons,List.length_cons]
  omega
theorem UF (ws:List Str) (hw:∀w∈ws,w.length≤20) (hl:ws.length≤40):(Txt.join " " ws).length≤1000:=by
 cases ws with
 |nil=>exact Nat.zero_le _
 |cons h ws=>
  have:=J3 ws h hw
  rw[List.length_cons]at hl
  omega
theorem JA {K:PySem.W.Frag}{H:Hp}{a:Addr}{n:Nat}{Q:VK}(h:WL H a n) (hn:n≤40) (q:∀y:Str,y.length≤1000→Q (.str y) H):wK K (.str " ") [.ref a] H Q:=by
 obtain⟨ws,e,h1,h2⟩:=h
 exact⟨_,a,ws,rfl,rfl,ak.of e,zq h1 (by omega),q _ (UF ws h1 (by omega))⟩
theorem yK {z:Str}{wd hg:Int}{xs:List V}(wr:dD z wd hg xs):(Txt.split z ⟨#[32]⟩).length≤13∧(∀w∈Txt.split z ⟨#[32]⟩,w.length≤20)∧z.length≤300:=by
 have e:=JI wr
 obtain⟨w1,aY,g1,aZ,ly,ez⟩:=wr
 have hw:∀w∈bO wd hg::xs.map bB,w.length≤20:=fun u hu=>by
  rcases List.mem_cons.mp hu with rfl |hu
  ·have:=J5 w1 aY g1 aZ;omega
  ·exact JB ly aZ u hu
 have lx:xs.length≤12:=by have:=ly.len;omega
 rw[e]
 refine⟨by rw[List.length_cons,List.length_map];omega,hw,?_⟩
 have:=J3 _ _ hw
 rw[List.length_map]at this
 have e2:z=Txt.join " " (bO wd hg::xs.map bB):=ez
 rw[e2]
 omega
theorem F2 {X:Cx}{x y:Str}{p1 p2 p3 p4 p5 p6:Pos}{es:List Expr}{tv tw:TE}{ls:List Lit}(h:L2.litsOf es=some ls) (hv:PE X (.Name x p1) tv) (hw:PE X (.Name y p3) tw):PS X (.Return (some (.Subscript (.Name x p1) (.Subscript (.List es p2) (.Name y p3) p4) p5)) p6) (ve (gP (oD X.K) tv (gP (oD X.K) (qb (fun _ H Q=> ∀vs H',ag H H'→Paired (dF H') vs ls→(∀a,V.ref a∈vs→H a=none)→Q vs H')) tw))):=
 Zu (ZO ZM hv (ZO ZM (Zx (YN h)) hw (fun _ _=>rfl)) F1)
theorem mP {σ:L2.St}{H:Hp}{Q:Option Int→Hp→Prop}(h:Q none H):kJ σ H Q:=h
theorem z0 {v:V}{σ:L2.St}{H:Hp}{Q:VK}(h:Q v H):tC v σ H Q:=h
theorem JY {σ:L2.St}{H:Hp}{Q:List V→Hp→Prop}(h:Q [] H):kK σ H Q:=h
theorem Jl {a b:Str}{H:Hp}{Q:VK}(h:a.length+b.length≤sizeLine) (q:∀y:Str,y.length=a.length+b.length→Q (.str y) H):vS (.str a) (.str b) H Q:=⟨a,b,rfl,rfl,h,q _ (Str.length_append ..)⟩
theorem Wt {z:Str}{lo hi:Option Int}{H:Hp}{Q:VK}(h:z.length≤300) (q:∀y:Str,y.length≤300→Q (.str y) H):vQ (.str z) lo hi H Q:=⟨z,rfl,by rw[sizeLine_eq];omega,q _ (Nat.le_trans (Txt.slice_le z lo hi) h)⟩
theorem Gi {z:Str}{r:Int}(h0:0≤r) (h1:r<z.length):∃c,cR z.cps.toList r=some c:=by
 have hl:z.cps.toList.length=z.length:=by simp[Str.length]
 obtain⟨n,rfl⟩:∃n:Nat,r=n:=⟨r.toNat,by omega⟩
 have hn:n<z.cps.toList.length:=by omega
 refine⟨z.cps.toList[n],?_⟩
 unfold cR fv
 rw[if_pos h0,if_pos (by rw[hl];exact h1)]
 show z.cps.toList[(n:Int).toNat]? =_
 rw[Int.toNat_natCast,List.getElem?_eq_getElem hn]
theorem Hg {c:Nat}(hc:c≤8) {y0 y1 y2 y3 y4 y5 y6 y7:Str}{a:Addr}(l:y0.length≤1000∧y1.length≤1000∧y2.length≤1000∧y3.length≤1000∧y4.length≤1000∧y5.length≤1000∧y6.length≤1000∧y7.length≤1000):∃v,cR [V.str y0,.str y1,.str y2,.str y3,.str y4,.str y5,.str y6,.str y7,.ref a] (c:Int)=some v∧((∃y:Str,v=.str y∧y.length≤1000)∨v=.ref a):=by
 obtain⟨l0,l1,l2,l3,l4,l5,l6,l7⟩:=l
 have h:c=0∨c=1∨c=2∨c=3∨c=4∨c=5∨c=6∨c=7∨c=8:=by omega
 rcases h with rfl |rfl |rfl |rfl |rfl |rfl |rfl |rfl |rfl
 ·exact⟨_,rfl,.inl ⟨_,rfl,l0⟩⟩
 ·exact⟨_,rfl,.inl ⟨_,rfl,l1⟩⟩
 ·exact⟨_,rfl,.inl ⟨_,rfl,l2⟩⟩
 ·exact⟨_,rfl,.inl ⟨_,rfl,l3⟩⟩
 ·exact⟨_,rfl,.inl ⟨_,rfl,l4⟩⟩
 ·exact⟨_,rfl,.inl ⟨_,rfl,l5⟩⟩
 ·exact⟨_,rfl,.inl ⟨_,rfl,l6⟩⟩
 ·exact⟨_,rfl,.inl ⟨_,rfl,l7⟩⟩
 ·exact⟨_,rfl,.inr rfl⟩
section
variable {P:Program}{w:World}{K:PySem.W.Frag}{mg:Str→Option Value}{base:Heap}{cB cL:Addr}
abbrev lu:Stmt:=top 45
abbrev wC:List Str:=["_law_state_here", "_law_text_here", "_law_way", "_law_at", "_law_signs", "_law_sign", "_law_words", "_law_spot", "_law_rows", "_law_twice"]
theorem fm:bu wC ["_law_state_here", "_law_text_here"] (ar lu):=⟨rfl,rfl,rfl,by decide+kernel,rfl,by decide+kernel,by decide+kernel⟩
def kT:Sp:=fun vs H Q _=> ∃(p:Addr) (z:Str) (wd hg:Int) (xs:List V),vs=[.ref p,.str z]∧bo H p∧dD z wd hg xs∧∀v H',au p H H'→bo H' p→((∃y:Str,v=.str y∧y.length≤1000)∨∃a,v=.ref a∧a≠p∧H' a=some (.lst [.str z]))→Q v H'
theorem G7 {f:Addr}{c:Value}{A:Around}{outer:List Env}{s:Shared}{H0:Hp}{E:XK}{Q:VK} :∃t,cC (aG av P w K mg base wC "_law_bent" (ar lu) f c A outer s H0 E).aV ((bD lu).drop 8) t∧
  ∀(v0:V) (z:Str) (way:Int) (v3 v4 v5:Option V) (D R T:Addr) (v7:V) (H:Hp) (y0 y1 y2 y3:Str),0≤way→way<12→(∃i:Int,v7=.int i∧0≤i∧i<100)→WL H D 13→WL H T 39→H R=some (.lst [.str y0,.str y1,.str y2,.str y3])→(y0.length≤1000∧y1.length≤1000∧y2.length≤1000∧y3.length≤1000)→
   (∀v H',ag H H'→((∃y:Str,v=.str y∧y.length≤1000)∨∃a,v=.ref a∧H a=none∧H' a=some (.lst [.str z]))→Q v H')→
   t {nx:=fun _ H'=>Q .ae H',rt:=Q} [some v0,some (.str z),some (.int way),v3,v4,v5,some (.ref D),some v7,some (.ref R),some (.ref T)] H:=by
 refine⟨_,(Ze (Zp (i:=8) fm.nd rfl (Or.inl rfl) (Zm ZZ (pv 8) (Zx (Z9 (pI (Zm ZZ (ZD YE (pv 6) ZP (ZL (pv 7))) (ZD YE (pv 6) (ZL (Zm Z6 (pv 7) Zf)) ZP)) Y4 rfl) (Z9 (pI (pv 9) Ws rfl) Zb)))))
   (Ze (Zp (i:=8) fm.nd rfl (Or.inl rfl) (Zm ZZ (pv 8) (Zx (Z9 (pI (Zm ZZ (pv 6) (Zx (Za Zv Zb))) Y4 rfl) (Z9 (pI (Zm ZZ (ZD YE (pv 6) ZP (ZL Zf)) (HU (pv 6))) Y4 rfl) (GR (Zx (GS (pv 1) Zb)) Zb))))))
   (Zk (F2 (ls:=lM) (by kernel_rfl) (pv 8) (pv 2))))),?_⟩
 intro v0 z way v3 v4 v5 D R T v7 H y0 y1 y2 y3 w0 aY CN wD wT hR ly q
 obtain⟨i,rfl,i0,Lw⟩:=CN
 refine Zn (Zw ?_)
 refine⟨_,rfl,rfl,_,rfl,_,rfl,_,rfl,Yx wD fun a Ha sa wa=> ⟨_,rfl,_,rfl,_,_,rfl,rfl,_,rfl,mP (Yx (wD.same sa) fun b Hb sb wb=>JK (wa.same sb) wb (by decide) fun c1 Hc sc wc=>JY (JA wc (by decide) fun y4 l4=> ?_))⟩⟩
 have s1:=sa.trans (sb.trans sc)
 refine⟨rfl,_,rfl,JY (JA (wT.same s1) (by decide) fun y5 l5=>JY ⟨(by show 2≤sizeLine;decide),fun L hL=> ?_⟩)⟩
 have s2:=Zd (o:=.lst [V.str y4,V.str y5]) hL
 have e2:upd Hc L (.lst [V.str y4,V.str y5]) L=some (.lst [V.str y4,V.str y5]):=Zc
 generalize upd Hc L (.lst [V.str y4,V.str y5])=H2 at s2 e2
 refine⟨R,L,_,_,rfl,rfl,(s1.trans s2) _ _ hR,e2,(by show 4+2≤sizeLine;decide),fun R2 Ea=>Zl ?_⟩
 dsimp only[List.set]
 have s3:=Zd (o:=.lst ([V.str y0,V.str y1,V.str y2,V.str y3]++[V.str y4,V.str y5])) Ea
 have e3:upd H2 R2 (.lst ([V.str y0,V.str y1,V.str y2,V.str y3]++[V.str y4,V.str y5])) R2=some (.lst [V.str y0,V.str y1,V.str y2,V.str y3,V.str y4,V.str y5]):=Zc
 generalize upd H2 R2 (HO.lst ([V.str y0,V.str y1,V.str y2,V.str y3]++[V.str y4,V.str y5]))=H3 at s3 e3
 have fq:=s1.trans (s2.trans s3)
 refine Zn (Zw ?_)
 refine⟨_,rfl,rfl,_,rfl,(by show 1≤sizeLine;decide),fun d hd=> ?_⟩
 have s4:=Zd (o:=.lst [V.str "."]) hd
 have w4:WL (upd H3 d (.lst [V.str "."])) d 1:=JJ (ws:=["."]) rfl (fun u hu=>by rw[List.mem_singleton]at hu;subst hu;decide) (Nat.le_refl _)
 generalize upd H3 d (HO.lst [V.str "."])=H4 at s4 w4
 have cq:=fq.trans s4
 refine JK (wD.same cq) w4 (by decide) fun c2 H5 s5 w5=>JY (JA w5 (by decide) fun y6 l6=> ?_)
 have cm:=cq.trans s5
 refine⟨rfl,_,rfl,_,rfl,Yx (wD.same cm) fun b2 H6 s6 w6=>G8 (fun _ h=> ⟨_,rfl,h⟩) (wD.same (cm.trans s6)) fun b3 H7 s7 w7=>JK (w6.same s7) w7 (by decide) fun b4 H8 s8 w8=>JY (JA w8 (by decide) fun y7 l7=> ?_)⟩
 have dI:=cm.trans (s6.trans (s7.trans s8))
 refine⟨_,rfl,(by show 1≤sizeLine;decide),fun a9 sU=> ?_⟩
 have s9:=Zd (o:=.lst [V.str z]) sU
 have e9:upd H8 a9 (.lst [V.str z]) a9=some (.lst [V.str z]):=Zc
 generalize upd H8 a9 (HO.lst [V.str z])=H9 at s9 e9
 refine⟨(by show 3≤sizeLine;decide),fun L2 ki=> ?_⟩
 have aO:=Zd (o:=.lst [V.str y6,V.str y7,.ref a9]) ki
 have e10:upd H9 L2 (.lst [V.str y6,V.str y7,.ref a9]) L2=some (.lst [V.str y6,V.str y7,.ref a9]):=Zc
 generalize upd H9 L2 (HO.lst [V.str y6,V.str y7,.ref a9])=gN at aO e10
 have Be:=(s4.trans (s5.trans (s6.trans (s7.trans s8)))).trans (s9.trans aO)
 refine⟨R2,L2,_,_,rfl,rfl,Be _ _ e3,e10,(by show 6+3≤sizeLine;decide),fun R3 DZ=>Zl ?_⟩
 dsimp only[List.set]
 have aU:=Zd (o:=.lst ([V.str y0,V.str y1,V.str y2,V.str y3,V.str y4,V.str y5]++[V.str y6,V.str y7,.ref a9])) DZ
 have e11:upd gN R3 (.lst ([V.str y0,V.str y1,V.str y2,V.str y3,V.str y4,V.str y5]++[V.str y6,V.str y7,.ref a9])) R3=some (.lst [V.str y0,V.str y1,V.str y2,V.str y3,V.str y4,V.str y5,V.str y6,V.str y7,.ref a9]):=Zc
 generalize upd gN R3 (HO.lst ([V.str y0,V.str y1,V.str y2,V.str y3,V.str y4,V.str y5]++[V.str y6,V.str y7,.ref a9]))=gM at aU e11
 refine⟨_,rfl,fun vs uA bN pr _=> ?_⟩
 obtain⟨ci,pA,jq⟩:=Ub w0 aY pr
 refine⟨(by rw[Paired.length pr];show 12≤sizeLine;decide),fun L4 kh=> ⟨_,rfl,L4,_,_,_,rfl,rfl,ak.of Zc,jq,?_⟩⟩
 have oC:=Zd (o:=.lst vs) kh
 generalize upd uA L4 (HO.lst vs)=cU at oC
 obtain⟨v,hv,hw⟩:=Hg (a:=a9) pA ⟨ly.1,ly.2.1,ly.2.2.1,ly.2.2.2,l4,l5,l6,l7⟩
 have e13:=oC _ _ (bN _ _ e11)
 have de:=dI.trans ((s9.trans aO).trans (aU.trans (bN.trans oC)))
 refine⟨R3,_,_,v,rfl,rfl,ak.of e13,hv,q v _ de ?_⟩
 rcases hw with hw |rfl
 ·exact .inl hw
 ·refine .inr ⟨a9,rfl,?_,((aO.trans (aU.trans (bN.trans oC))) _ _ e9)⟩
  cases hh:H a9 with
  |none=>rfl
  |some o=>rw[dI _ _ hh]at sU;cases sU
theorem F5 {f:Addr}{fd:FuncData}(F:aP K "_law_bent" "_law_bent" lu f fd) (G:Gs mg) (nz:Def P w K mg base 1 "_law_take" ["_law_state_here", "_law_many"] iQ):aC P w K mg base av 2 f fd ["_law_state_here", "_law_text_here"] kT:=by
 refine F.ok fm (fun vs H Q E h=> ?_) (fun aq A outer s H vs Q E hr h=> ?_)
 ·obtain⟨p,z,wd,hg,xs,rfl,_⟩:=h
  rfl
 ·obtain⟨p,z,wd,hg,xs,rfl,st,wr,q⟩:=h
  obtain⟨wW,CJ,hz⟩:=yK wr
  obtain⟨t9,r9,h9⟩:=G7 (P:=P) (w:=w) (K:=K) (mg:=mg) (base:=base) (f:=f) (c:=aq) (A:=A) (outer:=outer) (s:=s) (H0:=H) (E:=E) (Q:=Q)
  refine⟨_,Ze (uk (i:=2) (j:=3) rfl fm.nd rfl rfl (by decide) rfl rfl (Za (Zj nz hr (Za (pv 0) (Za Zf Zb))) (Za (Zj nz hr (Za (pv 0) (Za (Zm Z6 (Zi Jg rfl G.len boot_len (Za (pv 1) Zb)) Zf) Zb))) Zb)) rfl)
   (Ze (Zp (i:=4) fm.nd rfl (Or.inl rfl) Zv)
   (Ze (Zp (i:=4) fm.nd rfl (Or.inl rfl) (Zm ZV (pv 4) Zv))
   (Ze (Zp (i:=5) fm.nd rfl (Or.inl rfl) (ZO Gz (pv 4) (Zj nz hr (Za (pv 0) (Za (ZO ZM (Zx (Za Zf (Za (Zi Jg rfl G.len boot_len (Za (pv 4) Zb)) Zb))) (Zj nz hr (Za (pv 0) (Za Zf Zb))) zb) Zb))) zb))
   (Ze (Zp (i:=6) fm.nd rfl (Or.inl rfl) (Yi PySem.F.plainAttrs_str PySem.F.slot_str_split PySem.F.type_str_split YB (pv 1) (Za Zv Zb)))
   (Ze (Zp (i:=7) fm.nd rfl (Or.inl rfl) (Zj nz hr (Za (pv 0) (Za (Zi Zy rfl G.len boot_len (Za (pv 6) Zb)) Zb))))
   (Ze (Zp (i:=8) fm.nd rfl (Or.inl rfl) (Zx (ug (Zm ZV (Zm ZV (ZD Jk (pv 1) ZP (ZL (pv 3))) (pv 5)) (ZD Jk (pv 1) (ZL (pv 3)) ZP))
    (ug (Zm ZV (Zm ZV (ZD Jk (pv 1) ZP (ZL (pv 3))) (pv 5)) (ZD Jk (pv 1) (ZL (Zm Z6 (pv 3) Zf)) ZP))
    (ug (Zm ZV (ZD Jk (pv 1) ZP (ZL (pv 3))) (ZD Jk (pv 1) (ZL (Zm Z6 (pv 3) Zf)) ZP))
    (Za (GY (pv 1)) Zb))))))
   (Ze (Zp (i:=9) fm.nd rfl (Or.inl rfl) (Zm ZZ (Zm ZZ (ZD YE (pv 6) ZP (ZL (pv 7))) (ZD YE (pv 6) (ZL (pv 7)) (ZL (Zm Z6 (pv 7) Zf)))) (ZD YE (pv 6) (ZL (pv 7)) ZP)))
   r9))))))),?_⟩
  have ft:∀{H:Hp}{l:Addr},bo H p→H l=none→l≠p:=fun⟨_,_,e,_⟩ h z=>by rw[z,e]at h;cases h
  refine Zn ⟨_,rfl,p,12,rfl,st,by decide,by decide,fun way o1 w0 aY ck=> ⟨_,rfl,_,rfl,z,rfl,by rw[sizeLine_eq];omega,_,_,rfl,rfl,p,_,rfl,ck,by omega,by omega,fun pl o2 a0 a1 bM=> ⟨_,_,rfl,?_⟩⟩⟩
  have x2:au p H (upd (upd H p o1) p o2):=au.upd.trans au.upd
  generalize upd (upd H p o1) p o2=H2 at bM x2
  dsimp only[List.set]
  refine Zn (Zw (Zl ?_))
  dsimp only[List.set]
  refine Zn (Zw ⟨_,rfl,z0 (Jl (by decide) fun sg wZ=>Zl ?_)⟩)
  have Ld:14≤sg.length∧sg.length<1000:=by
   rw[wZ]
   decide+kernel
  clear wZ
  dsimp only[List.set]
  refine Zn (Zw ⟨_,rfl,_,rfl,_,rfl,sg,rfl,by rw[sizeLine_eq];omega,(by show 2≤sizeLine;decide),fun L hL=> ?_⟩)
  have s3:=Zd (o:=.lst [V.int 14,V.int sg.length]) hL
  have e3:upd H2 L (.lst [V.int 14,V.int sg.length]) L=some (.lst [V.int 14,V.int sg.length]):=Zc
  have nL:=ft bM hL
  generalize upd H2 L (HO.lst [V.int 14,V.int sg.length])=H3 at s3 e3
  have cj:=bM.same s3
  refine⟨_,rfl,p,2,rfl,cj,by decide,by decide,fun r1 o4 Li Lh kP=> ?_⟩
  have x4:au p H3 (upd H3 p o4):=au.upd
  generalize upd H3 p o4=H4 at kP x4
  obtain⟨m,jo,m1,m2⟩:∃m:Int,cR [V.int 14,V.int sg.length] r1=some (.int m)∧0<m∧m≤sg.length:=by
   rcases (by omega:r1=0∨r1=1) with rfl |rfl
   ·exact⟨14,rfl,by decide,by omega⟩
   ·exact⟨sg.length,rfl,by omega,by omega⟩
  refine⟨L,_,_,_,rfl,rfl,ak.of (x4 _ _ e3 nL),jo,JY ⟨p,m,rfl,kP,m1,by omega,fun r5 o5 Bv Lg bF=> ?_⟩⟩
  have x5:au p H4 (upd H4 p o5):=au.upd
  generalize upd H4 p o5=H5 at bF x5
  obtain⟨ch,eP⟩:=Gi (z:=sg) Bv (by omega)
  refine⟨sg,r5,ch,rfl,rfl,by rw[sizeLine_eq];omega,eP,Zl ?_⟩
  dsimp only[List.set]
  have Ci:(⟨#[ch]⟩:Str).length=1:=rfl
  generalize (⟨#[ch]⟩:Str)=sn at Ci
  have zO:au p H H5:=x2.trans (s3.x.trans (x4.trans x5))
  have rF:=Yb z 32
  refine Zn (Zw ⟨_,rfl,rfl,z,⟨#[32]⟩,rfl,(by rw[←Yo]),rfl,by rw[sizeLine_eq];omega,by rw[sizeLine_eq];omega,fun D hD=>Zl ?_⟩)
  dsimp only[List.set]
  have s6:=Zd (o:=.lst ((Txt.split z ⟨#[32]⟩).map V.str)) hD
  have w6:WL (upd H5 D (.lst ((Txt.split z ⟨#[32]⟩).map V.str))) D 13:=JJ rfl CJ wW
  have e6:upd H5 D (.lst ((Txt.split z ⟨#[32]⟩).map V.str)) D=some (.lst ((Txt.split z ⟨#[32]⟩).map V.str)):=Zc
  have nD:=ft bF hD
  generalize upd H5 D (HO.lst ((Txt.split z ⟨#[32]⟩).map V.str))=H6 at s6 w6 e6
  have du:=bF.same s6
  have lw:0< ((Txt.split z ⟨#[32]⟩).map V.str).length:=by
   obtain⟨h,rs,es⟩:=Y5 (z:=z) (c:=32) (by decide)
   rw[es,List.map_cons,List.length_cons]
   omega
  have Ca:((Txt.split z ⟨#[32]⟩).map V.str).length≤13:=by rw[List.length_map];exact wW
  generalize oS:(Txt.split z ⟨#[32]⟩).map V.str=wl at e6 lw Ca
  refine Zn (Zw ⟨_,rfl,_,rfl,D,wl,rfl,.inl (ak.of e6),p,_,rfl,du,by omega,by omega,fun sp o7 p0 p1 kO=>Zl ?_⟩)
  dsimp only[List.set]
  have x7:au p H6 (upd H6 p o7):=au.upd
  have w7:WL (upd H6 p o7) D 13:=by
   obtain⟨ws,e,r⟩:=w6
   exact⟨ws,x7 _ _ e nD,r⟩
  generalize upd H6 p o7=H7 at kO x7 w7
  have zN:au p H H7:=zO.trans (s6.x.trans x7)
  have dA:z.length≤sizeLine:=by rw[sizeLine_eq];omega
  refine Zn (Zw ⟨_,rfl,_,rfl,_,rfl,Wt hz fun u1 k1=> ⟨_,rfl,Jl (by rw[sizeLine_eq];omega) fun u2 k2=> ⟨_,rfl,_,rfl,_,rfl,mP (Wt hz fun u3 k3=>Jl (by rw[sizeLine_eq];omega) fun y0 l0=> ?_)⟩⟩⟩)
  refine⟨_,rfl,_,rfl,_,rfl,Wt hz fun u4 k4=> ⟨_,rfl,Jl (by rw[sizeLine_eq];omega) fun u5 k5=> ⟨_,rfl,_,rfl,_,_,rfl,rfl,_,rfl,mP (Wt hz fun u6 k6=>Jl (by rw[sizeLine_eq];omega) fun y1 l1=> ?_)⟩⟩⟩
  refine⟨_,rfl,_,rfl,_,rfl,Wt hz fun u7 k7=> ⟨_,rfl,_,rfl,_,_,rfl,rfl,_,rfl,mP (Wt hz fun u8 k8=>Jl (by rw[sizeLine_eq];omega) fun y2 l2=> ?_)⟩⟩
  refine⟨_,rfl,z,rfl,dA,fun y3 l3=> ⟨(by show 4≤sizeLine;decide),fun R hR=>Zl ?_⟩⟩
  dsimp only[List.set]
  have s8:=Zd (o:=.lst [V.str y0,V.str y1,V.str y2,V.str y3]) hR
  have e8:upd H7 R (.lst [V.str y0,V.str y1,V.str y2,V.str y3]) R=some (.lst [V.str y0,V.str y1,V.str y2,V.str y3]):=Zc
  generalize upd H7 R (HO.lst [V.str y0,V.str y1,V.str y2,V.str y3])=H8 at s8 e8
  have w8:=w7.same s8
  refine Zn (Zw ⟨_,rfl,_,rfl,_,rfl,Yx w8 fun c1 I1 i1 v1=> ⟨_,rfl,_,rfl,_,rfl,_,rfl,_,_,rfl,rfl,_,rfl,Yx (w8.same i1) fun c2 I2 i2 v2=>JK (v1.same i2) v2 (by decide) fun c3 I3 i3 v3=> ⟨_,rfl,_,rfl,_,rfl,mP (Yx (w8.same (i1.trans (i2.trans i3))) fun c4 I4 i4 v4=>JK (v3.same i4) v4 (by decide) fun T I5 i5 v5=>Zl ?_)⟩⟩⟩)
  dsimp only[List.set]
  have oQ:=i1.trans (i2.trans (i3.trans (i4.trans i5)))
  refine h9 _ z way _ _ _ D R T (.int sp) I5 y0 y1 y2 y3 w0 aY ⟨sp,rfl,p0,by omega⟩ (w8.same oQ) v5 (oQ _ _ e8) ⟨by omega,by omega,by omega,by omega⟩ fun v H' s' hv=> ?_
  have sS:=s8.trans (oQ.trans s')
  refine q v H' (zN.trans sS.x) (kO.same sS) ?_
  rcases hv with hv |⟨a,rfl,hn,ha⟩
  ·exact .inl hv
  ·exact .inr ⟨a,rfl,ft (kO.same (s8.trans oQ)) hn,ha⟩
end
end U
namespace L2
open PySem PySem.Spec PyProof.Rows SeqAt
section
variable {X:Cx}
def fF (H:Hp) (v:V) (k:List Int):Prop:=∃l:Addr,v=.ref l∧H l=some (.lst (k.map V.int))
theorem fF.same {H H':Hp}{v:V}{k:List Int}(h:fF H v k) (s:ag H H'):fF H' v k:=let ⟨l,e,h1⟩:=h;⟨l,e,s _ _ h1⟩
theorem GG {pins:List (Addr×Obj)}{σ:St}{H:Hp}{s:Shared}{x y:V}{u v:Value}{k:List Int}(A:Around) (hu:A.units<cLine) (I:Inv X pins σ H s) (hx:fF H x k) (hy:fF H y k) (ru:RelV x u) (rv:RelV y v):EqAt A s u v true:=by
 obtain⟨a,rfl,ha⟩:=hx
 obtain⟨b,rfl,hb⟩:=hy
 cases ru
 cases rv
 by_cases xS:a=b
 ·subst xS
  exact EqAt.same _
 ·obtain⟨us,r1,p1,_⟩:=I.list (ak.of ha)
  obtain⟨vs,r2,p2,_⟩:=I.list (ak.of hb)
  have l1:=r1.length
  have l2:=r2.length
  have z:=RcAt.lists (A:=A) (s:=s) (e:=fun j=>k.getD j 0==k.getD j 0) p1.isList p2.isList (by simp;omega) hu (fun j h1 h2=>by
   obtain⟨t1,e1⟩:=YS r1 j (by simpa using h1)
   obtain⟨t2,e2⟩:=YS r2 j (by simpa using h2)
   rw[show us.toArray[j]=us[j]'(by simpa using h1) by simp,show vs.toArray[j]=vs[j]'(by simpa using h2) by simp,e1,e2]
   exact EqAt.int_int _ _ _ _)
  have e:(List.range us.toArray.size).all (fun j=>k.getD j 0==k.getD j 0)=true:=by simp
  rw[e]at z
  exact EqAt.of_refs xS z
def Bk (K:PySem.W.Frag) (r:Bool):R2:=fun x y H Q=> ∃(a b:Addr) (xs ys:List V) (ks:List (List Int)),x=.ref a∧y=.ref b∧ak K H a xs∧ak K H b ys∧Paired (fF H) xs ks∧Paired (fF H) ys ks∧Q (.bl r) H
theorem FI {pins:List (Addr×Obj)}{σ:St}{H:Hp}{s:Shared}{xs ys:List V}{ks:List (List Int)}{us vs:List Value}(A:Around) (hu:A.units<cLine) (I:Inv X pins σ H s) (p1:Paired (fF H) xs ks) (p2:Paired (fF H) ys ks) (r1:Vals xs us) (r2:Vals ys vs):∀j (h1:j<us.toArray.size) (h2:j<vs.toArray.size),EqAt A s us.toArray[j] vs.toArray[j] true:=fun j h1 h2=>by
 have l1:=r1.length
 have l2:=r2.length
 have k1:j<xs.length:=by simp at h1;omega
 have k2:j<ys.length:=by simp at h2;omega
 obtain⟨k,hk,e⟩:=Wv p1 (List.getElem?_eq_getElem k1)
 obtain⟨k',dk,e'⟩:=Wv p2 (List.getElem?_eq_getElem k2)
 rw[hk]at dk
 cases dk
 obtain⟨u,lN,ru⟩:=r1.get (List.getElem?_eq_getElem k1)
 obtain⟨v,jd,rv⟩:=r2.get (List.getElem?_eq_getElem k2)
 have e1:us.toArray[j]=u:=by simpa using (List.getElem?_eq_some_iff.mp lN).2
 have e2:vs.toArray[j]=v:=by simpa using (List.getElem?_eq_some_iff.mp jd).2
 rw[e1,e2]
 exact GG A hu I e e' ru rv
theorem GP (hu:X.A.units+1<cLine):aW X (compareOp .NotEq) (Bk X.K false):=by
 intro pins s σ H x y u v Q I rx ry h
 obtain⟨a,b,xs,ys,ks,rfl,rfl,ha,hb,p1,p2,q⟩:=h
 cases rx
 cases ry
 obtain⟨us,r1,l1,_⟩:=I.list ha
 obtain⟨vs,r2,l2,_⟩:=I.list hb
 have hsz:us.toArray.size=vs.toArray.size:=by have:=r1.length;have:=r2.length;have:=Paired.length p1;have:=Paired.length p2;simp at *;omega
 refine RcNeAt.lists (e:=fun _=>true) l1.isList l2.isList hsz (Nat.lt_of_succ_lt hu) (FI X.A.in1 hu I p1 p2 r1 r2) _ _ _ _ ?_
 have e:(List.range us.toArray.size).all (fun _=>true)=true:=by simp
 rw[e]
 exact⟨.bl false,H,I,rfl,q⟩
def Bl (K:PySem.W.Frag):R2:=fun x y H Q=> ∃(a b:Addr) (ks:List Int),x=.ref a∧y=.ref b∧H a=some (.lst (ks.map V.int))∧H b=some (.lst (ks.map V.int))∧Q (.bl false) H
theorem GO (hu:X.A.units<cLine):aW X (compareOp .NotEq) (Bl X.K):=by
 intro pins s σ H x y u v Q I rx ry h
 obtain⟨a,b,ks,rfl,rfl,ha,hb,q⟩:=h
 cases rx
 cases ry
 obtain⟨us,r1,p1,_⟩:=I.list (ak.of ha)
 obtain⟨vs,r2,p2,_⟩:=I.list (ak.of hb)
 have l1:=r1.length
 have l2:=r2.length
 refine RcNeAt.lists (e:=fun j=>ks.getD j 0==ks.getD j 0) p1.isList p2.isList (by simp;omega) hu (fun j h1 h2=> ?_) _ _ _ _ ?_
 ·obtain⟨t1,e1⟩:=YS r1 j (by simpa using h1)
  obtain⟨t2,e2⟩:=YS r2 j (by simpa using h2)
  rw[show us.toArray[j]=us[j]'(by simpa using h1) by simp,show vs.toArray[j]=vs[j]'(by simpa using h2) by simp,e1,e2]
  exact EqAt.int_int _ _ _ _
 ·have e:(List.range us.toArray.size).all (fun j=>ks.getD j 0==ks.getD j 0)=true:=by simp
  rw[e]
  exact⟨.bl false,H,I,rfl,q⟩
def Bm:R2:=fun x y H Q=> ∃(a:Str) (n:Int),x=.str a∧y=.int n∧MulOk a n∧Q (.str (Txt.mul a n)) H
theorem GQ:aW X (binaryOp .Mult) Bm:=by
 intro pins s σ H x y v u Q I rx ry h
 obtain⟨a,n,rfl,rfl,ok,q⟩:=h
 obtain⟨t,rfl⟩:=rx
 obtain⟨t',rfl⟩:=ry
 exact SB.mul ok (fun t' k=> ⟨.str _,H,I.tok _,⟨_,rfl⟩,q⟩)
def Tn (H H':Hp) (v:V):Prop:=(∃z:Str,v=.str z∧z.length≤1000)∨v=.ae∨(∃i:Int,v=.int i)∨∃(a:Addr) (xs:List V),v=.ref a∧H a=none∧H' a=some (.tup xs)
def Gv (X:Cx) (e:Expr):Prop:=(∀es,starEach (e::es) X.env=(false,eval e X.env)::starEach es X.env)∧∃te,PE X e te∧∀σ H Q,(∀v H',ag H H'→Tn H H' v→Q v H')→te σ H Q
theorem Ya {z:Str}{k:Nat}{p:Pos}(h:z.length≤1000):Gv X (.Constant (.str z) k p):=⟨fun _=>rfl,_,Zv,fun σ H Q q=>q _ H (ag.refl H) (.inl ⟨z,rfl,h⟩)⟩
theorem Gu {k:Nat}{p:Pos} :Gv X (.Constant .none k p):=⟨fun _=>rfl,_,Z5,fun σ H Q q=>q _ H (ag.refl H) (.inr (.inl rfl))⟩
theorem Gq {i:Int}{k:Nat}{p:Pos} :Gv X (.Constant (.int i) k p):=⟨fun _=>rfl,_,Zf,fun σ H Q q=>q _ H (ag.refl H) (.inr (.inr (.inl ⟨i,rfl⟩)))⟩
theorem Gw {z:Str}{k k2:Nat}{p p2:Pos} :Gv X (.Tuple [.Constant (.str z) k p] k2 p2):=⟨fun _=>rfl,_,ZH (Za Zv Zb),fun σ H Q q=> ⟨(by show 1≤sizeLine;decide),fun a ha=>q _ _ (fun b o e=>by unfold upd;rw[if_neg (fun z=>by rw[z,ha]at e;cases e)];exact e) (.inr (.inr (.inr ⟨a,_,rfl,ha,Zc⟩)))⟩⟩
theorem Gr {a b:Str}{n:Int}{k k2 k3:Nat}{p p2 p3 p4 p5:Pos}(ok:MulOk b n) (h:a.length+(Txt.mul b n).length≤1000):Gv X (.BinOp (.Constant (.str a) k p) .Add (.BinOp (.Constant (.str b) k2 p2) .Mult (.Constant (.int n) k3 p3) p4) p5):=
 ⟨fun _=>rfl,_,Zm ZV Zv (Zm GQ Zv Zf),fun σ H Q q=> ⟨b,n,rfl,rfl,ok,a,_,rfl,rfl,by rw[sizeLine_eq];omega,q _ H (ag.refl H) (.inl ⟨_,rfl,by rw[Str.length_append];exact h⟩)⟩⟩
def iK (X:Cx) (es:List Expr):Prop:=∀e∈es,Gv X e
theorem zo:iK X []:=fun _ h=>by cases h
theorem ZE {e:Expr}{es:List Expr}(h:Gv X e) (r:iK X es):iK X (e::es):=fun z hz=>by
 rcases List.mem_cons.mp hz with rfl |hz
 ·exact h
 ·exact r z hz
theorem Tn.same {H H1 H2:Hp}{v:V}(h:Tn H H1 v) (s:ag H1 H2):Tn H H2 v:=by
 rcases h with h |h |h |⟨a,xs,e,h1,h2⟩
 ·exact .inl h
 ·exact .inr (.inl h)
 ·exact .inr (.inr (.inl h))
 ·exact .inr (.inr (.inr ⟨a,xs,e,h1,s _ _ h2⟩))
theorem Tn.old {H H1 H2:Hp}{v:V}(h:Tn H1 H2 v) (s:ag H H1):Tn H H2 v:=by
 rcases h with h |h |h |⟨a,xs,e,h1,h2⟩
 ·exact .inl h
 ·exact .inr (.inl h)
 ·exact .inr (.inr (.inl h))
 ·refine .inr (.inr (.inr ⟨a,xs,e,?_,h2⟩))
  cases hh:H a with
  |none=>rfl
  |some o=>rw[s _ _ hh]at h1;cases h1
theorem uh:∀{es:List Expr},iK X es→PA X es (fun _ H Q=> ∀vs H',ag H H'→vs.length=es.length→(∀v∈vs,Tn H H' v)→Q vs H')
 | [],_=>fun pos pins s σ H Q I q=>Zb pos pins s σ H Q I (q [] H (ag.refl H) rfl fun _ h=>by cases h)
 |e::es,h=>by
  obtain⟨hs,te,pe,CT⟩:=h e List.mem_cons_self
  have ih:=uh (es:=es) fun z hz=>h z (List.mem_cons_of_mem _ hz)
  refine fun pos pins s σ H Q I q=>Za pe ih (hs es) pos pins s σ H Q I (CT σ H _ fun v H1 s1 t1 vs H2 s2 l2 t2=>q (v::vs) H2 (s1.trans s2) (by rw[List.length_cons,List.length_cons,l2]) fun u hu=> ?_)
  rcases List.mem_cons.mp hu with rfl |hu
  ·exact t1.same s2
  ·exact(t2 u hu).old s1
end
end L2
namespace U
open PySem L2 PyProof.Rows
theorem gn.x {p:Addr}{H H':Hp}{y:V}(h:gn H y) (s:au p H H') (st:bo H p):gn H' y:=by
 obtain⟨u,v,e,_⟩:=st
 rcases h with h |⟨b,z,rfl,h |h,hz⟩
 ·exact .inl h
 ·exact .inr ⟨b,z,rfl,.inl (s _ _ h fun q=>by rw[q,e]at h;cases h),hz⟩
 ·exact .inr ⟨b,z,rfl,.inr (s _ _ h fun q=>by rw[q,e]at h;cases h),hz⟩
theorem iE.x {p:Addr}{H H':Hp}{v:V}(h:iE p H v) (s:au p H H') (st:bo H p):iE p H' v:=by
 have cE:=id st
 obtain⟨u,w,e,_⟩:=st
 rcases h with h |⟨a,xs,rfl,hl,h |⟨n,h⟩,hy⟩ |⟨a,rfl,h⟩
 ·exact .inl h
 ·exact .inr (.inl ⟨a,xs,rfl,hl,.inl (s _ _ h fun q=>by rw[q,e]at h;cases h),fun y m=> (hy y m).x s cE⟩)
 ·exact .inr (.inl ⟨a,xs,rfl,hl,.inr ⟨n,s _ _ h n⟩,fun y m=> (hy y m).x s cE⟩)
 ·exact .inr (.inr ⟨a,rfl,s _ _ h fun q=>by rw[q,e]at h;cases h⟩)
section
variable {K:PySem.W.Frag}
def pL (K:PySem.W.Frag) (p:Addr) (H:Hp) (v:V):Prop:=cA K H v∧iE p H v
theorem pL.x {p:Addr}{H H':Hp}{v:V}(t:pL K p H v) (s:au p H H') (st:bo H p):pL K p H' v:=by
 have h2:=t.2.x s st
 obtain⟨u,w,e,_⟩:=id st
 refine⟨tY t.1 s ⟨fun z=> ?_,fun xs ex y hy z=> ?_⟩,h2⟩
 ·subst z
  rcases t.2 with h |⟨a,xs,z,_,h |⟨n,_⟩,_⟩ |⟨a,z,h⟩
  ·cases h
  ·cases z;rw[e]at h;cases h
  ·cases z;exact n rfl
  ·cases z;rw[e]at h;cases h
 ·subst z
  rcases t.2 with h |⟨a,ys,rfl,_,h,oR⟩ |⟨a,rfl,h⟩
  ·cases v with
   |ref a=>cases h
   |_=>cases ex
  ·rcases h with h |⟨_,h⟩
   ·rw[Zo h]at ex
    cases ex
    rcases oR _ hy with h' |⟨b,z,hz,h' |h',_⟩
    ·cases h'
    ·cases hz;rw[e]at h';cases h'
    ·cases hz;rw[e]at h';cases h'
   ·have e0:aS H (.ref a)=none:=by rw[Zs,h];rfl
    rw[e0]at ex;cases ex
  ·have e0:aS H (.ref a)=none:=by rw[Zs,h];rfl
   rw[e0]at ex;cases ex
theorem bc.x {p:Addr}{wd hg:Int}{H H':Hp}{v:V}(b:bc K p wd hg H v) (s:au p H H') (st:bo H p):bc K p wd hg H' v:=by
 have t:pL K p H v:=⟨b.1.1,b.2⟩
 have t':=t.x s st
 obtain⟨u,w,e,_⟩:=id st
 refine⟨⟨t'.1,?_⟩,t'.2⟩
 rw[Y2 b.1.1.1 s fun z=> ?_]
 ·exact b.1.2
 ·subst z
  rcases b.2 with h |⟨a,xs,z,_,h |⟨n,_⟩,_⟩ |⟨a,z,h⟩
  ·cases h
  ·cases z;rw[e]at h;cases h
  ·cases z;exact n rfl
  ·cases z;rw[e]at h;cases h
end
theorem U8 {p L:Addr}{H H1:Hp}{o:HO}(x:au p H H1) (n:H L=none):au p H (upd H1 L o):=fun b u h nb=>by
 rw[Zh (Zg h n)]
 exact x b u h nb
section
variable {Y:Cx}{cS fR:Addr}{kf:Nat}
theorem Ib {pins:List (Addr×Obj)}{σ:L2.St}{H:Hp}{s:Shared}{f C:Addr}{iC:Nat}{q:Str}{params:Arguments}{bd:Expr}{scope:Scope}{cl:List (Str×Addr)}{Q:VK}{N:List Str}{ws:List V}{Pre:Hp→Prop}
  (hR:∀b',Def Y.prog Y.w Y.K Y.mg b' (kf+2) "_law_refused" ["_law_call"] (jG Y.prog Y.w Y.K Y.mg b' cS (kf+1))) (room:bE (kf+2) Y.A) (mR:Y.mg "_law_refused" =some (.ref fR))
  (LS:mY params bd scope N) (I:Inv Y pins σ H s) (hl:fG H f q params bd scope cl) (hlen:ws.length=N.length) (dm:∀(i:Nat) x v,N[i]? =some x→ws[i]? =some v→nF Y cl x v H s) (gz:∀z c,cl.lookup z=some c→(z,NameKind.free)∈scope.names)
  (su:∀a b c,cl.lookup a=some c→cl.lookup b=some c→a=b) (hi:iC<15) (M:dc Y.K Y.mg cS C iC) (bad:kC Y kf C f q bd scope cl N ws Pre) (pre:Pre H) (hq:∀l H',ag H H'→H l=none→H' l=some (.lst [.int (iC:Int)])→Q (.ref l) H'):
  wpAny (model Y.prog Y.w) Y.A (call (.ref fR) [.ref f]) (EP Y pins σ Q) Y.xe s:=by
 obtain⟨bR,st,e0,bt⟩:=I.rebase
 obtain⟨pm,cc,ct,hf,hc⟩:=hl
 have T:Cells bR scope cl N ws:=⟨hlen,fun u hu=>by
   rcases hu with hu |hu
   ·exact absurd rfl (LS.dg _ (PySem.mem_of_lookup hu))
   ·exact LS.only _ (PySem.mem_of_lookup hu) rfl,fun i a v h1 h2=>by
   obtain⟨ax,ux,lx,⟨ox,gx,dx⟩,rx,nx,fx⟩:=dm i a v h1 h2
   exact⟨LS.free a (List.mem_of_getElem? h1),ax,ux,lx,⟨ox,bt _ _ gx nx fx,dx⟩,rx⟩,fun u c h=>LS.only _ (gz u c h) rfl,su⟩
 have FL:aC Y.prog Y.w Y.K Y.mg bR (bz Y.prog Y.w) (kf+1) f (PySem.W.kla_fn "<lambda>" q params bd scope cl pm (.ref cc) ct) []
   (fun vs H2 Q2 E2=> (vs=[]∧H2 f=some (i9 f q params bd scope cl pm cc ct)∧H2 cc=some (eE cc q))∧Pre H2∧∀e H',ag H2 H'→E2 (.ref e) (some C) H'):=by
  refine zv (k:=kf) T LS.kind LS.co LS.gen LS.dg (fun vs H2 Q2 E2 h=>h.1) fun A outer s2 H2 Q2 E2 jZ h=> ?_
  exact bad bR cc A outer s2 H2 Q2 E2 jZ h.2.1 h.2.2
 obtain⟨EE,yl,FR,cY,hk,hb⟩:=hR bR
 rw[mR]at cY
 cases cY
 refine wpAny_call (codeAny_mono (FR.run Y.A Y.stack s H ⟨[.ref f],[]⟩ [.ref f] [.ref f] Q E0 room e0 (hb s [.ref f] I.bC rfl) (.cons rfl .nil)
  ⟨f,_,_,C,iC,rfl,hi,M,fun h ai=> ?_,FL,fun s2=> .of_eq (LS.bind q cl pm cc ct),fun Q' E' hE=> ⟨⟨rfl,hf,hc⟩,pre,hE⟩,hq⟩) fun r s' h=> ?_)
 ·have z:h.get? f=some _:=(ai f _ hf).1
  exact⟨_,_,_,_,z⟩
 ·cases r with
  |error e=>exact h.elim
  |ok fl=>
   cases fl with
   |ret u=>exact I.after h
   |next=>exact False.elim h
   |brk=>exact False.elim h
   |cont=>exact False.elim h
end
section
variable {X:Cx}{cS c P fR:Addr}{kf:Nat}
theorem IK {pins:List (Addr×Obj)}{σ:L2.St}{H:Hp}{s:Shared}{N':List Str}{scope oo:Scope}{C:Addr}{s0:Shared}{H0:Hp}{fp:List Addr}{x:Str}{v:V}{p0:List (Addr×Obj)}{gO:L2.St}(I0:Inv X p0 gO H0 s0) (hf:∀b∈fp,aJ X p0 H0 b) (c0:nF X (bQ oo X.env) x v H0 s0) (hk:X.env.scope.names.lookup x=some .cell)
  (J:Inv (aI X N' scope C s0 H0 fp) pins σ H s):nF (aI X N' scope C s0 H0 fp) (bQ oo X.env) x v H s:=by
 obtain⟨c,u,h1,⟨o,h2,h3⟩,h4,h5,h6⟩:=c0
 have u0:Un (aN X.stack) fp H0 H s0.heap s.heap:=J.base
 have wz:c∉fp:=fun hm=>by
  obtain⟨a,ha⟩:=I0.ok.has x (.inl hk)
  have e1:=(Z2 h1).1
  rw[ha]at e1
  have z:c=a:=e1
  subst z
  obtain⟨_,_,_,_,f4,_⟩:=hf c hm
  exact f4 x c ha rfl
 exact⟨c,u,h1,⟨o,u0.keep c o h2 h5 h6 wz,h3⟩,h4,u0.free c o h2 h5 wz,h6⟩
structure zM (X:Cx) (cS:Addr) (kf:Nat) (gO:L2.St) (H:Hp) (f:Addr) (iC:Nat) (params:Arguments) (bd:Expr) (scope:Scope) (N:List Str) (idx:List Nat) (ws:List V) (C:Addr) (Pre:Hp→Prop):Prop where
 ls:mY params bd scope N
 hN:idx.length=N.length
 ln:∀(k:Nat) x i,N[k]? =some x→idx[k]? =some i→LN X x i
 rQ:ws.length=idx.length
 gv:∀(k i:Nat) v,idx[k]? =some i→ws[k]? =some v→gO[i]? =some (some v)
 fr:∀z∈scope.names,z.2=.free→X.env.kindOf z.1=some .cell∨X.env.kindOf z.1=some .free
 lam:fG H f (lq X) params bd scope (bQ scope X.env)
 hi:iC<15
 mr:dc X.K X.mg cS C iC
 body:kC X kf C f (lq X) bd scope (bQ scope X.env) N ws Pre
 pre:Pre H
def Am (X:Cx) (cS:Addr) (kf:Nat) (gO:L2.St):TE:=fun σ H Q=> ∃f iC,σ[0]? =some (some (.ref f))∧(∃params bd scope N idx ws C Pre,zM X cS kf gO H f iC params bd scope N idx ws C Pre)∧∀l H',ag H H'→H l=none→H' l=some (.lst [.int (iC:Int)])→Q (.ref l) H'
theorem GW {N':List Str}{bs:Scope}{B:Addr}{s0:Shared}{H0:Hp}{fp:List Addr}{p0:List (Addr×Obj)}{gO:L2.St}{p p' pos:Pos}{cn:Str}
  (hR:∀b',Def X.prog X.w X.K X.mg b' (kf+2) "_law_refused" ["_law_call"] (jG X.prog X.w X.K X.mg b' cS (kf+1))) (room:bE (kf+2) X.A) (mR:X.mg "_law_refused" =some (.ref fR)) (kR:PySem.W.keepIn X.K (.ref fR)=true) (I0:Inv X p0 gO H0 s0) (hf:∀b∈fp,aJ X p0 H0 b)
  (hg:Gl (aI X N' bs B s0 H0 fp) "_law_refused") (hv:PE (aI X N' bs B s0 H0 fp) (.Name cn p') (nR 0)):
  PE (aI X N' bs B s0 H0 fp) (.Call (.Name "_law_refused" p) [.Name cn p'] [] pos) (Am X cS kf gO):=by
 intro pins s σ H Q J h
 obtain⟨f,iC,gv,⟨params,bd,scope,N,idx,ws,C,Pre,ask⟩,q⟩:=h
 refine wpAny_Call_Name_kw (YQ J hg mR ?_ (by decide))
 have ha:PA (aI X N' bs B s0 H0 fp) [.Name cn p'] _:=Za hv Zb
 refine PySem.W.callWith_K (h₀:=X.base) J.ok.mod.ja kR (ao (ha pos pins s σ H (fun vs H1=>vs=[.ref f]∧H1=H) J ⟨_,gv,rfl,rfl⟩) fun us s3 ⟨vs,H1,J1,r,ev,eh⟩=> ⟨J1.bC,?_⟩) rfl rfl
 subst ev eh
 obtain⟨u,rfl,ru⟩:=vals1 r
 cases ru
 refine Ib (Y:=aI X N' bs B s0 H0 fp) (kf:=kf) hR room mR ask.ls J1 ask.lam (by rw[ask.rQ,ask.hN]) (fun i x v h1 h2=> ?_) (fun z c h=>yV h) (fun a b c h1 h2=> ?_) ask.hi ask.mr ask.body ask.pre q
 ·have hi:i<idx.length:=by
   have:=(List.getElem?_eq_some_iff.mp h1).1
   rw[ask.hN]
   exact this
  have ei:=List.getElem?_eq_getElem hi
  have n:=ask.ln i x _ h1 ei
  exact IK I0 hf (UV I0 n.nx (ask.gv i _ v ei h2) n.kx n.fx (PySem.mem_of_lookup (ask.ls.free x (List.mem_of_getElem? h1)))) n.kx J1
 obtain⟨e1,m1⟩:=Z2 h1
 obtain⟨e2,m2⟩:=Z2 h2
 obtain⟨c1,g1⟩:=I0.ok.has a (ask.fr _ m1 rfl)
 obtain⟨c2,g2⟩:=I0.ok.has b (ask.fr _ m2 rfl)
 rw[g1]at e1
 rw[g2]at e2
 have z1:c1=c2:=by
  have y1:_=c1:=e1
  have y2:_=c2:=e2
  rw[←y1,←y2]
 subst z1
 exact I0.ok.inj _ _ _ g1 g2
def Fi (fn x y:Str) (p1 p2 p3 p4:Pos):Expr:=.Call (.Name fn p1) [.Name x p2,.Name y p3] [] p4
theorem yx {k':Nat}{fn x y:Str}{ps:List Str}{sp:Sp}{scope:Scope}{C f:Addr}{q:Str}{cl:List (Str×Addr)}{vx vy:V}{p1 p2 p3 p4:Pos}(dk:k'≤kf) (hU:∀b',bJ X.prog X.w X.K X.mg b' k' fn ps sp) (gl:scope.names.lookup fn=some .globalImplicit)
  (kx:scope.names.lookup x=some .free) (ky:scope.names.lookup y=some .free) (dx:(x==("__debug__" :Str))=false) (dy:(y==("__debug__" :Str))=false)
  (ex:(x==("__classdict__" :Str))=false) (ey:(y==("__classdict__" :Str))=false) (DE:(fn==("__debug__" :Str))=false):
  kC X kf C f q (Fi fn x y p1 p2 p3 p4) scope cl [x,y] [vx,vy] (KH sp [vx,vy] C):=by
 intro bR cc A outer s2 H2 Q2 E2 hr pre hE
 obtain⟨g,fd,F,hg,hk,hb⟩:=hU bR
 refine⟨_,Y8 (X:=gI X.prog X.w X.K X.mg bR [x,y] q scope f (.ref cc) cl A outer s2 H2 E2) F (hr.mono dk) gl hg hk hb .nil (E:=E2) (ra (X:=gI X.prog X.w X.K X.mg bR [x,y] q scope f (.ref cc) cl A outer s2 H2 E2) (fun e s' z=>z) rfl rfl rfl)
  (Za (Jn (i:=0) rfl (.inr (.inr kx)) dx ex) (Za (Jn (i:=1) rfl (.inr (.inr ky)) dy ey) Zb)) DE,?_⟩
 exact⟨vx,rfl,vy,rfl,pre Q2 E2 hE⟩
def gJ (X:Cx) (H:Hp) (v:V) (b:Expr×Scope):Prop:=∃f:Addr,v=.ref f∧fG H f (lq X) dh b.1 b.2 (bQ b.2 X.env)
theorem gJ.same {H H':Hp}{v:V}{b:Expr×Scope}(h:gJ X H v b) (s:ag H H'):gJ X H' v b:=by
 obtain⟨f,e,l⟩:=h
 exact⟨f,e,l.same s⟩
theorem gJ.x {H H':Hp}{v:V}{b:Expr×Scope}{p:Addr}{o:HO}(h:gJ X H v b) (s:au p H H') (hp:H p=some o) (ho:∀F,o≠.ext F):gJ X H' v b:=by
 obtain⟨f,e,pm,c,ct,h1,h2⟩:=h
 exact⟨f,e,pm,c,ct,s _ _ h1 (fun z=>by rw[z,hp]at h1;cases h1;exact ho _ rfl),s _ _ h2 (fun z=>by rw[z,hp]at h2;cases h2;exact ho _ rfl)⟩
structure iG (X:Cx) (P L:Addr) (H0 H:Hp) (bs:List (Expr×Scope)):Prop where
 sx:au P H0 H
 fr:H0 L=none
 tb:TabAt H P (lq X)
 ls:∃vs,H L=some (.lst vs)∧Paired (gJ X H) vs bs
theorem iG.lst {L:Addr}{H0 H:Hp}{bs:List (Expr×Scope)}(h:iG X P L H0 H bs):∃vs,H L=some (.lst vs)∧vs.length=bs.length:=by
 obtain⟨vs,hL,pr⟩:=h.ls
 exact⟨vs,hL,Paired.length pr⟩
theorem iG.bZ {L:Addr}{H0 H H1:Hp}{bs:List (Expr×Scope)}{vs:List V}(h:iG X P L H0 H bs) (hv:H L=some (.lst vs)) (s1:au P H H1):H1 L=some (.lst vs):=by
 obtain⟨tp,tL,_⟩:=h.tb
 exact s1 _ _ hv fun z=>by rw[z,tL]at hv;cases hv
theorem iG.app {L f:Addr}{H0 H H1:Hp}{bs:List (Expr×Scope)}{bd:Expr}{sc:Scope}{vs:List V}(h:iG X P L H0 H bs) (hv:H L=some (.lst vs)) (s1:au P H H1) (t1:TabAt H1 P (lq X)) (l1:fG H1 f (lq X) dh bd sc (bQ sc X.env)):iG X P L H0 (upd H1 L (.lst (vs++[.ref f]))) (bs++[(bd,sc)]):=by
 have gF:=h.bZ hv s1
 obtain⟨sx,fr,tb,zU,hL,pr⟩:=h
 rw[hv]at hL
 cases hL
 obtain⟨tp,tL,_⟩:=id tb
 have x2:au L H1 (upd H1 L (.lst (vs++[.ref f]))):=au.upd
 have p1:Paired (gJ X (upd H1 L (.lst (vs++[.ref f])))) vs bs:=Paired.g7 pr fun v b h=> (h.x s1 tL (fun _ z=>by cases z)).x x2 gF (fun _ z=>by cases z)
 exact⟨U8 (sx.trans s1) fr,fr,tZ t1 x2 gF (fun _ z=>by cases z) (fun _ z=>by cases z),_,Zc,Paired.snoc p1 (gJ.x (b:=(bd,sc)) ⟨f,rfl,l1⟩ x2 gF (fun _ z=>by cases z))⟩
theorem Ht {H0 H1:Hp}{L f:Addr}{bd:Expr}{sc:Scope}(tb:TabAt H0 P (lq X)) (s1:au P H0 H1) (t1:TabAt H1 P (lq X)) (l1:fG H1 f (lq X) dh bd sc (bQ sc X.env)) (hL:H1 L=none):iG X P L H0 (upd H1 L (.lst [.ref f])) [(bd,sc)]:=by
 obtain⟨La,EI,_⟩:=id t1
 have s2:=Zd (o:=.lst [V.ref f]) hL
 have BX:L≠P:=fun z=>by rw[z,EI]at hL;cases hL
 have fr:H0 L=none:=by
  cases h:H0 L with
  |none=>rfl
  |some u=>rw[s1 _ _ h BX]at hL;cases hL
 exact⟨s1.trans s2.x,fr,Z0 t1 s2,_,Zc,.cons ⟨f,rfl,l1.same s2⟩ .nil⟩
end
theorem lsN {bd:Expr}{N:List Str}{scope:Scope}(h:(decide (scope.kind=.function)&& !scope.isCoroutine&& !scope.isGenerator&&scope.names.all (fun z=>z.2 !=.cell)&&scope.names.all (fun u=>u.2 !=.free||N.contains u.1)&&N.all (fun x=>scope.names.lookup x==some .free))=true):mY dh bd scope N:=by
 simp only[Bool.and_eq_true,Bool.not_eq_true',decide_eq_true_eq,beq_iff_eq,List.all_eq_true,bne_iff_ne,ne_eq,Bool.or_eq_true,List.contains_iff_mem]at h
 obtain⟨⟨⟨⟨⟨h1,h2⟩,h3⟩,h4⟩,h5⟩,h6⟩:=h
 exact⟨h1,h2,h3,h4,fun u hu e=> (h5 u hu).resolve_left fun z=>z e,h6,fun _ _ _ _ _=>rfl⟩
theorem wI {X:Cx}{x y:Str}{i j:Nat}(a:LN X x i) (b:LN X y j):∀(k:Nat) u m,([x,y]:List Str)[k]? =some u→([i,j]:List Nat)[k]? =some m→LN X u m
 |0,_,_,h1,h2=>by cases h1;cases h2;exact a
 |1,_,_,h1,h2=>by cases h1;cases h2;exact b
 |k+2,_,_,h1,h2=>by simp at h1
theorem Cc {X:Cx}{x:Str}{i:Nat}(a:LN X x i):∀(k:Nat) u m,([x]:List Str)[k]? =some u→([i]:List Nat)[k]? =some m→LN X u m
 |0,_,_,h1,h2=>by cases h1;cases h2;exact a
 |k+1,_,_,h1,h2=>by simp at h1
theorem at2 {σ:L2.St}{x y:V}{i j:Nat}(a:σ[i]? =some (some x)) (b:σ[j]? =some (some y)):∀(k m:Nat) (v:V),([i,j]:List Nat)[k]? =some m→([x,y]:List V)[k]? =some v→σ[m]? =some (some v)
 |0,_,_,h1,h2=>by cases h1;cases h2;exact a
 |1,_,_,h1,h2=>by cases h1;cases h2;exact b
 |k+2,_,_,h1,h2=>by simp at h1
theorem Fv {σ:L2.St}{x:V}{i:Nat}(a:σ[i]? =some (some x)):∀(k m:Nat) (v:V),([i]:List Nat)[k]? =some m→([x]:List V)[k]? =some v→σ[m]? =some (some v)
 |0,_,_,h1,h2=>by cases h1;cases h2;exact a
 |k+1,_,_,h1,h2=>by simp at h1
section
variable {P:Program}{w:World}{K:PySem.W.Frag}{mg:Str→Option Value}{base:Heap}
def pN (_:Hp) (x y:V):Prop:=∃z:Str,x=.str z∧y=.str z
theorem Kd {f:Addr}{fd:FuncData}(F:aP K "_law_same" "_law_same" lh f fd) (G:Gs mg):aC P w K mg base av 1 f fd ["_law_found", "_law_due"] (dW pN):=by
 refine F.ok qq (fun vs H Q E h=> ?_) (fun aq A outer s H vs Q E hr h=> ?_)
 ·obtain⟨x,y,rfl,_⟩:=h
  rfl
 ·obtain⟨x,y,rfl,⟨z,rfl,rfl⟩,q⟩:=h
  refine⟨_,Ze (ZN (ZJ (Zi (Wl (a:= "tuple") (b:= "list")) rfl G.isinstance boot_isinstance (Za (pv 1) (Za (ZH (Za (ZA (v:=.ty "tuple") rfl G.tuple boot_tuple rfl) (Za (ZA (v:=.ty "list") rfl G.list boot_list rfl) Zb))) Zb)))) ZG Zt)
   (Zk (Zu (Yp (Yj YH (Zi (Zq (c:= "bool")) rfl G.isinstance boot_isinstance (Za (pv 0) (Za (ZA (v:=.ty "bool") rfl G.bool boot_bool rfl) Zb)))
     (Zi (Zq (c:= "bool")) rfl G.isinstance boot_isinstance (Za (pv 1) (Za (ZA (v:=.ty "bool") rfl G.bool boot_bool rfl) Zb))) (bU _))
    (Yv (Yj YH (pv 0) (pv 1) (bU _)))))),?_⟩
  refine⟨_,rfl,(by show 2≤sizeLine;decide),fun t ht=> ?_⟩
  have s1:=Zd (o:=.tup [V.ty "tuple",V.ty "list"]) ht
  refine⟨z,t,_,rfl,aj.of Zc,(show _=some false from rfl),_,rfl,aF ?_⟩
  refine⟨_,rfl,_,_,_,rfl,.str z,(show _=some false from rfl),_,rfl,_,_,_,rfl,.str z,(show _=some false from rfl),rfl,_,rfl,?_⟩
  refine aw ⟨_,rfl,_,rfl,rfl,?_⟩
  have e:decide (V.str z=V.str z)=true:=decide_eq_true rfl
  rw[e]
  exact q _ s1
end
section
variable {X:Cx}{kf:Nat}{cT:Addr}
def mU (K:PySem.W.Frag) (H:Hp) (v:V):Prop:=(∃z:Str,v=.str z∧z.length≤1000∧∀wd hg xs,¬dD z wd hg xs)∨∃t,cg K H v t∧PySem.W.kitOne K t (.type "str")=some false
def Fj (fn x:Str) (p1 p2 p4:Pos):Expr:=.Call (.Name fn p1) [.Name x p2] [] p4
theorem Fp {k':Nat}{x:Str}{scope:Scope}{f:Addr}{q:Str}{cl:List (Str×Addr)}{vx:V}{p1 p2 p4:Pos}(dk:k'≤kf) (hX:∀b',bJ X.prog X.w X.K X.mg b' k' "read_lay" ["text"] (iR cT)) (hN:∀b',bJ X.prog X.w X.K X.mg b' k' "read_lay" ["text"] (iS X.K cT)) (gl:scope.names.lookup ("read_lay" :Str)=some .globalImplicit)
  (kx:scope.names.lookup x=some .free) (dx:(x==("__debug__" :Str))=false) (ex:(x==("__classdict__" :Str))=false):
  kC X kf cT f q (Fj "read_lay" x p1 p2 p4) scope cl [x] [vx] (fun H=>mU X.K H vx):=by
 intro bR cc A outer s2 H2 Q2 E2 hr pre hE
 rcases pre with ⟨z,rfl,hz,no⟩ |⟨t,ty,kt⟩
 ·obtain⟨g,fd,F,hg,hk,hb⟩:=hX bR
  refine⟨_,Y8 (X:=gI X.prog X.w X.K X.mg bR [x] q scope f (.ref cc) cl A outer s2 H2 E2) F (hr.mono dk) gl hg hk hb .nil (E:=E2) (ra (X:=gI X.prog X.w X.K X.mg bR [x] q scope f (.ref cc) cl A outer s2 H2 E2) (fun e s' z=>z) rfl rfl rfl)
   (Za (Jn (i:=0) rfl (.inr (.inr kx)) dx ex) Zb) (by decide),?_⟩
  exact⟨_,rfl,z,rfl,hz,no,hE⟩
 ·obtain⟨g,fd,F,hg,hk,hb⟩:=hN bR
  refine⟨_,Y8 (X:=gI X.prog X.w X.K X.mg bR [x] q scope f (.ref cc) cl A outer s2 H2 E2) F (hr.mono dk) gl hg hk hb .nil (E:=E2) (ra (X:=gI X.prog X.w X.K X.mg bR [x] q scope f (.ref cc) cl A outer s2 H2 E2) (fun e s' z=>z) rfl rfl rfl)
   (Za (Jn (i:=0) rfl (.inr (.inr kx)) dx ex) Zb) (by decide),?_⟩
  exact⟨vx,rfl,vx,t,rfl,ty,kt,hE⟩
end
abbrev aK:Stmt:=top 46
abbrev bh:List Str:=["_law_script", "_law_k", "_law_state_here", "_law_none", "_law_board_here", "_law_lay_here", "_law_bad", "_law_text_here", "_law_turn", "_law_things", "_law_thing", "_law_due", "_law_calls"]
theorem dH:bu bh ["_law_script"] (ar aK):=⟨rfl,rfl,rfl,by decide+kernel,rfl,by decide+kernel,by decide+kernel⟩
def bL:List Stmt:=match bD aK with | .For _ _ b _ _::_=>b |_=> []
section
variable {P:Program}{w:World}{K:PySem.W.Frag}{mg:Str→Option Value}{base:Heap}
structure fZ (K:PySem.W.Frag) (H:Hp) (vn vb:V) (b:Addr) (wd hg:Int):Prop where
 bn:fL K H vn
 bl:gb K wd hg H vb
 hb:H b=some (.tup [.int wd,.int hg])
 bd:1≤wd∧wd≤12∧1≤hg∧hg≤12
theorem fZ.same {H H':Hp}{vn vb:V}{b:Addr}{wd hg:Int}(h:fZ K H vn vb b wd hg) (s:ag H H'):fZ K H' vn vb b wd hg:=⟨h.bn.same s,h.bl.same s,s _ _ h.hb,h.bd⟩
theorem fZ.xt {H H':Hp}{vn vb:V}{b Pt:Addr}{wd hg:Int}{tp:Array Value}(h:fZ K H vn vb b wd hg) (s:au Pt H H') (hp:H Pt=some (.bS tp)):fZ K H' vn vb b wd hg:=
 ⟨Wc h.bn s (WB h.bn.1 hp),Gj h.bl s (WB h.bl.1 hp),s _ _ h.hb (fun z=>by have e:=h.hb;rw[z,hp]at e;cases e),h.bd⟩
theorem tail3 {f c:Addr}{A:Around}{outer:List Env}{s:Shared}{H0:Hp}{E:XK}{cS Pt fR cB cL:Addr}(C:LCtx (aG av P w K mg base bh "law" (ar aK) f (.ref c) A outer s H0 E).aV cS c Pt fR 8) (gw:(aG av P w K mg base bh "law" (ar aK) f (.ref c) A outer s H0 E).aV.A.units+1<cLine)
  (hP:∀b',bJ P w K mg b' 7 "lay_text" ["board", "lay"] (fM K cB cL)) (M0:dc K mg cS cB 0) (M1:dc K mg cS cL 1):
  ∃t,cC (aG av P w K mg base bh "law" (ar aK) f (.ref c) A outer s H0 E).aV (bL.drop 8) t∧
  ∀(D:Ends) (s0 s1 s2 s5 s7 s8 s9 aO aU bN:Option V) (vn vb:V) (b:Addr) (wd hg:Int) (H:Hp),fZ K H vn vb b wd hg→TabAt H Pt (lq (aG av P w K mg base bh "law" (ar aK) f (.ref c) A outer s H0 E).aV)→
   (∀L H',au Pt H H'→TabAt H' Pt (lq (aG av P w K mg base bh "law" (ar aK) f (.ref c) A outer s H0 E).aV)→D.nx [s0,s1,s2,some vn,some (.ref b),s5,some vb,s7,s8,s9,aO,aU,some (.ref L)] H')→
   t D [s0,s1,s2,some vn,some (.ref b),s5,some vb,s7,s8,s9,aO,aU,bN] H:=by
 have n3:LN (aG av P w K mg base bh "law" (ar aK) f (.ref c) A outer s H0 E).aV "_law_none" 3:=⟨rfl,rfl,rfl⟩
 have n4:LN (aG av P w K mg base bh "law" (ar aK) f (.ref c) A outer s H0 E).aV "_law_board_here" 4:=⟨rfl,rfl,rfl⟩
 have n6:LN (aG av P w K mg base bh "law" (ar aK) f (.ref c) A outer s H0 E).aV "_law_bad" 6:=⟨rfl,rfl,rfl⟩
 refine⟨_,Ze (Zp (i:=12) dH.nd rfl (Or.inl rfl) (Zx (Za (uj (params:=dh) C.lam rfl (UB (by kernel_rfl))) Zb)))
    (Ze (Ys (Yi PySem.F.plainAttrs_list PySem.F.slot_list_append PySem.F.type_list_append YO (pv 12) (Za (uj (params:=dh) C.lam rfl (UB (by kernel_rfl))) Zb)))
    (Zk (ZN (ZU (GP gw) (HV ["_law_call"] 1 [] (Yt (pv 12)) (fun C s H fp=>pb 0) (fun C s H fp=>Z4) (fun pins σ B s H fp D I0 hf=>df rfl (GW (kf:=8) C.hR C.room C.mR C.kR I0 hf rfl (pv 0)))) (Zx (Za (Zx (Za Zf Zb)) (Za (Zx (Za Zf Zb)) Zb))) (bU _)) ZG Zt))),?_⟩
 intro D s0 s1 s2 s5 s7 s8 s9 aO aU bN vn vb b wd hg H o8 p9 q
 have ko:∀{H'},fZ K H' vn vb b wd hg→cN H' (.ref b) wd hg:=fun h=> ⟨Zo h.hb,h.bd⟩
 refine Zn (Zw ⟨p9,fun pC KR Bd _ Ag Cm=> ⟨(by show 1≤sizeLine;decide),fun L hL=>Zl ?_⟩⟩)
 have m1:=Ht p9 Bd Ag Cm hL
 generalize upd KR L (.lst [V.ref pC])=kz at m1
 dsimp only[List.set]
 obtain⟨bf,gF,Ct⟩:=m1.lst
 refine Zn ⟨_,rfl,.inl ⟨rfl,_,ak.of gF⟩,m1.tb,fun yf KQ vI _ Af Ck=> ⟨L,bf,.ref yf,rfl,rfl,m1.bZ gF vI,(by rw[Ct,sizeLine_eq];decide),?_⟩⟩
 have m2:=m1.app gF vI Af Ck
 generalize upd KQ L (.lst (bf++[V.ref yf]))=KP at m2
 try dsimp only
 obtain⟨vq,LU,uW,kG,xW,vX⟩:=m2
 have l6:kG.length=2:=Paired.length vX
 obtain⟨zZ,tK,_⟩:=id p9
 have Dp:=o8.xt vq tK
 refine⟨_,rfl,L,rfl,⟨kG,ak.of xW⟩,?_⟩
 refine Ym (xs:=kG) (fun j zs σ Hj=> ∃v0,σ=[v0]∧ag KP Hj∧Paired (fF Hj) zs (([[0],[1]]:List (List Int)).take j)) ⟨_,rfl,ag.refl _,.nil⟩ (fun j zs σ Hj _ ⟨_,_,s8,_⟩=>ak.of (s8 _ _ xW)) ?_ ?_
 ·rintro j v zs σ Hj hv ⟨v0,rfl,sj,lF⟩
  obtain⟨bb,jm,lm⟩:=Wv vX hv
  obtain⟨g,rfl,wJ⟩:=lm.same sj
  have hj:j<kG.length:=(List.getElem?_eq_some_iff.mp hv).1
  obtain⟨K9,EH,_⟩:=id uW
  have j9:=Dp.xt sj.x EH
  have lz:zs.length≤2:=by rw[Paired.length lF];exact List.length_take_le' ..
  suffices h:∃iC:Nat,([[0],[1]]:List (List Int))[j]? =some [(iC:Int)]∧∃params bd scope N idx ws C Pre,zM (aG av P w K mg base bh "law" (ar aK) f (.ref c) A outer s H0 E).aV cS 8 [s0,s1,s2,some vn,some (.ref b),s5,some vb,s7,s8,s9,aO,aU,some (.ref L)] Hj g iC params bd scope N idx ws C Pre by
   obtain⟨iC,Dw,h⟩:=h
   refine⟨g,iC,rfl,h,fun l1 H9 s9 _ e9=> ⟨by rw[sizeLine_eq];omega,_,rfl,sj.trans s9,?_⟩⟩
   rw[List.take_add_one,Dw]
   exact Paired.snoc (Paired.g7 lF fun v q' h=>h.same s9) ⟨l1,rfl,e9⟩
  match j,jm,hj with
  |0,jm,_=>
   cases jm
   exact⟨0,rfl,dh,_,_,_,[3,6],[vn,vb],cB,_,⟨lsN (by kernel_rfl),rfl,wI n3 n6,rfl,at2 rfl rfl,UB (by kernel_rfl),wJ,by decide,M0,yx (by decide) hP rfl rfl rfl (by decide) (by decide) (by decide) (by decide) (by decide),fun Q' E' hE=> ⟨vn,vb,cB,rfl,.inl ⟨rfl,j9.bn⟩,hE⟩⟩⟩
  |1,jm,_=>
   cases jm
   exact⟨1,rfl,dh,_,_,_,[4,6],[.ref b,vb],cL,_,⟨lsN (by kernel_rfl),rfl,wI n4 n6,rfl,at2 rfl rfl,UB (by kernel_rfl),wJ,by decide,M1,yx (by decide) hP rfl rfl rfl (by decide) (by decide) (by decide) (by decide) (by decide),fun Q' E' hE=> ⟨.ref b,vb,cL,rfl,.inr ⟨rfl,wd,hg,ko j9,j9.bl⟩,hE⟩⟩⟩
  |j+2,_,h=>omega
 rintro zs σ cU ⟨v0,rfl,fq,lF⟩ Z hZ
 rw[l6]at lF
 have sZ:=Zd (o:=.lst zs) hZ
 have eZ:upd cU Z (.lst zs) Z=some (.lst zs):=Zc
 generalize upd cU Z (HO.lst zs)=fK at sZ eZ
 have one:∀{H:Hp}{a:Addr}{n:Int},H a=none→ag H (upd H a (.lst [V.int n]))∧fF (upd H a (.lst [V.int n])) (.ref a) [n]:=fun h=> ⟨Zd h,_,rfl,Zc⟩
 refine⟨(by show 1≤sizeLine;decide),fun a1 h1=> ?_⟩
 obtain⟨y1,z1⟩:=one (n:=0) h1
 generalize upd fK a1 (HO.lst [V.int 0])=G1 at y1 z1
 refine⟨(by show 1≤sizeLine;decide),fun a2 h2=> ?_⟩
 obtain⟨y2,z2⟩:=one (n:=1) h2
 generalize upd G1 a2 (HO.lst [V.int 1])=G2 at y2 z2
 refine⟨(by show 2≤sizeLine;decide),fun a7 h7=> ?_⟩
 have y7:=Zd (o:=.lst [V.ref a1,.ref a2]) h7
 have uN:=y2.trans y7
 have pV:=y1.trans uN
 have sf:=fq.trans (sZ.trans pV)
 refine⟨Z,a7,zs,_,_,rfl,rfl,ak.of (pV _ _ eZ),ak.of Zc,Paired.g7 lF fun v q' h=>h.same (sZ.trans pV),.cons (z1.same uN) (.cons (z2.same y7) .nil),_,rfl,aF (ZW ?_)⟩
 exact q L _ (vq.trans sf.x) (Z0 uW sf)
end
def Tg (p:Addr) (H:Hp) (v:V):Prop:=(∃z:Str,v=.str z∧z.length≤1000)∨v=.ae∨(∃i:Int,v=.int i)∨∃(a:Addr) (xs:List V),v=.ref a∧a≠p∧(H a=some (.tup xs)∨H a=some (.lst xs))
theorem Tg.y {p q:Addr}{H H':Hp}{v:V}(h:Tg p H v) (s:∀a xs,a≠p→(H a=some (.tup xs)∨H a=some (.lst xs))→(H' a=some (.tup xs)∨H' a=some (.lst xs))):Tg p H' v:=by
 rcases h with h |h |h |⟨a,xs,e,n,h⟩
 ·exact .inl h
 ·exact .inr (.inl h)
 ·exact .inr (.inr (.inl h))
 ·exact .inr (.inr (.inr ⟨a,xs,e,n,s a xs n h⟩))
theorem Tg.same {p:Addr}{H H':Hp}{v:V}(h:Tg p H v) (s:ag H H'):Tg p H' v:=Tg.y (q:=p) h fun a xs _ e=>e.elim (fun e=> .inl (s _ _ e)) fun e=> .inr (s _ _ e)
theorem Tg.x {p:Addr}{H H':Hp}{v:V}(h:Tg p H v) (s:au p H H'):Tg p H' v:=Tg.y (q:=p) h fun a xs n e=>e.elim (fun e=> .inl (s _ _ e n)) fun e=> .inr (s _ _ e n)
theorem Tg.xt {p Pt:Addr}{H H':Hp}{v:V}{tp:Array Value}(h:Tg p H v) (s:au Pt H H') (hp:H Pt=some (.bS tp)):Tg p H' v:=Tg.y (q:=p) h fun a xs n e=>by
 rcases e with e |e
 ·exact .inl (s _ _ e fun z=>by rw[z,hp]at e;cases e)
 ·exact .inr (s _ _ e fun z=>by rw[z,hp]at e;cases e)
theorem yJ {p:Addr}{H H':Hp}{v:V}(h:Tn H H' v) (st:∀a,H a=none→a≠p):Tg p H' v:=by
 rcases h with h |h |h |⟨a,xs,e,n,h⟩
 ·exact .inl h
 ·exact .inr (.inl h)
 ·exact .inr (.inr (.inl h))
 ·exact .inr (.inr (.inr ⟨a,xs,e,st a n,.inl h⟩))
theorem Tg.no {K:PySem.W.Frag}{p:Addr}{H:Hp}{v:V}(h:Tg p H v) (n:∀z:Str,v≠.str z):∃t,cg K H v t∧PySem.W.kitOne K t (.type "str")=some false:=by
 rcases h with ⟨z,e,_⟩ |rfl |⟨i,rfl⟩ |⟨a,xs,rfl,_,h |h⟩
 ·exact absurd e (n z)
 ·exact⟨_,.ae,rfl⟩
 ·exact⟨_,.int i,rfl⟩
 ·exact⟨_,.tup h,rfl⟩
 ·exact⟨_,.lst h,rfl⟩
structure LoopAt (K:PySem.W.Frag) (Pt:Addr) (qn:Str) (a:Addr) (ns:List Int) (p:Addr) (vn vb:V) (b:Addr) (wd hg:Int) (F:Addr) (vs:List V) (H:Hp):Prop where
 sc:cu K H a ns
 tb:TabAt H Pt qn
 hd:fZ K H vn vb b wd hg
 tg:∀v∈vs,Tg p H v
 fl:H F=some (.lst vs)
section
variable {K:PySem.W.Frag}{Pt:Addr}{qn:Str}{a:Addr}{ns:List Int}{p:Addr}{vn vb:V}{b:Addr}{wd hg:Int}{F:Addr}{vs:List V}{H H':Hp}
theorem LoopAt.same (h:LoopAt K Pt qn a ns p vn vb b wd hg F vs H) (s:ag H H'):LoopAt K Pt qn a ns p vn vb b wd hg F vs H':=⟨h.sc.same s,Z0 h.tb s,h.hd.same s,fun v hv=> (h.tg v hv).same s,s _ _ h.fl⟩
theorem LoopAt.x (h:LoopAt K Pt qn a ns p vn vb b wd hg F vs H) (s:au Pt H H') (t:TabAt H' Pt qn):LoopAt K Pt qn a ns p vn vb b wd hg F vs H':=by
 obtain⟨ps,hp,_⟩:=h.tb
 exact⟨h.sc.x s hp (fun _ _ z=>by cases z),t,h.hd.xt s hp,fun v hv=> (h.tg v hv).xt s hp,s _ _ h.fl (fun z=>by have:=h.fl;rw[z,hp]at this;cases this)⟩
end
structure fI (K:PySem.W.Frag) (p:Addr) (H:Hp) (vn vb:V) (b:Addr) (wd hg:Int):Prop where
 bn:fL K H vn
 nr:fY p H vn
 bq:bc K p wd hg H vb
 hb:H b=some (.tup [.int wd,.int hg])
 bd:1≤wd∧wd≤12∧1≤hg∧hg≤12
theorem fI.held {K:PySem.W.Frag}{p:Addr}{H:Hp}{vn vb:V}{b:Addr}{wd hg:Int}(h:fI K p H vn vb b wd hg):fZ K H vn vb b wd hg:=⟨h.bn,h.bq.1,h.hb,h.bd⟩
theorem fI.same {K:PySem.W.Frag}{p:Addr}{H H':Hp}{vn vb:V}{b:Addr}{wd hg:Int}(h:fI K p H vn vb b wd hg) (s:ag H H'):fI K p H' vn vb b wd hg:=⟨h.bn.same s,⟨h.nr.1,fun xs e=>h.nr.2 xs (by rw[←Yn h.bn.1.1 s];exact e)⟩,h.bq.same s,s _ _ h.hb,h.bd⟩
theorem fI.x {K:PySem.W.Frag}{p:Addr}{H H':Hp}{vn vb:V}{b:Addr}{wd hg:Int}(h:fI K p H vn vb b wd hg) (s:au p H H') (st:bo H p):fI K p H' vn vb b wd hg:=by
 obtain⟨u,v,e,_⟩:=id st
 exact⟨Wc h.bn s h.nr,JF h.bn.1.1 s h.nr.1 h.nr,h.bq.x s st,s _ _ h.hb (fun z=>by have:=h.hb;rw[z,e]at this;cases this),h.bd⟩
theorem Jq {H:Hp}{wd hg:Int} :∀{xs:List V},(∀v∈xs,v=.ae∨∃i,v=.int i)→Paired (Rl H) xs xs
 | [],_=> .nil
 |v::xs,h=> .cons (by rcases h v List.mem_cons_self with rfl |⟨i,rfl⟩;exact .inr (.inr ⟨rfl,rfl⟩);exact .inl ⟨i,rfl,rfl⟩) (Jq (wd:=wd) (hg:=hg) fun u hu=>h u (List.mem_cons_of_mem _ hu))
section
variable {X:Cx}
def kI:List Expr:=match bL.drop 5 with | .Assign _ (.List es _) _::_=>es |_=> []
def kH:List Expr:=match bL.drop 6 with | .Assign _ (.BinOp _ _ (.List es _) _) _::_=>es |_=> []
def A0 (a b:List Expr):List Stmt:=match bL.drop 5 with | .Assign x (.List _ p1) p2:: .Assign y (.BinOp u o (.List _ q1) q2) q3::r=> .Assign x (.List a p1) p2:: .Assign y (.BinOp u o (.List b q1) q2) q3::r |_=> []
theorem HJ:bL.drop 5=A0 kI kH:=by kernel_rfl
theorem Ic:kI.length=11:=by kernel_rfl
theorem Ie:kH.length=7:=by kernel_rfl
theorem B1:MulOk (Str.ofString " .") 13:=⟨by decide,by decide+kernel,by decide+kernel⟩
theorem Ep:iK X kH:=ZE (Ya (by decide+kernel)) (ZE (Ya (by decide+kernel)) (ZE (Ya (by decide+kernel)) (ZE (Ya (by decide+kernel)) (ZE (Ya (by decide+kernel)) (ZE (Ya (by decide+kernel)) (ZE Gw zo))))))
theorem Er:iK X kI:=ZE (Ya (by decide+kernel)) (ZE (Ya (by decide+kernel)) (ZE (Ya (by decide+kernel)) (ZE (Ya (by decide+kernel)) (ZE (Ya (by decide+kernel)) (ZE (Ya (by decide+kernel)) (ZE (Ya (by decide+kernel)) (ZE (Gr B1 (by decide+kernel)) (ZE (Ya (by decide+kernel)) (ZE Gu (ZE Gq zo))))))))))
end
theorem FK {K:PySem.W.Frag}{p:Addr}{H H':Hp}{v:V}(h:mU K H v) (t:Tg p H' v):mU K H' v:=by
 by_cases hs:∃z:Str,v=.str z
 ·obtain⟨z,rfl⟩:=hs
  rcases h with h |⟨t,ty,kt⟩
  ·exact .inl h
  ·cases ty
   rw[W7]at kt
   cases kt
 ·exact .inr (t.no fun z e=>hs ⟨z,e⟩)
theorem Gh {K:PySem.W.Frag}{H:Hp}{v:V}{Q:VK}{E:XK}(h:mU K H v) (q:∀H',ag H H'→Q .ae H'):jI K [v] H Q E:=by
 rcases h with ⟨z,rfl,hz,no⟩ |⟨t,ty,kt⟩
 ·exact⟨_,rfl,.inl ⟨z,rfl,hz,fun wd hg xs _ _ _ _ wr=>absurd wr (no wd hg xs),fun _ H' s=>q H' s⟩⟩
 ·exact⟨_,rfl,.inr ⟨t,ty,kt,q H (ag.refl H)⟩⟩
theorem HM {K:PySem.W.Frag}{p:Addr}{H:Hp}{v:V}(t:Tg p H v):(∃(z:Str) (wd hg:Int) (xs:List V),v=.str z∧z.length≤1000∧dD z wd hg xs)∨mU K H v:=by
 by_cases hs:∃z:Str,v=.str z
 ·obtain⟨z,rfl⟩:=hs
  have hz:z.length≤1000:=by
   rcases t with ⟨z',e,h⟩ |e |⟨i,e⟩ |⟨a,xs,e,_⟩
   ·cases e;exact h
   ·cases e
   ·cases e
   ·cases e
  by_cases hw:∃wd hg xs,dD z wd hg xs
  ·obtain⟨wd,hg,xs,hw⟩:=hw
   exact .inl ⟨z,wd,hg,xs,rfl,hz,hw⟩
  ·exact .inr (.inl ⟨z,rfl,hz,fun wd hg xs h=>hw ⟨wd,hg,xs,h⟩⟩)
 ·exact .inr (.inr (t.no fun z e=>hs ⟨z,e⟩))
theorem Wu {H:Hp}{p b l p' b' l':Addr}{wd hg:Int}{xs:List V}(ly:cD wd hg xs) (w:wd≤12) (hp:H p=some (.tup [.ref b,.ref l])) (hb:H b=some (.tup [.int wd,.int hg])) (hl:H l=some (.tup xs)) (jg:H p'=some (.tup [.ref b',.ref l'])) (eR:H b'=some (.tup [.int wd,.int hg])) (gB:H l'=some (.tup xs)):dE (dE Rl) H (.ref p) (.ref p'):=by
 have:=ly.len
 refine⟨p,p',_,_,rfl,rfl,hp,jg,.cons ⟨b,b',_,_,rfl,rfl,hb,eR,Jq (wd:=wd) (hg:=hg) fun v hv=> ?_,by show 2≤1000;decide⟩ (.cons ⟨l,l',_,_,rfl,rfl,hl,gB,Jq (wd:=wd) (hg:=hg) ly.ok,by omega⟩ .nil),by show 2≤1000;decide⟩
 simp only[List.mem_cons,List.not_mem_nil,or_false]at hv
 rcases hv with rfl |rfl
 ·exact .inr ⟨_,rfl⟩
 ·exact .inr ⟨_,rfl⟩
section
variable {P:Program}{w:World}{K:PySem.W.Frag}{mg:Str→Option Value}{base:Heap}
theorem Ad {f c:Addr}{A:Around}{outer:List Env}{s:Shared}{H0:Hp}{E:XK}{cS Pt fR cB cL cT:Addr}(G:Gs mg) (C:LCtx (aG av P w K mg base bh "law" (ar aK) f (.ref c) A outer s H0 E).aV cS c Pt fR 8) (gw:(aG av P w K mg base bh "law" (ar aK) f (.ref c) A outer s H0 E).aV.A.units+1<cLine)
  (hP:∀b',bJ P w K mg b' 7 "lay_text" ["board", "lay"] (fM K cB cL)) (hX:∀b',bJ P w K mg b' 8 "read_lay" ["text"] (iR cT)) (hN:∀b',bJ P w K mg b' 8 "read_lay" ["text"] (iS K cT))
  (M0:dc K mg cS cB 0) (M1:dc K mg cS cL 1) (mW:dc K mg cS cT 12)
  (nE:Def P w K mg base 2 "_law_bent" ["_law_state_here", "_law_text_here"] kT) (nA:Def P w K mg base 3 "_law_read" ["_law_thing"] (jI K)) (jz:Def P w K mg base 8 "read_lay" ["text"] jH) (kA:Def P w K mg base 3 "_law_same" ["_law_found", "_law_due"] (dW (dE (dE Rl)))):
  ∃t,cC (aG av P w K mg base bh "law" (ar aK) f (.ref c) A outer s H0 E).aV (bL.drop 5) t∧
  ∀(D:Ends) (a p b l:Addr) (ns:List Int) (s1 s8 s9 aO aU bN:Option V) (vn vb:V) (wd hg:Int) (xs:List V) (z:Str) (H:Hp),cu K H a ns→TabAt H Pt (lq (aG av P w K mg base bh "law" (ar aK) f (.ref c) A outer s H0 E).aV)→bo H p→fI K p H vn vb b wd hg→dD z wd hg xs→
   (∀u1 u8 u9 fh fg iO H',cu K H' a ns→TabAt H' Pt (lq (aG av P w K mg base bh "law" (ar aK) f (.ref c) A outer s H0 E).aV)→D.nx [some (.ref a),u1,some (.ref p),some vn,some (.ref b),some (.ref l),some vb,some (.str z),u8,u9,fh,fg,iO] H')→
   t D [some (.ref a),s1,some (.ref p),some vn,some (.ref b),some (.ref l),some vb,some (.str z),s8,s9,aO,aU,bN] H:=by
 have B0:LN (aG av P w K mg base bh "law" (ar aK) f (.ref c) A outer s H0 E).aV "_law_thing" 10:=⟨rfl,rfl,rfl⟩
 have hr:=C.room
 obtain⟨t3,r3,h3⟩:=tail3 C gw hP M0 M1
 rw[HJ]
 have g1:iK (aG av P w K mg base bh "law" (ar aK) f (.ref c) A outer s H0 E).aV kI:=Er
 have g2:iK (aG av P w K mg base bh "law" (ar aK) f (.ref c) A outer s H0 E).aV kH:=Ep
 have k1:=Ic
 have k2:=Ie
 generalize kI=yo at g1 k1
 generalize kH=yn at g2 k2
 refine⟨_,Ze (Zp (i:=9) dH.nd rfl (Or.inl rfl) (Zx (uh g1)))
   (Ze (Zp (i:=9) dH.nd rfl (Or.inl rfl) (Zm ZZ (pv 9) (Zx (uh g2))))
   (Ze (YF PassesOwn.never rfl (Yt (Zm ZZ (pv 9) (Ye ["_law_turn", "_law_state_here", "_law_text_here"] 1 [2,7] (Yd rfl G.range (Za Zf Zb)) (fun C s H fp=>pb 0) (fun C s H fp=>Z4) (fun C s H fp D=>df rfl (Zj nE (hr.mono (by decide)) (Za (pv 1) (Za (pv 2) Zb))))))) (ZI (i:=10) dH.nd rfl (Or.inr rfl))
    (Ze (Zp (i:=11) dH.nd rfl (Or.inl rfl) (Zj nA (hr.mono (by decide)) (Za (pv 10) Zb)))
    (Zk (ZN (YI (W1 (pv 11)))
     (Zk (ZN (ZU (GO (Nat.lt_of_succ_lt gw)) (GX (idx:=[10]) (N:=["_law_thing"]) (params:=dh) C (lsN (by kernel_rfl)) rfl (Cc B0) rfl rfl (UB (by kernel_rfl))) (Zx (Za Zf Zb)) (bU _)) ZG Zt))
     (Zk (ZN (Yc (ZJ (Zj kA (hr.mono (by decide)) (Z9 (Zj jz (hr.mono (by decide)) (Za (pv 10) Zb)) (Za (pv 11) Zb))))) ZG Zt))))))
   r3)),?_⟩
 intro D a p b l ns s1 w8 w9 K6 K5 aY vn vb wd hg xs z H sc tb st o8 wr q
 have uY:∀{H H':Hp},au p H H'→bo H p→TabAt H Pt (lq (aG av P w K mg base bh "law" (ar aK) f (.ref c) A outer s H0 E).aV)→TabAt H' Pt (lq (aG av P w K mg base bh "law" (ar aK) f (.ref c) A outer s H0 E).aV):=fun x ⟨u,v,e,_⟩ t=>tZ t x e (fun _ z=>by cases z) (fun _ z=>by cases z)
 generalize xc:lq (aG av P w K mg base bh "law" (ar aK) f (.ref c) A outer s H0 E).aV=qn at tb q h3 uY
 have ft:∀{H:Hp}{l:Addr},bo H p→H l=none→l≠p:=fun⟨_,_,e,_⟩ h z=>by rw[z,e]at h;cases h
 refine Zn (Zw fun bf H1 Bf l1 t1=> ⟨by rw[l1,k1,sizeLine_eq];decide,fun T1 DX=>Zl ?_⟩)
 rw[k1]at l1
 have s2:=Zd (o:=.lst bf) DX
 have e2:upd H1 T1 (.lst bf) T1=some (.lst bf):=Zc
 generalize upd H1 T1 (HO.lst bf)=H2 at s2 e2
 dsimp only[List.set]
 have pC:∀v∈bf,Tg p H2 v:=fun v hv=> (yJ (t1 v hv) fun a h=>ft st h).same s2
 have bN:=Bf.trans s2
 refine Zn (Zw ⟨_,rfl,fun bp H3 s3 l3 vj=> ⟨by rw[l3,k2,sizeLine_eq];decide,fun T2 DW=> ?_⟩⟩)
 rw[k2]at l3
 have s4:=Zd (o:=.lst bp) DW
 have e4:upd H3 T2 (.lst bp) T2=some (.lst bp):=Zc
 generalize upd H3 T2 (HO.lst bp)=H4 at s4 e4
 refine⟨T1,T2,_,_,rfl,rfl,(s3.trans s4) _ _ e2,e4,by rw[l1,l3,sizeLine_eq];decide,fun T3 xU=>Zl ?_⟩
 have s5:=Zd (o:=.lst (bf++bp)) xU
 have e5:upd H4 T3 (.lst (bf++bp)) T3=some (.lst (bf++bp)):=Zc
 have vK:=bN.trans (s3.trans s4)
 have BW:=ft (st.same vK) xU
 generalize upd H4 T3 (HO.lst (bf++bp))=H5 at s5 e5
 dsimp only[List.set]
 have oA:=vK.trans s5
 have bF:=st.same oA
 have g5:∀v∈bf++bp,Tg p H5 v:=fun v hv=>by
  rcases List.mem_append.mp hv with hv |hv
  ·exact(pC v hv).same (s3.trans (s4.trans s5))
  ·exact(yJ (vj v hv) fun a h=>ft (st.same bN) h).same (s4.trans s5)
 have lv:(bf++bp).length=18:=by rw[List.length_append,l1,l3]
 generalize bf++bp=vs at e5 g5 lv
 have vG:=sc.same oA
 have uV:=Z0 tb oA
 have xC:=o8.same oA
 clear t1 vj pC o8 sc tb
 refine Zn ⟨_,rfl,9,rfl,by decide,by decide,?_⟩
 refine YG (n:=(9:Int).toNat) (fun j ys af H'=>ys.length=j∧au p H5 H'∧bo H' p∧(∀v∈ys,Tg p H' v)∧∃v,af=[v,some (.ref p),some (.str z)]) ⟨rfl,au.refl _ _,bF,(fun v h=>by cases h),none,rfl⟩ ?_ ?_
 ·rintro j ys af H' hj ⟨ly,sx,cE,gy,v,rfl⟩
  have j9:j<9:=hj
  refine Zl ?_
  dsimp only[List.set]
  try unfold gj
  refine aw ⟨_,rfl,_,rfl,p,z,wd,hg,xs,rfl,cE,wr,fun u H6 x6 du hv=> ⟨by rw[ly,sizeLine_eq];omega,by rw[List.length_append,ly];rfl,sx.trans x6,du,fun y hy=> ?_,_,rfl⟩⟩
  rcases List.mem_append.mp hy with hy |hy
  ·exact(gy y hy).x x6
  ·rw[List.mem_singleton]at hy
   subst hy
   rcases hv with hv |⟨a',rfl,n,h⟩
   ·exact .inl hv
   ·exact .inr (.inr (.inr ⟨a',_,rfl,n,.inr h⟩))
 rintro ys af H6 ⟨ly,x6,du,gy,v,rfl⟩ L hL
 have B9:ys.length=9:=ly
 have s7:=Zd (o:=.lst ys) hL
 have e7:upd H6 L (.lst ys) L=some (.lst ys):=Zc
 generalize upd H6 L (HO.lst ys)=H7 at s7 e7
 refine⟨T3,L,_,_,rfl,rfl,s7 _ _ (x6 _ _ e5 BW),e7,by rw[lv,B9,sizeLine_eq];decide,fun F hF=> ⟨F,rfl,⟨_,ak.of Zc⟩,?_⟩⟩
 have s8:=Zd (o:=.lst (vs++ys)) hF
 have e8:upd H7 F (.lst (vs++ys)) F=some (.lst (vs++ys)):=Zc
 generalize upd H7 F (HO.lst (vs++ys))=H8 at s8 e8
 have lB:=s7.trans s8
 have la:LoopAt K Pt qn a ns p vn vb b wd hg F (vs++ys) H8:=⟨(vG.x x6 (Classical.choose_spec bF|>.choose_spec.1) (fun _ _ z=>by cases z)).same lB,Z0 (uY x6 bF uV) lB,((xC.x x6 bF).same lB).held,fun v hv=>by
  rcases List.mem_append.mp hv with hv |hv
  ·exact((g5 v hv).x x6).same lB
  ·exact(gy v hv).same lB,e8⟩
 generalize vs++ys=ws at la
 clear s8 e8 e7 s7 gy g5 e5 vG uV xC
 refine UL (xs:=ws) (fun j σ H'=> ∃fh fg,σ=[some (.ref a),s1,some (.ref p),some vn,some (.ref b),some (.ref l),some vb,some (.str z),w8,some (.ref T3),fh,fg,aY]∧LoopAt K Pt qn a ns p vn vb b wd hg F ws H') ⟨_,_,rfl,la⟩ (fun j σ H' _ ⟨_,_,_,la⟩=>ak.of la.fl) ?_ ?_
 ·rintro j v σ H9 hv ⟨fh,fg,rfl,la⟩
  have tg:=la.tg v (List.mem_of_getElem? hv)
  refine Zl ?_
  dsimp only[List.set]
  rcases HM (K:=K) tg with ⟨z',nN,il,ff,rfl,dA,zR⟩ |no
  ·refine Zn (Zw ⟨_,rfl,_,rfl,.inl ⟨z',rfl,dA,fun zS DD zP dp db dl gN pZ aO hp hb hl=>Zl ?_,fun no=>absurd zR (no _ _ _)⟩⟩)
   dsimp only[List.set]
   refine⟨_,rfl,_,rfl,aF ?_⟩
   refine⟨_,rfl,z',zS,DD,zP,rfl,dA,pZ,fun L0 L6 L5 gM aU jg eR gB=> ⟨_,rfl,_,_,rfl,Wu pZ.2.2.2.2.1 pZ.2.1 jg eR gB (aU _ _ hp) (aU _ _ hb) (aU _ _ hl),fun uA bN=> ⟨_,rfl,aF (ZW ?_)⟩⟩⟩
   exact⟨_,_,rfl,la.same (aO.trans (aU.trans bN))⟩
  ·refine Zn (Zw ⟨_,rfl,JY (Gh no fun gN aO=>Zl ?_)⟩)
   dsimp only[List.set]
   have rH:=la.same aO
   refine⟨_,rfl,_,rfl,aw ?_⟩
   obtain⟨zZ,tK,_⟩:=id rH.tb
   refine⟨[v],cT,12,_,rfl,Fv rfl,by rw[xc];exact rH.tb,by decide,mW,fun f=>Fp (by decide) hX hN rfl rfl (by decide) (by decide),fun H' x'=>FK no ((tg.same aO).xt x' tK),fun l1 gM zQ vp nl e11=> ?_⟩
   rw[xc]at vp
   refine⟨(by show 1≤sizeLine;decide),fun L2 ki=> ⟨l1,L2,[12],rfl,rfl,Zd ki _ _ e11,Zc,_,rfl,aF (ZW ?_)⟩⟩
   exact⟨_,_,rfl,(rH.x zQ vp).same (Zd ki)⟩
 ·rintro σ H9 ⟨fh,fg,rfl,la⟩
  refine h3 _ _ _ _ _ _ _ _ _ _ _ vn vb b wd hg H9 la.hd la.tb fun L' H' x' t'=> ?_
  exact q _ _ _ _ _ _ H' (la.x x' t').sc t'
def A1 (r:List Stmt):List Stmt:=match bL with |a::b::c::d::e::_=>a::b::c::d::e::r |_=> []
theorem HI:bL=A1 (bL.drop 5):=by kernel_rfl
def AZ (b:List Stmt):List Stmt:=match bD aK with | [.For x y _ d e,r]=> [.For x y b d e,r] |_=> []
theorem HL:bD aK=AZ bL:=by kernel_rfl
theorem Ae {f c:Addr}{A:Around}{outer:List Env}{s:Shared}{H0:Hp}{E:XK}{cS Pt fR cB cL cT:Addr}(G:Gs mg) (C:LCtx (aG av P w K mg base bh "law" (ar aK) f (.ref c) A outer s H0 E).aV cS c Pt fR 8) (gw:(aG av P w K mg base bh "law" (ar aK) f (.ref c) A outer s H0 E).aV.A.units+1<cLine)
  (uD:Def P w K mg base 2 "_law_state" ["_law_script", "_law_k"] (nY K)) (uF:Def P w K mg base 2 "_law_no_board" ["_law_state_here"] (n8 K)) (uJ:Def P w K mg base 2 "_law_board" ["_law_state_here", "_law_upto"] og)
  (uI:Def P w K mg base 2 "_law_lay" ["_law_state_here", "_law_board_here"] (oa K)) (nC:Def P w K mg base 2 "_law_no_lay" ["_law_state_here", "_law_board_here", "_law_lay_here"] (nZ K)) (uC:Def P w K mg base 1 "_law_text" ["_law_board_here", "_law_lay_here"] fj)
  (nE:Def P w K mg base 2 "_law_bent" ["_law_state_here", "_law_text_here"] kT) (nA:Def P w K mg base 3 "_law_read" ["_law_thing"] (jI K)) (iM:Def P w K mg base 7 "lay_text" ["board", "lay"] fj) (jz:Def P w K mg base 8 "read_lay" ["text"] jH)
  (uE:Def P w K mg base 1 "_law_same" ["_law_found", "_law_due"] (dW pN)) (kA:Def P w K mg base 3 "_law_same" ["_law_found", "_law_due"] (dW (dE (dE Rl))))
  (hP:∀b',bJ P w K mg b' 7 "lay_text" ["board", "lay"] (fM K cB cL)) (hX:∀b',bJ P w K mg b' 8 "read_lay" ["text"] (iR cT)) (hN:∀b',bJ P w K mg b' 8 "read_lay" ["text"] (iS K cT))
  (M0:dc K mg cS cB 0) (M1:dc K mg cS cL 1) (mW:dc K mg cS cT 12):
  ∃t,cC (aG av P w K mg base bh "law" (ar aK) f (.ref c) A outer s H0 E).aV bL t∧
  ∀(D:Ends) (a:Addr) (ns:List Int) (i:Nat) (u2 u3 u4 u5 u6 u7 u8 u9 fh fg iO:Option V) (H:Hp),cu K H a ns→TabAt H Pt (lq (aG av P w K mg base bh "law" (ar aK) f (.ref c) A outer s H0 E).aV)→
   (∀y1 y2 y3 y4 y5 y6 y7 y8 y9 pY pX pW H',cu K H' a ns→TabAt H' Pt (lq (aG av P w K mg base bh "law" (ar aK) f (.ref c) A outer s H0 E).aV)→D.nx [some (.ref a),y1,y2,y3,y4,y5,y6,y7,y8,y9,pY,pX,pW] H')→
   t D [some (.ref a),some (.int (i:Int)),u2,u3,u4,u5,u6,u7,u8,u9,fh,fg,iO] H:=by
 have hr:=C.room
 obtain⟨t2,r2,h2⟩:=Ad (cT:=cT) G C gw hP hX hN M0 M1 mW nE nA jz kA
 rw[HI]
 generalize bL.drop 5=rest at r2
 refine⟨_,(Ze (Zp (i:=2) dH.nd rfl (Or.inr rfl) (Zj uD (hr.mono (by decide)) (Za (pv 0) (Za (pv 1) Zb))))
  (Ze (YZ (ZH (Z9 (Zj uF (hr.mono (by decide)) (Za (pv 2) Zb)) (Z9 (Zj uJ (hr.mono (by decide)) (Za (pv 2) (Za Zf Zb))) Zb))) (WZ rfl (Yh (ZI (i:=3) dH.nd rfl (Or.inr rfl)) (Yh (ZI (i:=4) dH.nd rfl (Or.inr rfl)) JC))))
  (Ze (Zp (i:=5) dH.nd rfl (Or.inl rfl) (Zj uI (hr.mono (by decide)) (Za (pv 2) (Za (pv 4) Zb))))
  (Ze (YZ (ZH (Z9 (Zj nC (hr.mono (by decide)) (Za (pv 2) (Za (pv 4) (Za (pv 5) Zb)))) (Z9 (Zj uC (hr.mono (by decide)) (Za (pv 4) (Za (pv 5) Zb))) Zb))) (WZ rfl (Yh (ZI (i:=6) dH.nd rfl (Or.inr rfl)) (Yh (ZI (i:=7) dH.nd rfl (Or.inr rfl)) JC))))
  (Ze (YF PassesOwn.never rfl (Yd rfl G.range (Za Zf Zb)) (ZI (i:=8) dH.nd rfl (Or.inl rfl))
   (Zk (ZN (PW.pt (Ur (Yc (ZJ (Zj uE (hr.mono (by decide)) (Z9 (Zj iM (hr.mono (by decide)) (Za (pv 4) (Za (pv 5) Zb))) (Za (pv 7) Zb)))))
    (JR (Yc (ZJ (Zj kA (hr.mono (by decide)) (Z9 (Zj jz (hr.mono (by decide)) (Za (pv 7) Zb)) (Za (ZH (Za (pv 4) (Za (pv 5) Zb))) Zb)))))))) ZG Zt)))
   r2))))),?_⟩
 intro D a ns i u2 u3 u4 u5 u6 u7 u8 u9 fh fg iO Hh oq nQ q
 generalize lq (aG av P w K mg base bh "law" (ar aK) f (.ref c) A outer s H0 E).aV=qn at nQ h2 q
 refine Zn (Zw ⟨_,rfl,_,rfl,a,ns,i,rfl,oq.sq,fun p H1 np q1 ck=>Zl ?_⟩)
 dsimp only[List.set]
 have vH:=oq.same q1
 have uX:=Z0 nQ q1
 have step:∀{H H':Hp}{q:Str},au p H H'→bo H p→cu K H a ns→TabAt H Pt q→cu K H' a ns∧TabAt H' Pt q:=fun x ⟨u,v,e,_⟩ s t=> ⟨s.x x e (fun _ _ z=>by cases z),tZ t x e (fun _ z=>by cases z) (fun _ z=>by cases z)⟩
 refine Zn (Zw ⟨_,rfl,p,rfl,ck,fun vn H2 x2 bM bb nr=> ?_⟩)
 obtain⟨oo,Ac⟩:=step x2 ck vH uX
 refine⟨_,rfl,p,12,rfl,bM,by decide,by decide,fun b H3 wd hg w1 aY g1 aZ x3 cj sQ nb=> ⟨(by show 2≤sizeLine;decide),fun t ht=> ?_⟩⟩
 obtain⟨Bc,Ab⟩:=step x3 bM oo Ac
 have yA:=Wc bb x3 nr
 have wo:=JF bb.1.1 x3 nr.1 nr
 have sT:=Zd (o:=.tup [vn,V.ref b]) ht
 refine⟨t,_,rfl,aj.of Zc,rfl,_,_,rfl,_,_,rfl,rfl,?_⟩
 dsimp only[List.set]
 generalize upd H3 t (HO.tup [vn,V.ref b])=H5 at sT
 have rm:fY p H5 vn:=⟨wo.1,fun xs e=>wo.2 xs (by rw[←Yn yA.1.1 sT];exact e)⟩
 have yz:=yA.same sT
 have bF:=cj.same sT
 have xQ:=sT _ _ sQ
 have ko:∀{H'},H' b=some (.tup [.int wd,.int hg])→cN H' (.ref b) wd hg:=fun h=> ⟨Zo h,w1,aY,g1,aZ⟩
 refine Zn (Zw ⟨_,rfl,_,rfl,p,b,wd,hg,rfl,bF,ko xQ,fun l H6 xs x6 du cZ nl ly=>Zl ?_⟩)
 dsimp only[List.set]
 obtain⟨Bb,Aa⟩:=step x6 bF (Bc.same sT) (Z0 Ab sT)
 have yy:=Wc yz x6 rm
 have rk:=JF yz.1.1 x6 rm.1 rm
 have sP:=x6 _ _ xQ nb
 refine Zn (Zw ⟨_,rfl,_,rfl,_,rfl,p,b,l,wd,hg,xs,rfl,du,ko sP,cZ,ly,fun vb H7 x7 kO bq=> ?_⟩)
 obtain⟨Ba,z9⟩:=step x7 du Bb Aa
 have Fs:=Wc yy x7 rk
 have BK:=JF yy.1.1 x7 rk.1 rk
 have xP:=x7 _ _ sP nb
 have xD:=x7 _ _ cZ nl
 refine⟨_,rfl,_,rfl,b,l,wd,hg,xs,rfl,ko xP,xD,ly,fun H8 s8=> ⟨(by show 2≤sizeLine;decide),fun vm oU=> ?_⟩⟩
 have wr:dD (dw wd hg xs) wd hg xs:=⟨w1,aY,g1,aZ,ly,rfl⟩
 generalize hz:dw wd hg xs=z at wr oU
 have vJ:=Zd (o:=.tup [vb,V.str z]) oU
 refine⟨vm,_,rfl,aj.of Zc,rfl,_,_,rfl,_,_,rfl,rfl,?_⟩
 dsimp only[List.set]
 generalize upd H8 vm (HO.tup [vb,V.str z])=H9 at vJ
 have lA:=s8.trans vJ
 have xi:fI K p H9 vn vb b wd hg:=fI.same ⟨Fs,BK,bq,xP,w1,aY,g1,aZ⟩ lA
 have Dq:=lA _ _ xD
 have AR:=kO.same lA
 have A9:=Ba.same lA
 have z4:=Z0 z9 lA
 obtain⟨_,_,lz⟩:=yK wr
 refine Zn ⟨2,rfl,by decide,by decide,?_⟩
 refine YC (n:=(2:Int).toNat) (fun j σ H'=> ∃v8,σ=[some (.ref a),some (.int (i:Int)),some (.ref p),some vn,some (.ref b),some (.ref l),some vb,some (.str z),v8,u9,fh,fg,iO]∧ag H9 H') ⟨_,rfl,ag.refl _⟩ ?_ ?_
 ·rintro j σ gN hj ⟨v8,rfl,aO⟩
  refine Zl ?_
  dsimp only[List.set]
  have xR:=aO _ _ xi.hb
  have cP:=aO _ _ Dq
  refine⟨_,rfl,_,rfl,b,l,wd,hg,xs,rfl,ko xR,cP,ly,fun gM aU=> ?_⟩
  rw[hz]
  refine⟨_,rfl,_,_,rfl,⟨z,rfl,rfl⟩,fun uA bN=> ⟨_,rfl,aF ?_⟩⟩
  refine⟨_,rfl,z,wd,hg,xs,rfl,by omega,wr,fun p' b' l' cU fq jg eR gB=> ⟨_,rfl,_,rfl,(by show 2≤sizeLine;decide),fun t3 rS=> ?_⟩⟩
  have lg:=Zd (o:=.tup [V.ref b,V.ref l]) rS
  have e3:upd cU t3 (.tup [V.ref b,V.ref l]) t3=some (.tup [V.ref b,V.ref l]):=Zc
  generalize upd cU t3 (HO.tup [V.ref b,V.ref l])=fK at lg e3
  have qY:=aU.trans (bN.trans (fq.trans lg))
  refine⟨_,_,rfl,Wu ly aY (lg _ _ jg) (lg _ _ eR) (lg _ _ gB) e3 (qY _ _ xR) (qY _ _ cP),fun gL cm=> ⟨_,rfl,aF (ZW ?_)⟩⟩
  exact⟨_,rfl,aO.trans (qY.trans cm)⟩
 ·rintro σ gN ⟨v8,rfl,aO⟩
  refine h2 _ a p b l ns _ _ _ _ _ _ vn vb wd hg xs z gN (A9.same aO) (Z0 z4 aO) (AR.same aO) (xi.same aO) wr fun y1 y8 y9 pY pX pW H' qv qa=> ?_
  exact q _ _ _ _ _ _ _ _ _ _ _ _ H' qv qa
end
theorem IU:dD "3x4: 2 . 0" 3 4 [V.int 2,V.ae,V.int 0]:=⟨by decide,by decide,by decide,by decide,Jb (by decide),by decide+kernel⟩
theorem HZ {H H':Hp}{x y:V}(r:dE Rl H x y) (s:ag H H'):dE Rl H' x y:=by
 obtain⟨a,b,xs,ys,e1,e2,h1,h2,pr,hl⟩:=r
 exact⟨a,b,xs,ys,e1,e2,s _ _ h1,s _ _ h2,Paired.g7 pr fun _ _ q=>Rl.same q s,hl⟩
theorem IP:dw 1 1 [V.int 0]= "1x1: 0" :=by decide+kernel
section
variable {P:Program}{w:World}{K:PySem.W.Frag}{mg:Str→Option Value}{base:Heap}
def ql (K:PySem.W.Frag) (Pt:Addr):Sp:=fun vs H Q _=> ∃(a:Addr) (ns:List Int),vs=[.ref a]∧cu K H a ns∧ns.length≤63∧H Pt=some (.bS #[])∧∀H',Q (.bl true) H'
theorem FN {f c Pt fR cS cB cL cT:Addr}{oc:Value}{od an:Option Addr}{kV doc pm ct:Value}{dv:Array (Option Value)}
  (lk:K.lookup f=some ⟨oc,od,.func (PySem.W.fnOf "law" "law" (dP aK) (bD aK) (ar aK) .none kV doc pm an (.ref c) ct),dv⟩) (bW:PySem.W.codeIn K (.ref c) "law" =true) (G:Gs mg)
  (uD:Def P w K mg base 2 "_law_state" ["_law_script", "_law_k"] (nY K)) (uF:Def P w K mg base 2 "_law_no_board" ["_law_state_here"] (n8 K)) (uJ:Def P w K mg base 2 "_law_board" ["_law_state_here", "_law_upto"] og)
  (uI:Def P w K mg base 2 "_law_lay" ["_law_state_here", "_law_board_here"] (oa K)) (nC:Def P w K mg base 2 "_law_no_lay" ["_law_state_here", "_law_board_here", "_law_lay_here"] (nZ K)) (uC:Def P w K mg base 1 "_law_text" ["_law_board_here", "_law_lay_here"] fj)
  (nE:Def P w K mg base 2 "_law_bent" ["_law_state_here", "_law_text_here"] kT) (nA:Def P w K mg base 3 "_law_read" ["_law_thing"] (jI K)) (iM:Def P w K mg base 7 "lay_text" ["board", "lay"] fj) (jz:Def P w K mg base 8 "read_lay" ["text"] jH)
  (uE:Def P w K mg base 1 "_law_same" ["_law_found", "_law_due"] (dW pN)) (kA:Def P w K mg base 3 "_law_same" ["_law_found", "_law_due"] (dW (dE (dE Rl))))
  (hR:∀b',Def P w K mg b' 10 "_law_refused" ["_law_call"] (jG P w K mg b' cS 9)) (hP:∀b',bJ P w K mg b' 7 "lay_text" ["board", "lay"] (fM K cB cL)) (hX:∀b',bJ P w K mg b' 8 "read_lay" ["text"] (iR cT)) (hN:∀b',bJ P w K mg b' 8 "read_lay" ["text"] (iS K cT))
  (mR:mg "_law_refused" =some (.ref fR)) (kR:PySem.W.keepIn K (.ref fR)=true)
  (M0:dc K mg cS cB 0) (M1:dc K mg cS cL 1) (mW:dc K mg cS cT 12) (hC:PySem.W.CodeHd base c Pt)
  (sN:∃bm ob,mg "__builtins__" =some (.ref bm)∧bm≠builtinsNs∧base.get? bm=some ob∧ob.cls=.type "module" ∧ob.dict=some builtinsNs∧ob.data=.plain):
  aC P w K mg base av 11 f (PySem.W.fnOf "law" "law" (dP aK) (bD aK) (ar aK) .none kV doc pm an (.ref c) ct) ["_law_script"] (ql K Pt):=by
 refine ua lk bW dH (fun vs H Q E h=> ?_) (fun A outer s H vs Q E hr h=> ?_)
 ·obtain⟨a,ns,rfl,_⟩:=h
  rfl
 ·obtain⟨a,ns,rfl,vz,lT,CU,q⟩:=h
  have C:LCtx (aG av P w K mg base bh "law" (ar aK) f (.ref c) A outer s H E).aV cS c Pt fR 8:=⟨⟨rfl,hC,sN⟩,hR,hr,mR,kR⟩
  have gw:=uc hr
  obtain⟨t1,r1,h1⟩:=Ae (cT:=cT) G C gw uD uF uJ uI nC uC nE nA iM jz uE kA hP hX hN M0 M1 mW
  have main:∃t,cC (aG av P w K mg base bh "law" (ar aK) f (.ref c) A outer s H E).aV (bD aK) t∧t {nx:=fun _ H'=>Q .ae H',rt:=Q} (start bh [.ref a]) H:=by
   rw[HL]
   generalize bL=body at r1
   refine⟨_,(Ze (YF PassesOwn.never rfl (Yd rfl G.range (Za (Zi (WM rfl) rfl G.max boot_max (Za Zf (Za (Zi (Ig rfl) rfl G.min boot_min (Za (Zi Zy rfl G.len boot_len (Za (pv 0) Zb)) (Za Zf Zb))) Zb))) Zb)) (ZI (i:=1) dH.nd rfl (Or.inl rfl))
    r1)
    (Zk (Zu (Yp (Yj (FY gw) (Zj jz (hr.mono (by decide)) (Za Zv Zb)) (ZH (Za (ZH (Za Zf (Za Zf Zb))) (Za (ZH (Za Zf (Za Z5 (Za Zf Zb)))) Zb))) (bU _))
     (Yv (Yj YH (Zj iM (hr.mono (by decide)) (Za (ZH (Za Zf (Za Zf Zb))) (Za (ZH (Za Zf Zb)) Zb))) Zv (bU _))))))),?_⟩
   have uZ:TabAt H Pt (lq (aG av P w K mg base bh "law" (ar aK) f (.ref c) A outer s H E).aV):=⟨#[],CU,trivial,fun pos cv z=>by cases z⟩
   generalize lq (aG av P w K mg base bh "law" (ar aK) f (.ref c) A outer s H E).aV=qn at uZ h1
   refine Zn ?_
   refine⟨_,rfl,a,_,rfl,.inl vz.sq,_,_,rfl,_,_,rfl,_,rfl,(by rw[List.length_map];split<;>split<;>omega),(by rw[List.length_map];split<;>split<;>omega),?_⟩
   refine YC (fun i σ H'=> (∃s1 s2 s3 s4 s5 s6 s7 s8 s9 aO aU bN,σ=[some (.ref a),s1,s2,s3,s4,s5,s6,s7,s8,s9,aO,aU,bN])∧cu K H' a ns∧TabAt H' Pt qn) ⟨⟨_,_,_,_,_,_,_,_,_,_,_,_,rfl⟩,vz,uZ⟩ ?_ ?_
   ·rintro i σ H0 hi ⟨⟨u1,u2,u3,u4,u5,u6,u7,u8,u9,fh,fg,iO,rfl⟩,oq,nQ⟩
    rw[Int.zero_add]
    refine Zl ?_
    dsimp only[List.set]
    refine h1 _ a ns i _ _ _ _ _ _ _ _ _ _ _ H0 oq nQ fun y1 y2 y3 y4 y5 y6 y7 y8 y9 pY pX pW H' qv qa=> ?_
    exact⟨⟨_,_,_,_,_,_,_,_,_,_,_,_,rfl⟩,qv,qa⟩
   ·rintro σ H1 ⟨⟨u1,u2,u3,u4,u5,u6,u7,u8,u9,fh,fg,iO,rfl⟩,vH,uX⟩
    refine⟨_,3,4,_,rfl,by decide,IU,fun p b l H2 s2 hp hb hl=> ?_⟩
    refine⟨(by show 2≤sizeLine;decide),fun t1 CZ=> ?_⟩
    have m1:=Zd (o:=.tup [V.int 3,V.int 4]) CZ
    have e1:upd H2 t1 (.tup [V.int 3,V.int 4]) t1=some (.tup [V.int 3,V.int 4]):=Zc
    generalize upd H2 t1 (.tup [V.int 3,V.int 4])=H3 at m1 e1
    refine⟨(by show 3≤sizeLine;decide),fun t2 oU=> ?_⟩
    have m2:=Zd (o:=.tup [V.int 2,V.ae,V.int 0]) oU
    have e2:upd H3 t2 (.tup [V.int 2,V.ae,V.int 0]) t2=some (.tup [V.int 2,V.ae,V.int 0]):=Zc
    generalize upd H3 t2 (.tup [V.int 2,V.ae,V.int 0])=H4 at m2 e2
    refine⟨(by show 2≤sizeLine;decide),fun t3 rS=> ?_⟩
    have m3:=Zd (o:=.tup [V.ref t1,V.ref t2]) rS
    have e3:upd H4 t3 (.tup [V.ref t1,V.ref t2]) t3=some (.tup [V.ref t1,V.ref t2]):=Zc
    generalize upd H4 t3 (.tup [V.ref t1,V.ref t2])=H5 at m3 e3
    have mm:=m1.trans (m2.trans m3)
    refine⟨p,t3,b,l,t1,t2,_,_,_,_,rfl,rfl,aj.of (mm _ _ hp),aj.of e3,aj.of (mm _ _ hb),aj.of (mm _ _ hl),aj.of ((m2.trans m3) _ _ e1),aj.of (m3 _ _ e2),by decide,by decide,by decide,by decide,_,rfl,?_⟩
    refine aw ?_
    refine⟨(by show 2≤sizeLine;decide),fun t4 CY=> ?_⟩
    have m4:=Zd (o:=.tup [V.int 1,V.int 1]) CY
    have e4:upd H5 t4 (.tup [V.int 1,V.int 1]) t4=some (.tup [V.int 1,V.int 1]):=Zc
    generalize upd H5 t4 (.tup [V.int 1,V.int 1])=H6 at m4 e4
    refine⟨(by show 1≤sizeLine;decide),fun t5 CW=> ?_⟩
    have m5:=Zd (o:=.tup [V.int 0]) CW
    have e5:upd H6 t5 (.tup [V.int 0]) t5=some (.tup [V.int 0]):=Zc
    generalize upd H6 t5 (.tup [V.int 0])=H7 at m5 e5
    refine⟨t4,t5,1,1,_,rfl,⟨Zo (m5 _ _ e4),by decide,by decide,by decide,by decide⟩,e5,Jb (by decide),fun H8 s8=> ?_⟩
    rw[IP]
    refine⟨rfl,?_⟩
    exact q _
  obtain⟨t,ht,hq⟩:=main
  exact⟨t,ht.aV,hq⟩
end
end U
namespace U
open PySem L2 PyProof.Rows PySem.Spec
abbrev tD:List Str:=["isinstance", "int", "bool", "tuple", "list", "len", "all", "set", "range", "max", "min", "zip", "str", "dict", "ValueError"]
section
variable {P:Program}{w:World}{K:PySem.W.Frag}{mg:Str→Option Value}{base:Heap}
theorem GC {h:Heap}{t0:Tok}(KX:K.In h) (G:h.Ns mainGlobals mg) (e:tD.all (oH K)=true) (lo0:PySem.W.nsIn K mainGlobals "LONGEST_SIDE" =some (some (.int 12 t0))):Gs mg∧mg "ValueError" =none:=by
 have k:∀x∈tD,mg x=none:=fun x hx=>Kv KX G (List.all_eq_true.mp e x hx)
 exact⟨⟨k _ (by simp),k _ (by simp),k _ (by simp),k _ (by simp),k _ (by simp),k _ (by simp),k _ (by simp),k _ (by simp),k _ (by simp),k _ (by simp),k _ (by simp),k _ (by simp),k _ (by simp),k _ (by simp),⟨t0,PySem.W.mg_of KX G lo0⟩⟩,k _ (by simp)⟩
def oO (K:PySem.W.Frag) (C c:Value) (b:Bool):Bool:=match PySem.W.kitOne K C c with |some d=>d==b |none=>false
theorem yS {C c:Value}{b:Bool}(h:oO K C c b=true):PySem.W.kitOne K C c=some b:=by
 unfold oO at h
 split at h
 ·rename_i d q
  rw[q,beq_iff_eq.mp h]
 ·cases h
def B2 (K:PySem.W.Frag) (C:Addr) (iC:Nat):Bool:=(List.range 15).all fun i=>match PySem.W.nsIn K mainGlobals (rA.getD i "") with |some (some (.ref c))=>oO K (.ref C) (.ref c) (decide (i=iC)) |_=>false
def mroOk (K:PySem.W.Frag) (C:Addr) (b:Value):Bool:=match PySem.W.mroIn K C b with |some d=>d |none=>false
theorem Ux {C:Addr}{b:Value}(h:mroOk K C b=true):PySem.W.mroIn K C b=some true:=by
 unfold mroOk at h
 split at h
 ·rename_i d q
  rw[q,h]
 ·cases h
def tJ (K:PySem.W.Frag) (C c:Value):Bool:=match PySem.W.exmOne K C c with |some d=>d |none=>false
theorem Iq {C c:Value}(h:tJ K C c=true):PySem.W.exmOne K C c=some true:=by
 unfold tJ at h
 split at h
 ·rename_i d q
  rw[q,h]
 ·cases h
def mz (K:PySem.W.Frag) (cS C:Addr) (iC:Nat):Bool:=mroOk K C (.type "object")&&mroOk K C (.type "BaseException")&&(PySem.W.clsIn K C).isSome&&tJ K (.ref C) (.ref cS)&&B2 K C iC&&oO K (.ref C) (.type "ValueError") true&&PySem.W.excIn K C iB "ValueError.__new__"
theorem W5 {h:Heap}{cS C:Addr}{iC:Nat}(KX:K.In h) (G:h.Ns mainGlobals mg) (mv:mg "ValueError" =none) (ms:mg "StepError" =some (.ref cS)) (e:mz K cS C iC=true)
  (ga:PySem.W.findIn K (.ref C) "__getattribute__" =some (some (.builtin "BaseException.__getattribute__"))) (hook:PySem.W.findIn K (.ref C) "__getattr__" =some none) (cl:PySem.W.findIn K (.ref C) "__class__" =some (some (.builtin "object.__class__"))):dc K mg cS C iC∧PySem.W.excIn K C iB "ValueError.__new__" =true:=by
 unfold mz at e
 simp only[Bool.and_eq_true]at e
 obtain⟨⟨⟨⟨⟨⟨e1,e2⟩,e3⟩,e4⟩,e5⟩,e6⟩,e7⟩:=e
 refine⟨⟨⟨ga,hook,cl,Ux e1,Ux e2,e3⟩,ms,Iq e4,fun i hi=> ?_,mv,yS e6⟩,e7⟩
 have:=List.all_eq_true.mp e5 i (List.mem_range.mpr hi)
 split at this
 ·rename_i c q
  exact⟨c,PySem.W.mg_of KX G q,yS this⟩
 ·cases this
structure Exc (K:PySem.W.Frag) (mg:Str→Option Value) (nm:Str) (C:Addr):Prop where
 m:mg nm=some (.ref C)
 x:PySem.W.excIn K C iB "ValueError.__new__" =true
set_option maxHeartbeats 4000000 in
theorem Cj {h:Heap}{fa c Pt f cS aB aL aT:Addr}{oc:Value}{od an:Option Addr}{kV doc pm ct:Value}{dv:Array (Option Value)}{t0:Tok}(KX:K.In h) (G:h.Ns mainGlobals mg) (hmg:mg "law" =some (.ref fa))
  (d0:bw K "is_whole" qz) (d1:bw K "is_whole_within" qy) (d2:bw K "is_tuple_of" qA) (d3:bw K "is_board" qW) (d4:bw K "need_board" ow) (d5:bw K "is_lay" oy) (d6:bw K "need_lay" ou) (d7:bw K "number_of" qH) (d8:bw K "lay_text" oz) (d9:bw K "read_lay" lj) (Fd:bw K "_law_cell_at" qV) (Fc:bw K "_law_state" qD) (Fb:bw K "_law_take" qB) (yt:bw K "_law_refused" qF) (EZ:bw K "_law_board" qU) (EY:bw K "_law_no_board" iW) (EX:bw K "_law_lay" qT) (aR:bw K "_law_no_lay" iV) (EW:bw K "_law_whole" qI) (EV:bw K "_law_lay_good" qJ) (EU:bw K "_law_text" qC) (pH:bw K "_law_same" lh) (ET:bw K "_law_sides" qE) (ES:bw K "_law_read" qG) (ER:bw K "_law_bent" lu)
  (l1:PySem.W.nsIn K mainGlobals "law" =some (some (.ref f))) (l2:K.lookup f=some ⟨oc,od,.func (PySem.W.fnOf "law" "law" (dP aK) (bD aK) (ar aK) .none kV doc pm an (.ref c) ct),dv⟩) (l3:PySem.W.codeIn K (.ref c) "law" =true) (l4:PySem.W.codeHdIn K c Pt=true)
  (g1:tD.all (oH K)=true) (lo0:PySem.W.nsIn K mainGlobals "LONGEST_SIDE" =some (some (.int 12 t0)))
  (eB:PySem.W.nsIn K mainGlobals "NoBoard" =some (some (.ref aB))) (eL:PySem.W.nsIn K mainGlobals "NoLay" =some (some (.ref aL))) (eT:PySem.W.nsIn K mainGlobals "NoText" =some (some (.ref aT))) (eS:PySem.W.nsIn K mainGlobals "StepError" =some (some (.ref cS)))
  (xB:mz K cS aB 0=true) (xL:mz K cS aL 1=true) (xT:mz K cS aT 12=true)
  (gaB:PySem.W.findIn K (.ref aB) "__getattribute__" =some (some (.builtin "BaseException.__getattribute__"))) (hoB:PySem.W.findIn K (.ref aB) "__getattr__" =some none) (clB:PySem.W.findIn K (.ref aB) "__class__" =some (some (.builtin "object.__class__")))
  (gaL:PySem.W.findIn K (.ref aL) "__getattribute__" =some (some (.builtin "BaseException.__getattribute__"))) (hoL:PySem.W.findIn K (.ref aL) "__getattr__" =some none) (clL:PySem.W.findIn K (.ref aL) "__class__" =some (some (.builtin "object.__class__")))
  (gaT:PySem.W.findIn K (.ref aT) "__getattribute__" =some (some (.builtin "BaseException.__getattribute__"))) (hoT:PySem.W.findIn K (.ref aT) "__getattr__" =some none) (clT:PySem.W.findIn K (.ref aT) "__class__" =some (some (.builtin "object.__class__"))):
  ∃fd:FuncData,(∀(s:Shared) (u:Value),BindsTo s fd ⟨[u],[]⟩ [("_law_script",u)])∧∀base:Heap,K.In base→base.Ns mainGlobals mg→nG mg base→aC P w K mg base av 11 fa fd ["_law_script"] (ql K Pt):=by
 have e0:=hmg.symm.trans (PySem.W.mg_of KX G l1)
 cases e0
 obtain⟨gs,mv⟩:=GC KX G g1 lo0
 have ms:=PySem.W.mg_of KX G eS
 obtain⟨MB,yB⟩:=W5 KX G mv ms xB gaB hoB clB
 have LW:Exc K mg "NoBoard" aB:=⟨PySem.W.mg_of KX G eB,yB⟩
 obtain⟨ML,yL⟩:=W5 KX G mv ms xL gaL hoL clL
 have LV:Exc K mg "NoLay" aL:=⟨PySem.W.mg_of KX G eL,yL⟩
 obtain⟨MT,yT⟩:=W5 KX G mv ms xT gaT hoT clT
 have pD:Exc K mg "NoText" aT:=⟨PySem.W.mg_of KX G eT,yT⟩
 have ym:uB K mg aB aL:=⟨PySem.W.mg_of KX G eB,yB,PySem.W.mg_of KX G eL,yL⟩
 refine⟨PySem.W.fnOf "law" "law" (dP aK) (bD aK) (ar aK) .none kV doc pm an (.ref c) ct,fun s u=> .of_eq rfl,fun base kb nb bm=> ?_⟩
 have b0:∀{x:Str}{st:Stmt},(∀(kV doc pm:Value) (an:Option Addr) (aq ct:Value),bindArgs (PySem.W.fnOf x x (dP st) (bD st) (ar st) .none kV doc pm an aq ct) ⟨[],[]⟩=pure [])→kD x st []:=fun h kV doc pm an aq ct us hl=>match us,hl with | [],_=>h kV doc pm an aq ct
 have b1:∀{x a:Str}{st:Stmt},(∀(kV doc pm:Value) (an:Option Addr) (aq ct u:Value),bindArgs (PySem.W.fnOf x x (dP st) (bD st) (ar st) .none kV doc pm an aq ct) ⟨[u],[]⟩=pure [(a,u)])→kD x st [a]:=fun h kV doc pm an aq ct us hl=>match us,hl with | [u],_=>h kV doc pm an aq ct u
 have b2:∀{x a b:Str}{st:Stmt},(∀(kV doc pm:Value) (an:Option Addr) (aq ct u v:Value),bindArgs (PySem.W.fnOf x x (dP st) (bD st) (ar st) .none kV doc pm an aq ct) ⟨[u,v],[]⟩=pure [(a,u),(b,v)])→kD x st [a,b]:=fun h kV doc pm an aq ct us hl=>match us,hl with | [u,v],_=>h kV doc pm an aq ct u v
 have b3:∀{x a b c:Str}{st:Stmt},(∀(kV doc pm:Value) (an:Option Addr) (aq ct u v w:Value),bindArgs (PySem.W.fnOf x x (dP st) (bD st) (ar st) .none kV doc pm an aq ct) ⟨[u,v,w],[]⟩=pure [(a,u),(b,v),(c,w)])→kD x st [a,b,c]:=fun h kV doc pm an aq ct us hl=>match us,hl with | [u,v,w],_=>h kV doc pm an aq ct u v w
 have good:∀b':Heap,(Def P w K mg b' 7 "lay_text" ["board", "lay"] fj∧bJ P w K mg b' 7 "lay_text" ["board", "lay"] (fM K aB aL))∧Def P w K mg b' 8 "read_lay" ["text"] jH∧bJ P w K mg b' 8 "read_lay" ["text"] (iR aT)∧bJ P w K mg b' 8 "read_lay" ["text"] (iS K aT):=fun b'=>by
  have D0:Def P w K mg b' 1 "is_whole" ["thing"] (qf K):=d0.to KX G (b1 fun _ _ _ _ _ _ _=>rfl) fun f fd F=>II F gs
  have D1:Def P w K mg b' 2 "is_whole_within" ["thing", "least", "most"] (iP K):=d1.to KX G (b3 fun _ _ _ _ _ _ _ _ _=>rfl) fun f fd F=>Ky F D0
  have D3:Def P w K mg b' 1 "is_tuple_of" ["thing", "many"] (nX K):=d2.to KX G (b2 fun _ _ _ _ _ _ _ _=>rfl) fun f fd F=>IH F gs
  have D4:Def P w K mg b' 3 "is_board" ["thing"] (jK K):=d3.to KX G (b1 fun _ _ _ _ _ _ _=>rfl) fun f fd F=>IC F gs D3 D1
  have D5:Def P w K mg b' 4 "need_board" ["board"] (qi K):=d4.to KX G (b1 fun _ _ _ _ _ _ _=>rfl) fun f fd F=>W3 F D4
  have D6:Def P w K mg b' 5 "is_lay" ["board", "thing"] (jJ K):=d5.to KX G (b2 fun _ _ _ _ _ _ _ _=>rfl) fun f fd F=>FO F gs D5 D3 D1
  have K1:Def P w K mg b' 6 "need_lay" ["board", "lay"] qh:=d6.to KX G (b2 fun _ _ _ _ _ _ _ _=>rfl) fun f fd F=>Kc F D6
  have D7:Def P w K mg b' 1 "number_of" ["word"] n9:=d7.to KX G (b1 fun _ _ _ _ _ _ _=>rfl) fun f fd F=>F9 F gs
  have D8:Def P w K mg b' 7 "lay_text" ["board", "lay"] fj:=d8.to KX G (b2 fun _ _ _ _ _ _ _ _=>rfl) fun f fd F=>F7 F gs K1
  have D9:Def P w K mg b' 8 "read_lay" ["text"] jH:=d9.to KX G (b1 fun _ _ _ _ _ _ _=>rfl) fun f fd F=>Gb F gs D7 D4 D6 D8
  have R5:bJ P w K mg b' 4 "need_board" ["board"] (qj K aB):=d4.jD KX G (b1 fun _ _ _ _ _ _ _=>rfl) fun f fd F=>Wh F gs ym D4
  have R6:bJ P w K mg b' 5 "is_lay" ["board", "thing"] (qk K aB):=d5.jD KX G (b2 fun _ _ _ _ _ _ _ _=>rfl) fun f fd F=>GK F R5
  have KJ:bJ P w K mg b' 6 "need_lay" ["board", "lay"] (fM K aB aL):=d6.jD KX G (b2 fun _ _ _ _ _ _ _ _=>rfl) fun f fd F=>Uw F ym R6 D6
  have R8:bJ P w K mg b' 7 "lay_text" ["board", "lay"] (fM K aB aL):=d8.jD KX G (b2 fun _ _ _ _ _ _ _ _=>rfl) fun f fd F=>FP F KJ
  have R9:bJ P w K mg b' 8 "read_lay" ["text"] (iR aT):=d9.jD KX G (b1 fun _ _ _ _ _ _ _=>rfl) fun f fd F=>FW F gs pD.m pD.x D7 D4 D6 D8
  have KI:bJ P w K mg b' 8 "read_lay" ["text"] (iS K aT):=d9.jD KX G (b1 fun _ _ _ _ _ _ _=>rfl) fun f fd F=>FV F gs pD.m pD.x
  exact⟨⟨D8,R8⟩,D9,R9,KI⟩
 have hR:∀b':Heap,Def P w K mg b' 10 "_law_refused" ["_law_call"] (jG P w K mg b' cS 9):=fun b'=>yt.to KX G (b1 fun _ _ _ _ _ _ _=>rfl) fun f fd F=>FU F gs
 have E1:Def P w K mg base 1 "_law_cell_at" ["_law_script", "_law_k"] (qo K):=Fd.to KX G (b2 fun _ _ _ _ _ _ _ _=>rfl) fun f fd F=>GJ F gs
 have E2:Def P w K mg base 2 "_law_state" ["_law_script", "_law_k"] (nY K):=Fc.to KX G (b2 fun _ _ _ _ _ _ _ _=>rfl) fun f fd F=>IG F gs E1
 have E3:Def P w K mg base 1 "_law_take" ["_law_state_here", "_law_many"] iQ:=Fb.to KX G (b2 fun _ _ _ _ _ _ _ _=>rfl) fun f fd F=>GL F
 have E4:Def P w K mg base 2 "_law_no_board" ["_law_state_here"] (n8 K):=EY.to KX G (b1 fun _ _ _ _ _ _ _=>rfl) fun f fd F=>FQ F E3
 have E5:Def P w K mg base 2 "_law_board" ["_law_state_here", "_law_upto"] og:=EZ.to KX G (b2 fun _ _ _ _ _ _ _ _=>rfl) fun f fd F=>ID F E3
 have E6:Def P w K mg base 2 "_law_lay" ["_law_state_here", "_law_board_here"] (oa K):=EX.to KX G (b2 fun _ _ _ _ _ _ _ _=>rfl) fun f fd F=>IE F gs E3
 have E7:Def P w K mg base 2 "_law_no_lay" ["_law_state_here", "_law_board_here", "_law_lay_here"] (nZ K):=aR.to KX G (b3 fun _ _ _ _ _ _ _ _ _=>rfl) fun f fd F=>FT F gs E3
 have E8:Def P w K mg base 1 "_law_text" ["_law_board_here", "_law_lay_here"] fj:=EU.to KX G (b2 fun _ _ _ _ _ _ _ _=>rfl) fun f fd F=>Ge F gs
 have E9:Def P w K mg base 1 "_law_whole" ["_law_thing", "_law_least", "_law_upto"] (iP K):=EW.to KX G (b3 fun _ _ _ _ _ _ _ _ _=>rfl) fun f fd F=>F8 F gs
 have KY:Def P w K mg base 2 "_law_lay_good" ["_law_board_here", "_law_thing"] (qm K):=EV.to KX G (b2 fun _ _ _ _ _ _ _ _=>rfl) fun f fd F=>F6 F gs E9
 have KW:Def P w K mg base 1 "_law_sides" ["_law_word"] qg:=ET.to KX G (b1 fun _ _ _ _ _ _ _=>rfl) fun f fd F=>Gd F gs
 have KU:Def P w K mg base 3 "_law_read" ["_law_thing"] (jI K):=ES.to KX G (b1 fun _ _ _ _ _ _ _=>rfl) fun f fd F=>Ga F gs KW KY
 have KS:Def P w K mg base 2 "_law_bent" ["_law_state_here", "_law_text_here"] kT:=ER.to KX G (b2 fun _ _ _ _ _ _ _ _=>rfl) fun f fd F=>F5 F gs E3
 have S0:Def P w K mg base 1 "_law_same" ["_law_found", "_law_due"] (dW pN):=pH.to KX G (b2 fun _ _ _ _ _ _ _ _=>rfl) fun f fd F=>Kd F gs
 have S1:Def P w K mg base 1 "_law_same" ["_law_found", "_law_due"] (dW Rl):=pH.to KX G (b2 fun _ _ _ _ _ _ _ _=>rfl) fun f fd F=>IF F gs
 have S2:Def P w K mg base 2 "_law_same" ["_law_found", "_law_due"] (dW (dE Rl)):=pH.to KX G (b2 fun _ _ _ _ _ _ _ _=>rfl) fun f fd F=>Wz (R:=Rl) (fun r s=>Rl.same r s) F gs S1
 have S3:Def P w K mg base 3 "_law_same" ["_law_found", "_law_due"] (dW (dE (dE Rl))):=pH.to KX G (b2 fun _ _ _ _ _ _ _ _=>rfl) fun f fd F=>Wz (R:=dE Rl) (fun r s=>HZ r s) F gs S2
 obtain⟨fR,yl,EM,FR⟩:=id yt
 exact FN l2 l3 gs E2 E4 E5 E6 E7 E8 KS KU (good base).1.1 (good base).2.1 S0 S3 hR (fun b'=> (good b').1.2) (fun b'=> (good b').2.2.1) (fun b'=> (good b').2.2.2) (PySem.W.mg_of KX G EM) FR.kp MB ML MT (PySem.W.codeHd_of_K kb l4) bm
end
end U
theorem PySem.W.Fast.tw13853230462912609280:True:=⟨⟩
theorem PySem.W.Fast.tw4861138477617765376:True:=⟨⟩
theorem PySem.W.Fast.tw3407668031625724000:True:=⟨⟩
theorem PySem.W.Fast.tw6737452900292386944:True:=⟨⟩
theorem PySem.W.Fast.tw17114427609006489888:True:=⟨⟩
theorem PySem.W.Fast.tw16575611586339219840:True:=⟨⟩
theorem PySem.W.Fast.tw16554657898330798528:True:=⟨⟩
theorem PySem.W.Fast.tw7871181697620378080:True:=⟨⟩
theorem PySem.W.Fast.tw12116784437726383584:True:=⟨⟩
theorem PySem.W.Fast.tw385457156831974048:True:=⟨⟩
theorem PySem.W.Fast.tw16836145450726687392:True:=⟨⟩
theorem PySem.W.Fast.tw167670573100465856:True:=⟨⟩
theorem PySem.W.Fast.tw1897291103347595040:True:=⟨⟩
theorem PySem.W.Fast.tw10407530334121659425:True:=⟨⟩
theorem PySem.W.Fast.tw2019713078738669633:True:=⟨⟩
theorem PySem.W.Fast.tw15225215447894200417:True:=⟨⟩
theorem PySem.W.Fast.tw1858730773513760001:True:=⟨⟩
theorem PySem.W.Fast.tw5747299065890275649:True:=⟨⟩
theorem PySem.W.Fast.tw9307287031859233217:True:=⟨⟩
theorem PySem.W.Fast.tw9256099908553265665:True:=⟨⟩
theorem PySem.W.Fast.tw5445528001698499233:True:=⟨⟩
theorem PySem.W.Fast.tw3091176063769718465:True:=⟨⟩
theorem PySem.W.Fast.tw14699452645482330817:True:=⟨⟩
theorem PySem.W.Fast.tw5696830822328264417:True:=⟨⟩
theorem PySem.W.Fast.tw18092953989605370721:True:=⟨⟩
theorem PySem.W.Fast.tw9607864303065099137:True:=⟨⟩
theorem PySem.W.Fast.tw4652852678127038401:True:=⟨⟩
theorem PySem.W.Fast.tw7796689573068811298:True:=⟨⟩
theorem PySem.W.Fast.tw12870907049752536162:True:=⟨⟩
theorem PySem.W.Fast.tw13642742414781011234:True:=⟨⟩
theorem PySem.W.Fast.tw10350806621953347938:True:=⟨⟩
theorem PySem.W.Fast.tw12566117210261214658:True:=⟨⟩
theorem PySem.W.Fast.tw11278382589763249602:True:=⟨⟩
theorem PySem.W.Fast.tw10360526348882936290:True:=⟨⟩
theorem PySem.W.Fast.tw2640542603931476642:True:=⟨⟩
theorem PySem.W.Fast.tw4730351471291896706:True:=⟨⟩
theorem PySem.W.Fast.tw16864270338135535554:True:=⟨⟩
theorem PySem.W.Fast.tw3131245699220989027:True:=⟨⟩
theorem PySem.W.Fast.tw2986021943746994467:True:=⟨⟩
theorem PySem.W.Fast.tw15290805550075471203:True:=⟨⟩
theorem PySem.W.Fast.tw8999054568422252995:True:=⟨⟩
theorem PySem.W.Fast.tw4519258348929124899:True:=⟨⟩
theorem PySem.W.Fast.tw17150748371714961987:True:=⟨⟩
theorem PySem.W.Fast.tw7281299076423554787:True:=⟨⟩
theorem PySem.W.Fast.tw14326026454482090883:True:=⟨⟩
theorem PySem.W.Fast.tw13898925136362922052:True:=⟨⟩
theorem PySem.W.Fast.tw1055936448919484612:True:=⟨⟩
theorem PySem.W.Fast.tw1624719646395945188:True:=⟨⟩
theorem PySem.W.Fast.tw2610515951807267076:True:=⟨⟩
theorem PySem.W.Fast.tw8710883521266897156:True:=⟨⟩
theorem PySem.W.Fast.tw6791614576956303684:True:=⟨⟩
theorem PySem.W.Fast.tw9741403723295873604:True:=⟨⟩
theorem PySem.W.Fast.tw15079230512694515332:True:=⟨⟩
theorem PySem.W.Fast.tw13166757147824147172:True:=⟨⟩
theorem PySem.W.Fast.tw14833391555344317541:True:=⟨⟩
theorem PySem.W.Fast.tw5120316258278579333:True:=⟨⟩
theorem PySem.W.Fast.tw10060332213794861253:True:=⟨⟩
theorem PySem.W.Fast.tw10595373560066151685:True:=⟨⟩
theorem PySem.W.Fast.tw12753786627916720421:True:=⟨⟩
theorem PySem.W.Fast.tw1671373299145268613:True:=⟨⟩
theorem PySem.W.Fast.tw8167129367305012677:True:=⟨⟩
theorem PySem.W.Fast.tw12088078129231873573:True:=⟨⟩
theorem PySem.W.Fast.tw284849567899167621:True:=⟨⟩
theorem PySem.W.Fast.tw10356694010323467205:True:=⟨⟩
theorem PySem.W.Fast.tw80593962404683942:True:=⟨⟩
theorem PySem.W.Fast.tw16472818005593758982:True:=⟨⟩
theorem PySem.W.Fast.tw12895555434656226630:True:=⟨⟩
theorem PySem.W.Fast.tw300348039786847654:True:=⟨⟩
theorem PySem.W.Fast.tw2436525158620200390:True:=⟨⟩
theorem PySem.W.Fast.tw4666195909220874726:True:=⟨⟩
theorem PySem.W.Fast.tw8896993030246348262:True:=⟨⟩
theorem PySem.W.Fast.tw5640586354499408390:True:=⟨⟩
theorem PySem.W.Fast.tw17479513267402332774:True:=⟨⟩
theorem PySem.W.Fast.tw7112283593980098182:True:=⟨⟩
theorem PySem.W.Fast.tw2130276896145308390:True:=⟨⟩
theorem PySem.W.Fast.tw162273385637882694:True:=⟨⟩
theorem PySem.W.Fast.tw2941120154176610407:True:=⟨⟩
theorem PySem.W.Fast.tw12357813836929414279:True:=⟨⟩
theorem PySem.W.Fast.tw9655804745903451303:True:=⟨⟩
theorem PySem.W.Fast.tw12417413533070643463:True:=⟨⟩
theorem PySem.W.Fast.tw17156102544206316871:True:=⟨⟩
theorem PySem.W.Fast.tw16185764543513718183:True:=⟨⟩
theorem PySem.W.Fast.tw7633976816491242951:True:=⟨⟩
theorem PySem.W.Fast.tw709753978667287047:True:=⟨⟩
theorem PySem.W.Fast.tw6996764458184790855:True:=⟨⟩
theorem PySem.W.Fast.tw4316362958735739783:True:=⟨⟩
theorem PySem.W.Fast.tw1830957999831062536:True:=⟨⟩
theorem PySem.W.Fast.tw2335957740953019400:True:=⟨⟩
theorem PySem.W.Fast.tw12853884147511487496:True:=⟨⟩
theorem PySem.W.Fast.tw18387209429183595560:True:=⟨⟩
theorem PySem.W.Fast.tw11671114472892574760:True:=⟨⟩
theorem PySem.W.Fast.tw8631544823515463720:True:=⟨⟩
theorem PySem.W.Fast.tw5817066489308024936:True:=⟨⟩
theorem PySem.W.Fast.tw2477731253270734056:True:=⟨⟩
theorem PySem.W.Fast.tw2914590134915565832:True:=⟨⟩
theorem PySem.W.Fast.tw17904595402494031176:True:=⟨⟩
theorem PySem.W.Fast.tw750614577225548104:True:=⟨⟩
theorem PySem.W.Fast.tw16878414943051812200:True:=⟨⟩
theorem PySem.W.Fast.tw14659487656839474536:True:=⟨⟩
theorem PySem.W.Fast.tw10779008972736716168:True:=⟨⟩
theorem PySem.W.Fast.tw9692800730386961864:True:=⟨⟩
theorem PySem.W.Fast.tw11182787620923766248:True:=⟨⟩
theorem PySem.W.Fast.tw5389350918874470952:True:=⟨⟩
theorem PySem.W.Fast.tw16810917939438379752:True:=⟨⟩
theorem PySem.W.Fast.tw5468947974626793192:True:=⟨⟩
theorem PySem.W.Fast.tw9702688269929076488:True:=⟨⟩
theorem PySem.W.Fast.tw13604219045922994984:True:=⟨⟩
theorem PySem.W.Fast.tw12837473321210401672:True:=⟨⟩
theorem PySem.W.Fast.tw2847531509623089032:True:=⟨⟩
theorem PySem.W.Fast.tw17818347072292006824:True:=⟨⟩
theorem PySem.W.Fast.tw1119359458909007913:True:=⟨⟩
theorem PySem.W.Fast.tw10090583467574260905:True:=⟨⟩
theorem PySem.W.Fast.tw2535473636086269129:True:=⟨⟩
theorem PySem.W.Fast.tw3231625765576137001:True:=⟨⟩
theorem PySem.W.Fast.tw2847642233521801609:True:=⟨⟩
theorem PySem.W.Fast.tw13474247799695067625:True:=⟨⟩
theorem PySem.W.Fast.tw10856502871355493961:True:=⟨⟩
theorem PySem.W.Fast.tw17919993624762182377:True:=⟨⟩
theorem PySem.W.Fast.tw802913467721148169:True:=⟨⟩
theorem PySem.W.Fast.tw12292376292940113737:True:=⟨⟩
theorem PySem.W.Fast.tw6139651473693698953:True:=⟨⟩
theorem PySem.W.Fast.tw17256264288558944201:True:=⟨⟩
theorem PySem.W.Fast.tw11901013108504379434:True:=⟨⟩
theorem PySem.W.Fast.tw7237819991556713514:True:=⟨⟩
theorem PySem.W.Fast.tw526175271401285706:True:=⟨⟩
theorem PySem.W.Fast.tw11269247903437502602:True:=⟨⟩
theorem PySem.W.Fast.tw18186384037291403498:True:=⟨⟩
theorem PySem.W.Fast.tw5113278380959756554:True:=⟨⟩
theorem PySem.W.Fast.tw17683472647291935050:True:=⟨⟩
theorem PySem.W.Fast.tw2666009019368641258:True:=⟨⟩
theorem PySem.W.Fast.tw17523680266546089866:True:=⟨⟩
theorem PySem.W.Fast.tw18425705126722220938:True:=⟨⟩
theorem PySem.W.Fast.tw7914587490162737034:True:=⟨⟩
theorem PySem.W.Fast.tw14895855264591409066:True:=⟨⟩
theorem PySem.W.Fast.tw7424023017505021163:True:=⟨⟩
theorem PySem.W.Fast.tw1904990010320491787:True:=⟨⟩
theorem PySem.W.Fast.tw13648339867618380043:True:=⟨⟩
theorem PySem.W.Fast.tw6243175979207653803:True:=⟨⟩
theorem PySem.W.Fast.tw15539670183310486027:True:=⟨⟩
theorem PySem.W.Fast.tw1548977354172750379:True:=⟨⟩
theorem PySem.W.Fast.tw14930866897856920459:True:=⟨⟩
theorem PySem.W.Fast.tw5201112976979627947:True:=⟨⟩
theorem PySem.W.Fast.tw8252099712815395084:True:=⟨⟩
theorem PySem.W.Fast.tw14727876062267390380:True:=⟨⟩
theorem PySem.W.Fast.tw2323156208893249196:True:=⟨⟩
theorem PySem.W.Fast.tw16832065018855019308:True:=⟨⟩
theorem PySem.W.Fast.tw5293576719070184268:True:=⟨⟩
theorem PySem.W.Fast.tw16342925866213032876:True:=⟨⟩
theorem PySem.W.Fast.tw12039819589007563692:True:=⟨⟩
theorem PySem.W.Fast.tw14890922310845544461:True:=⟨⟩
theorem PySem.W.Fast.tw5172342962626975053:True:=⟨⟩
theorem PySem.W.Fast.tw12008013510838622573:True:=⟨⟩
theorem PySem.W.Fast.tw6594471528298568077:True:=⟨⟩
theorem PySem.W.Fast.tw15232292979932721549:True:=⟨⟩
theorem PySem.W.Fast.tw8480855326808310189:True:=⟨⟩
theorem PySem.W.Fast.tw14681497502933966285:True:=⟨⟩
theorem PySem.W.Fast.tw7929370927709623789:True:=⟨⟩
theorem PySem.W.Fast.tw17742263847808814637:True:=⟨⟩
theorem PySem.W.Fast.tw9574184294971214797:True:=⟨⟩
theorem PySem.W.Fast.tw18117333224913222605:True:=⟨⟩
theorem PySem.W.Fast.tw1827520759035687982:True:=⟨⟩
theorem PySem.W.Fast.tw15364529812211164206:True:=⟨⟩
theorem PySem.W.Fast.tw1132914713467594894:True:=⟨⟩
theorem PySem.W.Fast.tw6228068788990882030:True:=⟨⟩
theorem PySem.W.Fast.tw9617358966639570190:True:=⟨⟩
theorem PySem.W.Fast.tw8028641864023184814:True:=⟨⟩
theorem PySem.W.Fast.tw10240449550812085774:True:=⟨⟩
theorem PySem.W.Fast.tw10613745781192873518:True:=⟨⟩
theorem PySem.W.Fast.tw16319396232112276046:True:=⟨⟩
theorem PySem.W.Fast.tw2751985246846653166:True:=⟨⟩
theorem PySem.W.Fast.tw37558991575037678:True:=⟨⟩
theorem PySem.W.Fast.tw17364835653071970062:True:=⟨⟩
theorem PySem.W.Fast.tw151418403527177134:True:=⟨⟩
theorem PySem.W.Fast.tw14221426530088128559:True:=⟨⟩
theorem PySem.W.Fast.tw11305435875522050319:True:=⟨⟩
theorem PySem.W.Fast.tw458649098403060015:True:=⟨⟩
theorem PySem.W.Fast.tw213501450511695:True:=⟨⟩
theorem PySem.W.Fast.tw7465211015172533711:True:=⟨⟩
theorem PySem.W.Fast.tw5367136165949549007:True:=⟨⟩
theorem PySem.W.Fast.tw8451516263904825007:True:=⟨⟩
theorem PySem.W.Fast.tw10487540794946501391:True:=⟨⟩
theorem PySem.W.Fast.tw14449396269402865487:True:=⟨⟩
theorem PySem.W.Fast.tw9877087391057286095:True:=⟨⟩
theorem PySem.W.Fast.tw3522641525607791632:True:=⟨⟩
theorem PySem.W.Fast.tw10948967186964743344:True:=⟨⟩
theorem PySem.W.Fast.tw15288450525805548848:True:=⟨⟩
theorem PySem.W.Fast.tw12997841130005604688:True:=⟨⟩
theorem PySem.W.Fast.tw13467418972777539952:True:=⟨⟩
theorem PySem.W.Fast.tw8652133841519671728:True:=⟨⟩
theorem PySem.W.Fast.tw15365265852094824912:True:=⟨⟩
theorem PySem.W.Fast.tw14051504401921463824:True:=⟨⟩
theorem PySem.W.Fast.tw6560421960227189392:True:=⟨⟩
theorem PySem.W.Fast.tw3052130344921909936:True:=⟨⟩
theorem PySem.W.Fast.tw10755277161598463728:True:=⟨⟩
theorem PySem.W.Fast.tw15019911871291028304:True:=⟨⟩
theorem PySem.W.Fast.tw6457802824734225232:True:=⟨⟩
theorem PySem.W.Fast.tw12076834181092218736:True:=⟨⟩
theorem PySem.W.Fast.tw9508374297740701552:True:=⟨⟩
theorem PySem.W.Fast.tw5180610799075822512:True:=⟨⟩
theorem PySem.W.Fast.tw14035564381670757296:True:=⟨⟩
theorem PySem.W.Fast.tw11592985719296791504:True:=⟨⟩
theorem PySem.W.Fast.tw561299279377272849:True:=⟨⟩
theorem PySem.W.Fast.tw6745043935861269617:True:=⟨⟩
theorem PySem.W.Fast.tw11636583138331837585:True:=⟨⟩
theorem PySem.W.Fast.tw16943534780522837201:True:=⟨⟩
theorem PySem.W.Fast.tw8682278336163026321:True:=⟨⟩
theorem PySem.W.Fast.tw10107104271892367825:True:=⟨⟩
theorem PySem.W.Fast.tw6632703671968527857:True:=⟨⟩
theorem PySem.W.Fast.tw16237741719062682129:True:=⟨⟩
theorem PySem.W.Fast.tw2059981994080924305:True:=⟨⟩
theorem PySem.W.Fast.tw4382699478316892817:True:=⟨⟩
theorem PySem.W.Fast.tw13141920955747470033:True:=⟨⟩
theorem PySem.W.Fast.tw10920792721411874577:True:=⟨⟩
theorem PySem.W.Fast.tw7033416756046419825:True:=⟨⟩
theorem PySem.W.Fast.tw13571754562135247729:True:=⟨⟩
theorem PySem.W.Fast.tw14610586889462650769:True:=⟨⟩
theorem PySem.W.Fast.tw9346826860973200369:True:=⟨⟩
theorem PySem.W.Fast.tw15511242056814945362:True:=⟨⟩
theorem PySem.W.Fast.tw1291401956028313682:True:=⟨⟩
theorem PySem.W.Fast.tw17533422472085325106:True:=⟨⟩
theorem PySem.W.Fast.tw6134015612158807410:True:=⟨⟩
theorem PySem.W.Fast.tw13092397061373142450:True:=⟨⟩
theorem PySem.W.Fast.tw4663312626720887506:True:=⟨⟩
theorem PySem.W.Fast.tw18176951824258001650:True:=⟨⟩
theorem PySem.W.Fast.tw8808006428818791410:True:=⟨⟩
theorem PySem.W.Fast.tw4889254164485431571:True:=⟨⟩
theorem PySem.W.Fast.tw5244188761854580083:True:=⟨⟩
theorem PySem.W.Fast.tw16730734818058483091:True:=⟨⟩
theorem PySem.W.Fast.tw2143280971422779891:True:=⟨⟩
theorem PySem.W.Fast.tw2145397091196268083:True:=⟨⟩
theorem PySem.W.Fast.tw13952476925577277139:True:=⟨⟩
theorem PySem.W.Fast.tw13915507528838673139:True:=⟨⟩
theorem PySem.W.Fast.tw6770558031337361267:True:=⟨⟩
theorem PySem.W.Fast.tw12727545953293175988:True:=⟨⟩
theorem PySem.W.Fast.tw2193758022410651860:True:=⟨⟩
theorem PySem.W.Fast.tw16786043517552991540:True:=⟨⟩
theorem PySem.W.Fast.tw14675313830889999860:True:=⟨⟩
theorem PySem.W.Fast.tw14374325361282668212:True:=⟨⟩
theorem PySem.W.Fast.tw15995945724567707508:True:=⟨⟩
theorem PySem.W.Fast.tw1078946840054322197:True:=⟨⟩
theorem PySem.W.Fast.tw4597580041146968501:True:=⟨⟩
theorem PySem.W.Fast.tw7125208266662841909:True:=⟨⟩
theorem PySem.W.Fast.tw2143756032494123573:True:=⟨⟩
theorem PySem.W.Fast.tw10794134809745439317:True:=⟨⟩
theorem PySem.W.Fast.tw12625720764544817749:True:=⟨⟩
theorem PySem.W.Fast.tw15516433048914105013:True:=⟨⟩
theorem PySem.W.Fast.tw6469819974956576469:True:=⟨⟩
theorem PySem.W.Fast.tw3966187182577543061:True:=⟨⟩
theorem PySem.W.Fast.tw9869168212121050069:True:=⟨⟩
theorem PySem.W.Fast.tw6187916489218754549:True:=⟨⟩
theorem PySem.W.Fast.tw1807318729942589462:True:=⟨⟩
theorem PySem.W.Fast.tw10332333607469066326:True:=⟨⟩
theorem PySem.W.Fast.tw12665123766360487030:True:=⟨⟩
theorem PySem.W.Fast.tw9893931751536232662:True:=⟨⟩
theorem PySem.W.Fast.tw1019421946213767446:True:=⟨⟩
theorem PySem.W.Fast.tw7738991402080592214:True:=⟨⟩
theorem PySem.W.Fast.tw10587316932477633942:True:=⟨⟩
theorem PySem.W.Fast.tw7197582988759397782:True:=⟨⟩
theorem PySem.W.Fast.tw1748200571221781974:True:=⟨⟩
theorem PySem.W.Fast.tw146278298557440502:True:=⟨⟩
theorem PySem.W.Fast.tw3149008007725017590:True:=⟨⟩
theorem PySem.W.Fast.tw3687152686930065942:True:=⟨⟩
theorem PySem.W.Fast.tw3912949092364873302:True:=⟨⟩
theorem PySem.W.Fast.tw11306909252425203350:True:=⟨⟩
theorem PySem.W.Fast.tw16162011725692979958:True:=⟨⟩
theorem PySem.W.Fast.tw7821980015107567382:True:=⟨⟩
theorem PySem.W.Fast.tw9369510956112594774:True:=⟨⟩
theorem PySem.W.Fast.tw5742287994578555766:True:=⟨⟩
theorem PySem.W.Fast.tw4730826703929863062:True:=⟨⟩
theorem PySem.W.Fast.tw7135364694590940086:True:=⟨⟩
theorem PySem.W.Fast.tw4778008038174212054:True:=⟨⟩
theorem PySem.W.Fast.tw13291017128270841814:True:=⟨⟩
theorem PySem.W.Fast.tw15657368721948429270:True:=⟨⟩
theorem PySem.W.Fast.tw372353122350060567:True:=⟨⟩
theorem PySem.W.Fast.tw16080019496430949527:True:=⟨⟩
theorem PySem.W.Fast.tw6459808279193302199:True:=⟨⟩
theorem PySem.W.Fast.tw9449434821549767895:True:=⟨⟩
theorem PySem.W.Fast.tw14502630076403958007:True:=⟨⟩
theorem PySem.W.Fast.tw6107784179452357911:True:=⟨⟩
theorem PySem.W.Fast.tw795433402707520951:True:=⟨⟩
theorem PySem.W.Fast.tw17630213575823984055:True:=⟨⟩
theorem PySem.W.Fast.tw12841710889467163159:True:=⟨⟩
theorem PySem.W.Fast.tw15272909058529026647:True:=⟨⟩
theorem PySem.W.Fast.tw11856494923286099831:True:=⟨⟩
theorem PySem.W.Fast.tw5961442160822520727:True:=⟨⟩
theorem PySem.W.Fast.tw10773864677861867608:True:=⟨⟩
theorem PySem.W.Fast.tw1617806835492254872:True:=⟨⟩
theorem PySem.W.Fast.tw9456019067632802008:True:=⟨⟩
theorem PySem.W.Fast.tw6280694394101049592:True:=⟨⟩
theorem PySem.W.Fast.tw3108316105766812056:True:=⟨⟩
theorem PySem.W.Fast.tw16954690892726148536:True:=⟨⟩
theorem PySem.W.Fast.tw2932407681943978424:True:=⟨⟩
theorem PySem.W.Fast.tw17888478119495996248:True:=⟨⟩
theorem PySem.W.Fast.tw13113421982286327704:True:=⟨⟩
theorem PySem.W.Fast.tw984229740288577464:True:=⟨⟩
theorem PySem.W.Fast.tw11719072371175473144:True:=⟨⟩
theorem PySem.W.Fast.tw2408192589464026265:True:=⟨⟩
theorem PySem.W.Fast.tw3911477207755063545:True:=⟨⟩
theorem PySem.W.Fast.tw8098558914339827001:True:=⟨⟩
theorem PySem.W.Fast.tw18041323927685366137:True:=⟨⟩
theorem PySem.W.Fast.tw10813961051687764441:True:=⟨⟩
theorem PySem.W.Fast.tw14862009212689186329:True:=⟨⟩
theorem PySem.W.Fast.tw17580709780682232441:True:=⟨⟩
theorem PySem.W.Fast.tw1723948834366316153:True:=⟨⟩
theorem PySem.W.Fast.tw16338635521026970361:True:=⟨⟩
theorem PySem.W.Fast.tw11739977629758883609:True:=⟨⟩
theorem PySem.W.Fast.tw15315516237829351289:True:=⟨⟩
theorem PySem.W.Fast.tw10038943328766914425:True:=⟨⟩
theorem PySem.W.Fast.tw4718163108129072186:True:=⟨⟩
theorem PySem.W.Fast.tw6515012011267820730:True:=⟨⟩
theorem PySem.W.Fast.tw2771145788252688570:True:=⟨⟩
theorem PySem.W.Fast.tw4196938489627173210:True:=⟨⟩
theorem PySem.W.Fast.tw6181799300577333754:True:=⟨⟩
theorem PySem.W.Fast.tw2241451094301677082:True:=⟨⟩
theorem PySem.W.Fast.tw3605030670910487162:True:=⟨⟩
theorem PySem.W.Fast.tw58546065799639706:True:=⟨⟩
theorem PySem.W.Fast.tw14298197608785811162:True:=⟨⟩
theorem PySem.W.Fast.tw5191325508692643610:True:=⟨⟩
theorem PySem.W.Fast.tw15052402461693145882:True:=⟨⟩
theorem PySem.W.Fast.tw12445022782452534074:True:=⟨⟩
theorem PySem.W.Fast.tw9744847183510268826:True:=⟨⟩
theorem PySem.W.Fast.tw17756868991156747162:True:=⟨⟩
theorem PySem.W.Fast.tw7368346395129327610:True:=⟨⟩
theorem PySem.W.Fast.tw62733342945280059:True:=⟨⟩
theorem PySem.W.Fast.tw5347508413084236059:True:=⟨⟩
theorem PySem.W.Fast.tw4020415530944841051:True:=⟨⟩
theorem PySem.W.Fast.tw6308241924282323355:True:=⟨⟩
theorem PySem.W.Fast.tw14541314537557435:True:=⟨⟩
theorem PySem.W.Fast.tw16865727458919329275:True:=⟨⟩
theorem PySem.W.Fast.tw11497293018321965627:True:=⟨⟩
theorem PySem.W.Fast.tw7068388570650076827:True:=⟨⟩
theorem PySem.W.Fast.tw3015075681616959163:True:=⟨⟩
theorem PySem.W.Fast.tw1137563746451766011:True:=⟨⟩
theorem PySem.W.Fast.tw3036605424635801403:True:=⟨⟩
theorem PySem.W.Fast.tw3923046210587674459:True:=⟨⟩
theorem PySem.W.Fast.tw16191575488798986075:True:=⟨⟩
theorem PySem.W.Fast.tw16952777333504314235:True:=⟨⟩
theorem PySem.W.Fast.tw537259569628335035:True:=⟨⟩
theorem PySem.W.Fast.tw15782003699355278299:True:=⟨⟩
theorem PySem.W.Fast.tw13716735090063353884:True:=⟨⟩
theorem PySem.W.Fast.tw7932503465360278556:True:=⟨⟩
theorem PySem.W.Fast.tw11088275661340528668:True:=⟨⟩
theorem PySem.W.Fast.tw16985626905238977724:True:=⟨⟩
theorem PySem.W.Fast.tw9527810484649121052:True:=⟨⟩
theorem PySem.W.Fast.tw1856839248737641884:True:=⟨⟩
theorem PySem.W.Fast.tw14137501048510947740:True:=⟨⟩
theorem PySem.W.Fast.tw5233531608673781276:True:=⟨⟩
theorem PySem.W.Fast.tw4737730850700512956:True:=⟨⟩
theorem PySem.W.Fast.tw7581068511053525692:True:=⟨⟩
theorem PySem.W.Fast.tw2437516052715203324:True:=⟨⟩
theorem PySem.W.Fast.tw189881105230629660:True:=⟨⟩
theorem PySem.W.Fast.tw17757891728624109404:True:=⟨⟩
theorem PySem.W.Fast.tw10897501066576035676:True:=⟨⟩
theorem PySem.W.Fast.tw14704674466946892764:True:=⟨⟩
theorem PySem.W.Fast.tw11973647312831143932:True:=⟨⟩
theorem PySem.W.Fast.tw10553545663803035677:True:=⟨⟩
theorem PySem.W.Fast.tw4624484659246519389:True:=⟨⟩
theorem PySem.W.Fast.tw4597981775200132349:True:=⟨⟩
theorem PySem.W.Fast.tw7203451100699800861:True:=⟨⟩
theorem PySem.W.Fast.tw8492588237721634109:True:=⟨⟩
theorem PySem.W.Fast.tw11829141441528368541:True:=⟨⟩
theorem PySem.W.Fast.tw7033112128720828925:True:=⟨⟩
theorem PySem.W.Fast.tw13086881295484811805:True:=⟨⟩
theorem PySem.W.Fast.tw8263085925973196349:True:=⟨⟩
theorem PySem.W.Fast.tw18019061469352070781:True:=⟨⟩
theorem PySem.W.Fast.tw14355724965631363805:True:=⟨⟩
theorem PySem.W.Fast.tw9686846700429766429:True:=⟨⟩
theorem PySem.W.Fast.tw1209874897701668701:True:=⟨⟩
theorem PySem.W.Fast.tw15967425578473526173:True:=⟨⟩
theorem PySem.W.Fast.tw1081478041416480701:True:=⟨⟩
theorem PySem.W.Fast.tw14642170532818441149:True:=⟨⟩
theorem PySem.W.Fast.tw8191546643230614493:True:=⟨⟩
theorem PySem.W.Fast.tw7141683874445025310:True:=⟨⟩
theorem PySem.W.Fast.tw6008129468502717630:True:=⟨⟩
theorem PySem.W.Fast.tw8987962566477903070:True:=⟨⟩
theorem PySem.W.Fast.tw10609472540866803070:True:=⟨⟩
theorem PySem.W.Fast.tw810630935905694366:True:=⟨⟩
theorem PySem.W.Fast.tw968617104227535550:True:=⟨⟩
theorem PySem.W.Fast.tw5914313385338926878:True:=⟨⟩
theorem PySem.W.Fast.tw1834731813344580510:True:=⟨⟩
theorem PySem.W.Fast.tw9488618877176936767:True:=⟨⟩
theorem PySem.W.Fast.tw4313391951458344255:True:=⟨⟩
theorem PySem.W.Fast.tw15358143118187710815:True:=⟨⟩
theorem PySem.W.Fast.tw9130884092826669535:True:=⟨⟩
theorem PySem.W.Fast.tw14905441884436791871:True:=⟨⟩
theorem PySem.W.Fast.tw10511965899595235903:True:=⟨⟩
theorem PySem.W.Fast.tw17025623884926992063:True:=⟨⟩
theorem PySem.W.Fast.tw8814274579503917791:True:=⟨⟩
theorem PySem.W.Fast.tw15722649597400616703:True:=⟨⟩
theorem PySem.W.Fast.tw11751675264331339743:True:=⟨⟩
theorem PySem.W.Fast.tw15102163325320354783:True:=⟨⟩
theorem PySem.W.Fast.tw2031577105170297228:True:=⟨⟩
set_option maxRecDepth 100000 in
set_option maxHeartbeats 0 in
theorem PySem.Challenge.cw_unlikesteps_k91_lays_written_and_read_holds : PySem.Challenge.rw_unlikesteps_k91_lays_written_and_read.Holds := by
 w_on; o_law; k_head; (case hw => w_witness2)
 k_fill
 refine U.zT (l := PySem.Challenge.rw_unlikesteps_k91_lays_written_and_read) (n := 63) (k := 11) (x := "_law_script") (Pts := [366]) (sp := fun K => U.ql K 366) rfl (by decide) rfl ⟨rfl, by decide, by decide, rfl⟩ (fun w h Y => PySem.W.km_in_of Y) ?hT9 ?hC9 ?hN9 ?F ?S
 case hT9 =>
  intro w h Y P hP
  simp only [List.mem_cons, List.not_mem_nil, or_false] at hP
  rcases hP with rfl
  ·exact PySem.W.km_tabs_of Y 366 (by simp)
 case hC9 =>
  intro w h X P hP
  simp only [List.mem_cons, List.not_mem_nil, or_false] at hP
  rcases hP with rfl
  ·exact ⟨368, PySem.W.codeHd_of_K X (by kernel_rfl)⟩
 case hN9 =>
  intro w P hP
  simp only [List.mem_cons, List.not_mem_nil, or_false] at hP
  rcases hP with rfl
  ·kernel_rfl
 case S => exact fun K H a ns hl hs hp => ⟨a, ns, rfl, hs, hl, hp _ (by simp), fun _ => rfl⟩
 case F =>
  intro w mg fa h KX G hmg
  refine' U.Cj (c := 368) (Pt := 366) KX G hmg (U.bT ?a0 ?b0 ?c0 ?e0) (U.bT ?a1 ?b1 ?c1 ?e1) (U.bT ?a2 ?b2 ?c2 ?e2) (U.bT ?a3 ?b3 ?c3 ?e3) (U.bT ?a4 ?b4 ?c4 ?e4) (U.bT ?a5 ?b5 ?c5 ?e5) (U.bT ?a6 ?b6 ?c6 ?e6) (U.bT ?a7 ?b7 ?c7 ?e7) (U.bT ?a8 ?b8 ?c8 ?e8) (U.bT ?a9 ?b9 ?c9 ?e9) (U.bT ?a10 ?b10 ?c10 ?e10) (U.bT ?a11 ?b11 ?c11 ?e11) (U.bT ?a12 ?b12 ?c12 ?e12) (U.bT ?a13 ?b13 ?c13 ?e13) (U.bT ?a14 ?b14 ?c14 ?e14) (U.bT ?a15 ?b15 ?c15 ?e15) (U.bT ?a16 ?b16 ?c16 ?e16) (U.bT ?a17 ?b17 ?c17 ?e17) (U.bT ?a18 ?b18 ?c18 ?e18) (U.bT ?a19 ?b19 ?c19 ?e19) (U.bT ?a20 ?b20 ?c20 ?e20) (U.bT ?a21 ?b21 ?c21 ?e21) (U.bT ?a22 ?b22 ?c22 ?e22) (U.bT ?a23 ?b23 ?c23 ?e23) (U.bT ?a24 ?b24 ?c24 ?e24) ?l1 ?l2 ?l3 ?l4 ?g1 ?lo0 ?eB ?eL ?eT ?eS ?xB ?xL ?xT ?gaB ?hoB ?clB ?gaL ?hoL ?clL ?gaT ?hoT ?clT
  (case a0 => k_is); (case b0 => k_is); (case c0 => k_is); (case e0 => k_is)
  (case a1 => k_is); (case b1 => k_is); (case c1 => k_is); (case e1 => k_is)
  (case a2 => k_is); (case b2 => k_is); (case c2 => k_is); (case e2 => k_is)
  (case a3 => k_is); (case b3 => k_is); (case c3 => k_is); (case e3 => k_is)
  (case a4 => k_is); (case b4 => k_is); (case c4 => k_is); (case e4 => k_is)
  (case a5 => k_is); (case b5 => k_is); (case c5 => k_is); (case e5 => k_is)
  (case a6 => k_is); (case b6 => k_is); (case c6 => k_is); (case e6 => k_is)
  (case a7 => k_is); (case b7 => k_is); (case c7 => k_is); (case e7 => k_is)
  (case a8 => k_is); (case b8 => k_is); (case c8 => k_is); (case e8 => k_is)
  (case a9 => k_is); (case b9 => k_is); (case c9 => k_is); (case e9 => k_is)
  (case a10 => k_is); (case b10 => k_is); (case c10 => k_is); (case e10 => k_is)
  (case a11 => k_is); (case b11 => k_is); (case c11 => k_is); (case e11 => k_is)
  (case a12 => k_is); (case b12 => k_is); (case c12 => k_is); (case e12 => k_is)
  (case a13 => k_is); (case b13 => k_is); (case c13 => k_is); (case e13 => k_is)
  (case a14 => k_is); (case b14 => k_is); (case c14 => k_is); (case e14 => k_is)
  (case a15 => k_is); (case b15 => k_is); (case c15 => k_is); (case e15 => k_is)
  (case a16 => k_is); (case b16 => k_is); (case c16 => k_is); (case e16 => k_is)
  (case a17 => k_is); (case b17 => k_is); (case c17 => k_is); (case e17 => k_is)
  (case a18 => k_is); (case b18 => k_is); (case c18 => k_is); (case e18 => k_is)
  (case a19 => k_is); (case b19 => k_is); (case c19 => k_is); (case e19 => k_is)
  (case a20 => k_is); (case b20 => k_is); (case c20 => k_is); (case e20 => k_is)
  (case a21 => k_is); (case b21 => k_is); (case c21 => k_is); (case e21 => k_is)
  (case a22 => k_is); (case b22 => k_is); (case c22 => k_is); (case e22 => k_is)
  (case a23 => k_is); (case b23 => k_is); (case c23 => k_is); (case e23 => k_is)
  (case a24 => k_is); (case b24 => k_is); (case c24 => k_is); (case e24 => k_is)
  (case l1 => k_is)
  (case l2 => k_is)
  (case l3 => k_is)
  (case l4 => kernel_rfl)
  (case g1 => kernel_rfl)
  (case lo0 => k_is)
  (case eB => k_is)
  (case eL => k_is)
  (case eT => k_is)
  (case eS => k_is)
  (case xB => kernel_rfl)
  (case xL => kernel_rfl)
  (case xT => kernel_rfl)
  (case gaB => k_is)
  (case hoB => k_is)
  (case clB => k_is)
  (case gaL => k_is)
  (case hoL => k_is)
  (case clL => k_is)
  (case gaT => k_is)
  (case hoT => k_is)
  (case clT => k_is)
