import PyProof.Rows.All
import Wide.All
import OpenK.AllK
import Wide.FinOn
import Lean
import PyProof.EqAt
import PyProof.EqKinds
import PyProof.TupleCall
import PyProof.NeKinds
import PyProof.Rows.SortWalk
import PyProof.Rows.SortRuns
import KE.KMinKey
import PyProof.IsRules
import PySem.SetOps
import PyProof.SetScanFacts
import PyProof.TupleKey
import PyProof.SetKind
import PyProof.Rows.SetFrom
import KE.KRevSl
import PyProof.Rows.SumAny
import PyProof.EnumMake
import PyProof.SeqI3
import PyProof.TupleOfGen
import PyProof.ListRange
import PyProof.CollectIter
import PyProof.DictItems
import KE.KDictList
import PySem.Challenge.RW_unlikesteps_k23_whole_fits
set_option Elab.async false
set_option linter.all false
set_option maxRecDepth 100000
set_option maxHeartbeats 0
namespace L2
open PySem PySem.Spec PyProof.Rows
abbrev Key:=Sum Int Str
def lW:Key→Value→Bool
 | .inl k,v=>Value.isInt k v
 | .inr x,v=>Value.isStrOf x v
def Gb (w:World):Key→Int
 | .inl k=>hashInt k
 | .inr x=>hashStr w x
theorem ZQ:∀{k:Key}{v:Value},lW k v=true→(∃i t,k=Sum.inl i∧v=Value.int i t)∨(∃x t,k=Sum.inr x∧v=Value.str x t)
 | .inl i,v,h=>by
  obtain⟨t,e⟩:=Value.isInt_shape (k:=i) (v:=v) h
  exact .inl ⟨i,t,rfl,e⟩
 | .inr x,v,h=>by
  obtain⟨t,e⟩:=Value.isStrOf_shape (x:=x) (v:=v) h
  exact .inr ⟨x,t,rfl,e⟩
theorem M5 (i:Int) (t:Tok):lW (.inl i) (.int i t)=true:=by simp[lW,Value.isInt]
theorem M6 (x:Str) (t:Tok):lW (.inr x) (.str x t)=true:=by simp[lW,Value.isStrOf]
theorem LV (a b:Int):decide ((Sum.inl a:Key)=Sum.inl b)=(a==b):=by
 by_cases e:a=b
 ·subst e;simp
 ·have h:¬(Sum.inl a:Key)=Sum.inl b:=fun q=>e (Sum.inl.inj q)
  rw[decide_eq_false h]
  exact(beq_eq_false_iff_ne.mpr e).symm
theorem Ll (a b:Str):decide ((Sum.inr a:Key)=Sum.inr b)=decide (a=b):=by
 by_cases e:a=b
 ·subst e;simp
 ·have h:¬(Sum.inr a:Key)=Sum.inr b:=fun q=>e (Sum.inr.inj q)
  rw[decide_eq_false h,decide_eq_false e]
theorem LW (a:Int) (b:Str):decide ((Sum.inl a:Key)=Sum.inr b)=false:=decide_eq_false (fun q=>nomatch q)
theorem Lk (a:Str) (b:Int):decide ((Sum.inr a:Key)=Sum.inl b)=false:=decide_eq_false (fun q=>nomatch q)
def fe (prog:Program) (w:World):PySem.KeyKind prog w Key where
 is:=lW
 hash:=Gb w
 inj:=fun v a b ha hb=>by
  rcases ZQ ha with ⟨i,t,rfl,rfl⟩ |⟨x,t,rfl,rfl⟩
  ·rcases ZQ hb with ⟨j,u,rfl,e⟩ |⟨y,u,rfl,e⟩
   ·injection e with e1 _;rw[e1]
   ·exact nomatch e
  ·rcases ZQ hb with ⟨j,u,rfl,e⟩ |⟨y,u,rfl,e⟩
   ·exact nomatch e
   ·injection e with e1 _;rw[e1]
 byValue:=fun k v h=>by
  rcases ZQ h with ⟨i,t,rfl,rfl⟩ |⟨x,t,rfl,rfl⟩<;>rfl
 pyHash:=fun hv h=>by
  rcases ZQ hv with ⟨i,t,rfl,rfl⟩ |⟨x,t,rfl,rfl⟩
  ·exact wpAny_pyHash_int h
  ·exact wpAny_pyHash_str h
 eqBool:=fun hu hv h=>by
  rcases ZQ hu with ⟨i,t,rfl,rfl⟩ |⟨x,t,rfl,rfl⟩
  ·rcases ZQ hv with ⟨j,u,rfl,rfl⟩ |⟨y,u,rfl,rfl⟩
   ·rw[LV]at h;exact wpAny_eqBool_int h
   ·rw[LW]at h;exact SeqAt.EqAt.int_str i t y u _ _ _ _ h
  ·rcases ZQ hv with ⟨j,u,rfl,rfl⟩ |⟨y,u,rfl,rfl⟩
   ·rw[Lk]at h;exact SeqAt.EqAt.str_int x t j u _ _ _ _ h
   ·rw[Ll]at h;exact wpAny_eqBool_str h
 «strs» :=fun k x t v h=>by
  rcases ZQ h with ⟨i,u,rfl,e⟩ |⟨y,u,rfl,e⟩
  ·exact nomatch e
  ·injection e with e1 _
   subst e1
   cases v<;>rfl
theorem Pa (prog:Program) (w:World) (i:Int) (t:Tok):(fe prog w).is (.inl i) (.int i t)=true:=M5 i t
theorem Pb (prog:Program) (w:World) (x:Str) (t:Tok):(fe prog w).is (.inr x) (.str x t)=true:=M6 x t
inductive V where
 |ae |bl (b:Bool) |int (i:Int) |str (x:Str) |fA (b:Array UInt8) |jh (b:UInt64) |ref (a:Addr) |ty (n:String)
 deriving DecidableEq
def RelV:V→Value→Prop
 | .ae,u=>u=Value.none
 | .bl b,u=>u=Value.bool b
 | .int i,u=> ∃t,u=Value.int i t
 | .str x,u=> ∃t,u=Value.str x t
 | .fA b,u=> ∃t,u=Value.bytes b t
 | .jh b,u=> ∃t,u=Value.float b t
 | .ref a,u=>u=Value.ref a
 | .ty n,u=>u=Value.type n
abbrev Vals:List V→List Value→Prop:=Paired RelV
theorem Vals.length {xs:List V}{us:List Value}(r:Vals xs us):xs.length=us.length:=Paired.length r
theorem Vals.get:∀{xs:List V}{us:List Value}{i:Nat}{x:V},Vals xs us→xs[i]? =some x→∃u,us[i]? =some u∧RelV x u
 |_,_,_,_,.nil,e=>by simp at e
 |_,_,0,_,.cons r _,e=>by simp at e;subst e;exact⟨_,rfl,r⟩
 |_,_,i+1,x,.cons _ t,e=>by
  obtain⟨u,h1,h2⟩:=Vals.get (i:=i) (x:=x) t (by simpa using e)
  exact⟨u,by simpa using h1,h2⟩
theorem Vals.set {x:V}{u:Value}(r:RelV x u):∀{xs:List V}{us:List Value}(i:Nat),Vals xs us→Vals (xs.set i x) (us.set i u)
 |_,_,_,.nil=> .nil
 |_,_,0,.cons _ t=> .cons r t
 |_,_,i+1,.cons q t=> .cons q (Vals.set r i t)
theorem Vals.append:∀{xs ys:List V}{us ws:List Value},Vals xs us→Vals ys ws→Vals (xs++ys) (us++ws)
 |_,_,_,_,.nil,s=>s
 |_,_,_,_,.cons r t,s=> .cons r (Vals.append t s)
theorem Vals.take:∀{xs:List V}{us:List Value}(n:Nat),Vals xs us→Vals (xs.take n) (us.take n)
 |_,_,0,_=> .nil
 |_,_,_+1,.nil=> .nil
 |_,_,n+1,.cons r t=> .cons r (Vals.take n t)
theorem Vals.drop:∀{xs:List V}{us:List Value}(n:Nat),Vals xs us→Vals (xs.drop n) (us.drop n)
 |_,_,0,r=>r
 |_,_,_+1,.nil=> .nil
 |_,_,n+1,.cons _ t=>Vals.drop n t
def kX:Option V→Option Value→Prop
 |some v,some u=>RelV v u
 |none,none=>True
 |_,_=>False
def KV {κ:Type} :List (κ×V)→List (κ×Value)→Prop:=Paired fun(p:κ×V) (q:κ×Value)=>p.1=q.1∧RelV p.2 q.2
def kV:Key→V
 | .inl i=> .int i
 | .inr x=> .str x
inductive HO where
  |lst (xs:List V)
  |tup (xs:List V)
  |par (xs:List V)
  |dK (ai:List (Key×V)) |dT (ai:List (List Key×V))
  |set (S:Int→Bool) (n:Nat)
  |ins (C dx:Addr) (fs:List (Str×V))
  |own (x:Addr)
  |xd (fs:List (Str×V))
  |met (f x:Addr)
  |fX (lo hi:Int)
  |cK (o:Obj) (u:HO)
  |fW (ps:Array Value)
  |ext (φ:Heap→Prop)
abbrev Hp:=Addr→Option HO
def upd (H:Hp) (a:Addr) (o:HO):Hp:=fun b=>if b=a then some o else H b
theorem Zc {H:Hp}{a:Addr}{o:HO} :upd H a o a=some o:=by unfold upd;rw[if_pos rfl]
theorem Zg {H:Hp}{a b:Addr}{o:HO}(h:b≠a):upd H a o b=H b:=by unfold upd;rw[if_neg h]
theorem Ys {H:Hp}{a b:Addr}{o u:HO}(h:H a=some o) (h':H b=some u) (d:o≠u):a≠b:=by
 intro e;subst e;rw[h]at h';exact d (Option.some.inj h')
theorem Zd {H:Hp}{a b:Addr}{o:HO}(h:H a=some o) (h':H b=none):a≠b:=by
 intro e;subst e;rw[h]at h';cases h'
section
variable (P:Program) (w:World)
def bz (H:Hp) (h:Heap) (a:Addr):HO→Prop
 | .lst xs=>xs.length≤sizeLine∧∃(aa:List Value) (n:Nat),Vals xs aa∧h.get? a=some {cls:=.type "list",data:=.seq aa.toArray n}
 | .tup xs=>xs.length≤sizeLine∧∃aa:List Value,Vals xs aa∧IsTup h a aa.toArray∧∃o,h.get? a=some o∧o.dict=none
 | .par xs=>xs.length≤sizeLine∧∃aa:List Value,Vals xs aa∧IsTup h a aa.toArray
 | .dK ai=>ai.length≤sizeLine∧(a==sysModules)=false∧∃vs,KV ai vs∧h.DictOf (fe P w) a vs
 | .dT ai=>ai.length≤sizeLine∧(a==sysModules)=false∧∃xs:List (List Key×Addr×Value),
   Paired (fun(p:List Key×V) (q:List Key×Addr×Value)=>p.1=q.1∧H q.2.1=some (.tup (p.1.map kV))∧RelV p.2 q.2.2) ai xs∧
   ∃o es ep,h.get? a=some o∧o.ExactDict∧o.data=.dict es ep∧es.toList=xs.map (entryOfKey (tupleKind (fe P w)))∧(xs.map (·.1)).Nodup
 | .set S n=>h.SetOf (intKind P w) a S n
 | .ins C dx fs=>H dx=some (.own a)∧fs.length≤1000∧dx≠a∧h.get? a=some (PySem.W.instObj C dx)∧
   ∃mA,h.Ns1 dx mA∧(∀f,kX (fs.lookup f) (mA f))∧PySem.Within mA (fs.map (·.1))
 | .own _=> ∃o,h.get? a=some o
 | .xd fs=> ∃mA,h.Ns1 a mA∧∀f,kX (fs.lookup f) (mA f)
 | .fX lo hi=> ∃t u v,h.get? a=some {cls:=.type "range",data:=.fields #[.int lo t,.int hi u,.int 1 v]}
 | .cK o u=>h.get? a=some o∧bz H h a u
 | .fW ps=>h.get? a=some {cls:=.none,data:=.fields ps}
 | .met f x=>h.get? a=some (PySem.W.methodObj (.ref f) (.ref x))
 | .ext φ=>φ h∧(∃o,h.get? a=some o)∧∀h1 h2:Heap,φ h1→(∀o,h1.get? a=some o→h2.get? a=some o)→φ h2
def bu (H:Hp) (h:Heap):Prop:=∀a o,H a=some o→bz P w H h a o
end
section
variable {P:Program}{w:World}{H H':Hp}{h h':Heap}{a:Addr}{o:HO}
theorem bz.lt (x:bz P w H h a o):a<h.objs.size:=by
 cases o with
 |lst xs=>obtain⟨_,_,_,_,e⟩:=x;exact Heap.lt_size e
 |tup xs=>obtain⟨_,_,_,p,_⟩:=x;exact p.lt
 |par xs=>obtain⟨_,_,_,p⟩:=x;exact p.lt
 |dK ai=>obtain⟨_,_,_,_,o,_,_,e,_⟩:=x;exact Heap.lt_size e
 |dT ai=>obtain⟨_,_,_,_,o,_,_,e,_⟩:=x;exact Heap.lt_size e
 |set S n=>obtain⟨o,_,_,_,e,_⟩:=x;exact Heap.lt_size e
 |ins C dx fs=>obtain⟨_,_,_,e,_⟩:=x;exact Heap.lt_size e
 |own y=>obtain⟨_,e⟩:=x;exact Heap.lt_size e
 |xd fs=>obtain⟨_,⟨_,_,_,e,_⟩,_⟩:=x;exact Heap.lt_size e
 |fX lo hi=>obtain⟨_,_,_,e⟩:=x;exact Heap.lt_size e
 |cK ob u=>obtain⟨e,_⟩:=x;exact Heap.lt_size e
 |fW ps=>exact Heap.lt_size (show h.get? a=some _ from x)
 |met f y=>exact Heap.lt_size (show h.get? a=some _ from x)
 |ext φ=>obtain⟨_,⟨_,e⟩,_⟩:=x;exact Heap.lt_size e
theorem Paired.ba {α β:Type}{F G:α→β→Prop} :∀{jL:List α}{jK:List β},Paired F jL jK→(∀a b,F a b→G a b)→Paired G jL jK
 |_,_,.nil,_=> .nil
 |_,_,.cons r t,f=> .cons (f _ _ r) (Paired.ba t f)
theorem bz.bT (x:bz P w H h a o) (k:∀b u,(b=a∨H b=some (.own a))→h.get? b=some u→h'.get? b=some u)
  (ho:∀b,H b=some (.own a)→H' b=some (.own a)) (ht:∀b xs,H b=some (.tup xs)→H' b=some (.tup xs)):bz P w H' h' a o:=by
 induction o with
 |lst xs=>obtain⟨z,aa,n,r,e⟩:=x;exact⟨z,aa,n,r,k _ _ (.inl rfl) e⟩
 |tup xs=>obtain⟨z,aa,r,⟨ob,e,c⟩,o2,e2,c2⟩:=x;exact⟨z,aa,r,⟨ob,k _ _ (.inl rfl) e,c⟩,o2,k _ _ (.inl rfl) e2,c2⟩
 |par xs=>obtain⟨z,aa,r,ob,e,c⟩:=x;exact⟨z,aa,r,ob,k _ _ (.inl rfl) e,c⟩
 |dK ai=>obtain⟨z,y,vs,r,ob,es,ep,e,c⟩:=x;exact⟨z,y,vs,r,ob,es,ep,k _ _ (.inl rfl) e,c⟩
 |dT ai=>
  obtain⟨z,y,xs,r,ob,es,ep,e,c⟩:=x
  exact⟨z,y,xs,Paired.ba r fun p q z=> ⟨z.1,ht _ _ z.2.1,z.2.2⟩,ob,es,ep,k _ _ (.inl rfl) e,c⟩
 |set S n=>obtain⟨ob,es,ep,t,e,c⟩:=x;exact⟨ob,es,ep,t,k _ _ (.inl rfl) e,c⟩
 |ins C dx fs=>
  obtain⟨d,z,ne,e,mA,⟨od,es,ep,e2,c⟩,r⟩:=x
  exact⟨ho _ d,z,ne,k _ _ (.inl rfl) e,mA,⟨od,es,ep,k _ _ (.inr d) e2,c⟩,r⟩
 |own y=>obtain⟨ob,e⟩:=x;exact⟨ob,k _ _ (.inl rfl) e⟩
 |xd fs=>obtain⟨mA,⟨od,es,ep,e,c⟩,r⟩:=x;exact⟨mA,⟨od,es,ep,k _ _ (.inl rfl) e,c⟩,r⟩
 |fX lo hi=>obtain⟨t,u,v,e⟩:=x;exact⟨t,u,v,k _ _ (.inl rfl) e⟩
 |cK ob u ih=>obtain⟨e,q⟩:=x;exact⟨k _ _ (.inl rfl) e,ih q⟩
 |fW ps=>
  have e:h.get? a=some {cls:=.none,data:=.fields ps} :=x
  show h'.get? a=some {cls:=.none,data:=.fields ps}
  exact k a _ (.inl rfl) e
 |met f y=>
  have e:h.get? a=some (PySem.W.methodObj (.ref f) (.ref y)):=x
  show h'.get? a=some (PySem.W.methodObj (.ref f) (.ref y))
  exact k a _ (.inl rfl) e
 |ext φ=>obtain⟨p,⟨o,e⟩,st⟩:=x;exact⟨st _ _ p fun o q=>k _ _ (.inl rfl) q,⟨o,k _ _ (.inl rfl) e⟩,st⟩
theorem bu.lt (x:bu P w H h) (e:H a=some o):a<h.objs.size:=(x a o e).lt
theorem bu.fresh (x:bu P w H h) (e:h.objs.size≤a):H a=none:=by
 cases q:H a with
 |none=>rfl
 |some u=>exact absurd (Nat.lt_of_lt_of_le (x.lt q) e) (Nat.lt_irrefl _)
theorem bu.kept (x:bu P w H h) (k:∀b u,h.get? b=some u→h'.get? b=some u):bu P w H h':=fun a o e=>
 (x a o e).bT (fun b u _ q=>k b u q) (fun _ q=>q) fun _ _ q=>q
theorem bu.laid (x:bu P w H h) (k:∀b u,h.get? b=some u→h'.get? b=some u) (hp:h.objs.size≤a) (new:bz P w (upd H a o) h' a o):bu P w (upd H a o) h':=fun b u e=>by
 have hn:=x.fresh hp
 by_cases hb:b=a
 ·subst hb;rw[Zc]at e;cases e;exact new
 ·rw[Zg hb]at e
  exact(x b u e).bT (fun c v _ q=>k c v q) (fun c q=>by rw[Zg (Zd q hn)];exact q) fun c xs q=>by rw[Zg (Zd q hn)];exact q
end
def Rd (H:Hp) (a:Addr) (u:HO):Prop:=H a=some u∨∃o,H a=some (.cK o u)
theorem Rd.ok {P:Program}{w:World}{H:Hp}{h:Heap}{a:Addr}{u:HO}(r:Rd H a u) (x:bu P w H h):bz P w H h a u:=by
 rcases r with r |⟨o,r⟩
 ·exact x a u r
 ·obtain⟨_,q⟩:=x a _ r
  exact q
def pC:Option HO→Prop
 |some (.lst _)=>True
 |some (.dK _)=>True
 |some (.dT _)=>True
 |some (.set _ _)=>True
 |some (.ins _ _ _)=>True
 |some (.ext _)=>True
 |_=>False
section
variable {P:Program}{w:World}{H:Hp}{h h':Heap}{x e:Addr}{o':HO}
theorem bu.write (ok:bu P w H h) (mu:pC (H x)) (he:e=x∨H e=some (.own x)) (k:∀b u,b≠e→h.get? b=some u→h'.get? b=some u) (mv:∃u,h'.get? e=some u)
  (new:bz P w (upd H x o') h' x o'):bu P w (upd H x o') h':=fun b u q=>by
 have za:∀c y,H c=some (.own y)→c≠x:=fun c y r z=>by subst z;rw[r]at mu;exact mu
 have Fw:∀c xs,H c=some (.tup xs)→c≠x:=fun c xs r z=>by subst z;rw[r]at mu;exact mu
 by_cases hb:b=x
 ·subst hb;rw[Zc]at q;cases q;exact new
 ·rw[Zg hb]at q
  by_cases kK:b=e
  ·have q':H b=some (.own x):=by
    rcases he with z |z
    ·exact absurd (kK.trans z) hb
    ·rw[kK];exact z
   rw[q]at q';cases q'
   obtain⟨v,hv⟩:=mv
   exact⟨v,by rw[kK];exact hv⟩
  ·refine(ok b u q).bT (fun c v hc r=>k c v ?_ r) (fun c r=>by rw[Zg (za c b r)];exact r) fun c xs r=>by rw[Zg (Fw c xs r)];exact r
   rcases hc with rfl |hc
   ·exact kK
   ·rintro rfl
    rcases he with z |z
    ·exact za c b hc z
    ·rw[hc]at z;cases z;exact hb rfl
end
structure Un (fs ex:List Addr) (H H':Hp) (h h':Heap):Prop where
 keep:∀b o,h.get? b=some o→H b=none→b∉fs→b∉ex→h'.get? b=some o
 slot:∀b o,h.get? b=some o→H b=none→b∈fs→b∉ex→∃sl,h'.get? b=some {o with slots:=sl}
 free:∀b o,h.get? b=some o→H b=none→b∉ex→H' b=none
 there:∀b o,h.get? b=some o→b∉ex→∃o',h'.get? b=some o'
 gE:∀b xs,H b=some (.tup xs)→H' b=some (.tup xs)
 gp:∀b o u,H b=some (.cK o u)→H' b=some (.cK o u)
 fV:∀b ps,H b=some (.fW ps)→∃more,H' b=some (.fW (ps++more))
section
variable {fs Iz ex QM:List Addr}{H H1 H2:Hp}{h h1 h2 h':Heap}{a x e:Addr}{o:HO}
theorem Un.any (u:Un fs ex H H1 h h1) {b:Addr}{ob:Obj}(q:h.get? b=some ob) (n:H b=none) (hx:b∉ex):∃sl,h1.get? b=some {ob with slots:=sl} :=by
 by_cases hb:b∈fs
 ·exact u.slot b ob q n hb hx
 ·exact⟨ob.slots,u.keep b ob q n hb hx⟩
theorem Un.kept (k:∀b u,h.get? b=some u→h'.get? b=some u):Un fs ex H H h h':=
 ⟨fun b ob q _ _ _=>k b ob q,fun b ob q _ _ _=> ⟨ob.slots,k b ob q⟩,fun _ _ _ n _=>n,fun b ob q _=> ⟨ob,k b ob q⟩,fun _ _ q=>q,fun _ _ _ q=>q,fun _ ps q=> ⟨#[],by rw[q];simp⟩⟩
theorem Un.refl:Un fs ex H H h h:=Un.kept fun _ _ q=>q
theorem Un.laid (k:∀b u,h.get? b=some u→h'.get? b=some u) (hp:h.objs.size≤a) (hn:H a=none):Un fs ex H (upd H a o) h h' where
 keep:=fun b u q _ _ _=>k b u q
 slot:=fun b u q _ _ _=> ⟨u.slots,k b u q⟩
 free:=fun b u q n _=>by rw[Zg (Nat.ne_of_lt (Nat.lt_of_lt_of_le (Heap.lt_size q) hp))];exact n
 there:=fun b u q _=> ⟨u,k b u q⟩
 gE:=fun b xs q=>by rw[Zg (Zd q hn)];exact q
 gp:=fun b u xs q=>by rw[Zg (Zd q hn)];exact q
 fV:=fun b ps q=> ⟨#[],by rw[Zg (Zd q hn),q];simp⟩
theorem Un.write (mu:pC (H x)) (he:e=x∨H e=some (.own x)) (k:∀b u,b≠e→h.get? b=some u→h'.get? b=some u) (mv:∃u,h'.get? e=some u):Un fs ex H (upd H x o) h h':=by
 have hx:∀b,H b=none→b≠x:=fun b n z=>by subst z;rw[n]at mu;exact mu
 have hb:∀b,H b=none→b≠e:=fun b n z=>by
  subst z
  rcases he with r |r
  ·exact hx b n r
  ·rw[n]at r;cases r
 have hm:∀b u,H b=some u→¬pC (some u)→b≠x:=fun b u q nm z=>by subst z;rw[q]at mu;exact nm mu
 refine⟨fun b u q n _ _=>k b u (hb b n) q,fun b u q n _ _=> ⟨u.slots,k b u (hb b n) q⟩,fun b u q n _=>by rw[Zg (hx b n)];exact n,fun b u q _=> ?_,
  fun b xs q=>by rw[Zg (hm b _ q fun z=>z)];exact q,fun b u xs q=>by rw[Zg (hm b _ q fun z=>z)];exact q,fun b ps q=> ⟨#[],by rw[Zg (hm b _ q fun z=>z),q];simp⟩⟩
 by_cases kK:b=e
 ·subst kK;exact mv
 ·exact⟨u,k b u kK q⟩
end
def pO (h:Heap) (H:Hp):List Addr:=(List.range h.objs.size).filter fun a=> (H a).isSome
def iL (h:Heap) (H:Hp):Heap:=PySem.W.hideAll h (pO h H)
theorem MZ (h:Heap) (H:Hp):(iL h H).objs.size=h.objs.size:=PySem.W.hideAll_size _ _
theorem L4 {h:Heap}{H:Hp}{b:Addr}{o:Obj}(e:h.get? b=some o) (n:H b=none):(iL h H).get? b=some o:=
 PySem.W.hideAll_get _ e fun hm=>by
  have q:(H b).isSome=true:=(List.mem_filter.mp hm).2
  rw[n]at q;simp at q
theorem Lc {h:Heap}{H:Hp}{b:Addr}{o:Obj}(e:(iL h H).get? b=some o):h.get? b=some o∧H b=none:=by
 have e':h.get? b=some o:=PySem.W.of_hideAll (pO h H) e
 refine⟨e',?_⟩
 cases q:H b with
 |none=>rfl
 |some x=>
  have hm:b∈pO h H:=List.mem_filter.mpr ⟨List.mem_range.mpr (Heap.lt_size e'),by simp[q]⟩
  have z:(iL h H).get? b=none:=PySem.W.hideAll_none (pO h H) hm
  rw[z]at e;cases e
def KJ (g h:Heap) (L:Addr):List (Addr×Obj):=(List.range h.objs.size).filterMap fun a=>if a=L∨(g.get? a).isSome=true then none else (h.get? a).map fun o=> (a,o)
def rest (g h:Heap) (L d:Addr):List (Addr×Obj):=(KJ g h L).filter fun p=>decide (p.1≠d)
structure Mod (K:PySem.W.Frag) (mg:Str→Option Value) (base:Heap):Prop where
 vh:K.In base
 glob:base.Ns mainGlobals mg
 blt:∃mb,base.Ns builtinsNs mb∧∀x:Str,x≠ "__name__" →mb x=bootBuiltins x
 nolimit:base.NoLimit
structure Cx where
 prog:Program
 w:World
 K:PySem.W.Frag
 mg:Str→Option Value
 base:Heap
 A:Around
 N:List Str
 bS:Shared
 mJ:Hp
 env:Env
 outer:List Env
 stack:List Env
 ex:List Addr
 fn:Str→Bool
 calm:Bool
 pn:List (Addr×Obj)
 xe:Value→Shared→Prop
def dQ (l:List Env):List Addr:=l.filterMap (·.frame)
abbrev Cx.fs (X:Cx):List Addr:=dQ X.outer
def ph (sc:Scope) (x:Str):Prop:=sc.names.lookup x=some .local∨sc.names.lookup x=some .cell∨sc.names.lookup x=some .free
def Loc (sc:Scope) (x:Str):Prop:=sc.names.lookup x=some .local∨sc.names.lookup x=some .cell
def Look (env:Env) (h:Heap) (m:Str→Option Value) (x:Str) (u:Value):Prop:=
 (env.kindOf x=some .local∧m x=some u)∨((env.kindOf x=some .cell∨env.kindOf x=some .free)∧∃c,env.cells.lookup x=some c∧h.IsCell c (some u))
structure Cx.Ok (X:Cx):Prop where
 mod:Mod X.K X.mg X.base
 kind:X.env.scope.kind=.function
 glob:X.env.globals=mainGlobals
 blt:X.env.builtins=builtinsNs
 above:X.bS.heap.objs.size≤X.env.locals
 inj:∀x y c,X.env.cells.lookup x=some c→X.env.cells.lookup y=some c→x=y
 has:∀x,(X.env.kindOf x=some .cell∨X.env.kindOf x=some .free)→∃c,X.env.cells.lookup x=some c
 oY:∀x c,X.fn x=true→X.env.cells.lookup x=some c→X.bS.heap.objs.size≤c
 hd:X.calm=true→X.A.handled=none
 frames:X.A.frames=some X.stack
 pU:X.stack=X.outer∨(X.stack=X.env::X.outer∧X.env.frame=some X.env.locals)
 jW:∀b∈X.ex,b≠X.env.locals∧∀x c,X.env.cells.lookup x=some c→c≠b
 bs:∀b o,X.base.get? b=some o→X.bS.heap.get? b=some o∧X.mJ b=none
 j4:X.base.objs.size≤X.bS.heap.objs.size
 lP:∀b o,X.base.get? b=some o→b∉X.ex
 kP:∀b∈X.ex,b∉X.fs
 hZ:X.bS.heap.FunFrames X.base X.outer
 mD:∀b∈X.fs,X.mJ b=none
structure Inv (X:Cx) (pins:List (Addr×Obj)) (σ:List (Option V)) (H:Hp) (s:Shared):Prop where
 ok:X.Ok
 os:s.os=X.bS.os
 bare:AllBare s.gens
 base:Un X.fs X.ex X.mJ H X.bS.heap s.heap
 loc:∃m,s.heap.Ns X.env.locals m∧∀(i:Nat) (x:Str) (v:V),X.N[i]? =some x→σ[i]? =some (some v)→ph X.env.scope x→∃u,RelV v u∧Look X.env s.heap m x u
 cell:∀x c,X.env.cells.lookup x=some c→∃v,s.heap.IsCell c v
 free:H X.env.locals=none
 h9:∀x c,X.env.cells.lookup x=some c→H c=none
 pin:∀p∈X.pn++pins,s.heap.get? p.1=some p.2∧H p.1=none∧p.1≠X.env.locals∧p.1∉X.fs∧∀v,p.2.data≠.cell v
 ak:bu X.prog X.w H s.heap
 len:σ.length=X.N.length
section
variable {X:Cx}{pins:List (Addr×Obj)}{σ:List (Option V)}{H H':Hp}{s:Shared}{h':Heap}
theorem Cx.Ok.Fz (ok:X.Ok) {b:Addr}{o:Obj}(e:X.base.get? b=some o):b∉X.fs:=fun hb=>by
 have:=(ok.hZ.mem hb).1
 rw[e]at this;cases this
theorem Inv.bs (I:Inv X pins σ H s):∀b o,X.base.get? b=some o→s.heap.get? b=some o∧H b=none:=fun b o e=>
 ⟨I.base.keep b o (I.ok.bs b o e).1 (I.ok.bs b o e).2 (I.ok.Fz e) (I.ok.lP b o e),I.base.free b o (I.ok.bs b o e).1 (I.ok.bs b o e).2 (I.ok.lP b o e)⟩
theorem Inv.bk (I:Inv X pins σ H s):∀b o,X.base.get? b=some o→s.heap.get? b=some o:=fun b o e=> (I.bs b o e).1
theorem Inv.mod (I:Inv X pins σ H s):Mod X.K X.mg X.base:=I.ok.mod
theorem Inv.dq (I:Inv X pins σ H s):X.K.In s.heap:=I.ok.mod.vh.keeps I.bk
theorem Inv.lt (I:Inv X pins σ H s):X.env.locals<s.heap.objs.size:=let ⟨_,hn,_⟩:=I.loc;hn.lt
theorem Inv.sz (I:Inv X pins σ H s):X.bS.heap.objs.size≤s.heap.objs.size:=Nat.le_trans I.ok.above (Nat.le_of_lt I.lt)
theorem Inv.Fx (I:Inv X pins σ H s) {a:Addr}(h:s.heap.objs.size≤a):a∉X.fs:=fun hb=>by
 obtain⟨_,o,ho,_⟩:=I.ok.hZ.mem hb
 exact absurd (Nat.lt_of_lt_of_le (Heap.lt_size ho) (Nat.le_trans I.sz h)) (Nat.lt_irrefl _)
theorem Inv.kQ (I:Inv X pins σ H s):∀x c,X.env.cells.lookup x=some c→c≠X.env.locals:=fun x c e z=>by
 obtain⟨v,o,ho,hd⟩:=I.cell x c e
 obtain⟨m,⟨o',es,ep,eW,HH,_⟩,_⟩:=I.loc
 rw[z,eW]at ho;cases ho;rw[HH]at hd;cases hd
theorem Inv.hZ (I:Inv X pins σ H s):s.heap.FunFrames X.base X.outer:=by
 have all:∀(l:List Env),(∀b∈dQ l,b∈X.fs)→X.bS.heap.FunFrames X.base l→s.heap.FunFrames X.base l:=by
  intro l
  induction l with
  |nil=>intro _ _;trivial
  |cons env r ih=>
   intro hs hl
   obtain⟨hk,⟨L,o,hf,hn,ho,hd⟩,hr⟩:=hl
   have hL:L∈X.fs:=hs L (by unfold dQ;rw[List.filterMap_cons,hf];exact List.mem_cons_self)
   obtain⟨sl,e⟩:=I.base.slot L o ho (I.ok.mD L hL) hL fun z=>I.ok.kP L z hL
   exact⟨hk,⟨L,_,hf,hn,e,hd⟩,ih (fun b hb=>hs b (by unfold dQ;rw[List.filterMap_cons,hf];exact List.mem_cons_of_mem _ hb)) hr⟩
 exact all X.outer (fun _ hb=>hb) I.ok.hZ
theorem Inv.stack (I:Inv X pins σ H s):s.heap.FunFrames X.base X.stack:=by
 rcases I.ok.pU with e |⟨e,hf⟩
 ·rw[e];exact I.hZ
 ·rw[e]
  obtain⟨m,hn,_⟩:=I.loc
  refine .cons (by rw[I.ok.kind];decide) hf hn ?_ I.hZ
  exact Heap.get?_none_of_le (Nat.le_trans I.ok.j4 I.ok.above)
theorem Inv.pT (I:Inv X pins σ H s):∀b∈dQ X.stack,b∈X.env.locals::X.fs:=fun b hb=>by
 rcases I.ok.pU with e |⟨e,hf⟩
 ·rw[e]at hb;exact List.mem_cons_of_mem _ hb
 ·rw[e]at hb
  unfold dQ at hb
  rw[List.filterMap_cons,hf]at hb
  exact hb
theorem Inv.tj (I:Inv X pins σ H s):∀b∈dQ X.stack,H b=none:=fun b hb=>by
 rcases List.mem_cons.mp (I.pT b hb) with e |hb
 ·rw[e];exact I.free
 ·obtain⟨_,o,ho,_⟩:=I.ok.hZ.mem hb
  exact I.base.free b o ho (I.ok.mD b hb) fun z=>I.ok.kP b z hb
theorem Inv.step {g':Array GenState}{t':Nat}{d':Drawn}{ch:List Addr}(I:Inv X pins σ H s)
  (iM:∀b∈ch,(b∈X.ex∨X.bS.heap.objs.size≤b)∧b≠X.env.locals∧(∀x c,X.env.cells.lookup x=some c→c≠b)∧∀p∈X.pn++pins,p.1≠b)
  (keep:∀b o,b≠X.env.locals→b∉X.fs→b∉ch→s.heap.get? b=some o→H b=none→h'.get? b=some o)
  (slot:∀b o,b≠X.env.locals→b∈X.fs→b∉ch→s.heap.get? b=some o→H b=none→∃sl,h'.get? b=some {o with slots:=sl}) (free:∀b o,b∉ch→s.heap.get? b=some o→H b=none→H' b=none)
  (there:∀b o,b∉ch→s.heap.get? b=some o→∃o',h'.get? b=some o')
  (gE:∀b xs,H b=some (.tup xs)→H' b=some (.tup xs)) (gp:∀b o u,H b=some (.cK o u)→H' b=some (.cK o u)) (fV:∀b ps,H b=some (.fW ps)→∃more,H' b=some (.fW (ps++more)))
  (ns:∀m,s.heap.Ns X.env.locals m→h'.Ns X.env.locals m) (ak:bu X.prog X.w H' h') (hg:AllBare g'):
  Inv X pins σ H' {s with heap:=h',gens:=g',drawn:=d',toks:=t'} :=by
 have zf:∀b o,X.bS.heap.get? b=some o→b≠X.env.locals:=fun b o e=>Nat.ne_of_lt (Nat.lt_of_lt_of_le (Heap.lt_size e) I.ok.above)
 have bO:∀b o,X.bS.heap.get? b=some o→b∉X.ex→b∉ch:=fun b o e hx hb=>by
  rcases (iM b hb).1 with z |z
  ·exact hx z
  ·exact absurd (Nat.lt_of_lt_of_le (Heap.lt_size e) z) (Nat.lt_irrefl _)
 have cellK:∀x c,X.env.cells.lookup x=some c→∀v,s.heap.IsCell c v→h'.IsCell c v:=fun x c e v ⟨o,ho,hd⟩=>by
  have nJ:c∉ch:=fun z=> (iM c z).2.2.1 x c e rfl
  by_cases hc:c∈X.fs
  ·obtain⟨sl,q⟩:=slot c o (I.kQ x c e) hc nJ ho (I.h9 x c e)
   exact⟨_,q,hd⟩
  ·exact⟨o,keep c o (I.kQ x c e) hc nJ ho (I.h9 x c e),hd⟩
 refine⟨I.ok,I.os,hg,⟨fun b o e n hb hx=> ?_,fun b o e n hb hx=> ?_,fun b o e n hx=> ?_,fun b o e hx=> ?_,fun b xs e=>gE b xs (I.base.gE b xs e),fun b o xs e=>gp b o xs (I.base.gp b o xs e),fun b ps e=> ?_⟩,?_,fun x c e=> ?_,?_,fun x c e=> ?_,fun p hp=> ?_,ak,I.len⟩
 ·exact keep b o (zf b o e) hb (bO b o e hx) (I.base.keep b o e n hb hx) (I.base.free b o e n hx)
 ·obtain⟨sl,e1⟩:=I.base.slot b o e n hb hx
  obtain⟨DT,e2⟩:=slot b _ (zf b o e) hb (bO b o e hx) e1 (I.base.free b o e n hx)
  exact⟨DT,e2⟩
 ·obtain⟨o',e1⟩:=I.base.there b o e hx
  exact free b o' (bO b o e hx) e1 (I.base.free b o e n hx)
 ·obtain⟨o',e1⟩:=I.base.there b o e hx
  exact there b o' (bO b o e hx) e1
 ·obtain⟨m1,e1⟩:=I.base.fV b ps e
  obtain⟨m2,e2⟩:=fV b _ e1
  exact⟨m1++m2,by rw[e2,Array.append_assoc]⟩
 ·obtain⟨m,hn,hl⟩:=I.loc
  refine⟨m,ns m hn,fun i x v e1 e2 e3=> ?_⟩
  obtain⟨u,r,l⟩:=hl i x v e1 e2 e3
  refine⟨u,r,?_⟩
  rcases l with l |⟨k,c,e,z⟩
  ·exact .inl l
  ·exact .inr ⟨k,c,e,cellK x c e _ z⟩
 ·obtain⟨v,z⟩:=I.cell x c e
  exact⟨v,cellK x c e v z⟩
 ·obtain⟨m,⟨o,_,_,ho,_⟩,_⟩:=I.loc
  exact free _ o (fun z=> (iM _ z).2.1 rfl) ho I.free
 ·obtain⟨v,o,ho,hd⟩:=I.cell x c e
  exact free c o (fun z=> (iM c z).2.2.1 x c e rfl) ho (I.h9 x c e)
 ·obtain⟨e,n,ne,nf,d⟩:=I.pin p hp
  have nJ:p.1∉ch:=fun z=> (iM p.1 z).2.2.2 p hp rfl
  exact⟨keep p.1 p.2 ne nf nJ e n,free p.1 p.2 nJ e n,ne,nf,d⟩
theorem Inv.un {t':Nat}(I:Inv X pins σ H s) (u:Un X.fs [] H H' s.heap h') (ak:bu X.prog X.w H' h'):Inv X pins σ H' {s with heap:=h',toks:=t'} :=by
 obtain⟨m,⟨o,es,ep,ho,r⟩,_⟩:=id I.loc
 obtain⟨sl,hL⟩:=u.any ho I.free (by simp)
 exact I.step (g':=s.gens) (d':=s.drawn) (ch:=[]) (fun _ z=>nomatch z) (fun b o _ hb _ e n=>u.keep b o e n hb (by simp)) (fun b o _ hb _ e n=>u.slot b o e n hb (by simp)) (fun b o _ e n=>u.free b o e n (by simp)) (fun b o _ e=>u.there b o e (by simp)) u.gE u.gp u.fV (fun m' hm=>by
  obtain⟨o',gr,wt,eW,r'⟩:=hm
  rw[ho]at eW;cases eW
  exact⟨_,gr,wt,hL,r'⟩) ak I.bare
theorem Inv.call {g':Array GenState}{t':Nat}{d':Drawn}{ch:List Addr}(I:Inv X pins σ H s) (u:Un (dQ X.stack) ch H H' s.heap h') (ak:bu X.prog X.w H' h') (hg:AllBare g')
  (iM:∀b∈ch,(b∈X.ex∨X.bS.heap.objs.size≤b)∧b≠X.env.locals∧(∀x c,X.env.cells.lookup x=some c→c≠b)∧∀p∈X.pn++pins,p.1≠b):
  Inv X pins σ H' {s with heap:=h',gens:=g',drawn:=d',toks:=t'} :=by
 obtain⟨m,⟨o,es,ep,ho,r⟩,_⟩:=id I.loc
 obtain⟨sl,hL⟩:=u.any ho I.free fun z=> (iM _ z).2.1 rfl
 exact I.step (ch:=ch) iM (fun b o hL hb hc e n=>u.keep b o e n (fun z=> (List.mem_cons.mp (I.pT b z)).elim hL hb) hc) (fun b o _ _ hc e n=>u.any e n hc) (fun b o hc e n=>u.free b o e n hc) (fun b o hc e=>u.there b o e hc) u.gE u.gp u.fV (fun m' hm=>by
  obtain⟨o',gr,wt,eW,r'⟩:=hm
  rw[ho]at eW;cases eW
  exact⟨_,gr,wt,hL,r'⟩) ak hg
theorem Inv.turned {t':Nat}{it:Addr}(I:Inv X pins σ H s) (k:∀b o,b≠it→s.heap.get? b=some o→h'.get? b=some o) (hn:H it=none) (hL:it≠X.env.locals)
  (h1:it∈X.ex∨X.bS.heap.objs.size≤it) (h2:∀x c,X.env.cells.lookup x=some c→c≠it) (h3:∀p∈X.pn++pins,p.1≠it):Inv X pins σ H {s with heap:=h',toks:=t'} :=by
 have zd:∀b u,H b=some u→b≠it:=fun b u e z=>by rw[z,hn]at e;cases e
 refine I.step (g':=s.gens) (d':=s.drawn) (ch:=[it]) (fun b hb=> ?_) (fun b o _ _ hc e _=>k b o (fun z=>hc (by simp[z])) e) (fun b o _ _ hc e _=> ⟨o.slots,k b o (fun z=>hc (by simp[z])) e⟩) (fun _ _ _ _ n=>n)
  (fun b o hc e=> ⟨o,k b o (fun z=>hc (by simp[z])) e⟩) (fun _ _ e=>e) (fun _ _ _ e=>e) (fun b ps e=> ⟨#[],by rw[e];simp⟩) (fun m hm=> ?_) (fun b u e=> ?_) I.bare
 ·have e:b=it:=by simpa using hb
  subst e
  exact⟨h1,hL,h2,h3⟩
 ·obtain⟨o,es,ep,ho,r⟩:=hm
  exact⟨o,es,ep,k _ o (Ne.symm hL) ho,r⟩
 ·refine(I.ak b u e).bT (fun c v hc q=>k c v ?_ q) (fun _ q=>q) fun _ _ q=>q
  rcases hc with z |z
  ·rw[z];exact zd b u e
  ·exact zd c _ z
theorem Inv.tok (I:Inv X pins σ H s) (t:Nat):Inv X pins σ H {s with toks:=t} :=I.un (h':=s.heap) (t':=t) Un.refl I.ak
theorem Inv.kept {t':Nat}(I:Inv X pins σ H s) (k:∀b u,s.heap.get? b=some u→h'.get? b=some u):Inv X pins σ H {s with heap:=h',toks:=t'} :=I.un (Un.kept k) (I.ak.kept k)
theorem Inv.laid {a:Addr}{o:HO}{t':Nat}(I:Inv X pins σ H s) (k:∀b u,s.heap.get? b=some u→h'.get? b=some u) (hp:s.heap.objs.size≤a) (new:bz X.prog X.w (upd H a o) h' a o):
  Inv X pins σ (upd H a o) {s with heap:=h',toks:=t'} :=I.un (Un.laid k hp (I.ak.fresh hp)) (I.ak.laid k hp new)
theorem Inv.write {x e:Addr}{o:HO}{t':Nat}(I:Inv X pins σ H s) (mu:pC (H x)) (he:e=x∨H e=some (.own x)) (k:∀b u,b≠e→s.heap.get? b=some u→h'.get? b=some u) (mv:∃u,h'.get? e=some u)
  (new:bz X.prog X.w (upd H x o) h' x o):Inv X pins σ (upd H x o) {s with heap:=h',toks:=t'} :=I.un (Un.write mu he k mv) (I.ak.write mu he k mv new)
theorem Inv.yW {yX:List (Addr×Obj)}(I:Inv X pins σ H s) (h:∀p∈yX,s.heap.get? p.1=some p.2∧H p.1=none∧p.1≠X.env.locals∧p.1∉X.fs∧∀v,p.2.data≠.cell v):Inv X yX σ H s:=
 ⟨I.ok,I.os,I.bare,I.base,I.loc,I.cell,I.free,I.h9,fun p hp=> (List.mem_append.mp hp).elim (fun z=>I.pin p (List.mem_append_left _ z)) (h p),I.ak,I.len⟩
theorem Cz {N:List Str}(hN:N.Nodup) {i j:Nat}{x:Str}(a:N[i]? =some x) (b:N[j]? =some x):i=j:=by
 obtain⟨h1,e1⟩:=List.getElem?_eq_some_iff.mp a
 obtain⟨h2,e2⟩:=List.getElem?_eq_some_iff.mp b
 exact(List.getElem_inj hN).mp (e1.trans e2.symm)
theorem UD {M:Model}{A:Around}{E:Value→Shared→Prop}{i:Nat}{x:Str}{v:V}{u:Value}{Q:Unit→Shared→Prop}(I:Inv X pins σ H s) (hN:X.N.Nodup) (hi:X.N[i]? =some x) (hx:Loc X.env.scope x) (r:RelV v u)
  (h:∀s',Inv X pins (σ.set i (some v)) H s'→(∃a,Heap.SameBut a s.heap s'.heap∧(a=X.env.locals∨X.env.cells.lookup x=some a))→Q () s') (hf:X.fn x=true∨X.env.scope.names.lookup x=some .local:=by first |exact .inl rfl |exact .inr rfl |assumption):wpAny M A (storeName X.env x u) Q E s:=by
 obtain⟨m,hn,hl⟩:=id I.loc
 have HI:(X.env.scope.kind==.class||(X.env.scope.kind==.module&&X.env.locals !=X.env.globals))=false:=by rw[I.ok.kind];rfl
 have Af:i<σ.length:=by rw[I.len];exact(List.getElem?_eq_some_iff.mp hi).1
 have kQ:=I.kQ
 have tracked:∀{a:Addr}{h':Heap},(∃o,s.heap.get? a=some o∧H a=none)→Heap.SameBut a s.heap h'→bu X.prog X.w H h':=fun {a h'} ha hs b ob e=>by
  obtain⟨_,_,Ah⟩:=ha
  refine(I.ak b ob e).bT (fun c w' hc q=> (hs.2 c ?_).trans q) (fun _ q=>q) fun _ _ q=>q
  rintro rfl
  rcases hc with rfl |hc
  ·rw[Ah]at e;cases e
  ·rw[Ah]at hc;cases hc
 rcases hx with hk |hk
 ·refine wpAny_storeName_local hk hn (fun h' og hs=> ?_) HI
  obtain⟨oL,_,_,gZ,_⟩:=id hn
  refine h _ ⟨I.ok,I.os,I.bare,⟨fun b o e n hb hx=> ?_,fun b o e n hb hx=> ?_,I.base.free,fun b o e hx=> ?_,I.base.gE,I.base.gp,I.base.fV⟩,⟨_,og,fun j y v' e1 e2 e3=> ?_⟩,fun y c e=> ?_,I.free,I.h9,fun p hp=> ?_,tracked ⟨oL,gZ,I.free⟩ hs,by simpa using I.len⟩ ⟨_,hs,.inl rfl⟩
  ·exact(hs.2 b (Nat.ne_of_lt (Nat.lt_of_lt_of_le (Heap.lt_size e) I.ok.above))).trans (I.base.keep b o e n hb hx)
  ·obtain⟨sl,e1⟩:=I.base.slot b o e n hb hx
   exact⟨sl,(hs.2 b (Nat.ne_of_lt (Nat.lt_of_lt_of_le (Heap.lt_size e) I.ok.above))).trans e1⟩
  ·obtain⟨o',e1⟩:=I.base.there b o e hx
   exact⟨o',(hs.2 b (Nat.ne_of_lt (Nat.lt_of_lt_of_le (Heap.lt_size e) I.ok.above))).trans e1⟩
  ·by_cases hj:j=i
   ·subst hj
    rw[hi]at e1;cases e1
    rw[List.getElem?_set_self Af]at e2
    cases e2
    exact⟨u,r,.inl ⟨hk,by simp⟩⟩
   ·rw[List.getElem?_set_ne (Ne.symm hj)]at e2
    obtain⟨u',r',q⟩:=hl j y v' e1 e2 e3
    refine⟨u',r',?_⟩
    rcases q with ⟨k,e⟩ |⟨k,c,e,z⟩
    ·refine .inl ⟨k,?_⟩
     have:y≠x:=fun e=>hj (Cz hN e1 (e▸hi))
     simp[this,e]
    ·exact .inr ⟨k,c,e,z.sameBut hs (kQ y c e)⟩
  ·obtain⟨w',z⟩:=I.cell y c e
   exact⟨w',z.sameBut hs (kQ y c e)⟩
  ·obtain⟨e,n,ne,nf,d⟩:=I.pin p hp
   exact⟨(hs.2 p.1 ne).trans e,n,ne,nf,d⟩
 ·have hG:X.fn x=true:=by
   rcases hf with z |z
   ·exact z
   ·rw[z]at hk;cases hk
  obtain⟨c,hc⟩:=I.ok.has x (.inl hk)
  obtain⟨w',z⟩:=I.cell x c hc
  refine wpAny_storeName_cell I.ok.kind hk hc z (fun h' br hs=> ?_)
  obtain⟨oc,zT,Ha⟩:=id z
  refine h {s with heap:=h'} ⟨I.ok,I.os,I.bare,⟨fun b o e n hb hx=> ?_,fun b o e n hb hx=> ?_,I.base.free,fun b o e hx=> ?_,I.base.gE,I.base.gp,I.base.fV⟩,⟨m,hn.sameBut hs (Ne.symm (kQ x c hc)),fun j y v' e1 e2 e3=> ?_⟩,fun y c' e=> ?_,I.free,I.h9,fun p hp=> ?_,tracked ⟨oc,zT,I.h9 x c hc⟩ hs,by simpa using I.len⟩ ⟨c,hs,.inr hc⟩
  ·exact(hs.2 b (Nat.ne_of_lt (Nat.lt_of_lt_of_le (Heap.lt_size e) (I.ok.oY x c hG hc)))).trans (I.base.keep b o e n hb hx)
  ·obtain⟨sl,e1⟩:=I.base.slot b o e n hb hx
   exact⟨sl,(hs.2 b (Nat.ne_of_lt (Nat.lt_of_lt_of_le (Heap.lt_size e) (I.ok.oY x c hG hc)))).trans e1⟩
  ·obtain⟨o',e1⟩:=I.base.there b o e hx
   exact⟨o',(hs.2 b (Nat.ne_of_lt (Nat.lt_of_lt_of_le (Heap.lt_size e) (I.ok.oY x c hG hc)))).trans e1⟩
  ·by_cases hj:j=i
   ·subst hj
    rw[hi]at e1;cases e1
    rw[List.getElem?_set_self Af]at e2
    cases e2
    exact⟨u,r,.inr ⟨.inl hk,c,hc,br⟩⟩
   ·rw[List.getElem?_set_ne (Ne.symm hj)]at e2
    obtain⟨u',r',q⟩:=hl j y v' e1 e2 e3
    refine⟨u',r',?_⟩
    rcases q with q |⟨k,c',e,z'⟩
    ·exact .inl q
    ·refine .inr ⟨k,c',e,z'.sameBut hs ?_⟩
     rintro rfl
     exact hj (Cz hN e1 (I.ok.inj _ _ _ e hc▸hi))
  ·by_cases rk:c'=c
   ·subst rk;exact⟨_,br⟩
   ·obtain⟨w2,z2⟩:=I.cell y c' e
    exact⟨w2,z2.sameBut hs rk⟩
  ·obtain⟨e,n,ne,nf,d⟩:=I.pin p hp
   refine⟨(hs.2 p.1 ?_).trans e,n,ne,nf,d⟩
   intro q
   rw[q,zT]at e
   have q':oc=p.2:=Option.some.inj e
   exact d w' (by rw[←q'];exact Ha)
theorem YC {M:Model}{A:Around}{E:Value→Shared→Prop}{i:Nat}{x:Str}{v:V}{u:Value}{Q:Unit→Shared→Prop}(I:Inv X pins σ H s) (hN:X.N.Nodup) (hi:X.N[i]? =some x) (hx:Loc X.env.scope x) (r:RelV v u)
  (h:∀s',Inv X pins (σ.set i (some v)) H s'→Q () s') (hf:X.fn x=true∨X.env.scope.names.lookup x=some .local:=by first |exact .inl rfl |exact .inr rfl |assumption):wpAny M A (storeName X.env x u) Q E s:=
 UD I hN hi hx r (fun s' I' _=>h s' I') hf
theorem Inv.wB {s':Shared}{ch:List Addr}(I:Inv X pins σ H s) (ho:s'.os=s.os) (u:Un (dQ X.stack) ch H H' s.heap s'.heap) (ak:bu X.prog X.w H' s'.heap) (hg:AllBare s'.gens)
  (iM:∀b∈ch,(b∈X.ex∨X.bS.heap.objs.size≤b)∧b≠X.env.locals∧(∀x c,X.env.cells.lookup x=some c→c≠b)∧∀p∈X.pn++pins,p.1≠b):Inv X pins σ H' s':=by
 obtain⟨h',g',d',t',o'⟩:=s'
 have e:o'=s.os:=ho
 subst e
 exact I.call (g':=g') (t':=t') (d':=d') u ak hg iM
end
abbrev XK:=Value→Option Addr→Hp→Prop
abbrev St:=List (Option V)
abbrev VK:=V→Hp→Prop
abbrev TE:=St→Hp→VK→Prop
abbrev TT:=St→Hp→(Bool→Hp→Prop)→Prop
abbrev TA:=St→Hp→(List V→Hp→Prop)→Prop
structure Ends where
 nx:St→Hp→Prop
 rt:VK
 bk:St→Hp→Prop:=fun _ _=>False
 ct:St→Hp→Prop:=fun _ _=>False
abbrev TS:=Ends→St→Hp→Prop
def EP (X:Cx) (pins:List (Addr×Obj)) (σ:St) (Q:VK) (u:Value) (s':Shared):Prop:=∃v H',Inv X pins σ H' s'∧RelV v u∧Q v H'
def TP (X:Cx) (pins:List (Addr×Obj)) (σ:St) (Q:Bool→Hp→Prop) (b:Bool) (s':Shared):Prop:=∃H',Inv X pins σ H' s'∧Q b H'
def AP (X:Cx) (pins:List (Addr×Obj)) (σ:St) (Q:List V→Hp→Prop) (us:List Value) (s':Shared):Prop:=∃vs H',Inv X pins σ H' s'∧Vals vs us∧Q vs H'
def SP (X:Cx) (pins:List (Addr×Obj)) (D:Ends) (f:Flow) (s':Shared):Prop:=
 match f with
 | .next=> ∃af H',Inv X pins af H' s'∧D.nx af H'
 | .brk=> ∃af H',Inv X pins af H' s'∧D.bk af H'
 | .cont=> ∃af H',Inv X pins af H' s'∧D.ct af H'
 | .ret u=> ∃v af H',Inv X pins af H' s'∧RelV v u∧D.rt v H'
def PE (X:Cx) (e:Expr) (t:TE):Prop:=
 ∀(pins:List (Addr×Obj)) (s:Shared) (σ:St) (H:Hp) (Q:VK),Inv X pins σ H s→t σ H Q→wpAny (model X.prog X.w) X.A (eval e X.env) (EP X pins σ Q) X.xe s
def PT (X:Cx) (e:Expr) (t:TT):Prop:=
 ∀(pins:List (Addr×Obj)) (s:Shared) (σ:St) (H:Hp) (Q:Bool→Hp→Prop),Inv X pins σ H s→t σ H Q→wpAny (model X.prog X.w) X.A (isTrue e X.env (eval e X.env)) (TP X pins σ Q) X.xe s
def PW (X:Cx) (e:Expr) (t:TT):Prop:=
 ∀(whole:Sem Value) (pins:List (Addr×Obj)) (s:Shared) (σ:St) (H:Hp) (Q:Bool→Hp→Prop),Inv X pins σ H s→t σ H Q→wpAny (model X.prog X.w) X.A (isTrue e X.env whole) (TP X pins σ Q) X.xe s
theorem PW.pt {X:Cx}{e:Expr}{t:TT}(h:PW X e t):PT X e t:=h _
def PA (X:Cx) (es:List Expr) (t:TA):Prop:=
 ∀(pos:Pos) (pins:List (Addr×Obj)) (s:Shared) (σ:St) (H:Hp) (Q:List V→Hp→Prop),Inv X pins σ H s→t σ H Q→wpAny (model X.prog X.w) X.A (spliced (backTo pos (starEach es X.env))) (AP X pins σ Q) X.xe s
def PS (X:Cx) (st:Stmt) (t:TS):Prop:=
 ∀(pins:List (Addr×Obj)) (s:Shared) (σ:St) (H:Hp) (D:Ends),Inv X pins σ H s→t D σ H→wpAny (model X.prog X.w) X.A (exec st X.env) (SP X pins D) X.xe s
def fR (X:Cx) (st:List Stmt) (t:TS):Prop:=
 ∀(pins:List (Addr×Obj)) (s:Shared) (σ:St) (H:Hp) (D:Ends),Inv X pins σ H s→t D σ H→wpAny (model X.prog X.w) X.A (execs st X.env) (SP X pins D) X.xe s
theorem av {α:Type}{t:Sem α}{Q Q':α→Shared→Prop}{M:Model}{A:Around}{E:Value→Shared→Prop}{s:Shared}(h:wpAny M A t Q E s) (hQ:∀a s,Q a s→Q' a s):wpAny M A t Q' E s:=wpAny_mono h hQ fun _ _ x=>x
section
variable {X:Cx}
def jz (i:Nat):TE:=fun σ H Q=> ∃v,σ[i]? =some (some v)∧Q v H
def tC (v:V):TE:=fun _ H Q=>Q v H
theorem LC {i:Nat}{x:Str}{pos:Pos}(hN:X.N[i]? =some x) (hv:ph X.env.scope x) (hd:(x==("__debug__" :Str))=false:=by decide) (fL:(x==("__classdict__" :Str))=false:=by decide):PE X (.Name x pos) (jz i):=by
 intro pins s σ H Q I h
 obtain⟨v,e,h⟩:=h
 obtain⟨m,hn,hl⟩:=I.loc
 obtain⟨u,r,l⟩:=hl i x v hN e hv
 have fin:EP X pins σ Q u s:=⟨v,H,I,r,h⟩
 rcases l with ⟨hk,hm⟩ |⟨hk,c,hc,mC⟩
 ·exact wpAny_Name (wpAny_loadName_local I.ok.kind hk hn hm fin) hd
 ·rcases hk with hk |hk
  ·exact wpAny_Name (wpAny_loadName_cell I.ok.kind hk hc mC fin) hd
  ·exact wpAny_Name (wpAny_loadName_free I.ok.kind hk hc mC fin fL) hd
theorem Zh {i j pos} :PE X (.Constant (.int i) j pos) (tC (.int i)):=fun _ _ _ H _ I h=>wpAny_Constant_int ⟨.int i,H,I.tok _,⟨_,rfl⟩,h⟩
theorem YV {b j pos} :PE X (.Constant (.bool b) j pos) (tC (.bl b)):=fun _ _ _ H _ I h=>Constant_bool ⟨.bl b,H,I,rfl,h⟩
theorem ZY {j pos} :PE X (.Constant .none j pos) (tC .ae):=fun _ _ _ H _ I h=>Constant_none ⟨.ae,H,I,rfl,h⟩
theorem J7 {x j pos} :PE X (.Constant (.str x) j pos) (tC (.str x)):=fun _ _ _ H _ I h=>Calls.Constant_str ⟨.str x,H,I.tok _,⟨_,rfl⟩,h⟩
def Gl (X:Cx) (x:Str):Prop:=X.env.kindOf x=some .globalImplicit
theorem BE {E:Value→Shared→Prop}{pins:List (Addr×Obj)}{s:Shared}{σ:St}{H:Hp}{x:Str}{u:Value}{pos:Pos}{Q:Value→Shared→Prop}(I:Inv X pins σ H s) (hg:Gl X x) (hm:X.mg x=some u) (h:Q u s)
  (hd:(x==("__debug__" :Str))=false:=by decide):wpAny (model X.prog X.w) X.A (eval (.Name x pos) X.env) Q E s:=
 Calls.Name_function_global I.ok.kind hg (Calls.loadGlobal_global (by rw[I.ok.glob];exact I.mod.glob.keeps I.bk) hm h) hd
theorem YS {E:Value→Shared→Prop}{pins:List (Addr×Obj)}{s:Shared}{σ:St}{H:Hp}{x:Str}{u:Value}{pos:Pos}{Q:Value→Shared→Prop}(I:Inv X pins σ H s) (hg:Gl X x) (hm:X.mg x=none) (hv:bootBuiltins x=some u) (h:Q u s)
  (hn:x≠ "__name__" :=by decide) (hd:(x==("__debug__" :Str))=false:=by decide):wpAny (model X.prog X.w) X.A (eval (.Name x pos) X.env) Q E s:=by
 obtain⟨mb,h1,h2⟩:=I.mod.blt
 exact Calls.Name_function_global I.ok.kind hg (Calls.loadGlobal_builtin (by rw[I.ok.glob];exact I.mod.glob.keeps I.bk) hm (by rw[I.ok.blt];exact h1.keeps I.bk) ((h2 x hn).trans hv) h) hd
theorem xn {x:Str}{v:V}{u:Value}{pos:Pos}(hg:Gl X x) (hm:X.mg x=some u) (r:RelV v u) (hd:(x==("__debug__" :Str))=false:=by decide):PE X (.Name x pos) (tC v):=
 fun _ _ _ H _ I h=>BE I hg hm ⟨v,H,I,r,h⟩ hd
theorem xm {x:Str}{v:V}{u:Value}{pos:Pos}(hg:Gl X x) (hm:X.mg x=none) (hv:bootBuiltins x=some u) (r:RelV v u) (hn:x≠ "__name__" :=by decide) (hd:(x==("__debug__" :Str))=false:=by decide):PE X (.Name x pos) (tC v):=
 fun _ _ _ H _ I h=>YS I hg hm hv ⟨v,H,I,r,h⟩ hn hd
variable {a b:Expr}{ta tb:TE}{pos:Pos}
def PC (X:Cx) (op:CmpOp) (a b:Expr) (t:TE):Prop:=
 ∀(pins:List (Addr×Obj)) (s:Shared) (σ:St) (H:Hp) (Q:VK),Inv X pins σ H s→t σ H Q→
  wpAny (model X.prog X.w) X.A (eval a X.env) (fun v aQ=>wpAny (model X.prog X.w) X.A (eval b X.env) (fun u sZ=>wpAny (model X.prog X.w) X.A (compareOp op v u) (EP X pins σ Q) X.xe sZ) X.xe aQ) X.xe s
theorem zb (b:Expr) {op:CmpOp}(h:op≠.In) (h2:op≠.NotIn):behindInMarks op b=false:=by
 have e1:(op==CmpOp.In)=false:=by cases op<;>first |rfl |exact absurd rfl h
 have e2:(op==CmpOp.NotIn)=false:=by cases op<;>first |rfl |exact absurd rfl h2
 cases b<;>simp[behindInMarks,e1,e2]
def DJ (ta:TE):TE:=fun σ H Q=>ta σ H fun x H1=>Q (.bl (decide (x=.ae))) H1
def DD (ta:TE):TE:=fun σ H Q=>ta σ H fun x H1=>Q (.bl (!decide (x=.ae))) H1
theorem RelV.nH {x:V}{v:Value}(r:RelV x v):(v==Value.none)=decide (x=.ae):=by
 cases x with
 |ae=>cases r;rfl
 |bl _=>cases r;rfl
 |int _=>obtain⟨t,rfl⟩:=r;rfl
 |str _=>obtain⟨t,rfl⟩:=r;rfl
 |fA _=>obtain⟨t,rfl⟩:=r;rfl
 |jh _=>obtain⟨t,rfl⟩:=r;rfl
 |ref _=>cases r;rfl
 |ty _=>cases r;rfl
theorem Jx {j pos'} (ha:PE X a ta):PC X .Is a (.Constant .none j pos') (DJ ta):=by
 intro pins s σ H Q I h
 refine av (ha pins s σ H _ I h) fun v s1 ⟨x,H1,I1,r1,q1⟩=> ?_
 exact Constant_none (is_none_gen ⟨.bl _,H1,I1,by rw[r1.nH];rfl,q1⟩)
theorem YK {j pos'} (ha:PE X a ta):PC X .IsNot a (.Constant .none j pos') (DD ta):=by
 intro pins s σ H Q I h
 refine av (ha pins s σ H _ I h) fun v s1 ⟨x,H1,I1,r1,q1⟩=> ?_
 exact Constant_none (isnot_none_gen ⟨.bl _,H1,I1,by rw[r1.nH];rfl,q1⟩)
def tB (t:TE):TT:=fun σ H Q=>t σ H fun x H1=> ∃c,x=.bl c∧Q c H1
theorem WK {op:CmpOp}{t:TE}(h:PC X op a b t) (h1:behindInMarks op b=false:=by first |exact zb _ (by decide) (by decide) |rfl):PE X (.Compare a [op] [b] pos) t:=fun pins s σ H Q I hw=>wpAny_Compare1 (h pins s σ H Q I hw) h1
theorem YD {op:CmpOp}{t:TE}(h:PC X op a b t) (h1:behindInMarks op b=false:=by first |exact zb _ (by decide) (by decide) |rfl):PT X (.Compare a [op] [b] pos) (tB t):=by
 intro pins s σ H Q I hw
 refine wpAny_isTrue_Compare1 (av (h pins s σ H _ I hw) fun v s1 h1=>av h1 fun u s2 h2=>av h2 fun c s3 ⟨x,H1,I1,r1,q1⟩=> ?_) h1
 obtain⟨d,rfl,q⟩:=q1
 cases r1
 exact wpAny_truthy_bool ⟨H1,I1,q⟩
theorem Yp {e:Expr}{t:TE}(h:PE X e t) (he:∀whole,isTrue e X.env whole=(do let v ←whole;standAt e.pos;holding [v] (truthy v)):=by intro _;rfl):PT X e (tB t):=by
 intro pins s σ H Q I hw
 refine isTrue_plain (av (h pins s σ H _ I hw) fun v s1 ⟨x,H1,I1,r1,q1⟩=> ?_) (he _)
 obtain⟨d,rfl,q⟩:=q1
 cases r1
 exact wpAny_truthy_bool ⟨H1,I1,q⟩
variable {tA pR:TT}{rest:List Expr}
def DQ (t u:TT):TT:=fun σ H Q=>t σ H fun c H1=>if c=true then u σ H1 Q else Q false H1
def DB (t u:TT):TT:=fun σ H Q=>t σ H fun c H1=>if c=true then Q true H1 else u σ H1 Q
def DE (t:TT):TT:=fun σ H Q=>t σ H fun c H1=>Q (!c) H1
theorem Jp (ha:PT X a tA):PW X (.BoolOp .And [a] pos) tA:=by
 intro wh pins s σ H Q I h
 refine isTrue_and (av (ha pins s σ H Q I h) fun c s1 e=> ?_)
 cases c with
 |true=>exact isTrue_and_nil e
 |false=>exact e
theorem Jd (ha:PT X a tA):PW X (.BoolOp .Or [a] pos) tA:=by
 intro wh pins s σ H Q I h
 refine isTrue_or (av (ha pins s σ H Q I h) fun c s1 e=> ?_)
 cases c with
 |false=>exact isTrue_or_nil e
 |true=>exact e
theorem JZ (ha:PT X a tA) (hb:PW X (.BoolOp .And (b::rest) pos) pR):PW X (.BoolOp .And (a::b::rest) pos) (DQ tA pR):=by
 intro wh pins s σ H Q I h
 refine isTrue_and (av (ha pins s σ H _ I h) fun c s1 ⟨H1,I1,q1⟩=> ?_)
 cases c with
 |true=>exact hb wh pins s1 σ H1 Q I1 q1
 |false=>exact⟨H1,I1,q1⟩
theorem JJ (ha:PT X a tA) (hb:PW X (.BoolOp .Or (b::rest) pos) pR):PW X (.BoolOp .Or (a::b::rest) pos) (DB tA pR):=by
 intro wh pins s σ H Q I h
 refine isTrue_or (av (ha pins s σ H _ I h) fun c s1 ⟨H1,I1,q1⟩=> ?_)
 cases c with
 |true=>exact⟨H1,I1,q1⟩
 |false=>exact hb wh pins s1 σ H1 Q I1 q1
theorem Y2 (ha:PT X a tA):PT X (.UnaryOp .Not a pos) (DE tA):=by
 intro pins s σ H Q I h
 exact isTrue_not (ha pins s σ H (fun c H1=>Q (!c) H1) I h)
def yn (ta tb:TE):TE:=fun σ H Q=>ta σ H fun x H1=> ∃c,x=.bl c∧if c=true then tb σ H1 Q else Q (.bl false) H1
def DA (ta tb:TE):TE:=fun σ H Q=>ta σ H fun x H1=> ∃c,x=.bl c∧if c=true then Q (.bl true) H1 else tb σ H1 Q
def DC (ta:TE):TE:=fun σ H Q=>ta σ H fun x H1=> ∃c,x=.bl c∧Q (.bl (!c)) H1
theorem Yq {op}{t:TE}(h:PE X a t):PE X (.BoolOp op [a] pos) t:=fun pins s σ H Q I hw=>BoolOp_one (h pins s σ H Q I hw)
theorem Yk (ha:PE X a ta) (hb:PE X (.BoolOp .And (b::rest) pos) tb):PE X (.BoolOp .And (a::b::rest) pos) (yn ta tb):=by
 intro pins s σ H Q I h
 refine BoolOp_and (av (ha pins s σ H _ I h) fun v s1 ⟨x,H1,I1,r1,q1⟩=> ?_)
 obtain⟨c,rfl,q1⟩:=q1
 cases r1
 refine wpAny_truthy_bool ?_
 cases c with
 |true=>exact hb pins s1 σ H1 Q I1 q1
 |false=>exact⟨.bl false,H1,I1,rfl,q1⟩
theorem A6 (ha:PE X a ta) (hb:PE X (.BoolOp .Or (b::rest) pos) tb):PE X (.BoolOp .Or (a::b::rest) pos) (DA ta tb):=by
 intro pins s σ H Q I h
 refine BoolOp_or (av (ha pins s σ H _ I h) fun v s1 ⟨x,H1,I1,r1,q1⟩=> ?_)
 obtain⟨c,rfl,q1⟩:=q1
 cases r1
 refine wpAny_truthy_bool ?_
 cases c with
 |false=>exact hb pins s1 σ H1 Q I1 q1
 |true=>exact⟨.bl true,H1,I1,rfl,q1⟩
theorem LB (ha:PE X a ta):PE X (.UnaryOp .Not a pos) (DC ta):=by
 intro pins s σ H Q I h
 refine UnaryOp_ (av (ha pins s σ H _ I h) fun v s1 ⟨x,H1,I1,r1,q1⟩=> ?_)
 obtain⟨c,rfl,q1⟩:=q1
 cases r1
 exact not_of (wpAny_truthy_bool ⟨.bl (!c),H1,I1,rfl,q1⟩)
def sV (t:TT) (ta tb:TE):TE:=fun σ H Q=>t σ H fun c H1=>if c=true then ta σ H1 Q else tb σ H1 Q
theorem YU {c:Expr}(hc:PT X c tA) (ha:PE X a ta) (hb:PE X b tb):PE X (.IfExp c a b pos) (sV tA ta tb):=by
 intro pins s σ H Q I h
 refine wpAny_IfExp (av (hc pins s σ H _ I h) fun d s1 ⟨H1,I1,q1⟩=> ?_)
 cases d with
 |true=>exact ha pins s1 σ H1 Q I1 q1
 |false=>exact hb pins s1 σ H1 Q I1 q1
end
def aj (K:PySem.W.Frag) (H:Hp) (a:Addr) (xs:List V):Prop:=
 Rd H a (.lst xs)∨
  ∃(o:Obj) (aa:Array Value) (n:Nat),K.lookup a=some o∧o.cls=.type "list" ∧o.dict=none∧o.data=.seq aa n∧aa.size≤sizeLine∧Vals xs aa.toList
def ag (K:PySem.W.Frag) (H:Hp) (a:Addr) (xs:List V):Prop:=
 Rd H a (.tup xs)∨
  (∃(o:Obj) (aa:Array Value) (n:Nat),K.lookup a=some o∧o.cls=.type "tuple" ∧o.data=.seq aa n∧aa.size≤sizeLine∧Vals xs aa.toList)∨H a=some (.par xs)
def KN:Value→Option V
 | .none=>some .ae
 | .bool b=>some (.bl b)
 | .int i _=>some (.int i)
 | .str x _=>some (.str x)
 | .bytes b _=>some (.fA b)
 | .float b _=>some (.jh b)
 | .ref a=>some (.ref a)
 | .type n=>some (.ty n)
 |_=>none
theorem RelV.abs {x:V}{u:Value}(r:RelV x u):KN u=some x:=by
 cases x with
 |ae=>cases r;rfl
 |bl _=>cases r;rfl
 |int _=>obtain⟨t,rfl⟩:=r;rfl
 |str _=>obtain⟨t,rfl⟩:=r;rfl
 |fA _=>obtain⟨t,rfl⟩:=r;rfl
 |jh _=>obtain⟨t,rfl⟩:=r;rfl
 |ref _=>cases r;rfl
 |ty _=>cases r;rfl
theorem RelV.inj {x y:V}{u:Value}(r:RelV x u) (q:RelV y u):x=y:=Option.some.inj (r.abs.symm.trans q.abs)
theorem Vals.inj:∀{xs ys:List V}{us:List Value},Vals xs us→Vals ys us→xs=ys
 |_,_,_,.nil,.nil=>rfl
 |_,_,_,.cons r t,.cons r' t'=>by rw[r.inj r',Vals.inj t t']
section
variable {X:Cx}{pins:List (Addr×Obj)}{σ:St}{H:Hp}{s:Shared}{a:Addr}{xs ys:List V}
theorem aj.of {K:PySem.W.Frag}(h:H a=some (.lst xs)):aj K H a xs:=.inl (.inl h)
theorem ag.of {K:PySem.W.Frag}(h:H a=some (.tup xs)):ag K H a xs:=.inl (.inl h)
theorem ag.uW {K:PySem.W.Frag}(h:H a=some (.par xs)):ag K H a xs:=.inr (.inr h)
theorem Inv.list (I:Inv X pins σ H s) (h:aj X.K H a xs):∃aa:List Value,Vals xs aa∧PlainL s.heap a aa.toArray∧xs.length≤sizeLine:=by
 rcases h with h |⟨o,aa,n,hk,hc,hd,hs,hz,r⟩
 ·obtain⟨z,aa,n,r,e⟩:=h.ok I.ak
  exact⟨aa,r,⟨_,n,e,rfl,rfl,rfl⟩,z⟩
 ·refine⟨aa.toList,r,⟨o,n,I.dq a o hk,hc,hd,by simpa using hs⟩,?_⟩
  have e:=r.length
  simp only[Array.length_toList]at e
  omega
theorem Inv.tuple (I:Inv X pins σ H s) (h:ag X.K H a xs):∃aa:List Value,Vals xs aa∧IsTup s.heap a aa.toArray∧xs.length≤sizeLine:=by
 rcases h with h |⟨o,aa,n,hk,hc,hs,hz,r⟩ |h
 ·obtain⟨z,aa,r,p,_⟩:=h.ok I.ak
  exact⟨aa,r,p,z⟩
 rotate_left
 ·obtain⟨z,aa,r,p⟩:=(show bz X.prog X.w H s.heap a (.par xs) from I.ak a _ h)
  exact⟨aa,r,p,z⟩
 ·refine⟨aa.toList,r,⟨o,I.dq a o hk,hc,n,by simpa using hs⟩,?_⟩
  have e:=r.length
  simp only[Array.length_toList]at e
  omega
theorem Inv.qQ (I:Inv X pins σ H s) (h:aj X.K H a xs) (h':aj X.K H a ys):xs=ys:=by
 obtain⟨aa,r,⟨o,n,e,_,_,d⟩,_⟩:=I.list h
 obtain⟨its',r',⟨o',n',e',_,_,d'⟩,_⟩:=I.list h'
 rw[e]at e';cases e'
 rw[d]at d'
 injection d' with d1 _
 have:aa=its':=by simpa using congrArg Array.toList d1
 subst this
 exact r.inj r'
theorem Inv.sJ (I:Inv X pins σ H s) (h:ag X.K H a xs) (h':ag X.K H a ys):xs=ys:=by
 obtain⟨aa,r,⟨o,e,_,n,d⟩,_⟩:=I.tuple h
 obtain⟨its',r',⟨o',e',_,n',d'⟩,_⟩:=I.tuple h'
 rw[e]at e';cases e'
 rw[d]at d'
 injection d' with d1 _
 have:aa=its':=by simpa using congrArg Array.toList d1
 subst this
 exact r.inj r'
end
abbrev Cx.iq (X:Cx) (E:Value→Shared→Prop):Cx:= {X with xe:=E}
abbrev Cx.lO (X:Cx):Cx:=X.iq fun _ _=>False
theorem Cx.Ok.iq {X:Cx}(ok:X.Ok) (E:Value→Shared→Prop):(X.iq E).Ok:=
 ⟨ok.mod,ok.kind,ok.glob,ok.blt,ok.above,ok.inj,ok.has,ok.oY,ok.hd,ok.frames,ok.pU,ok.jW,ok.bs,ok.j4,ok.lP,ok.kP,ok.hZ,ok.mD⟩
theorem Cx.Ok.jw {X:Cx}{E:Value→Shared→Prop}(ok:(X.iq E).Ok):X.Ok:=
 ⟨ok.mod,ok.kind,ok.glob,ok.blt,ok.above,ok.inj,ok.has,ok.oY,ok.hd,ok.frames,ok.pU,ok.jW,ok.bs,ok.j4,ok.lP,ok.kP,ok.hZ,ok.mD⟩
section
variable {X:Cx}{pins:List (Addr×Obj)}{σ:St}{H:Hp}{s:Shared}{E:Value→Shared→Prop}
theorem Inv.iq (I:Inv X pins σ H s) (E:Value→Shared→Prop):Inv (X.iq E) pins σ H s:=⟨I.ok.iq E,I.os,I.bare,I.base,I.loc,I.cell,I.free,I.h9,I.pin,I.ak,I.len⟩
theorem Inv.jw (I:Inv (X.iq E) pins σ H s):Inv X pins σ H s:=⟨I.ok.jw,I.os,I.bare,I.base,I.loc,I.cell,I.free,I.h9,I.pin,I.ak,I.len⟩
theorem SP.jw {D:Ends}{f:Flow}{s':Shared}(h:SP (X.iq E) pins D f s'):SP X pins D f s':=by
 cases f with
 |next=>obtain⟨af,H',I,q⟩:=h;exact⟨af,H',I.jw,q⟩
 |brk=>obtain⟨af,H',I,q⟩:=h;exact⟨af,H',I.jw,q⟩
 |cont=>obtain⟨af,H',I,q⟩:=h;exact⟨af,H',I.jw,q⟩
 |ret u=>obtain⟨v,af,H',I,r,q⟩:=h;exact⟨v,af,H',I.jw,r,q⟩
theorem fR.lO {st:List Stmt}{t:TS}(h:fR X.lO st t):fR X st t:=fun pins s σ H D I hw=>
 wpAny_mono (h pins s σ H D (I.iq _) hw) (fun _ _ q=>q.jw) fun _ _ z=>False.elim z
end
section
variable {X:Cx}{st:Stmt}{rest:List Stmt}{t u:TS}{e:Expr}{te:TE}{pos:Pos}
def yg:TS:=fun D σ H=>D.nx σ H
def sU (t u:TS):TS:=fun D σ H=>t {D with nx:=u D} σ H
theorem Zr:fR X [] yg:=fun _ _ σ H _ I h=>wpAny_execs_nil ⟨σ,H,I,h⟩
theorem Ze (h1:PS X st t) (h2:fR X rest u):fR X (st::rest) (sU t u):=by
 intro pins s σ H D I h
 refine wpAny_execs_cons (av (h1 pins s σ H {D with nx:=u D} I h) fun f s1 q=> ?_)
 cases f with
 |next=>
  obtain⟨af,H',I',q⟩:=q
  exact h2 pins s1 af H' D I' q
 |ret v=>exact q
 |brk=>exact q
 |cont=>exact q
theorem Zi (h1:PS X st t):fR X [st] t:=by
 intro pins s σ H D I h
 refine wpAny_execs_cons (av (h1 pins s σ H D I h) fun f s1 q=> ?_)
 cases f with
 |next=>exact wpAny_execs_nil q
 |ret v=>exact q
 |brk=>exact q
 |cont=>exact q
theorem Inv.quiet {pins:List (Addr×Obj)}{σ:St}{H:Hp}{s:Shared}(I:Inv X pins σ H s):interactive X.env=false:=by simp[interactive,I.ok.kind]
def DM (te:TE):TS:=fun D σ H=>te σ H fun _ H1=>D.nx σ H1
theorem Yh (he:PE X e te) (hs:swapsWith e none pos.line X.env=pure false:=by rfl):PS X (.Expr e pos) (DM te):=by
 intro pins s σ H D I h
 exact wpAny_Expr_any (av (he pins s σ H _ I h) fun v s1 ⟨x,H1,I1,r1,q1⟩=> ⟨σ,H1,I1,q1⟩) I.quiet hs
def Dw (te:TE):TS:=fun D σ H=>te σ H D.rt
theorem Zm (he:PE X e te):PS X (.Return (some e) pos) (Dw te):=by
 intro pins s σ H D I h
 exact wpAny_Return_some (av (he pins s σ H _ I h) fun v s1 ⟨x,H1,I1,r1,q1⟩=> ⟨x,σ,H1,I1,r1,q1⟩)
def DK (c:TT) (t u:TS):TS:=fun D σ H=>c σ H fun b H1=>if b=true then t D σ H1 else u D σ H1
theorem ZK {c:Expr}{a b:List Stmt}{tc:TT}(hc:PT X c tc) (ha:fR X a t) (hb:fR X b u):PS X (.If c a b pos) (DK tc t u):=by
 intro pins s σ H D I h
 refine wpAny_If (av (hc pins s σ H _ I h) fun d s1 ⟨H1,I1,q1⟩=> ?_)
 cases d with
 |true=>exact ha pins s1 σ H1 D I1 q1
 |false=>exact hb pins s1 σ H1 D I1 q1
def DG:TS:=fun _ _ _=>False
theorem ZO {DR:List Stmt} :fR X DR DG:=fun _ _ _ _ _ _ h=>h.elim
end
abbrev TG:=V→St→Hp→(St→Hp→Prop)→Prop
abbrev kT:=List V→St→Hp→(St→Hp→Prop)→Prop
def PG (X:Cx) (target:Expr) (t:TG):Prop:=
 ∀(pins:List (Addr×Obj)) (s:Shared) (σ:St) (H:Hp) (v:V) (u:Value) (Q:St→Hp→Prop),Inv X pins σ H s→RelV v u→t v σ H Q→
  wpAny (model X.prog X.w) X.A (assign target X.env u) (fun _ s'=> ∃af H',Inv X pins af H' s'∧Q af H') X.xe s
def rY (X:Cx) (ts:List Expr) (t:kT):Prop:=
 ∀(pins:List (Addr×Obj)) (s:Shared) (σ:St) (H:Hp) (vs:List V) (us:List Value) (Q:St→Hp→Prop),Inv X pins σ H s→Vals vs us→t vs σ H Q→
  wpAny (model X.prog X.w) X.A (assignInOrder ((assignEach ts X.env).map (·.2)) us) (fun _ s'=> ∃af H',Inv X pins af H' s'∧Q af H') X.xe s
abbrev xy:=V→V→V→Hp→(Hp→Prop)→Prop
def CY (X:Cx) (t:xy):Prop:=
 ∀(pins:List (Addr×Obj)) (s:Shared) (σ:St) (H:Hp) (o i v:V) (ov iv u:Value) (Q:Hp→Prop),Inv X pins σ H s→RelV o ov→RelV i iv→RelV v u→t o i v H Q→
  wpAny (model X.prog X.w) X.A (setItem ov iv u) (fun _ s'=> ∃H',Inv X pins σ H' s'∧Q H') X.xe s
section
variable {X:Cx}{pos:Pos}
def bR (i:Nat):TG:=fun v σ H Q=>Q (σ.set i (some v)) H
theorem Zs {i:Nat}{x:Str}(hN:X.N.Nodup) (hi:X.N[i]? =some x) (hx:Loc X.env.scope x) (hf:X.fn x=true∨X.env.scope.names.lookup x=some .local:=by first |exact .inl rfl |exact .inr rfl |assumption):PG X (.Name x pos) (bR i):=by
 intro pins s σ H v u Q I r h
 exact wpAny_assign_Name (YC I hN hi hx r (fun s' I'=> ⟨_,H,I',h⟩) hf)
def jg:kT:=fun vs σ H Q=>vs=[]∧Q σ H
def cE (t:TG) (u:kT):kT:=fun vs σ H Q=> ∃v r,vs=v::r∧t v σ H fun af H'=>u r af H' Q
theorem ZU:rY X [] jg:=by
 intro pins s σ H vs us Q I r h
 obtain⟨e,h⟩:=h
 subst e
 cases r
 exact assignInOrder_nil ⟨σ,H,I,h⟩
theorem Zk {e:Expr}{es:List Expr}{t:TG}{u:kT}(h1:PG X e t) (h2:rY X es u)
  (hs:(assignEach (e::es) X.env).map (·.2)=assign e X.env::(assignEach es X.env).map (·.2):=by rfl):rY X (e::es) (cE t u):=by
 intro pins s σ H vs us Q I r h
 obtain⟨v,vr,e1,h⟩:=h
 subst e1
 cases r with
 |cons r rr=>
  rw[hs]
  refine assignInOrder_cons (av (h1 pins s σ H _ _ _ I r h) fun _ s1 ⟨Dc,H1,I1,q1⟩=> ?_)
  exact h2 pins s1 Dc H1 _ _ Q I1 rr q1
def jf (K:PySem.W.Frag) (n:Nat) (t:kT):TG:=fun v σ H Q=> ∃a xs,v=.ref a∧ag K H a xs∧xs.length=n∧t xs σ H Q
theorem Yd {es:List Expr}{k:Nat}{t:kT}{n:Nat}(hc:X.calm=true) (h:rY X es t)
  (hn:(assignEach es X.env).length=n:=by rfl) (vG:(assignEach es X.env).findIdx? (·.1)=none:=by rfl):PG X (.Tuple es k pos) (jf X.K n t):=by
 intro pins s σ H v u Q I r hw
 obtain⟨a,xs,e1,hq,hl,hw⟩:=hw
 subst e1
 cases r
 obtain⟨aa,rv,ht,hz⟩:=I.tuple hq
 refine assign_Tuple_tuple (I.ok.hd hc) ht (by simp[hn,←hl,rv.length]) vG fun h' hx=> ?_
 have I1:Inv X pins σ H {s with heap:=h'} :=I.kept (t':=s.toks) fun b o e=>hx b o (Nat.ne_of_lt (Heap.lt_size e)) e
 exact h pins _ σ H xs _ Q I1 (by simpa using rv) hw
def Iv (to ti:TE) (t:xy):TG:=fun v σ H Q=>to σ H fun o H1=>ti σ H1 fun i H2=>t o i v H2 fun H3=>Q σ H3
theorem Bl {o i:Expr}{to ti:TE}{t:xy}(ho:PE X o to) (hi:PE X i ti) (hs:CY X t)
    (ha:∀v,assign (.Subscript o i pos) X.env v=(do
      let ov ←holding [v] (eval o X.env)
      let iv ←holding [v,ov] (eval i X.env)
      standAt pos
      holding [v,ov,iv] (setItem ov iv v)
      release [v,ov,iv] []):=by intro _;rfl):PG X (.Subscript o i pos) (Iv to ti t):=by
  intro pins s σ H v u Q I r h
  rw[ha]
  refine wpAny_bind (wpAny_holding (av (ho pins s σ H _ I h) fun ov s1 ⟨x,H1,I1,r1,q1⟩=> ?_))
  refine wpAny_bind (wpAny_holding (av (hi pins s1 σ H1 _ I1 q1) fun iv s2 ⟨y,H2,I2,r2,q2⟩=> ?_))
  refine wpAny_bind (wpAny_standAt (wpAny_bind (wpAny_holding (av (hs pins s2 σ H2 x y v ov iv u _ I2 r1 r2 r q2) fun _ s3 ⟨H3,I3,q3⟩=> ?_))))
  exact wpAny_release ⟨σ,H3,I3,q3⟩
def mR (te:TE) (g:TG):TS:=fun D σ H=>te σ H fun x H1=>g x σ H1 D.nx
theorem Je {tg e:Expr}{te:TE}{g:TG}(he:PE X e te) (hg:PG X tg g) (hs:swapsWithSole [tg] e pos.line X.env=pure false:=by rfl) (hw:swappedStores [tg] e X.env=pure none:=by rfl)
  (h1:(assignEach [tg] X.env).map (·.2)=[assign tg X.env]:=by rfl):PS X (.Assign [tg] e pos) (mR te g):=by
 intro pins s σ H D I h
 refine wpAny_Assign_stores (av (he pins s σ H _ I h) fun v s1 ⟨x,H1,I1,r1,q1⟩=> ?_) hs hw
 rw[h1]
 exact av (hg pins s1 σ H1 x v _ I1 r1 q1) fun _ s2 q=>q
theorem Zx {i:Nat}{x:Str}{e:Expr}{te:TE}{pos':Pos}(hN:X.N.Nodup) (hi:X.N[i]? =some x) (hx:Loc X.env.scope x) (he:PE X e te) (hs:swapsWith e (some (.Name x pos')) pos.line X.env=pure false:=by rfl) (hf:X.fn x=true∨X.env.scope.names.lookup x=some .local:=by first |exact .inl rfl |exact .inr rfl |assumption):
  PS X (.Assign [.Name x pos'] e pos) (mR te (bR i)):=by
 intro pins s σ H D I h
 refine wpAny_Assign_Name (av (he pins s σ H _ I h) fun v s1 ⟨y,H1,I1,r1,q1⟩=> ?_) hs
 exact YC I1 hN hi hx r1 (fun s2 I2=> ⟨_,H1,I2,q1⟩) hf
def Dz (i j:Nat) (ta:TA):TS:=fun D σ H=>ta σ H fun vs H1=> ∃v w,vs=[v,w]∧D.nx ((σ.set i (some v)).set j (some w)) H1
theorem wY {i j:Nat}{x y:Str}{a b:Expr}{ta:TA}{px py pt:Pos}{kt k2 km} (hc:X.calm=true) (hN:X.N.Nodup) (hi:X.N[i]? =some x) (hj:X.N[j]? =some y) (bV:i≠j)
  (hx:X.env.scope.names.lookup x=some .local) (hy:X.env.scope.names.lookup y=some .local) (ha:PA X [a,b] ta)
  (hw:swappedStores [.Tuple [.Name x px,.Name y py] kt pt] (.Tuple [a,b] k2 km) X.env=pure (some [x,y]))
  (hs:swapsWithSole [.Tuple [.Name x px,.Name y py] kt pt] (.Tuple [a,b] k2 km) pos.line X.env=pure false:=by rfl):
  PS X (.Assign [.Tuple [.Name x px,.Name y py] kt pt] (.Tuple [a,b] k2 km) pos) (Dz i j ta):=by
 intro pins s σ H D I h
 rw[exec_Assign_arm]
 refine wpAny_bind (wpAny_standAt ?_)
 rw[hs]
 refine wpAny_bind (wpAny_pure ?_)
 rw[if_neg (by decide)]
 refine wpAny_bind (Tuple_ (av (ha _ pins s σ H _ I h) fun us s1 ⟨vs,H1,I1,r1,q1⟩=> ?_))
 obtain⟨v,w,e1,q1⟩:=q1
 subst e1
 obtain⟨u1,u2,rfl,rv,gJ⟩:∃u1 u2,us=[u1,u2]∧RelV v u1∧RelV w u2:=by
  cases r1 with
  |cons p q=>
   cases q with
   |cons p' q'=>
    cases q'
    exact⟨_,_,rfl,p,p'⟩
 refine wpAny_newObj_type ?_ (by show 2≤sizeLine;decide)
 have I2:Inv X pins σ H1 {s1 with heap:=s1.heap.push {cls:=.type "tuple",data:=.seq [u1,u2].toArray} } :=I1.kept (t':=s1.toks) fun b o e=>Heap.get?_push_of_some _ e
 rw[hw]
 refine wpAny_bind (wpAny_pure ?_)
 show wpAny (model X.prog X.w) X.A (do rule "assign.swapped-stores";let items ←unpackItems (.ref s1.heap.objs.size) 2 none;assignInOrder [fun v=>bindName X.env y v,fun v=>bindName X.env x v] items.reverse;pure Flow.next) _ _ _
 refine wpAny_bind (wpAny_rule (wpAny_bind (unpackItems_tuple (items:= #[u1,u2]) (I.ok.hd hc) (IsTup.new s1.heap _) fun h' eU=> ?_)))
 have I3:=I2.kept (h':=h') (t':=s1.toks) fun b o e=>eU b o (Nat.ne_of_lt (Heap.lt_size e)) e
 show wpAny _ _ (assignInOrder [fun v=>bindName X.env y v,fun v=>bindName X.env x v] [u2,u1] >>=fun _=>pure Flow.next) _ _ _
 refine wpAny_bind (assignInOrder_cons (wpAny_bindName (YC I3 hN hj (.inl hy) gJ (fun s2 I4=> ?_) (.inr hy))))
 refine assignInOrder_cons (wpAny_bindName (YC I4 hN hi (.inl hx) rv (fun s3 I5=>assignInOrder_nil (wpAny_pure ?_)) (.inr hx)))
 rw[List.set_comm _ _ (Ne.symm bV)]at I5
 exact⟨_,H1,I5,q1⟩
end
structure It where
 go:Nat→Hp→Prop
 mP:Nat→Hp→V→Hp→Prop
 stop:Nat→Hp→Prop
def aP (X:Cx) (pins:List (Addr×Obj)) (H:Hp) (b:Addr):Prop:=
 H b=none∧b≠X.env.locals∧b∉X.fs∧(b∈X.ex∨X.bS.heap.objs.size≤b)∧(∀x c,X.env.cells.lookup x=some c→c≠b)∧∀p∈X.pn++pins,p.1≠b
theorem Inv.kN {X:Cx}{pins:List (Addr×Obj)}{σ:St}{H H':Hp}{s:Shared}{b:Addr}(I:Inv X pins σ H s) (hb:s.heap.objs.size≤b) (hn:H' b=none):aP X pins H' b:=by
 refine⟨hn,Nat.ne_of_gt (Nat.lt_of_lt_of_le I.lt hb),I.Fx hb,.inr (Nat.le_trans I.sz hb),fun x c e z=> ?_,fun p hp z=> ?_⟩
 ·obtain⟨v,q⟩:=I.cell x c e
  exact absurd (Nat.lt_of_lt_of_le q.lt (by rw[z];exact hb)) (Nat.lt_irrefl _)
 ·exact absurd (Nat.lt_of_lt_of_le (Heap.lt_size (I.pin p hp).1) (by rw[z];exact hb)) (Nat.lt_irrefl _)
structure Turn (P:Program) (w:World) (K:PySem.W.Frag) (tg:Expr) (J:It) (fp:List Addr) (it:Addr) (tn:Nat→Heap→Prop):Prop where
 mem:it∈fp
 obj:∀i h,tn i h→∀b∈fp,∃o,h.get? b=some o∧∀v,o.data≠.cell v
 keep:∀i h h',tn i h→(∀b∈fp,∀o,h.get? b=some o→h'.get? b=some o)→tn i h'
 item:∀(X:Cx),X.prog=P→X.w=w→X.K=K→X.calm=true→∀(i:Nat) (pins:List (Addr×Obj)) (s:Shared) (σ:St) (H:Hp) (E:Value→Shared→Prop),Inv X pins σ H s→(∀b∈fp,aP X pins H b)→tn i s.heap→J.go i H→
  wpAny (model P w) X.A (pyNext (.ref it)) (fun r s1=> ∃u,r=some u∧
   wpAny (model P w) X.A (letOwnedTupleGo tg (.ref it) u) (fun _ s2=> ∃x H',Inv X pins σ H' s2∧RelV x u∧J.mP i H x H'∧tn (i+1) s2.heap∧∀b∈fp,H' b=none) E s1) E s
 done:∀(X:Cx),X.prog=P→X.w=w→X.K=K→X.calm=true→∀(i:Nat) (pins:List (Addr×Obj)) (s:Shared) (σ:St) (H:Hp) (E:Value→Shared→Prop),Inv X pins σ H s→(∀b∈fp,aP X pins H b)→tn i s.heap→J.stop i H→
  wpAny (model P w) X.A (pyNext (.ref it)) (fun r s1=>r=none∧Inv X pins σ H s1) E s
 self:∀(A:Around) (i:Nat) (s:Shared) (Q:Value→Shared→Prop) (E:Value→Shared→Prop),tn i s.heap→Q (.ref it) s→wpAny (model P w) A (pyIter (.ref it)) Q E s
abbrev TI:=St→Hp→(It→Hp→Prop)→Prop
def CZ (X:Cx) (pins:List (Addr×Obj)) (σ:St) (tg:Expr) (R:It→Hp→Prop) (gQ:Value) (s2:Shared):Prop:=
 ∃(it:Addr) (fp:List Addr) (tn:Nat→Heap→Prop) (J:It) (H':Hp),gQ=.ref it∧Inv X pins σ H' s2∧Turn X.prog X.w X.K tg J fp it tn∧tn 0 s2.heap∧(∀b∈fp,aP X pins H' b)∧R J H'
def PI (X:Cx) (tg iter:Expr) (wi:TI):Prop:=
 ∀(pins:List (Addr×Obj)) (s:Shared) (σ:St) (H:Hp) (R:It→Hp→Prop),Inv X pins σ H s→wi σ H R→
  wpAny (model X.prog X.w) X.A (eval iter X.env) (fun v s1=>wpAny (model X.prog X.w) X.A (pyIter v) (CZ X pins σ tg R) X.xe s1) X.xe s
theorem wN {M:Model}{A:Around}{E:Value→Shared→Prop}{s:Shared}{tg:Expr}{it:Addr}{u:Value}{o:Obj}{n:String}{vs:Array Value}{Q:Unit→Shared→Prop}(ho:s.heap.get? it=some o) (hc:o.cls=.type n) (hd:o.data=.fields vs)
    (hn:["enumerate", "zip", "dict_itemiterator", "dict_reverseitemiterator", "odict_iterator", "itertools.zip_longest", "itertools.pairwise"].contains n=false) (hQ:Q () s):wpAny M A (letOwnedTupleGo tg (.ref it) u) Q E s:=by
  unfold letOwnedTupleGo
  cases tg<;>first
    |exact wpAny_pure hQ
    |(cases u<;>first
        |exact wpAny_pure hQ
        |(refine wpAny_bind (wpAny_load ho ?_)
          rw[hc,hd]
          show wpAny M A (if (["enumerate", "zip", "dict_itemiterator", "dict_reverseitemiterator", "odict_iterator", "itertools.zip_longest", "itertools.pairwise"].contains n&&vs[0]? ==some (rawInt _))=true then _ else _) Q E s
          rw[if_neg (by intro h;rw[hn,Bool.false_and]at h;cases h)]
          exact wpAny_pure hQ))
def mI (K:PySem.W.Frag) (a:Addr):It:=
 ⟨fun i H=> ∃xs x,aj K H a xs∧xs[i]? =some x,fun i H x H'=>H'=H∧∀xs,aj K H a xs→xs[i]? =some x,fun i H=> ∃xs,aj K H a xs∧xs.length≤i⟩
def xH (K:PySem.W.Frag) (a:Addr):It:=
 ⟨fun i H=> ∃xs x,ag K H a xs∧xs[i]? =some x,fun i H x H'=>H'=H∧∀xs,ag K H a xs→xs[i]? =some x,fun i H=> ∃xs,ag K H a xs∧xs.length≤i⟩
def kZ (lo:Int) (n:Nat):It:=⟨fun i _=>i<n,fun i H x H'=>H'=H∧x=.int (lo+i),fun i _=>n≤i⟩
theorem NY {P:Program}{w:World}{K:PySem.W.Frag}{tg:Expr}(a it:Addr):Turn P w K tg (mI K a) [it] it (fun i h=>h.IsListIter it a i) where
 mem:=by simp
 obj:=fun i h st b hb=>by
  have e:b=it:=by simpa using hb
  subst e
  obtain⟨o,e,c,d⟩:=st
  exact⟨o,e,fun v z=>by rw[d]at z;cases z⟩
 keep:=fun i h h' st k=>st.at fun o e=>k it (by simp) o e
 item:=by
  intro X hP hw hK hc i pins s σ H E I hf st hg
  subst hP hw hK
  obtain⟨xs,x,hq,hx⟩:=hg
  obtain⟨aa,rv,p,hz⟩:=I.list hq
  obtain⟨u,hu,ru⟩:=rv.get hx
  obtain⟨f0,f1,f2,f3,f4,f5⟩:=hf it (by simp)
  refine wpAny_pyNext_list_item st p.isList (x:=u) (by simpa using hu) fun h' ab sb=> ?_
  have I1:Inv X pins σ H {s with heap:=h'} :=I.turned (t':=s.toks) (fun b o hb e=> (sb.2 b hb).trans e) f0 f1 f3 f4 f5
  obtain⟨o,e,c,d⟩:=id ab
  exact⟨u,rfl,wN (s:= {s with heap:=h'}) e c d (by decide) ⟨x,H,I1,ru,⟨rfl,fun ys hy=>by rw[I.qQ hy hq];exact hx⟩,ab,fun b hb=> (hf b hb).1⟩⟩
 done:=by
  intro X hP hw hK hc i pins s σ H E I hf st hg
  subst hP hw hK
  obtain⟨xs,hq,hx⟩:=hg
  obtain⟨aa,rv,p,hz⟩:=I.list hq
  obtain⟨f0,f1,f2,f3,f4,f5⟩:=hf it (by simp)
  have hl:=rv.length
  exact wpAny_pyNext_list_end (I.ok.hd hc) st p.isList (by simp;omega) fun h' eb=> ⟨rfl,I.turned (t':=s.toks) (fun b o hb e=>eb b o hb e) f0 f1 f3 f4 f5⟩
 self:=fun _ _ _ _ _ st h=>wpAny_pyIter_listiter st h
theorem Oh {P:Program}{w:World}{K:PySem.W.Frag}{tg:Expr}(a it:Addr):Turn P w K tg (xH K a) [it] it (fun i h=>h.IsTupleIter it a i) where
 mem:=by simp
 obj:=fun i h st b hb=>by
  have e:b=it:=by simpa using hb
  subst e
  obtain⟨o,e,c,d⟩:=st
  exact⟨o,e,fun v z=>by rw[d]at z;cases z⟩
 keep:=fun i h h' st k=>st.at fun o e=>k it (by simp) o e
 item:=by
  intro X hP hw hK hc i pins s σ H E I hf st hg
  subst hP hw hK
  obtain⟨xs,x,hq,hx⟩:=hg
  obtain⟨aa,rv,p,hz⟩:=I.tuple hq
  obtain⟨u,hu,ru⟩:=rv.get hx
  obtain⟨f0,f1,f2,f3,f4,f5⟩:=hf it (by simp)
  refine wpAny_pyNext_tuple_item st (show s.heap.IsTuple a aa.toArray from p) (x:=u) (by simpa using hu) fun h' ab sb=> ?_
  have I1:Inv X pins σ H {s with heap:=h'} :=I.turned (t':=s.toks) (fun b o hb e=> (sb.2 b hb).trans e) f0 f1 f3 f4 f5
  obtain⟨o,e,c,d⟩:=id ab
  exact⟨u,rfl,wN (s:= {s with heap:=h'}) e c d (by decide) ⟨x,H,I1,ru,⟨rfl,fun ys hy=>by rw[I.sJ hy hq];exact hx⟩,ab,fun b hb=> (hf b hb).1⟩⟩
 done:=by
  intro X hP hw hK hc i pins s σ H E I hf st hg
  subst hP hw hK
  obtain⟨xs,hq,hx⟩:=hg
  obtain⟨aa,rv,p,hz⟩:=I.tuple hq
  obtain⟨f0,f1,f2,f3,f4,f5⟩:=hf it (by simp)
  have hl:=rv.length
  exact wpAny_pyNext_tuple_end (I.ok.hd hc) st (show s.heap.IsTuple a aa.toArray from p) (by simp;omega) fun h' eb=> ⟨rfl,I.turned (t':=s.toks) (fun b o hb e=>eb b o hb e) f0 f1 f3 f4 f5⟩
 self:=fun _ _ _ _ _ st h=>wpAny_pyIter_tupleiter st h
theorem OP {P:Program}{w:World}{K:PySem.W.Frag}{tg:Expr}(it:Addr) (lo:Int) (n:Nat):Turn P w K tg (kZ lo n) [it] it (fun i h=>IsRangeIter h it (lo+(i:Nat)*1) ((n:Int) - (i:Nat)) 1) where
 mem:=by simp
 obj:=fun i h st b hb=>by
  have e:b=it:=by simpa using hb
  subst e
  exact⟨_,st,fun v z=>by
   have z':Data.fields _=Data.cell v:=z
   cases z'⟩
 keep:=fun i h h' st k=>k it (by simp) _ st
 item:=by
  intro X hP hw hK hc i pins s σ H E I hf st hg
  subst hP hw hK
  obtain⟨f0,f1,f2,f3,f4,f5⟩:=hf it (by simp)
  have W:=Walks.range (prog:=X.prog) (w:=X.w) (I.ok.hd hc) it lo 1 n
  refine W.item i s _ _ hg st fun v h' tk hv ab kk=> ?_
  obtain⟨t,rfl⟩:=hv
  have I1:Inv X pins σ H {s with heap:=h',toks:=tk} :=I.turned (fun b o hb e=>kk b o (by simpa using hb) e) f0 f1 f3 f4 f5
  refine⟨_,rfl,wN (s:= {s with heap:=h',toks:=tk}) (n:= "range_iterator") ab rfl rfl (by decide) ⟨.int (lo+i),H,I1,⟨t,?_⟩,⟨rfl,rfl⟩,ab,fun b hb=> (hf b hb).1⟩⟩
  rw[Int.mul_one]
 done:=by
  intro X hP hw hK hc i pins s σ H E I hf st hg
  subst hP hw hK
  obtain⟨f0,f1,f2,f3,f4,f5⟩:=hf it (by simp)
  exact wpAny_pyNext_range_end (I.ok.hd hc) st (by have:n≤i:=hg;omega) fun h' eb=> ⟨rfl,I.turned (t':=s.toks) (fun b o hb e=>eb b o hb e) f0 f1 f3 f4 f5⟩
 self:=fun _ _ _ _ _ st h=>wpAny_pyIter_rangeiter st h
section
variable {X:Cx}{tg:Expr}
def qR (K:PySem.W.Frag) (tl:TE):TI:=fun σ H R=>tl σ H fun x H1=> ∃a,x=.ref a∧(∃xs,aj K H1 a xs)∧R (mI K a) H1
def Gm (K:PySem.W.Frag) (tl:TE):TI:=fun σ H R=>tl σ H fun x H1=> ∃a,x=.ref a∧(∃xs,ag K H1 a xs)∧R (xH K a) H1
theorem Ya {l:Expr}{tl:TE}(hl:PE X l tl):PI X tg l (qR X.K tl):=by
 intro pins s σ H R I h
 refine av (hl pins s σ H _ I h) fun v s1 ⟨x,H1,I1,r1,q1⟩=> ?_
 obtain⟨a,e,⟨xs,hq⟩,q⟩:=q1
 subst e
 cases r1
 obtain⟨aa,rv,p,hz⟩:=I1.list hq
 refine wpAny_pyIter_list p.isList ?_
 refine⟨s1.heap.objs.size,[s1.heap.objs.size],_,_,H1,rfl,I1.kept (t':=s1.toks) fun b o e=>Heap.get?_push_of_some _ e,NY a _,⟨_,Heap.get?_push_size _ rfl,rfl,rfl⟩,fun b hb=> ?_,q⟩
 have e:b=s1.heap.objs.size:=by simpa using hb
 subst e
 exact I1.kN (Nat.le_refl _) (I1.ak.fresh (Nat.le_refl _))
theorem WI {l:Expr}{tl:TE}(hl:PE X l tl):PI X tg l (Gm X.K tl):=by
 intro pins s σ H R I h
 refine av (hl pins s σ H _ I h) fun v s1 ⟨x,H1,I1,r1,q1⟩=> ?_
 obtain⟨a,e,⟨xs,hq⟩,q⟩:=q1
 subst e
 cases r1
 obtain⟨aa,rv,p,hz⟩:=I1.tuple hq
 refine wpAny_pyIter_tuple (show s1.heap.IsTuple a aa.toArray from p) ?_
 refine⟨s1.heap.objs.size,[s1.heap.objs.size],_,_,H1,rfl,I1.kept (t':=s1.toks) fun b o e=>Heap.get?_push_of_some _ e,Oh a _,⟨_,Heap.get?_push_size _ rfl,rfl,rfl⟩,fun b hb=> ?_,q⟩
 have e:b=s1.heap.objs.size:=by simpa using hb
 subst e
 exact I1.kN (Nat.le_refl _) (I1.ak.fresh (Nat.le_refl _))
theorem Nr {pins:List (Addr×Obj)}{σ:St}{H:Hp}{s:Shared}{R:It→Hp→Prop}{E:Value→Shared→Prop}{lo hi:Int}{t u v:Tok}{tk:Nat}(I:Inv X pins σ H s) (h1: -(2^62)≤lo) (h2:lo<2^62) (h3: -(2^62)≤hi) (h4:hi<2^62)
  (q:R (kZ lo (hi - lo).toNat) H):wpAny (model X.prog X.w) X.A (pyIter (.ref s.heap.objs.size)) (CZ X pins σ tg R) E {s with heap:=s.heap.push {cls:=.type "range",data:=.fields #[.int lo t,.int hi u,.int 1 v]},toks:=tk} :=by
 refine wpAny_pyIter_range (IsRange.new ..) (small_one h1 h2 h3 h4) ?_
 have I1:Inv X pins σ H {s with heap:=s.heap.push {cls:=.type "range",data:=.fields #[.int lo t,.int hi u,.int 1 v]},toks:=tk} :=I.kept fun b o e=>Heap.get?_push_of_some _ e
 refine⟨(s.heap.push {cls:=.type "range",data:=.fields #[.int lo t,.int hi u,.int 1 v]}).objs.size,[(s.heap.push {cls:=.type "range",data:=.fields #[.int lo t,.int hi u,.int 1 v]}).objs.size],_,_,H,rfl,
  I1.kept (t':=tk) fun b o e=>Heap.get?_push_of_some _ e,OP _ lo (hi - lo).toNat,?_,fun b hb=> ?_,q⟩
 ·have e1:lo+((0:Nat):Int)*1=lo:=by simp
  have e2:(((hi - lo).toNat:Nat):Int) - ((0:Nat):Int)=Builtin.Range.rangeSize lo hi 1:=by rw[rangeSize_one];split<;>omega
  show IsRangeIter _ _ (lo+((0:Nat):Int)*1) ((((hi - lo).toNat:Nat):Int) - ((0:Nat):Int)) 1
  rw[e1,e2]
  exact Heap.get?_push_size _ rfl
 ·have e:b=(s.heap.push {cls:=.type "range",data:=.fields #[.int lo t,.int hi u,.int 1 v]}).objs.size:=by simpa using hb
  subst e
  exact I1.kN (Nat.le_refl _) (I1.ak.fresh (Nat.le_refl _))
def Gn (ta:TA):TI:=fun σ H R=>ta σ H fun vs H1=> ∃j:Int,vs=[.int j]∧ -(2^62)≤j∧j<2^62∧R (kZ 0 j.toNat) H1
theorem ZP {a:Expr}{ta:TA}{p pos:Pos}(hg:Gl X "range") (hm:X.mg "range" =none) (ha:PA X [a] ta) (hs:starEach [a] X.env=[(false,eval a X.env)]:=by rfl):PI X tg (.Call (.Name "range" p) [a] [] pos) (Gn ta):=by
 intro pins s σ H R I h
 refine Call_ (YS I hg hm boot_range (PyProof.Rows.callWith_type1 (av (ha pos pins s σ H _ I h) fun us s1 ⟨vs,H1,I1,r1,q1⟩=> ?_) hs rfl))
 obtain⟨j,e,q1,q2,q⟩:=q1
 subst e
 cases r1 with
 |cons r rr=>
  cases rr
  obtain⟨t,rfl⟩:=r
  exact call_range_1 (Nr I1 (by omega) (by omega) q1 q2 (by simpa using q))
def DL (wi:TI) (g:TG) (tb:TS):TS:=fun D σ H=>wi σ H fun J H1=> ∃W:Nat→Nat→St→Hp→Prop,(∃m,W 0 m σ H1)∧∀i m σ H,W i m σ H→
 (J.stop i H∧D.nx σ H)∨(J.go i H∧∃N:St→Hp→Prop,(∀af H',N af H'→∃m',m'<m∧W (i+1) m' af H')∧∀x H',J.mP i H x H'→g x σ H' fun bq H2=>tb {D with nx:=N,ct:=N,bk:=D.nx} bq H2)
def fc (fp:List Addr) (h:Heap):List (Addr×Obj):=fp.filterMap fun b=> (h.get? b).map fun o=> (b,o)
theorem ZA {fp:List Addr}{h:Heap}{b:Addr}{o:Obj}(hb:b∈fp) (e:h.get? b=some o):(b,o)∈fc fp h:=List.mem_filterMap.mpr ⟨b,hb,by rw[e];rfl⟩
theorem YW {fp:List Addr}{h:Heap}{p:Addr×Obj}(hp:p∈fc fp h):p.1∈fp∧h.get? p.1=some p.2:=by
 obtain⟨b,hb,e⟩:=List.mem_filterMap.mp hp
 cases q:h.get? b with
 |none=>rw[q]at e;cases e
 |some o=>
  rw[q]at e
  have e':(b,o)=p:=Option.some.inj e
  subst e'
  exact⟨hb,q⟩
theorem Inv.pinned {pins:List (Addr×Obj)}{σ:St}{H:Hp}{s:Shared}{fp:List Addr}(I:Inv X pins σ H s) (hf:∀b∈fp,aP X pins H b) (ho:∀b∈fp,∃o,s.heap.get? b=some o∧∀v,o.data≠.cell v):Inv X (pins++fc fp s.heap) σ H s:=
 I.yW fun p hp=> (List.mem_append.mp hp).elim (fun z=>I.pin p (List.mem_append_right _ z)) fun z=>by
  obtain⟨hb,e⟩:=YW z
  obtain⟨f0,f1,f2,_⟩:=hf p.1 hb
  obtain⟨o,e',d⟩:=ho p.1 hb
  rw[e]at e';cases e'
  exact⟨e,f0,f1,f2,d⟩
theorem Inv.dI {pins pl:List (Addr×Obj)}{σ:St}{H:Hp}{s:Shared}(I:Inv X (pins++pl) σ H s):Inv X pins σ H s:=I.yW fun p hp=>I.pin p (List.mem_append_right _ (List.mem_append_left _ hp))
theorem YQ {iter:Expr}{body:List Stmt}{wi:TI}{g:TG}{tb:TS}{pos:Pos}(hp:PassesOwn (model X.prog X.w) X.A X.env X.xe) (hc:X.calm=true) (hi:PI X tg iter wi) (hg:PG X tg g) (hb:fR X body tb)
  (hs:∀x,foldedSetIterable iter X.env x=pure x:=by intro _;rfl):PS X (.For tg iter body [] pos) (DL wi g tb):=by
 intro pins s σ H D I h
 refine wpAny_For (av (hi pins s σ H _ I h) fun v s1 h1=>av h1 fun gQ s2 h2=> ?_) hs
 obtain⟨it,fp,tn,J,H2,e,I2,T,au,f2,W,⟨m0,w0⟩,turn⟩:=h2
 subst e
 have stat:∀{H':Hp},(∀b∈fp,H' b=none)→∀b∈fp,aP X pins H' b:=fun hn b hb=> ⟨hn b hb,(f2 b hb).2⟩
 refine codeAny_forLoop_any (fun n s'=> ∃i af H',Inv X pins af H' s'∧tn i s'.heap∧(∀b∈fp,H' b=none)∧W i n af H') ?_ m0 ⟨0,σ,H2,I2,au,fun b hb=> (f2 b hb).1,w0⟩
 rintro n s3 ⟨i,df,H3,I3,bt,mE,w3⟩
 rcases turn i n df H3 w3 with ⟨stop,qn⟩ |⟨go,N,hN,step⟩
 ·refine wpAny_passesOwn hp (av (T.done X rfl rfl rfl hc i pins s3 df H3 X.xe I3 (stat mE) bt stop) fun r s4 ⟨hr,I4⟩=> ?_)
  subst hr
  exact wpAny_execs_nil ⟨df,H3,I4,qn⟩
 ·refine wpAny_passesOwn hp (av (T.item X rfl rfl rfl hc i pins s3 df H3 X.xe I3 (stat mE) bt go) fun r s4 ⟨u,hr,h4⟩=> ?_)
  subst hr
  refine wpAny_passesOwn hp (av h4 fun _ s5 ⟨x,H5,I5,r5,y5,cP,oP⟩=> ?_)
  have pD:=I5.pinned (stat oP) (T.obj _ _ cP)
  refine wpAny_passesOwn hp (av (hg _ s5 df H5 x u _ pD r5 (step x H5 y5)) fun _ s6 ⟨iS,H6,I6,q6⟩=> ?_)
  refine wpAny_passesOwn hp (av (hb _ s6 iS H6 _ I6 q6) fun f s7 q7=> ?_)
  have again:∀{bW:St}{H7:Hp},Inv X (pins++fc fp s5.heap) bW H7 s7→N bW H7→∃m,m<n∧∃i af H',Inv X pins af H' s7∧tn i s7.heap∧(∀b∈fp,H' b=none)∧W i m af H':=fun {bW H7} I7 n7=>by
   obtain⟨m',hm,w7⟩:=hN bW H7 n7
   refine⟨m',hm,i+1,bW,H7,I7.dI,T.keep _ _ _ cP fun b hb o e=> (I7.pin (b,o) (List.mem_append_right _ (List.mem_append_right _ (ZA hb e)))).1,fun b hb=> ?_,w7⟩
   obtain⟨o,e,d⟩:=T.obj _ _ cP b hb
   exact(I7.pin (b,o) (List.mem_append_right _ (List.mem_append_right _ (ZA hb e)))).2.1
  cases f with
  |next=>obtain⟨bW,H7,I7,n7⟩:=q7;exact again I7 n7
  |cont=>obtain⟨bW,H7,I7,n7⟩:=q7;exact again I7 n7
  |brk=>obtain⟨bW,H7,I7,q7⟩:=q7;exact⟨bW,H7,I7.dI,q7⟩
  |ret v=>obtain⟨x7,bW,H7,I7,r7,q7⟩:=q7;exact⟨x7,bW,H7,I7.dI,r7,q7⟩
end
theorem Ud {K:PySem.W.Frag}{a:Addr}{xs:List V}{g:TG}{tb:TS}{D:Ends}{σ:St}{H:Hp}(Pv:Nat→St→Hp→Prop) (h0:Pv 0 σ H) (hl:∀i σ H,i≤xs.length→Pv i σ H→aj K H a xs)
  (hs:∀i x σ H,xs[i]? =some x→Pv i σ H→g x σ H fun bq H2=>tb {D with nx:=Pv (i+1),ct:=Pv (i+1),bk:=D.nx} bq H2) (hd:∀σ H,Pv xs.length σ H→D.nx σ H):
  ∃W:Nat→Nat→St→Hp→Prop,(∃m,W 0 m σ H)∧∀i m σ H,W i m σ H→
   ((mI K a).stop i H∧D.nx σ H)∨((mI K a).go i H∧∃N:St→Hp→Prop,(∀af H',N af H'→∃m',m'<m∧W (i+1) m' af H')∧∀x H',(mI K a).mP i H x H'→g x σ H' fun bq H2=>tb {D with nx:=N,ct:=N,bk:=D.nx} bq H2):=by
 refine⟨fun i m σ H=>m=xs.length - i∧i≤xs.length∧Pv i σ H,⟨xs.length,by simp,Nat.zero_le _,h0⟩,?_⟩
 rintro i m σ H ⟨rfl,hi,p⟩
 have q:=hl i σ H hi p
 by_cases ay:i<xs.length
 ·refine .inr ⟨⟨xs,xs[i],q,by simp[ay]⟩,Pv (i+1),fun af H' p'=> ⟨xs.length - (i+1),by omega,rfl,ay,p'⟩,fun x H' y=> ?_⟩
  obtain⟨e,y⟩:=y
  subst e
  exact hs i x σ _ (y xs q) p
 ·have e:i=xs.length:=by omega
  subst e
  exact .inl ⟨⟨xs,q,Nat.le_refl _⟩,hd σ H p⟩
theorem Yl {lo:Int}{n:Nat}{g:TG}{tb:TS}{D:Ends}{σ:St}{H:Hp}(Pv:Nat→St→Hp→Prop) (h0:Pv 0 σ H)
  (hs:∀i σ H,i<n→Pv i σ H→g (.int (lo+i)) σ H fun bq H2=>tb {D with nx:=Pv (i+1),ct:=Pv (i+1),bk:=D.nx} bq H2) (hd:∀σ H,Pv n σ H→D.nx σ H):
  ∃W:Nat→Nat→St→Hp→Prop,(∃m,W 0 m σ H)∧∀i m σ H,W i m σ H→
   ((kZ lo n).stop i H∧D.nx σ H)∨((kZ lo n).go i H∧∃N:St→Hp→Prop,(∀af H',N af H'→∃m',m'<m∧W (i+1) m' af H')∧∀x H',(kZ lo n).mP i H x H'→g x σ H' fun bq H2=>tb {D with nx:=N,ct:=N,bk:=D.nx} bq H2):=by
 refine⟨fun i m σ H=>m=n - i∧i≤n∧Pv i σ H,⟨n,by simp,Nat.zero_le _,h0⟩,?_⟩
 rintro i m σ H ⟨rfl,hi,p⟩
 by_cases ay:i<n
 ·refine .inr ⟨ay,Pv (i+1),fun af H' p'=> ⟨n - (i+1),by omega,rfl,ay,p'⟩,fun x H' y=> ?_⟩
  obtain⟨e,y⟩:=y
  subst e y
  exact hs i σ _ ay p
 ·have e:i=n:=by omega
  subst e
  exact .inl ⟨Nat.le_refl _,hd σ H p⟩
abbrev R2:=V→V→Hp→VK→Prop
def aR (X:Cx) (f:Value→Value→Sem Value) (r:R2):Prop:=
 ∀(pins:List (Addr×Obj)) (s:Shared) (σ:St) (H:Hp) (x y:V) (v u:Value) (Q:VK),Inv X pins σ H s→RelV x v→RelV y u→r x y H Q→
  wpAny (model X.prog X.w) X.A (f v u) (EP X pins σ Q) X.xe s
def xx (X:Cx) (f:Value→Sem Value) (r:V→Hp→VK→Prop):Prop:=
 ∀(pins:List (Addr×Obj)) (s:Shared) (σ:St) (H:Hp) (x:V) (v:Value) (Q:VK),Inv X pins σ H s→RelV x v→r x H Q→
  wpAny (model X.prog X.w) X.A (f v) (EP X pins σ Q) X.xe s
def dX (X:Cx) (f:Value) (r:List V→Hp→VK→Prop):Prop:=
 ∀(pins:List (Addr×Obj)) (s:Shared) (σ:St) (H:Hp) (xs:List V) (us:List Value) (Q:VK),Inv X pins σ H s→Vals xs us→r xs H Q→
  wpAny (model X.prog X.w) X.A (call f us) (EP X pins σ Q) X.xe s
def Pc (X:Cx) (r:V→Hp→(Bool→Hp→Prop)→Prop):Prop:=
 ∀(pins:List (Addr×Obj)) (s:Shared) (σ:St) (H:Hp) (x:V) (v:Value) (Q:Bool→Hp→Prop),Inv X pins σ H s→RelV x v→r x H Q→
  wpAny (model X.prog X.w) X.A (truthy v) (TP X pins σ Q) X.xe s
def lr (r:R2) (ta tb:TE):TE:=fun σ H Q=>ta σ H fun x H1=>tb σ H1 fun y H2=>r x y H2 Q
def Ds (r:V→Hp→VK→Prop) (ta:TE):TE:=fun σ H Q=>ta σ H fun x H1=>r x H1 Q
def rI (C:Int→Int→Prop) (g:Int→Int→V):R2:=fun x y H Q=> ∃i j,x=.int i∧y=.int j∧C i j∧Q (g i j) H
def jF (g:Int→Int→V):R2:=fun x y H Q=> ∃i j,x=.int i∧y=.int j∧Q (g i j) H
def rU (g:Int→V):V→Hp→VK→Prop:=fun x H Q=> ∃i,x=.int i∧Q (g i) H
section
variable {X:Cx}{a b c:Expr}{ta tb tc:TE}{pos:Pos}
theorem wC (ha:PE X a ta) (hb:PE X b tb) {pins:List (Addr×Obj)}{s:Shared}{σ:St}{H:Hp}{R:V→V→Hp→Prop}(I:Inv X pins σ H s)
  (h:ta σ H fun x H1=>tb σ H1 fun y H2=>R x y H2) {Q:Value→Shared→Prop}{f:Value→Value→Sem Value}
  (hf:∀v u s2 x y H2,Inv X pins σ H2 s2→RelV x v→RelV y u→R x y H2→wpAny (model X.prog X.w) X.A (f v u) Q X.xe s2):
  wpAny (model X.prog X.w) X.A (eval a X.env) (fun v aQ=>wpAny (model X.prog X.w) X.A (eval b X.env) (fun u sZ=>wpAny (model X.prog X.w) X.A (f v u) Q X.xe sZ) X.xe aQ) X.xe s:=by
 refine av (ha pins s σ H _ I h) fun v s1 ⟨x,H1,I1,r1,q1⟩=> ?_
 refine av (hb pins s1 σ H1 _ I1 q1) fun u s2 ⟨y,H2,I2,r2,q2⟩=> ?_
 exact hf v u s2 x y H2 I2 r1 r2 q2
theorem Zt {op:Operator}{r:R2}(ho:aR X (binaryOp op) r) (ha:PE X a ta) (hb:PE X b tb):PE X (.BinOp a op b pos) (lr r ta tb):=by
 intro pins s σ H Q I h
 exact wpAny_BinOp (wC ha hb I h fun v u s2 x y H2 I2 rx ry q=>ho pins s2 σ H2 x y v u Q I2 rx ry q)
theorem LO {op:UnaryOp}{r:V→Hp→VK→Prop}(ho:xx X (unaryOp op) r) (ha:PE X a ta):PE X (.UnaryOp op a pos) (Ds r ta):=by
 intro pins s σ H Q I h
 exact UnaryOp_ (av (ha pins s σ H _ I h) fun v s1 ⟨x,H1,I1,r1,q1⟩=>ho pins s1 σ H1 x v Q I1 r1 q1)
theorem qC {f:Value→Value→Sem Value}{C:Int→Int→Prop}{g:Int→Int→Int}
  (rule:∀(i j:Int) (t u:Tok) (s:Shared) (Q:Value→Shared→Prop) (E:Value→Shared→Prop),C i j→Q (.int (g i j) s.toks) {s with toks:=s.toks+1}→wpAny (model X.prog X.w) X.A (f (.int i t) (.int j u)) Q E s):
  aR X f (rI C fun i j=> .int (g i j)):=by
 intro pins s σ H x y v u Q I rx ry h
 obtain⟨i,j,rfl,rfl,hc,q⟩:=h
 obtain⟨t,rfl⟩:=rx
 obtain⟨t',rfl⟩:=ry
 exact rule i j t t' s _ _ hc ⟨.int (g i j),H,I.tok _,⟨_,rfl⟩,q⟩
theorem y6 {f:Value→Value→Sem Value}{g:Int→Int→Int}
  (rule:∀(i j:Int) (t u:Tok) (s:Shared) (Q:Value→Shared→Prop) (E:Value→Shared→Prop),Q (.int (g i j) s.toks) {s with toks:=s.toks+1}→wpAny (model X.prog X.w) X.A (f (.int i t) (.int j u)) Q E s):
  aR X f (jF fun i j=> .int (g i j)):=by
 intro pins s σ H x y v u Q I rx ry h
 obtain⟨i,j,rfl,rfl,q⟩:=h
 obtain⟨t,rfl⟩:=rx
 obtain⟨t',rfl⟩:=ry
 exact rule i j t t' s _ _ ⟨.int (g i j),H,I.tok _,⟨_,rfl⟩,q⟩
theorem qD {f:Value→Value→Sem Value}{g:Int→Int→Bool}
  (rule:∀(i j:Int) (t u:Tok) (s:Shared) (Q:Value→Shared→Prop) (E:Value→Shared→Prop),Q (.bool (g i j)) s→wpAny (model X.prog X.w) X.A (f (.int i t) (.int j u)) Q E s):
  aR X f (jF fun i j=> .bl (g i j)):=by
 intro pins s σ H x y v u Q I rx ry h
 obtain⟨i,j,rfl,rfl,q⟩:=h
 obtain⟨t,rfl⟩:=rx
 obtain⟨t',rfl⟩:=ry
 exact rule i j t t' s _ _ ⟨.bl (g i j),H,I,rfl,q⟩
def Qd (i j:Int):Prop:=0<j∧j<1073741824
def Qc (i j:Int):Prop:=0≤j∧j≤1000000∧i.natAbs<2^64
def xW (i j:Int):Prop:=(-(2^64)<i∧i<2^64)∨(-(2^64)<j∧j<2^64)
theorem xW.ok {i j:Int}(h:xW i j):IntMulOk i j:=by
 rcases h with ⟨h1,h2⟩ |⟨h1,h2⟩
 ·exact .of_left (intBits_le_64 h1 h2)
 ·exact .of_right (intBits_le_64 h1 h2)
theorem Y4:aR X (binaryOp .Add) (jF fun i j=> .int (i+j)):=y6 fun _ _ _ _ _ _ _ q=>add_int q
theorem YE:aR X (binaryOp .Sub) (jF fun i j=> .int (i - j)):=y6 fun _ _ _ _ _ _ _ q=>sub_int q
theorem WN:aR X (binaryOp .Mult) (rI xW fun i j=> .int (i*j)):=qC fun _ _ _ _ _ _ _ hc q=>mul_int q hc.ok
theorem BL:aR X (binaryOp .FloorDiv) (rI Qd fun i j=> .int (i/j)):=qC fun i j _ _ _ _ _ hc q=>by
 have h1:(0:Int)<j:=hc.1
 have h2:j<1073741824:=hc.2
 exact floordiv_int (by omega) (by rw[Int.fdiv_eq_ediv_of_nonneg i (by omega)];exact q) (.inl (PyProof.noPylong_small (by omega)))
theorem Y3:aR X (binaryOp .Mod) (rI (fun _ j=>0<j) fun i j=> .int (i%j)):=qC fun i j _ _ _ _ _ hc q=>by
 have h1:(0:Int)<j:=hc
 exact mod_int' (by omega) (by rw[Int.fmod_eq_emod_of_nonneg i (by omega)];exact q)
theorem Lz:aR X (binaryOp .Pow) (rI Qc fun i j=> .int (i^j.toNat)):=qC fun _ _ _ _ _ _ _ hc q=>pow_int_small hc.1 hc.2.1 hc.2.2 q
theorem Di {f:Value→Sem Value}{g:Int→Int}
  (rule:∀(i:Int) (t:Tok) (s:Shared) (Q:Value→Shared→Prop) (E:Value→Shared→Prop),Q (.int (g i) s.toks) {s with toks:=s.toks+1}→wpAny (model X.prog X.w) X.A (f (.int i t)) Q E s):
  xx X f (rU fun i=> .int (g i)):=by
 intro pins s σ H x v Q I rx h
 obtain⟨i,rfl,q⟩:=h
 obtain⟨t,rfl⟩:=rx
 exact rule i t s _ _ ⟨.int (g i),H,I.tok _,⟨_,rfl⟩,q⟩
theorem LK:xx X (unaryOp .USub) (rU fun i=> .int (-i)):=Di fun _ _ _ _ _ q=>neg_int q
end
def yu:V→V→Bool
 | .ae,.ae=>true | .ae,.int _=>true | .int _,.ae=>true | .ae,.bl _=>true | .bl _,.ae=>true | .ae,.str _=>true | .str _,.ae=>true
 | .int _,.int _=>true | .bl _,.bl _=>true | .str _,.str _=>true | .fA _,.fA _=>true
 | .int _,.str _=>true | .str _,.int _=>true | .bl _,.str _=>true | .str _,.bl _=>true
 |_,_=>false
def EO:R2:=fun x y H Q=>yu x y=true∧Q (.bl (decide (x=y))) H
def EK:R2:=fun x y H Q=>yu x y=true∧Q (.bl (!decide (x=y))) H
theorem xq {i j:Int} :decide (V.int i=V.int j)=(i==j):=by
 rw[Bool.eq_iff_iff]
 simp
theorem Bi {i j:Bool} :decide (V.bl i=V.bl j)=(i==j):=by
 rw[Bool.eq_iff_iff]
 simp
theorem B5 {i j:Str} :decide (V.str i=V.str j)=(i==j):=by
 rw[Bool.eq_iff_iff]
 simp
theorem BZ {i j:Array UInt8} :decide (V.fA i=V.fA j)=(i.toList==j.toList):=by
 rw[Bool.eq_iff_iff]
 cases i
 cases j
 simp
section
variable {X:Cx}{a b c:Expr}{ta tb tc:TE}{pos:Pos}
theorem ZC {pins:List (Addr×Obj)}{σ:St}{H:Hp}{s:Shared}{Q:VK}{k k':Bool}(I:Inv X pins σ H s) (q:Q (.bl k) H) (e:k=k'):EP X pins σ Q (.bool k') s:=by
 subst e
 exact⟨.bl k,H,I,rfl,q⟩
theorem UN:aR X (compareOp .Eq) EO:=by
 intro pins s σ H x y v u Q I rx ry h
 obtain⟨hs,q⟩:=h
 cases x with
 |ae=>
  cases rx
  cases y with
  |ae=>cases ry;exact PySem.EqNone.eq_none_none (ZC I q (by simp))
  |bl j=>cases ry;exact PySem.EqNone.eq_none_bool (ZC I q (by simp))
  |int j=>obtain⟨t',rfl⟩:=ry;exact PySem.EqNone.eq_none_int (ZC I q (by simp))
  |str j=>obtain⟨t',rfl⟩:=ry;exact PySem.EqNone.eq_none_str (ZC I q (by simp))
  |_=>exact absurd (show false=true from hs) Bool.false_ne_true
 |bl i=>
  cases rx
  cases y with
  |ae=>cases ry;exact PySem.EqNone.eq_bool_none (ZC I q (by simp))
  |bl j=>cases ry;exact eq_bool (ZC I q Bi)
  |str j=>obtain⟨t',rfl⟩:=ry;exact PySem.EqMixed.eq_bool_str (ZC I q (by simp))
  |_=>exact absurd (show false=true from hs) Bool.false_ne_true
 |int i=>
  obtain⟨t,rfl⟩:=rx
  cases y with
  |ae=>cases ry;exact PySem.EqNone.eq_int_none (ZC I q (by simp))
  |int j=>obtain⟨t',rfl⟩:=ry;exact eq_int (ZC I q xq)
  |str j=>obtain⟨t',rfl⟩:=ry;exact PySem.EqMixed.eq_int_str (ZC I q (by simp))
  |_=>exact absurd (show false=true from hs) Bool.false_ne_true
 |str i=>
  obtain⟨t,rfl⟩:=rx
  cases y with
  |ae=>cases ry;exact PySem.EqNone.eq_str_none (ZC I q (by simp))
  |bl j=>cases ry;exact PySem.EqMixed.eq_str_bool (ZC I q (by simp))
  |int j=>obtain⟨t',rfl⟩:=ry;exact PySem.EqMixed.eq_str_int (ZC I q (by simp))
  |str j=>obtain⟨t',rfl⟩:=ry;exact eq_str (ZC I q B5)
  |_=>exact absurd (show false=true from hs) Bool.false_ne_true
 |fA i=>
  obtain⟨t,rfl⟩:=rx
  cases y with
  |fA j=>obtain⟨t',rfl⟩:=ry;exact PySem.W.eq_bytes (ZC I q BZ)
  |_=>exact absurd (show false=true from hs) Bool.false_ne_true
 |_=>cases y<;>exact absurd (show false=true from hs) Bool.false_ne_true
theorem pe:aR X (compareOp .NotEq) EK:=by
 intro pins s σ H x y v u Q I rx ry h
 obtain⟨hs,q⟩:=h
 cases x with
 |ae=>
  cases rx
  cases y with
  |ae=>cases ry;exact PySem.EqNone.ne_none_none (ZC I q (by simp))
  |bl j=>cases ry;exact PySem.EqNone.ne_none_bool (ZC I q (by simp))
  |int j=>obtain⟨t',rfl⟩:=ry;exact PySem.EqNone.ne_none_int (ZC I q (by simp))
  |str j=>obtain⟨t',rfl⟩:=ry;exact PySem.EqNone.ne_none_str (ZC I q (by simp))
  |_=>exact absurd (show false=true from hs) Bool.false_ne_true
 |bl i=>
  cases rx
  cases y with
  |ae=>cases ry;exact PySem.EqNone.ne_bool_none (ZC I q (by simp))
  |bl j=>cases ry;exact ne_bool (ZC I q (congrArg not Bi))
  |str j=>obtain⟨t',rfl⟩:=ry;exact PySem.EqMixed.ne_bool_str (ZC I q (by simp))
  |_=>exact absurd (show false=true from hs) Bool.false_ne_true
 |int i=>
  obtain⟨t,rfl⟩:=rx
  cases y with
  |ae=>cases ry;exact PySem.EqNone.ne_int_none (ZC I q (by simp))
  |int j=>obtain⟨t',rfl⟩:=ry;exact ne_int (ZC I q (congrArg not xq))
  |str j=>obtain⟨t',rfl⟩:=ry;exact PySem.EqMixed.ne_int_str (ZC I q (by simp))
  |_=>exact absurd (show false=true from hs) Bool.false_ne_true
 |str i=>
  obtain⟨t,rfl⟩:=rx
  cases y with
  |ae=>cases ry;exact PySem.EqNone.ne_str_none (ZC I q (by simp))
  |bl j=>cases ry;exact PySem.EqMixed.ne_str_bool (ZC I q (by simp))
  |int j=>obtain⟨t',rfl⟩:=ry;exact PySem.EqMixed.ne_str_int (ZC I q (by simp))
  |str j=>obtain⟨t',rfl⟩:=ry;exact ne_str (ZC I q (congrArg not B5))
  |_=>exact absurd (show false=true from hs) Bool.false_ne_true
 |fA i=>
  obtain⟨t,rfl⟩:=rx
  cases y with
  |fA j=>obtain⟨t',rfl⟩:=ry;exact PySem.W.ne_bytes (ZC I q (congrArg not BZ))
  |_=>exact absurd (show false=true from hs) Bool.false_ne_true
 |_=>cases y<;>exact absurd (show false=true from hs) Bool.false_ne_true
theorem rL:aR X (compareOp .Lt) (jF fun i j=> .bl (decide (i<j))):=qD fun _ _ _ _ _ _ _ q=>lt_int q
theorem A5:aR X (compareOp .LtE) (jF fun i j=> .bl (decide (i≤j))):=qD fun _ _ _ _ _ _ _ q=>le_int q
theorem UM:aR X (compareOp .Gt) (jF fun i j=> .bl (decide (j<i))):=qD fun _ _ _ _ _ _ _ q=>gt_int q
theorem wR:aR X (compareOp .GtE) (jF fun i j=> .bl (decide (j≤i))):=qD fun _ _ _ _ _ _ _ q=>ge_int q
theorem aR.or {f:Value→Value→Sem Value}{r r':R2}(h:aR X f r) (h':aR X f r'):aR X f (fun x y H Q=>r x y H Q∨r' x y H Q):=by
 intro pins s σ H x y v u Q I rx ry q
 rcases q with q |q
 ·exact h pins s σ H x y v u Q I rx ry q
 ·exact h' pins s σ H x y v u Q I rx ry q
theorem aY (b:Expr) {op:CmpOp}(h:op≠.In:=by decide) (h2:op≠.NotIn:=by decide):behindInMarks op b=false:=by
 have e1:(op==CmpOp.In)=false:=by cases op<;>first |rfl |exact absurd rfl h
 have e2:(op==CmpOp.NotIn)=false:=by cases op<;>first |rfl |exact absurd rfl h2
 cases b<;>simp[behindInMarks,e1,e2]
theorem Z2 {op:CmpOp}{r:R2}(ho:aR X (compareOp op) r) (ha:PE X a ta) (hb:PE X b tb) (hm:behindInMarks op b=false):PE X (.Compare a [op] [b] pos) (lr r ta tb):=by
 intro pins s σ H Q I h
 exact wpAny_Compare1 (wC ha hb I h fun v u s2 x y H2 I2 rx ry q=>ho pins s2 σ H2 x y v u Q I2 rx ry q) hm
def Dt (t:TE):TT:=fun σ H Q=>t σ H fun x H'=> ∃k,x=.bl k∧Q k H'
theorem Zn {op:CmpOp}{r:R2}(ho:aR X (compareOp op) r) (ha:PE X a ta) (hb:PE X b tb) (hm:behindInMarks op b=false):PT X (.Compare a [op] [b] pos) (Dt (lr r ta tb)):=by
 intro pins s σ H Q I h
 refine wpAny_isTrue_Compare1 (av (ha pins s σ H _ I h) fun v s1 ⟨x,H1,I1,r1,q1⟩=>av (hb pins s1 σ H1 _ I1 q1) fun u s2 ⟨y,H2,I2,r2,q2⟩=>
  av (ho pins s2 σ H2 x y v u _ I2 r1 r2 q2) fun c s3 ⟨z,H3,I3,r3,k,e,q3⟩=> ?_) hm
 subst e
 cases r3
 exact wpAny_truthy_bool ⟨H3,I3,q3⟩
def DP (r r':R2) (ta tb tc:TE):TE:=fun σ H Q=>ta σ H fun x H1=>tb σ H1 fun y H2=>r x y H2 fun z H3=> ∃k,z=.bl k∧
 (if k=true then tc σ H3 fun w' H4=>r' y w' H4 Q else Q (.bl false) H3)
theorem Nj {op uU:CmpOp}{r r':R2}(ho:aR X (compareOp op) r) (eW:aR X (compareOp uU) r') (ha:PE X a ta) (hb:PE X b tb) (hc:PE X c tc)
  (hm:lastMarks [op,uU] [b,c]=false:=by with_unfolding_all rfl):PE X (.Compare a [op,uU] [b,c] pos) (DP r r' ta tb tc):=by
 intro pins s σ H Q I h
 refine Compare_chain (av (ha pins s σ H _ I h) fun v s1 ⟨x,H1,I1,r1,q1⟩=>chain_link (av (hb pins s1 σ H1 _ I1 q1) fun u s2 ⟨y,H2,I2,r2,q2⟩=>
  av (ho pins s2 σ H2 x y v u _ I2 r1 r2 q2) fun d s3 ⟨z,H3,I3,r3,k,e,q3⟩=> ?_)) hm
 subst e
 cases r3
 refine wpAny_truthy_bool ?_
 cases k with
 |false=>exact ite_ff ⟨.bl false,H3,I3,rfl,q3⟩
 |true=>exact ite_tt (chain_last (av (hc pins s3 σ H3 _ I3 q3) fun w' s4 ⟨z',H4,I4,r4,q4⟩=>eW pins s4 σ H4 y z' u w' Q I4 r2 r4 q4))
def CW (K:PySem.W.Frag) (x:V) (H:Hp) (k:Bool):Prop:=
 match x with
 | .ae=>k=false
 | .bl b=>k=b
 | .int i=>k=(i !=0)
 | .str y=>y.length≤sizeLine∧k=((y.length:Int) !=0)
 | .fA y=>y.size≤sizeLine∧k=((y.size:Int) !=0)
 | .ref p=> (∃xs,aj K H p xs∧k= !xs.isEmpty)∨(∃xs,ag K H p xs∧k= !xs.isEmpty)∨∃ai,H p=some (.dK ai)∧k= !ai.isEmpty
 |_=>False
theorem OC {κ:Type}{ai:List (κ×V)}{vs:List (κ×Value)}(r:KV ai vs):(!vs.isEmpty)= !ai.isEmpty:=by
 cases r<;>rfl
theorem W1 {xs:List V}{aa:List Value}(r:Vals xs aa):(!aa.toArray.isEmpty)= !xs.isEmpty:=by
 cases r<;>simp
theorem nK:(sizeLine:Nat)<2^63:=by rw[sizeLine_eq];decide
theorem LI:Pc X (fun x H Q=> ∃k,CW X.K x H k∧Q k H):=by
 intro pins s σ H x v Q I rx h
 obtain⟨k,e,q⟩:=h
 have hl:=nK
 have hs:sizeLine=16777216:=sizeLine_eq
 cases x with
 |ae=>
  cases rx
  have e':k=false:=e
  subst e'
  exact truthy_none ⟨H,I,q⟩
 |bl b=>
  cases rx
  have e':k=b:=e
  subst e'
  exact wpAny_truthy_bool ⟨H,I,q⟩
 |int i=>
  obtain⟨t,rfl⟩:=rx
  have e':k=(i !=0):=e
  subst e'
  exact PySem.P.truthy_int ⟨H,I,q⟩
 |str y=>
  obtain⟨t,rfl⟩:=rx
  obtain⟨hy,e'⟩:y.length≤sizeLine∧k=((y.length:Int) !=0):=e
  subst e'
  exact PySem.P.truthy_str (by omega) ⟨H,I.tok _,q⟩
 |fA y=>
  obtain⟨t,rfl⟩:=rx
  obtain⟨hy,e'⟩:y.size≤sizeLine∧k=((y.size:Int) !=0):=e
  subst e'
  exact PySem.W.truthy_bytes (by omega) ⟨H,I.tok _,q⟩
 |ref p=>
  cases rx
  have e':(∃xs,aj X.K H p xs∧k= !xs.isEmpty)∨(∃xs,ag X.K H p xs∧k= !xs.isEmpty)∨∃ai,H p=some (.dK ai)∧k= !ai.isEmpty:=e
  rcases e' with ⟨xs,hx,e'⟩ |⟨xs,hx,e'⟩ |⟨ai,hx,e'⟩
  ·subst e'
   obtain⟨aa,r,pl,hz⟩:=I.list hx
   have hlen:=r.length
   exact wpAny_truthy_list pl.isList (by simp only[List.size_toArray];omega) ⟨H,I.tok _,by rw[W1 r];exact q⟩
  ·subst e'
   obtain⟨aa,r,pl,hz⟩:=I.tuple hx
   have hlen:=r.length
   exact truthy_tuple pl (by simp only[List.size_toArray];omega) ⟨H,I.tok _,by rw[W1 r];exact q⟩
  ·subst e'
   obtain⟨hz,hS,vs,r,m⟩:ai.length≤sizeLine∧(p==sysModules)=false∧∃vs,KV ai vs∧s.heap.DictOf (fe X.prog X.w) p vs:=I.ak p _ hx
   have hlen:ai.length=vs.length:=Paired.length r
   exact wpAny_truthy_dict hS m (by omega) ⟨H,I.tok _,by rw[OC r];exact q⟩
 |_=>exact(show False from e).elim
theorem Nn (ha:PE X a ta) (he:∀whole,isTrue a X.env whole=(do let v ←whole;standAt a.pos;holding [v] (truthy v))):
  PT X a (fun σ H Q=>ta σ H fun x H'=> ∃k,CW X.K x H' k∧Q k H'):=by
 intro pins s σ H Q I h
 exact isTrue_plain (av (ha pins s σ H _ I h) fun v s1 ⟨x,H1,I1,r1,q1⟩=>LI pins s1 σ H1 x v Q I1 r1 q1) (he _)
theorem vals1 {x:V}{us:List Value}(r:Vals [x] us):∃u,us=[u]∧RelV x u:=by
 cases r with
 |cons r1 r2=>cases r2;exact⟨_,rfl,r1⟩
theorem vals2 {x y:V}{us:List Value}(r:Vals [x,y] us):∃u w',us=[u,w']∧RelV x u∧RelV y w':=by
 cases r with
 |cons r1 r2=>
  cases r2 with
  |cons r3 r4=>cases r4;exact⟨_,_,rfl,r1,r3⟩
theorem U8 (hc:X.calm=true):dX X (.builtin "max") (fun xs H Q=> ∃i j,xs=[.int i,.int j]∧Q (.int (if j>i then j else i)) H):=by
 intro pins s σ H xs us Q I r h
 obtain⟨i,j,rfl,q⟩:=h
 obtain⟨u,w',rfl,⟨t,rfl⟩,⟨t',rfl⟩⟩:=vals2 r
 refine max_two_ints (I.ok.hd hc) fun h' tk k=> ⟨_,H,I.kept k,?_,q⟩
 by_cases hj:j>i
 ·rw[if_pos hj,if_pos hj];exact⟨_,rfl⟩
 ·rw[if_neg hj,if_neg hj];exact⟨_,rfl⟩
theorem U7 (hc:X.calm=true):dX X (.builtin "min") (fun xs H Q=> ∃i j,xs=[.int i,.int j]∧Q (.int (if j<i then j else i)) H):=by
 intro pins s σ H xs us Q I r h
 obtain⟨i,j,rfl,q⟩:=h
 obtain⟨u,w',rfl,⟨t,rfl⟩,⟨t',rfl⟩⟩:=vals2 r
 refine min_two_ints (I.ok.hd hc) fun h' tk k=> ⟨_,H,I.kept k,?_,q⟩
 by_cases hj:j<i
 ·rw[if_pos hj,if_pos hj];exact⟨_,rfl⟩
 ·rw[if_neg hj,if_neg hj];exact⟨_,rfl⟩
end
structure xC (h:Heap) (x dx C:Addr) (mA:Str→Option Value):Prop where
 obj:h.get? x=some (PySem.W.instObj C dx)
 ns:h.Ns1 dx mA
 ne:dx≠x
theorem Nc {h:Heap}{dx:Addr}{mA:Str→Option Value}(n:h.Ns1 dx mA):∃od,h.get? dx=some od∧∀name,PySem.W.lookIn name od=some (mA name):=by
 obtain⟨o,es,ep,ho,hd,hk,_,hm⟩:=n
 refine⟨o,ho,fun name=> ?_⟩
 have e:=hm name
 unfold nsFind findBy at e
 rw[←Array.find?_toList]at e
 unfold PySem.W.lookIn
 rw[hd]
 dsimp only
 split
 ·rename_i y q
  rw[q]at e
  exact congrArg some e
 ·rename_i q
  rw[q]at e
  have a:es.toList.any (·.refKey)=false:=by
   rw[List.any_eq_false]
   intro y hy
   obtain⟨z,t,rb⟩:=hk y (Array.mem_toList_iff.mp hy)
   simp[DictEntry.refKey,rb]
  have a':¬es.toList.any (·.refKey)=true:=by rw[a];exact Bool.false_ne_true
  rw[if_neg a']
  exact congrArg some e
theorem xC.look {h:Heap}{x dx C:Addr}{mA:Str→Option Value}(I:xC h x dx C mA):∃od,PySem.W.InstAt h x (PySem.W.instObj C dx) C (some od)∧∀name,PySem.W.lookIn name od=some (mA name):=
 let ⟨od,ho,hl⟩:=Nc I.ns
 ⟨od,⟨I.obj,rfl,rfl,ho⟩,hl⟩
section
variable {P:Program}{w:World}{H H':Hp}{h h':Heap}{a C dx:Addr}{fs Iz:List (Str×V)}
theorem K6 (ak:bu P w H h) (e:H a=some (.ins C dx fs)):∃mA,xC h a dx C mA∧(∀f,kX (fs.lookup f) (mA f))∧PySem.Within mA (fs.map (·.1))∧fs.length≤1000∧H dx=some (.own a):=by
 obtain⟨d,z,ne,ob,mA,n,r,q⟩:=(show bz P w H h a (.ins C dx fs) from ak a _ e)
 exact⟨mA,⟨ob,n,ne⟩,r,q,z,d⟩
end
structure xV (K:PySem.W.Frag) (C:Addr):Prop where
 pg:PySem.W.plainGet K C Str.empty=true
 hd:PySem.W.hasDictIn K C=true
 po:PySem.W.plainOver K C=true
 sa:PySem.W.findIn K (.ref C) "__setattr__" =some (some (.builtin "object.__setattr__"))
theorem xV.get {K:PySem.W.Frag}{C:Addr}(c:xV K C) (f:Str):PySem.W.plainGet K C f=true:=c.pg
structure QW (K:PySem.W.Frag) (C:Addr) (f:Str) (v:V) (u:Value):Prop where
 at_:PySem.W.findIn K (.ref C) f=some (some u)
 rel:RelV v u
 get:PySem.W.specialIn K u "__get__" =some none
 cp:PySem.W.copiedNames.contains f=false
structure Meth (K:PySem.W.Frag) (C:Addr) (m:Str) (f:Addr):Prop where
 at_:PySem.W.findIn K (.ref C) m=some (some (.ref f))
 fn:PySem.W.isFn K (.ref f)=true
 kp:PySem.W.keepIn K (.ref f)=true
section
variable {X:Cx}{pins:List (Addr×Obj)}{σ:St}{H:Hp}{s:Shared}{A:Around}{E:Value→Shared→Prop}{Q:Value→Shared→Prop}{c:Value}{b:Bool}
inductive dG (K:PySem.W.Frag) (H:Hp):V→Value→Prop where
 |ae:dG K H .ae (.type "NoneType")
 |bl (x:Bool):dG K H (.bl x) (.type "bool")
 |int (i:Int):dG K H (.int i) (.type "int")
 |str (x:Str):dG K H (.str x) (.type "str")
 |jh (x:UInt64):dG K H (.jh x) (.type "float")
 |lst {a:Addr}{xs:List V} (e:H a=some (.lst xs)):dG K H (.ref a) (.type "list")
 |cK {a:Addr}{o:Obj}{xs:List V} (e:H a=some (.cK o (.lst xs))):dG K H (.ref a) (.type "list")
 |tup {a:Addr}{xs:List V} (e:H a=some (.tup xs)):dG K H (.ref a) (.type "tuple")
 |dK {a:Addr}{ai:List (Key×V)} (e:H a=some (.dK ai)):dG K H (.ref a) (.type "dict")
 |dT {a:Addr}{ai:List (List Key×V)} (e:H a=some (.dT ai)):dG K H (.ref a) (.type "dict")
 |ins {a C dx:Addr}{fs:List (Str×V)} (e:H a=some (.ins C dx fs)) (cl:xV K C) (ha:PySem.W.findIn K (.ref C) "__class__" =some (some (.builtin "object.__class__")))
  (hn:PySem.W.specialIn K (.builtin "object.__class__") "__get__" =some (some (.builtin "getset_descriptor.__get__"))) (zD:PySem.W.takesIn K (.builtin "object.__class__")=some true)
  (hm:PySem.W.mroIn K C (.type "object")=some true):dG K H (.ref a) (.ref C)
theorem M3 {x:V}{u t:Value}(I:Inv X pins σ H s) (rx:RelV x u) (ty:dG X.K H x t) (e:PySem.W.kitOne X.K t c=some b) (h:∀tk,Q (.bool b) {s with toks:=tk}):
  wpAny (model X.prog X.w) A (call (.builtin "isinstance") [u,c]) Q E s:=by
 cases ty with
 |ae=>cases (show u=Value.none from rx);exact PySem.W.kia_one PySem.W.kitx_none I.dq True.intro e (fun z=>nomatch z) h
 |bl y=>cases (show u=Value.bool y from rx);exact PySem.W.kia_one PySem.W.kitx_bool I.dq True.intro e (fun z=>nomatch z) h
 |int i=>obtain⟨t,q⟩:=(show ∃t,u=Value.int i t from rx);cases q;exact PySem.W.kia_one PySem.W.kitx_int I.dq True.intro e (fun z=>nomatch z) h
 |str y=>obtain⟨t,q⟩:=(show ∃t,u=Value.str y t from rx);cases q;exact PySem.W.kia_one PySem.W.kitx_str I.dq True.intro e (fun z=>nomatch z) h
 |jh y=>obtain⟨t,q⟩:=(show ∃t,u=Value.float y t from rx);cases q;exact PySem.W.kia_one PySem.W.kitx_float I.dq True.intro e (fun z=>nomatch z) h
 | @lst a xs ea=>
  cases (show u=Value.ref a from rx)
  obtain⟨_,_,n,_,h1⟩:=(show bz X.prog X.w H s.heap a (.lst xs) from I.ak a _ ea)
  exact PySem.W.kia_one PySem.W.kitx_list I.dq ⟨_,h1,rfl⟩ e (fun z=>nomatch z) h
 | @cK a ob xs ea=>
  cases (show u=Value.ref a from rx)
  obtain⟨_,_,_,n,_,h1⟩:=(show bz X.prog X.w H s.heap a (.cK ob (.lst xs)) from I.ak a _ ea)
  exact PySem.W.kia_one PySem.W.kitx_list I.dq ⟨_,h1,rfl⟩ e (fun z=>nomatch z) h
 | @tup a xs ea=>
  cases (show u=Value.ref a from rx)
  obtain⟨_,_,_,p,_⟩:=(show bz X.prog X.w H s.heap a (.tup xs) from I.ak a _ ea)
  obtain⟨o,h1,h2,_⟩:=p
  exact PySem.W.kia_one PySem.W.kitx_tuple I.dq ⟨o,h1,h2⟩ e (fun z=>nomatch z) h
 | @dK a ai ea=>
  cases (show u=Value.ref a from rx)
  obtain⟨_,_,vs,_,p⟩:=(show bz X.prog X.w H s.heap a (.dK ai) from I.ak a _ ea)
  obtain⟨o,es,ep,h1,h2,_⟩:=p
  exact PySem.W.kia_one PySem.W.kitx_dict I.dq ⟨o,h1,h2.1⟩ e (fun z=>nomatch z) h
 | @dT a ai ea=>
  cases (show u=Value.ref a from rx)
  obtain⟨_,_,xs,_,o,es,ep,h1,h2,_⟩:=(show bz X.prog X.w H s.heap a (.dT ai) from I.ak a _ ea)
  exact PySem.W.kia_one PySem.W.kitx_dict I.dq ⟨o,h1,h2.1⟩ e (fun z=>nomatch z) h
 | @ins a C dx fs ea cl ha hn zD hm=>
  cases (show u=Value.ref a from rx)
  obtain⟨mA,O,_⟩:=K6 I.ak ea
  obtain⟨od,J,_⟩:=O.look
  exact PySem.W.kia_one (PySem.W.kitx_own (cl.get _) cl.hd ha hn zD hm) I.dq J e (fun z=>nomatch z) h
end
structure cG (k:Nat) (A:Around):Prop where
 hd:A.handled=none
 dp:A.depth+3*k+5<recursionLimit
 un:A.units+16*k+200<cLine
 gd:A.guards=some []
theorem cG.mono {j k:Nat}{A:Around}(r:cG k A) (h:j≤k):cG j A:=⟨r.hd,by have:=r.dp;omega,by have:=r.un;omega,r.gd⟩
theorem cG.deeper {k:Nat}{A:Around}(r:cG (k+1) A) (env:Env):cG k (A.deeper env):=
 ⟨r.hd,by have:=r.dp;show A.depth+1+3*k+5<_;omega,by have:=r.un;show A.units+3+16*k+200<_;omega,r.gd⟩
theorem cG.depth {k:Nat}{A:Around}(r:cG k A):A.depth<recursionLimit:=by have:=r.dp;omega
theorem cG.units {k:Nat}{A:Around}(r:cG k A):A.units+64<cLine:=by have:=r.un;omega
theorem cG.lh {k:Nat}{A:Around}(r:cG k A):A.units<cLine:=by have:=r.un;omega
def iT:TA:=fun _ H Q=>Q [] H
def iU (ta:TE) (tr:TA):TA:=fun σ H Q=>ta σ H fun x H1=>tr σ H1 fun xs H2=>Q (x::xs) H2
section
variable {X:Cx}{e:Expr}{es:List Expr}{te:TE}{t:TA}{pos:Pos}
theorem Zb:PA X [] iT:=fun _ _ _ _ H Q I h=>Calls.spliced_nil ⟨[],H,I,.nil,h⟩
theorem Za (ha:PE X e te) (hr:PA X es t) (hs:starEach (e::es) X.env=(false,eval e X.env)::starEach es X.env:=by rfl):PA X (e::es) (iU te t):=by
 intro pos pins s σ H Q I h
 rw[hs]
 show wpAny _ _ (spliced ((false,eval e X.env)::backTo pos (starEach es X.env))) _ _ s
 refine Calls.spliced_cons (av (ha pins s σ H _ I h) fun u s1 ⟨x,H1,I1,r1,q1⟩=> ?_)
 exact av (hr pos pins s1 σ H1 _ I1 q1) fun us s2 ⟨xs,H2,I2,r2,q2⟩=> ⟨x::xs,H2,I2,.cons r1 r2,q2⟩
def sR (t:TA):TE:=fun σ H Q=>t σ H fun xs H1=>xs.length≤sizeLine∧∀p,H1 p=none→Q (.ref p) (upd H1 p (.tup xs))
def DI (t:TA):TE:=fun σ H Q=>t σ H fun xs H1=>xs.length≤sizeLine∧∀p,H1 p=none→Q (.ref p) (upd H1 p (.lst xs))
theorem ZF {x1} (h:PA X es t):PE X (.Tuple es x1 pos) (sR t):=by
 intro pins s σ H Q I hq
 refine wpAny_Tuple_spliced (av (h pos pins s σ H _ I hq) fun us s1 ⟨xs,H1,I1,r,z,q⟩=> ⟨by rw[←r.length];exact z,?_⟩)
 have hf:H1 s1.heap.objs.size=none:=I1.ak.fresh (Nat.le_refl _)
 refine⟨.ref s1.heap.objs.size,upd H1 s1.heap.objs.size (.tup xs),I1.laid (t':=s1.toks) (fun b u e=>Heap.get?_push_of_some _ e) (Nat.le_refl _) ?_,rfl,q _ hf⟩
 exact⟨z,us,r,⟨_,Heap.get?_push_size _ rfl,rfl,_,rfl⟩,_,Heap.get?_push_size _ rfl,rfl⟩
theorem ZT (h:PA X es t):PE X (.List es pos) (DI t):=by
 intro pins s σ H Q I hq
 refine wpAny_List_spliced (av (h pos pins s σ H _ I hq) fun us s1 ⟨xs,H1,I1,r,z,q⟩=> ⟨by rw[←r.length];exact z,?_⟩)
 have hf:H1 s1.heap.objs.size=none:=I1.ak.fresh (Nat.le_refl _)
 refine⟨.ref s1.heap.objs.size,upd H1 s1.heap.objs.size (.lst xs),I1.laid (t':=s1.toks) (fun b u e=>Heap.get?_push_of_some _ e) (Nat.le_refl _) ?_,rfl,q _ hf⟩
 exact⟨z,us,0,r,Heap.get?_push_size _ rfl⟩
end
abbrev Sp:=List V→Hp→VK→XK→Prop
abbrev jt:=List Env→Hp→Shared→XK→Value→Shared→Prop
structure r9 (P:Program) (w:World) (K:PySem.W.Frag) (mg:Str→Option Value) (base:Heap) (A:Around) (outer:List Env) (s:Shared) (H:Hp):Prop where
 frames:A.frames=some outer
 mod:Mod K mg base
 bs:∀b o,base.get? b=some o→s.heap.get? b=some o∧H b=none
 j4:base.objs.size≤s.heap.objs.size
 hZ:s.heap.FunFrames base outer
 mD:∀b∈dQ outer,H b=none
 ak:bu P w H s.heap
 bare:AllBare s.gens
def CE (outer:List Env) (P:Program) (w:World) (H:Hp) (s:Shared) (Q:VK) (u:Value) (s':Shared):Prop:=
 ∃v H',s'.os=s.os∧AllBare s'.gens∧Un (dQ outer) [] H H' s.heap s'.heap∧bu P w H' s'.heap∧RelV v u∧Q v H'
def CR (CX:jt) (outer:List Env) (P:Program) (w:World) (H:Hp) (s:Shared) (Q:VK) (E:XK) (r:Result) (s':Shared):Prop:=
 match r with
 | .ok (.ret u)=>CE outer P w H s Q u s'
 | .ok _=>False
 | .error e=>CX outer H s E e s'
structure aL (P:Program) (w:World) (K:PySem.W.Frag) (mg:Str→Option Value) (base:Heap) (CX:jt) (k:Nat) (f:Addr) (fd:FuncData) (ps:List Str) (sp:Sp):Prop where
 len:∀vs H Q E,sp vs H Q E→vs.length=ps.length
 run:∀(A:Around) (outer:List Env) (s:Shared) (H:Hp) (args:Args) (us:List Value) (vs:List V) (Q:VK) (E:XK),cG k A→r9 P w K mg base A outer s H→BindsTo s fd args (ps.zip us)→Vals vs us→sp vs H Q E→
  codeAny (model P w) A (.call (.ref f) args) (CR CX outer P w H s Q E) s
section
variable {X:Cx}{pins:List (Addr×Obj)}{σ:St}{H:Hp}{s s':Shared}
theorem Inv.IE (I:Inv X pins σ H s):r9 X.prog X.w X.K X.mg X.base X.A X.stack s H:=
 ⟨I.ok.frames,I.ok.mod,I.bs,Nat.le_trans I.ok.j4 I.sz,I.stack,I.tj,I.ak,I.bare⟩
theorem Inv.after {Q:VK}{u:Value}(I:Inv X pins σ H s) (h:CE X.stack X.prog X.w H s Q u s'):EP X pins σ Q u s':=by
 obtain⟨v,H',os,bare,un,ak,r,q⟩:=h
 obtain⟨hh,g,d,t,uT⟩:=s'
 obtain rfl:uT=s.os:=os
 exact⟨v,H',I.call (h':=hh) (g':=g) (d':=d) (t':=t) (ch:=[]) un ak bare (fun b z=>absurd z (by simp)),r,q⟩
end
def yk (sp:Sp) (jX:List V) (E:XK) (t:TA):TE:=fun σ H Q=>t σ H fun vs H1=>sp (vs++jX) H1 Q E
def Binds (K:PySem.W.Frag) (fd:FuncData) (ps:List Str) (ds:List Value):Prop:=
 ∀(s:Shared) (us:List Value),K.In s.heap→(us++ds).length=ps.length→BindsTo s fd ⟨us,[]⟩ (ps.zip (us++ds))
theorem Binds.all {K:PySem.W.Frag}{fd:FuncData}{ps:List Str}(h:∀us:List Value,us.length=ps.length→bindArgs fd ⟨us,[]⟩=pure (ps.zip us)):Binds K fd ps []:=fun s us _ hl=>by
 rw[List.append_nil]at hl ⊢
 exact .of_eq (h us hl)
def Passes (CX:jt) (X:Cx) (E:XK):Prop:=∀(pins:List (Addr×Obj)) (σ:St) (H:Hp) (s:Shared) (e:Value) (s':Shared),Inv X pins σ H s→CX X.stack H s E e s'→X.xe e s'
section
variable {X:Cx}{CX:jt}{k:Nat}{f C:Addr}{fd:FuncData}{ps:List Str}{sp:Sp}{jX:List V}{ds:List Value}{E:XK}{x m:Str}{p pos apos:Pos}{e o:Expr}{es:List Expr}{ta:TE}{t:TA}
theorem LF {pins:List (Addr×Obj)}{σ:St}{H:Hp}{s:Shared}{Q:VK}{us:List Value}{vs:List V}(F:aL X.prog X.w X.K X.mg X.base CX k f fd ps sp) (hr:cG k X.A) (hb:Binds X.K fd ps ds) (hd:Vals jX ds) (hx:Passes CX X E)
  (I:Inv X pins σ H s) (r:Vals vs us) (h:sp (vs++jX) H Q E):wpAny (model X.prog X.w) X.A (call (.ref f) us) (EP X pins σ Q) X.xe s:=by
 have r2:Vals (vs++jX) (us++ds):=r.append hd
 have hl:(us++ds).length=ps.length:=by rw[←r2.length];exact F.len _ _ _ _ h
 refine wpAny_call (codeAny_mono (F.run X.A X.stack s H ⟨us,[]⟩ (us++ds) (vs++jX) Q E hr I.IE (hb s us I.dq hl) r2 h) fun r s' hq=> ?_)
 cases r with
 |error e=>exact hx pins σ H s e s' I hq
 |ok fl=>
  cases fl with
  |ret u=>exact I.after hq
  |next=>exact False.elim hq
  |brk=>exact False.elim hq
  |cont=>exact False.elim hq
theorem MD (F:aL X.prog X.w X.K X.mg X.base CX k f fd ps sp) (hr:cG k X.A) (hg:Gl X x) (hm:X.mg x=some (.ref f)) (hk:PySem.W.keepIn X.K (.ref f)=true) (hb:Binds X.K fd ps ds) (hd:Vals jX ds) (hx:Passes CX X E)
  (ha:PA X (e::es) t) (jd:(x==("__debug__" :Str))=false:=by decide) (he:starEach (e::es) X.env=(false,eval e X.env)::starEach es X.env:=by rfl) (bC:(backTo pos (starEach es X.env)).any (·.1)=false:=by rfl):
  PE X (.Call (.Name x p) (e::es) [] pos) (yk sp jX E t):=by
 intro pins s σ H Q I h
 refine wpAny_Call_Name_kw (BE I hg hm ?_ jd)
 refine PySem.W.callWith_K (h₀:=X.base) I.ok.mod.vh hk (av (ha pos pins s σ H _ I h) fun us s1 ⟨vs,H1,I1,r,q⟩=> ⟨I1.dq,?_⟩) he bC
 exact LF F hr hb hd hx I1 r q
structure Mk (K:PySem.W.Frag) (C f:Addr):Prop where
 makes:PySem.W.makesIn K C=true
 init:PySem.W.findIn K (.ref C) "__init__" =some (some (.ref f))
 fn:PySem.W.isFn K (.ref f)=true
 kp:PySem.W.keepIn K (.ref C)=true
end
def PK (X:Cx) (nL:List Keyword) (t:TA):Prop:=
 ∀(pos:Pos) (pins:List (Addr×Obj)) (s:Shared) (σ:St) (H:Hp) (Q:List V→Hp→Prop),Inv X pins σ H s→t σ H Q→wpAny (model X.prog X.w) X.A (evalAll ((backToKw pos (keywordEach nL X.env)).map (·.2))) (AP X pins σ Q) X.xe s
section
variable {X:Cx}{CX:jt}{k:Nat}{f C:Addr}{fd:FuncData}{ps ks:List Str}{sp:Sp}{E:XK}{x m:Str}{p pos apos iY:Pos}{e o:Expr}{es:List Expr}{nL:List Keyword}{te ta:TE}{t tk:TA}{nm:Option Str}
theorem Bm:PK X [] iT:=fun _ _ _ _ H Q I h=>wpAny_evalAll_nil ⟨[],H,I,.nil,h⟩
theorem BQ (ha:PE X e te) (hr:PK X nL t):PK X (⟨nm,e,iY⟩::nL) (iU te t):=by
 intro pos pins s σ H Q I h
 show wpAny _ _ (evalAll ((do let v ←eval e X.env;standAt pos;pure v)::(backToKw pos (keywordEach nL X.env)).map (·.2))) _ _ s
 refine wpAny_evalAll_cons (wpAny_bind (av (ha pins s σ H _ I h) fun u s1 ⟨x,H1,I1,r1,q1⟩=>wpAny_bind (wpAny_standAt (wpAny_pure ?_))))
 exact av (hr pos pins s1 σ H1 _ I1 q1) fun us s2 ⟨xs,H2,I2,r2,q2⟩=> ⟨x::xs,H2,I2,.cons r1 r2,q2⟩
structure QS (K:PySem.W.Frag) (fd:FuncData) (ps ks:List Str) (g:List Value→List Value→List Value) (gV:List V→List V→List V):Prop where
 to:∀(s:Shared) (us ws:List Value),K.In s.heap→(g us ws).length=ps.length→BindsTo s fd ⟨us,ks.zip ws⟩ (ps.zip (g us ws))
 rel:∀{vs:List V}{us:List Value}{zs:List V}{ws:List Value},Vals vs us→Vals zs ws→Vals (gV vs zs) (g us ws)
variable {g:List Value→List Value→List Value}{gV:List V→List V→List V}
end
structure aX (N P:List Str) (sc:Scope):Prop where
 kind:sc.kind=.function
 co:sc.isCoroutine=false
 gen:sc.isGenerator=false
 nd:N.Nodup
 pre:N.take P.length=P
 par:∀x∈P,sc.names.lookup x=some .local∨sc.names.lookup x=some .cell
 Fy:∀y∈sc.names,y.2≠.free
theorem U9 {kindOf:Str→Option NameKind}{x:Str} :∀{binds:List (Str×Value)}{m:Str→Option Value},(∀v,(x,v)∉binds)→bindL kindOf binds m x=m x
 | [],_,_=>rfl
 |(n,v)::r,m,h=>by
  unfold bindL
  rw[U9 fun w hw=>h w (List.mem_cons_of_mem _ hw)]
  split
  ·have:x≠n:=by rintro rfl;exact h v List.mem_cons_self
   simp[this]
  ·rfl
theorem Cw {kindOf:Str→Option NameKind}{x:Str} :∀{binds:List (Str×Value)}{m:Str→Option Value},(∀v,(x,v)∉binds)→bindC kindOf binds m x=m x
 | [],_,_=>rfl
 |(n,v)::r,m,h=>by
  unfold bindC
  rw[Cw fun w hw=>h w (List.mem_cons_of_mem _ hw)]
  split
  ·rfl
  ·have:x≠n:=by rintro rfl;exact h v List.mem_cons_self
   simp[this]
theorem Cy {kindOf:Str→Option NameKind}{x:Str}{v:Value} :∀{P:List Str}{vs:List Value}{i:Nat}{m:Str→Option Value},P.Nodup→P[i]? =some x→vs[i]? =some v→kindOf x=some .local→
  bindL kindOf (P.zip vs) m x=some v
 | [],_,_,_,_,h,_,_=>by simp at h
 |_::_,[],_,_,_,_,h,_=>by simp at h
 |p::P,w::vs,0,m,nd,h1,h2,hk=>by
  simp at h1 h2;subst h1;subst h2
  show bindL kindOf ((p,w)::P.zip vs) m p=_
  unfold bindL
  rw[U9 fun v hv=> (List.nodup_cons.mp nd).1 (List.of_mem_zip hv).1,if_pos hk]
  simp
 |p::P,w::vs,i+1,m,nd,h1,h2,hk=>by
  show bindL kindOf ((p,w)::P.zip vs) m x=_
  unfold bindL
  exact Cy (i:=i) (List.nodup_cons.mp nd).2 (by simpa using h1) (by simpa using h2) hk
theorem Cv {kindOf:Str→Option NameKind}{x:Str}{v:Value} :∀{P:List Str}{vs:List Value}{i:Nat}{m:Str→Option Value},P.Nodup→P[i]? =some x→vs[i]? =some v→kindOf x≠some .local→
  bindC kindOf (P.zip vs) m x=some v
 | [],_,_,_,_,h,_,_=>by simp at h
 |_::_,[],_,_,_,_,h,_=>by simp at h
 |p::P,w::vs,0,m,nd,h1,h2,hk=>by
  simp at h1 h2;subst h1;subst h2
  show bindC kindOf ((p,w)::P.zip vs) m p=_
  unfold bindC
  rw[Cw fun v hv=> (List.nodup_cons.mp nd).1 (List.of_mem_zip hv).1,if_neg hk]
  simp
 |p::P,w::vs,i+1,m,nd,h1,h2,hk=>by
  show bindC kindOf ((p,w)::P.zip vs) m x=_
  unfold bindC
  exact Cv (i:=i) (List.nodup_cons.mp nd).2 (by simpa using h1) (by simpa using h2) hk
def start (N:List Str) (vs:List V):St:=vs.map some++List.replicate (N.length - vs.length) none
def jZ (CX:jt) (P:Program) (w:World) (K:PySem.W.Frag) (mg:Str→Option Value) (base:Heap) (N:List Str) (qual:Str) (scope:Scope) (f:Addr) (cd:Value) (A:Around) (outer:List Env) (s:Shared) (H:Hp) (E:XK):Cx where
 prog:=P
 w:=w
 K:=K
 mg:=mg
 base:=base
 A:=A.deeper (envOfC qual scope s.heap.objs.size f cd)
 N:=N
 bS:=s
 mJ:=H
 env:=envOfC qual scope s.heap.objs.size f cd
 outer:=outer
 stack:=envOfC qual scope s.heap.objs.size f cd::outer
 ex:=[]
 calm:=true
 fn:=fun _=>true
 pn:=[]
 xe:=fun e s'=>wpAny (model P w) (A.deeper (envOfC qual scope s.heap.objs.size f cd)) (leaving (envOfC qual scope s.heap.objs.size f cd) e) (fun _ nq=>CX outer H s E e nq) (fun e' nq=>CX outer H s E e' nq) s'
theorem B7 {sc:Scope}{n:Nat}{x:Str}(h:sc.names.lookup x=some .cell):∃c,(cellsFrom n sc.names []).lookup x=some c:=by
 have q:=PySem.W.cellsFrom_some sc.names n [] (.inl h)
 exact Option.isSome_iff_exists.mp q
theorem M0 {CX:jt}{P:Program}{w:World}{K:PySem.W.Frag}{mg:Str→Option Value}{base:Heap}{N ps:List Str}{qual:Str}{scope:Scope}{f:Addr}{cd:Value}{A:Around}{outer:List Env}{s s1:Shared}{H:Hp}{E:XK}{us:List Value}{vs:List V}
  (S:aX N ps scope) (hd:A.handled=none) (e0:r9 P w K mg base A outer s H) (hl:vs.length=ps.length) (r:Vals vs us)
  (x:InCallC s s.heap.objs.size (bindL (envOfC qual scope s.heap.objs.size f cd).kindOf (ps.zip us) fun _=>none) (cellsFrom (s.heap.objs.size+1) scope.names []) (bindC (envOfC qual scope s.heap.objs.size f cd).kindOf (ps.zip us) fun _=>none) s1):
  Inv (jZ CX P w K mg base N qual scope f cd A outer s H E) [] (start N vs) H s1:=by
 have bC:ps.length≤N.length:=by have:=congrArg List.length S.pre;rw[List.length_take]at this;omega
 obtain⟨h1,tk,rfl,hk⟩:=x.done
 have kz:∀b:Addr,b∉(jZ CX P w K mg base N qual scope f cd A outer s H E).ex:=fun b z=>absurd (show b∈([]:List Addr) from z) (by simp)
 refine⟨⟨e0.mod,S.kind,rfl,rfl,Nat.le_refl _,fun y z c h1 h2=> ?_,fun y hy=> ?_,fun y c _ h=> ?_,fun _=>hd,Around.frames_deeper e0.frames,.inr ⟨rfl,rfl⟩,fun b z=>absurd z (kz b),e0.bs,e0.j4,fun b _ _=>kz b,fun b z=>absurd z (kz b),e0.hZ,e0.mD⟩,
  rfl,e0.bare,Un.kept hk,⟨_,x.toInCall.ns,fun i y v h1 h2 h3=> ?_⟩,fun y c h=> ⟨_,x.cell y c h⟩,e0.ak.fresh (Nat.le_refl _),fun y c h=> ?_,fun p hp=>absurd (show p∈([]:List (Addr×Obj)) from hp) (by simp),e0.ak.kept hk,?_⟩
 ·exact name_of_addr x.apart (PySem.mem_of_lookup h1) (PySem.mem_of_lookup h2)
 ·have hy:scope.names.lookup y=some .cell∨scope.names.lookup y=some .free:=hy
  rcases hy with hy |hy
  ·exact B7 hy
  ·exact absurd rfl (S.Fy _ (PySem.mem_of_lookup hy))
 ·exact Nat.le_of_lt (x.above y c (PySem.mem_of_lookup h))
 ·have hi:i<vs.length:=by
   unfold start at h2
   by_cases hi:i<vs.length
   ·exact hi
   ·rw[List.getElem?_append_right (by simpa using hi)]at h2
    rw[List.getElem?_replicate]at h2
    split at h2<;>cases h2
  have ha:vs[i]? =some v:=by
   unfold start at h2
   rw[List.getElem?_append_left (by simpa using hi),List.getElem?_map]at h2
   cases e:vs[i]? with
   |none=>rw[e]at h2;cases h2
   |some a=>rw[e]at h2;cases h2;rfl
  obtain⟨u,hu,rv⟩:=r.get ha
  have hp:ps[i]? =some y:=by
   rw[←S.pre,List.getElem?_take_of_lt (by omega)];exact h1
  have zg:ps.Nodup:=by rw[←S.pre];exact S.nd.sublist (List.take_sublist _ _)
  refine⟨u,rv,?_⟩
  rcases S.par y (List.mem_of_getElem? hp) with k |k
  ·exact .inl ⟨k,Cy zg hp hu k⟩
  ·obtain⟨c,e⟩:=B7 (n:=s.heap.objs.size+1) k
   refine .inr ⟨.inl k,c,e,?_⟩
   have q:=x.cell y c e
   rw[Cv zg hp hu (by show scope.names.lookup y≠_;rw[k];decide)]at q
   exact q
 ·exact e0.ak.fresh (Nat.le_of_lt (x.above y c (PySem.mem_of_lookup h)))
 ·unfold start
  show _=N.length
  rw[List.length_append,List.length_map,List.length_replicate]
  omega
theorem KQ {CX:jt}{P:Program}{w:World}{K:PySem.W.Frag}{mg:Str→Option Value}{base:Heap}{k:Nat}{f:Addr}{name qual:Str}{params:Arguments}{body:List Stmt}{scope:Scope}{dV kV doc pm ar ct oc:Value}{an od:Option Addr}
    {gK:Array (Option Value)}{N ps:List Str}{sp:Sp} (lk:K.lookup f=some ⟨oc,od,.func (PySem.W.fnOf name qual params body scope dV kV doc pm an ar ct),gK⟩) (fL:PySem.W.codeIn K ar qual=true) (S:aX N ps scope)
    (len:∀vs H Q E,sp vs H Q E→vs.length=ps.length)
    (v9:∀(A:Around) (outer:List Env) (s:Shared) (H:Hp) (vs:List V) (Q:VK) (E:XK),cG k (A.deeper (envOfC qual scope s.heap.objs.size f ar))→sp vs H Q E→
      ∃t,fR (jZ CX P w K mg base N qual scope f ar A outer s H E) body t∧t {nx:=fun _ H'=>Q .ae H',rt:=Q} (start N vs) H):
    aL P w K mg base CX (k+1) f (PySem.W.fnOf name qual params body scope dV kV doc pm an ar ct) ps sp:=by
  refine⟨len,fun A outer s H args us vs Q E hr e0 hb r jQ=> ?_⟩
  have hl:=len _ _ _ _ jQ
  have KX:K.In s.heap:=e0.mod.vh.keeps fun b o e=> (e0.bs b o e).1
  have lim:s.heap.NoLimit:=e0.mod.nolimit.keeps fun b o e=> (e0.bs b o e).1
  have Ht:∀y∈ps.zip us,scope.names.lookup y.1=some .local∨(scope.names.lookup y.1=some .cell∧((cellsFrom (s.heap.objs.size+1) scope.names []).lookup y.1).isSome=true):=fun⟨n,v⟩ hy=>by
    rcases S.par n (List.of_mem_zip hy).1 with q |q
    · exact .inl q
    · exact .inr ⟨q,PySem.W.cellsFrom_some _ _ _ (.inl q)⟩
  refine codeAny_call_function hr.depth (KX _ _ lk) rfl S.co S.gen rfl (PySem.W.codeRec_of KX fL) (hb _ _ _ _ ?_)
  refine wpAny_newFunctionEnv_cells S.kind Ht fun env he s1 x=> ?_
  subst he
  refine⟨lim.keeps x.toInCall.keep,codeAny_func ?_⟩
  obtain⟨t,ht,hq⟩:=v9 A outer s H vs Q E (hr.deeper _) jQ
  have I:Inv (jZ CX P w K mg base N qual scope f ar A outer s H E) [] (start N vs) H s1:=M0 S hr.hd e0 hl r x
  refine wpAny_mono (ht [] s1 (start N vs) H _ I hq) (fun fl s' hs=> ?_) fun e s' hs=>hs
  have fin:∀{af:St}{H':Hp}{v:V}{u:Value},Inv (jZ CX P w K mg base N qual scope f ar A outer s H E) [] af H' s'→RelV v u→Q v H'→CE outer P w H s Q u s':=
    fun {af H' v u} J rv q=> ⟨v,H',J.os,J.bare,J.base,J.ak,rv,q⟩
  cases fl with
  |ret u=>
   obtain⟨v,af,H',J,rv,q⟩:=hs
   exact fin J rv q
  |next=>
   obtain⟨af,H',J,q⟩:=hs
   exact fin (v:=V.ae) (u:=Value.none) J rfl q
  |brk=>
   obtain⟨_,_,_,q⟩:=hs
   exact False.elim q
  |cont=>
   obtain⟨_,_,_,q⟩:=hs
   exact False.elim q
section
variable {X:Cx}{x:Str}{p pos:Pos}{e:Expr}{es:List Expr}{t:TA}{id T:String}{r:List V→Hp→VK→Prop}
def yl (r:List V→Hp→VK→Prop) (t:TA):TE:=fun σ H Q=>t σ H fun vs H1=>r vs H1 Q
theorem Zq (hc:dX X (.builtin id) r) (hg:Gl X x) (hm:X.mg x=none) (hv:bootBuiltins x=some (.builtin id)) (ha:PA X (e::es) t) (hn:x≠ "__name__" :=by decide) (jd:(x==("__debug__" :Str))=false:=by decide)
  (he:starEach (e::es) X.env=(false,eval e X.env)::starEach es X.env:=by rfl) (bC:(backTo pos (starEach es X.env)).any (·.1)=false:=by rfl):PE X (.Call (.Name x p) (e::es) [] pos) (yl r t):=by
 intro pins s σ H Q I h
 refine wpAny_Call_Name_kw (YS I hg hm hv ?_ hn jd)
 exact PyProof.Rows.callWith_builtin1 (av (ha pos pins s σ H _ I h) fun us s1 ⟨vs,H1,I1,r1,q1⟩=>hc pins s1 σ H1 vs us Q I1 r1 q1) he bC
theorem Z3 (hc:dX X (.type T) r) (hg:Gl X x) (hm:X.mg x=none) (hv:bootBuiltins x=some (.type T)) (ha:PA X (e::es) t) (hn:x≠ "__name__" :=by decide) (jd:(x==("__debug__" :Str))=false:=by decide)
  (he:starEach (e::es) X.env=(false,eval e X.env)::starEach es X.env:=by rfl) (bC:(backTo pos (starEach es X.env)).any (·.1)=false:=by rfl):PE X (.Call (.Name x p) (e::es) [] pos) (yl r t):=by
 intro pins s σ H Q I h
 refine wpAny_Call_Name_kw (YS I hg hm hv ?_ hn jd)
 exact PyProof.Rows.callWith_type1 (av (ha pos pins s σ H _ I h) fun us s1 ⟨vs,H1,I1,r1,q1⟩=>hc pins s1 σ H1 vs us Q I1 r1 q1) he bC
end
end L2
namespace HT
open PySem PyProof.Rows
def lexLt:List Int→List Int→Bool
 | [],[]=>false
 | [],_::_=>true
 |_::_,[]=>false
 |x::xs,y::ys=>if x=y then lexLt xs ys else decide (x<y)
theorem zr (x y:Int) (xs ys:List Int):lexLt (x::xs) (y::ys)=if x=y then lexLt xs ys else decide (x<y):=rfl
theorem Uu:lexLt [] []=false:=rfl
theorem WW (y:Int) (ys:List Int):lexLt [] (y::ys)=true:=rfl
theorem WX (x:Int) (xs:List Int):lexLt (x::xs) []=false:=rfl
theorem MB (A:Around) (s:Shared) (a:Int) (t:Tok) (c:Int) (u:Tok):∃e,SeqAt.EqAt A s (.int a t) (.int c u) e∧(e=true↔a=c):=
 ⟨(a==c),SeqAt.EqAt.int_int a t c u,by simp⟩
theorem Nt (A:Around) (s:Shared) (a:Int) (t:Tok) (c:Int) (u:Tok) (prog:Program) (w:World) (E:Value→Shared→Prop) (Q:Value→Shared→Prop) (h:Q (.bool (decide (a<c))) s):
  wpAny (model prog w) A (richCompare .Lt (.int a t) (.int c u)) Q E s:=
 (PyProof.Rows.lt_int h:wpAny (model prog w) A (compareOp .Lt (.int a t) (.int c u)) Q E s)
section
open PySem.SeqAt
open PySem.AutoSeq1 (wpAny_loadPart')
open PySem.MeetsSeq PySem.MeetsSeq2 PySem.MeetsSeq3
theorem Uo (l b:Addr) (items items2:Array Value) (n n2:Nat) (dd jY:Option Addr) (sl jC:Array (Option Value)) (ns ms:List Int) (hi:IntsAre items.toList ns) (hj:IntsAre items2.toList ms):
  Meets (Builtin.«tuple.__lt__» ⟨[.ref l,.ref b],[]⟩)
   (fun _ R s=>s.heap.get? l=some {cls:=.type "tuple",dict:=dd,data:=.seq items n,slots:=sl}∧s.heap.get? b=some {cls:=.type "tuple",dict:=jY,data:=.seq items2 n2,slots:=jC}∧
    R (.ok (.ret (.bool (lexLt ns ms)))) s):=
 .of_wp fun prog w A R s h=>by
  obtain⟨hp,g,d,tk,os⟩:=s;obtain⟨hl,hb,h⟩:=h
  have f2:=AutoSeq1.sub_tuple_tuple
  have z1:items.size=ns.length:=by rw[←hi.length];simp
  have z2:items2.size=ms.length:=by rw[←hj.length];simp
  wp_walk using wpAny_loadPart' hl,wpAny_loadPart' hb,wpAny_forIn_list _ (fun rest b s'=>b.1=none∧s'=⟨hp,g,d,tk,os⟩∧∃(vs ws:List Value) (bE lQ:List Int),rest=vs.zip ws∧
   IntsAre vs bE∧IntsAre ws lQ∧bE.length+items2.size=lQ.length+items.size∧R (.ok (.ret (.bool (lexLt bE lQ)))) ⟨hp,g,d,tk,os⟩) _
  case turn=>
   rintro⟨y,x⟩ rest b s' ⟨cX,rfl,vs,ws,bE,lQ,hz,vB,qT,hlen,hR⟩
   cases vB with
   |nil=>rw[List.zip_nil_left]at hz;cases hz
   |cons a t Gx=>
    cases qT with
    |nil=>rw[List.zip_nil_right]at hz;cases hz
    |cons c u Gu=>
     rw[List.zip_cons_cons]at hz
     injection hz with Gr GV
     injection Gr with hy hx
     subst hy hx
     rw[zr]at hR
     simp only[List.length_cons]at hlen
     obtain⟨e,he,Ag⟩:=MB A.in1 ⟨hp,g,d,tk,os⟩ a t c u
     refine wpAny_bind (he prog w _ _ ?_)
     cases e with
     |true=>
      rw[if_pos (Ag.mp rfl)]at hR
      wp_walk
      exact⟨rfl,rfl,_,_,_,_,GV,Gx,Gu,by omega,hR⟩
     |false=>
      rw[if_neg (fun q=>absurd (Ag.mpr q) Bool.false_ne_true)]at hR
      have GU:=Nt A.in1 ⟨hp,g,d,tk,os⟩ a t c u prog w
      wp_walk using GU
      exact⟨_,rfl,by simpa using hR⟩
  case fin=>
   rintro⟨b1,b2⟩ s' ⟨cX,rfl,vs,ws,bE,lQ,hz,vB,qT,hlen,hR⟩
   simp only at cX
   subst cX
   have hv:lexLt bE lQ=decide (items.size<items2.size):=by
    cases vB with
    |nil=>
     cases qT with
     |nil=>
      simp only[List.length_nil]at hlen
      rw[Uu]
      exact(decide_eq_false (by omega)).symm
     |cons c u hw=>
      simp only[List.length_nil,List.length_cons]at hlen
      rw[WW]
      exact(decide_eq_true (by omega)).symm
    |cons a t hv=>
     cases qT with
     |nil=>
      simp only[List.length_nil,List.length_cons]at hlen
      rw[WX]
      exact(decide_eq_false (by omega)).symm
     |cons c u hw=>
      rw[List.zip_cons_cons]at hz
      cases hz
   rw[hv]at hR
   wp_walk
   exact⟨_,rfl,by simpa[Builtin.Tuple.tupleCompareSizes] using hR⟩
  case h=>
   exact⟨rfl,rfl,items.toList,items2.toList,ns,ms,rfl,hi,hj,by omega,h⟩
end
section
variable {prog:Program}{w:World}{A:Around}{E:Value→Shared→Prop}{s:Shared}
theorem qO {l b:Addr}{items items2:Array Value}{ns ms:List Int}{Q:Value→Shared→Prop}(hl:IsTup s.heap l items) (hb:IsTup s.heap b items2) (hi:IntsAre items.toList ns) (hj:IntsAre items2.toList ms)
  (hu:A.units<cLine) (h:Q (.bool (lexLt ns ms)) s):wpAny (model prog w) A (compareOp .Lt (.ref l) (.ref b)) Q E s:=by
 obtain⟨⟨cls,dd,data,sl⟩,ho,hc,n,hd⟩:=id hl
 obtain⟨⟨AZ,jY,data2,jC⟩,iJ,fM,n2,hd2⟩:=id hb
 simp only at hc hd fM hd2
 subst hc hd fM hd2
 exact richCompare_meets_room (op:=.Lt) ⟨_,ho,rfl⟩ ⟨_,iJ,rfl⟩ PySem.F.slot_tuple_lt PySem.F.entry_tuple_lt (PySem.F.args_tuple_lt_2 _ _) (Uo l b items items2 n n2 dd jY sl jC ns ms hi hj)
  ⟨ho,iJ,show Value.bool (lexLt ns ms)≠Value.notImplemented∧Q (.bool (lexLt ns ms)) s from ⟨(fun x=>nomatch x),h⟩⟩ hu
theorem KC {t b:Addr}{vs ws:List Value}{Q:Value→Shared→Prop}(ht:IsTup s.heap t vs.toArray) (hb:IsTup s.heap b ws.toArray) (hv:vs≠[])
  (h1:ws=[]→Q (.ref t) s) (h2:ws≠[]→Q (.ref s.heap.objs.size) {s with heap:=s.heap.push {cls:=.type "tuple",data:=.seq (vs++ws).toArray} })
  (hsz:vs.length+ws.length≤sizeLine):wpAny (model prog w) A (binaryOp .Add (.ref t) (.ref b)) Q E s:=by
 obtain⟨⟨cls,dd,data,sl⟩,ho,hc,n,hd⟩:=id ht
 obtain⟨⟨AZ,jY,data2,jC⟩,iJ,fM,n2,hd2⟩:=id hb
 simp only at hc hd fM hd2
 subst hc hd fM hd2
 have e:vs.toArray++ws.toArray=(vs++ws).toArray:=by simp
 by_cases hw:ws=[]
 ·exact concat_meets ⟨_,ho,rfl⟩ ⟨_,iJ,rfl⟩ noFill_tuple_add seq_tuple_add PySem.F.slot_tuple_add PySem.F.entry_tuple_add (PySem.F.args_tuple_add_2 _ _)
   (tuple_addW1 t b vs.toArray ws.toArray n n2 dd jY sl jC (by simpa using hv) (by simp[hw])) ⟨ho,iJ,h1 hw⟩
 ·refine concat_meets ⟨_,ho,rfl⟩ ⟨_,iJ,rfl⟩ noFill_tuple_add seq_tuple_add PySem.F.slot_tuple_add PySem.F.entry_tuple_add (PySem.F.args_tuple_add_2 _ _)
   (tuple_addW2 t b vs.toArray ws.toArray n n2 dd jY sl jC (by simpa using hv) (by simpa using hw) (by rw[List.size_toArray,List.size_toArray];exact hsz)) ⟨ho,iJ,?_⟩
  rw[e]
  exact h2 hw
def aH (n d:Nat):Option Int→Nat
 |none=>d
 |some v=>if v<0 then (v+(n:Int)).toNat else min v.toNat n
theorem yG (n d:Nat):aH n d none=d:=rfl
theorem qx (n d k:Nat):aH n d (some (k:Int))=min k n:=by
 show(if (k:Int)<0 then ((k:Int)+(n:Int)).toNat else min (k:Int).toNat n)=min k n
 rw[if_neg (by omega),Int.toNat_natCast]
theorem LH (n d:Nat) (hd:d≤n) (o:Option Int):aH n d o≤n:=by
 cases o with
 |none=>exact hd
 |some v=>
  show(if v<0 then (v+(n:Int)).toNat else min v.toNat n)≤n
  by_cases hv:v<0
  ·rw[if_pos hv];omega
  ·rw[if_neg hv];exact Nat.min_le_right _ _
theorem BW (v:Int) (n d:Nat):(if v<0 then max (v+(n:Int)) 0 else min v (n:Int))=((aH n d (some v):Nat):Int):=by
 show(if v<0 then max (v+(n:Int)) 0 else min v (n:Int))=(((if v<0 then (v+(n:Int)).toNat else min v.toNat n):Nat):Int)
 by_cases hv:v<0
 ·simp only[if_pos hv];omega
 ·simp only[if_neg hv];omega
theorem OQ (lo hi:Option Int) (n:Nat):Builtin.Slice.sliceAdjust lo hi 1 (n:Int)=(((aH n 0 lo:Nat):Int),((aH n n hi:Nat):Int)):=by
 have h1:¬((1:Int)<0):=by omega
 unfold Builtin.Slice.sliceAdjust
 simp only[h1,if_false]
 refine Prod.ext ?_ ?_
 ·cases lo with
  |none=>rfl
  |some v=>exact BW v n 0
 ·cases hi with
  |none=>rfl
  |some v=>exact BW v n n
theorem OL (i j:Nat):Builtin.Slice.slicePlaces (i:Int) (j:Int) 1=j - i:=by
 unfold Builtin.Slice.slicePlaces
 have h1:(1:Int)>0:=by omega
 simp only[h1,if_true,Int.ediv_one]
 split<;>omega
theorem Wy {v:Value}{o:Option Int}{Q:Option Int→Shared→Prop}(p:IsPart v o) (h:Q o s):wpAny (model prog w) A (Builtin.Slice.slicePartIndex v) Q E s:=by
 cases p with
 |none=>exact slicePart_none h
 |int i t=>exact slicePart_int h
theorem yq {sl:Addr}{vl vu:Value}{lo hi:Option Int}{n:Nat}{Q:Int×Int×Nat→Shared→Prop}(hs:s.heap.IsSliceOf sl vl vu .none) (pl:IsPart vl lo) (pu:IsPart vu hi)
  (h:Q (((aH n 0 lo:Nat):Int),1,aH n n hi - aH n 0 lo) s):wpAny (model prog w) A (Builtin.Slice.sliceApplied (.ref sl) (pure (n:Int))) Q E s:=by
 obtain⟨os,gk,mw,jc⟩:=id hs
 unfold Builtin.Slice.sliceApplied Builtin.Slice.sliceFields
 refine wpAny_bind (wpAny_bind (wpAny_field gk jc (x:=vl) rfl (wpAny_bind (wpAny_field gk jc (x:=vu) rfl (wpAny_bind (wpAny_field gk jc (x:=.none) rfl (wpAny_pure ?_)))))))
 refine wpAny_bind (slicePart_none ?_)
 show wpAny _ _ (if ((1:Int)==0)=true then _ else _) _ _ s
 rw[if_neg (by decide)]
 refine wpAny_bind (Wy pl (wpAny_bind (Wy pu (wpAny_bind (wpAny_pure ?_)))))
 show wpAny _ _ (match Builtin.Slice.sliceAdjust lo hi 1 (n:Int) with |(lo,hi)=>pure (lo,(1:Int),Builtin.Slice.slicePlaces lo hi 1)) _ _ s
 rw[OQ lo hi n]
 show wpAny _ _ (pure (((aH n 0 lo:Nat):Int),(1:Int),Builtin.Slice.slicePlaces ((aH n 0 lo:Nat):Int) ((aH n n hi:Nat):Int) 1)) _ _ s
 rw[OL]
 exact wpAny_pure h
theorem Nm (xs:Array Value) (i k:Nat):((List.range k).filterMap fun(m:Nat)=>xs[((i:Int)+(m:Int)*1).toNat]?).toArray=((xs.toList.drop i).take k).toArray:=by
 have e:(fun(m:Nat)=>xs[((i:Int)+(m:Int)*1).toNat]?)=fun m=>xs[i+m]? :=by
  funext m
  have:((i:Int)+(m:Int)*1).toNat=i+m:=by omega
  rw[this]
 rw[e]
 have:=pick_run xs i k
 rw[List.filterMap_map]at this
 have e2:((fun x=>xs[x]?)∘fun x=>i+x)=fun m=>xs[i+m]? :=rfl
 rw[e2]at this
 rw[this]
theorem Ir {t sl:Addr}{items:Array Value}{vl vu:Value}{lo hi:Option Int}{Q:Value→Shared→Prop}(ht:IsTup s.heap t items) (hs:s.heap.IsSliceOf sl vl vu .none) (pl:IsPart vl lo) (pu:IsPart vu hi)
  (hw:¬(aH items.size 0 lo=0∧aH items.size items.size hi=items.size))
  (h:Q (.ref s.heap.objs.size) {s with heap:=s.heap.push {cls:=.type "tuple",data:=.seq ((items.toList.drop (aH items.size 0 lo)).take (aH items.size items.size hi - aH items.size 0 lo)).toArray} })
  (hsz:items.size≤sizeLine):wpAny (model prog w) A (getItem (.ref t) (.ref sl)) Q E s:=by
 have i7:sizeOk (.seq ((items.toList.drop (aH items.size 0 lo)).take (aH items.size items.size hi - aH items.size 0 lo)).toArray):=by
  show((items.toList.drop (aH items.size 0 lo)).take (aH items.size items.size hi - aH items.size 0 lo)).toArray.size≤sizeLine
  rw[List.size_toArray,List.length_take,List.length_drop,Array.length_toList]
  omega
 have hj:aH items.size items.size hi≤items.size:=LH _ _ (Nat.le_refl _) hi
 obtain⟨os,gk,mw,jc⟩:=id hs
 have cj:s.TypeIs (.ref sl) "slice" :=⟨os,gk,mw⟩
 unfold getItem
 try with_reducible refine wpAny_holding ?_
 first |refine wpAny_bind (wpAny_pure ?_) |skip
 refine wpAny_bind (wpAny_sequenceKey ht.typeIs (by decide) ?_)
 refine wpAny_bind (wpAny_callSpecial?_slot (name:=Str.ofString "__getitem__") ht.typeIs PyProof.Rows.slot_tuple_getitem
  (wpAny_call_entry PyProof.Rows.slot_tuple_getitem ht.typeIs entry_tuple_getitem ?_ (args_tuple_getitem _ _)))
 show wpAny _ _ (Builtin.Tuple.tupleItemsOf (.ref t) >>=_) _ _ s
 refine wpAny_bind (tupleItemsOf_ ht ?_)
 refine wpAny_bind (wpAny_typeOf cj ?_)
 rw[if_pos (by decide)]
 refine wpAny_bind (yq hs pl pu ?_)
 have iK:¬((((aH items.size 0 lo:Nat):Int)==0&&(1:Int)==1&&(aH items.size items.size hi - aH items.size 0 lo)==items.size)=true):=by
  intro q
  rw[Bool.and_eq_true,Bool.and_eq_true]at q
  have q1:((aH items.size 0 lo:Nat):Int)=0:=eq_of_beq q.1.1
  have q2:aH items.size items.size hi - aH items.size 0 lo=items.size:=eq_of_beq q.2
  exact hw ⟨by omega,by omega⟩
 show wpAny _ _ (if (((aH items.size 0 lo:Nat):Int)==0&&(1:Int)==1&&(aH items.size items.size hi - aH items.size 0 lo)==items.size)=true then _ else _) _ _ s
 rw[if_neg iK,Nm]
 first
  |exact wpAny_bind (m:=Builtin.Tuple.tupleExact _) (wpAny_newObj_type (wpAny_pure ⟨_,rfl,wpAny_pure h⟩) i7)
  |exact wpAny_bind (m:=Builtin.Tuple.tupleExact _) (wpAny_newObj_type (wpAny_bind (wpAny_pure (wpAny_pure ⟨_,rfl,wpAny_pure h⟩))) i7)
  |exact wpAny_bind (wpAny_bind (m:=Builtin.Tuple.tupleExact _) (wpAny_newObj_type (wpAny_pure (wpAny_pure ⟨_,rfl,wpAny_pure h⟩)) i7))
  |exact wpAny_bind (wpAny_bind (m:=Builtin.Tuple.tupleExact _) (wpAny_newObj_type (wpAny_pure ⟨_,rfl,wpAny_pure h⟩) i7))
end
end HT
namespace L2
open PySem PySem.Spec PyProof.Rows
abbrev TO:=St→Hp→(Option Int→Hp→Prop)→Prop
def PO (X:Cx) (e:Option Expr) (t:TO):Prop:=
 ∀(pins:List (Addr×Obj)) (s:Shared) (σ:St) (H:Hp) (Q:Option Int→Hp→Prop),Inv X pins σ H s→t σ H Q→
  wpAny (model X.prog X.w) X.A (evalPart e X.env) (fun u s'=> ∃o H',Inv X pins σ H' s'∧IsPart u o∧Q o H') X.xe s
def DF:TO:=fun _ H Q=>Q none H
def Dx (t:TE):TO:=fun σ H Q=>t σ H fun x H1=> ∃i,x=.int i∧Q (some i) H1
theorem ZV {ns:List Int} :∀{us:List Value},Vals (ns.map V.int) us→IntsAre us ns:=by
 induction ns with
 |nil=>intro us r;rw[List.map_nil]at r;cases r;exact .nil
 |cons n ns ih=>
  intro us r
  rw[List.map_cons]at r
  cases r with
  |cons r1 r2=>
   obtain⟨t,e⟩:=r1
   subst e
   exact .cons n t (ih r2)
section
variable {X:Cx}{e:Expr}{te:TE}{lo hi:Option Expr}{tl th:TO}{pos p2:Pos}
theorem Yw:PO X none DF:=by
 intro pins s σ H Q I h
 rw[evalPart_none]
 exact wpAny_pure ⟨none,H,I,.none,h⟩
theorem Yv (h:PE X e te):PO X (some e) (Dx te):=by
 intro pins s σ H Q I hw
 rw[evalPart_some]
 refine av (h pins s σ H _ I hw) fun u s1 ⟨x,H1,I1,r1,q1⟩=> ?_
 obtain⟨i,rfl,q⟩:=q1
 obtain⟨t,rfl⟩:=r1
 exact⟨some i,H1,I1,.int i t,q⟩
def rW (X:Cx) (r:V→Option Int→Option Int→Hp→VK→Prop):Prop:=
 ∀(pins:List (Addr×Obj)) (s:Shared) (σ:St) (H:Hp) (x:V) (v vl vu:Value) (lo hi:Option Int) (sl:Addr) (Q:VK),Inv X pins σ H s→RelV x v→s.heap.IsSliceOf sl vl vu .none→IsPart vl lo→IsPart vu hi→r x lo hi H Q→
  ∃T id,typeLookup (.type T) "__getitem__" =pure (some (.builtin id))∧s.TypeIs v T∧wpAny (model X.prog X.w) X.A (getItem v (.ref sl)) (EP X pins σ Q) X.xe s
def Dv (r:V→Option Int→Option Int→Hp→VK→Prop) (te:TE) (tl th:TO):TE:=fun σ H Q=>te σ H fun x H1=>tl σ H1 fun l H2=>th σ H2 fun u H3=>r x l u H3 Q
theorem Yi {r:V→Option Int→Option Int→Hp→VK→Prop}(hr:rW X r) (he:PE X e te) (hl:PO X lo tl) (hu:PO X hi th):PE X (.Subscript e (.Slice lo hi none p2) pos) (Dv r te tl th):=by
 intro pins s σ H Q I h
 refine Subscript_ (av (he pins s σ H _ I h) fun v s1 ⟨x,H1,I1,r1,q1⟩=> ?_)
 refine wpAny_Slice (av (hl pins s1 σ H1 _ I1 q1) fun vl s2 ⟨l,H2,I2,pl,q2⟩=>av (hu pins s2 σ H2 _ I2 q2) fun vu s3 ⟨u,H3,I3,pu,q3⟩=> ?_)
 rw[evalPart_none]
 refine wpAny_pure ?_
 have I4:Inv X pins σ H3 {s3 with heap:=s3.heap.push {cls:=.type "slice",data:=.fields #[vl,vu,.none]} } :=I3.kept (t':=s3.toks) fun b ob q=>Heap.get?_push_of_some _ q
 obtain⟨T,id,hT,ht,hg⟩:=hr pins {s3 with heap:=s3.heap.push {cls:=.type "slice",data:=.fields #[vl,vu,.none]} } σ H3 x v vl vu l u s3.heap.objs.size Q I4 r1 (Heap.IsSliceOf.new ..) pl pu q3
 show wpAny (model X.prog X.w) X.A (subscriptTail e (.Slice lo hi none p2) v (.ref s3.heap.objs.size)) (EP X pins σ Q) X.xe {s3 with heap:=s3.heap.push {cls:=.type "slice",data:=.fields #[vl,vu,.none]} }
 exact tail_any (ops:=[.ref s3.heap.objs.size,v]) ht hT hg (by with_unfolding_all rfl)
def bH (xs:List V) (lo hi:Option Int):List V:=(xs.drop (HT.aH xs.length 0 lo)).take (HT.aH xs.length xs.length hi - HT.aH xs.length 0 lo)
theorem Wm (xs:List V) (lo hi:Option Int):(bH xs lo hi).length≤xs.length:=by
 unfold bH
 rw[List.length_take,List.length_drop]
 omega
def EE (K:PySem.W.Frag):V→Option Int→Option Int→Hp→VK→Prop:=fun x lo hi H Q=> ∃a xs,x=.ref a∧ag K H a xs∧
 ¬(HT.aH xs.length 0 lo=0∧HT.aH xs.length xs.length hi=xs.length)∧∀p,H p=none→Q (.ref p) (upd H p (.tup (bH xs lo hi)))
theorem xb:rW X (EE X.K):=by
 intro pins s σ H x v vl vu lo hi sl Q I rx hs pl pu h
 obtain⟨a,xs,rfl,hx,hw,q⟩:=h
 cases rx
 obtain⟨aa,r,ht,hz⟩:=I.tuple hx
 have hlen:aa.toArray.size=xs.length:=by rw[List.size_toArray];exact r.length.symm
 refine⟨"tuple",_,PyProof.Rows.slot_tuple_getitem.lookup,ht.typeIs,?_⟩
 refine HT.Ir ht hs pl pu (by rw[hlen];exact hw) ?_ (by rw[hlen];exact hz)
 rw[hlen]
 refine⟨.ref s.heap.objs.size,_,I.laid (t':=s.toks) (o:=.tup (bH xs lo hi)) (fun b ob q=>Heap.get?_push_of_some _ q) (Nat.le_refl _) ?_,rfl,q _ (I.ak.fresh (Nat.le_refl _))⟩
 exact⟨Nat.le_trans (Wm xs lo hi) hz,_,(r.drop (HT.aH xs.length 0 lo)).take (HT.aH xs.length xs.length hi - HT.aH xs.length 0 lo),IsTup.new _ _,_,Heap.get?_push_size _ rfl,rfl⟩
def EL (K:PySem.W.Frag):R2:=fun x y H Q=> ∃a b ns ms,x=.ref a∧y=.ref b∧ag K H a (ns.map V.int)∧ag K H b (ms.map V.int)∧Q (.bl (HT.lexLt ns ms)) H
theorem Ly (hu:X.A.units<cLine):aR X (compareOp .Lt) (EL X.K):=by
 intro pins s σ H x y v u Q I rx ry h
 obtain⟨a,b,ns,ms,rfl,rfl,ha,hb,q⟩:=h
 cases rx
 cases ry
 obtain⟨aa,r1,p1,_⟩:=I.tuple ha
 obtain⟨i6,r2,p2,_⟩:=I.tuple hb
 have i1:IntsAre aa.toArray.toList ns:=ZV r1
 have i2:IntsAre i6.toArray.toList ms:=ZV r2
 exact HT.qO p1 p2 i1 i2 hu ⟨.bl (HT.lexLt ns ms),H,I,rfl,q⟩
def yO (K:PySem.W.Frag):R2:=fun x y H Q=> ∃a b xs ys,x=.ref a∧y=.ref b∧ag K H a xs∧ag K H b ys∧xs≠[]∧xs.length+ys.length≤sizeLine∧
 (ys=[]→Q (.ref a) H)∧(ys≠[]→∀p,H p=none→Q (.ref p) (upd H p (.tup (xs++ys))))
theorem Vals.uY {xs:List V}{us:List Value}(r:Vals xs us):us=[]↔xs=[]:=by
 cases r with
 |nil=>simp
 |cons _ _=>simp
theorem Lg:aR X (binaryOp .Add) (yO X.K):=by
 intro pins s σ H x y v u Q I rx ry h
 obtain⟨a,b,xs,ys,rfl,rfl,ha,hb,hx,hz,q1,q2⟩:=h
 cases rx
 cases ry
 obtain⟨aa,r1,p1,_⟩:=I.tuple ha
 obtain⟨i6,r2,p2,_⟩:=I.tuple hb
 refine HT.KC p1 p2 (fun z=>hx (r1.uY.mp z)) (fun z=> ⟨.ref a,H,I,rfl,q1 (r2.uY.mp z)⟩) (fun z=> ?_) (by rw[←r1.length,←r2.length];exact hz)
 refine⟨.ref s.heap.objs.size,_,I.laid (t':=s.toks) (o:=.tup (xs++ys)) (fun b ob q=>Heap.get?_push_of_some _ q) (Nat.le_refl _) ?_,rfl,q2 (fun w=>z (r2.uY.mpr w)) _ (I.ak.fresh (Nat.le_refl _))⟩
 exact⟨by rw[List.length_append];exact hz,_,r1.append r2,IsTup.new _ _,_,Heap.get?_push_size _ rfl,rfl⟩
end
def i5 (n:Nat) (i:Int):Option Nat:=if 0≤i then (if i<n then some i.toNat else none) else if -(n:Int)≤i then some (i+n).toNat else none
def da {α:Type} (xs:List α) (i:Int):Option α:=(i5 xs.length i).bind fun j=>xs[j]?
theorem xf {n:Nat}{i:Int}{j:Nat}(h:i5 n i=some j):seqIndex? i n=some j∧j<n∧ -(n:Int)≤i∧i<n:=by
 unfold i5 at h
 by_cases h0:0≤i
 ·rw[if_pos h0]at h
  by_cases h1:i<n
  ·rw[if_pos h1]at h
   have e:i.toNat=j:=Option.some.inj h
   exact⟨by rw[seqIndex_of h0 h1,e],by omega,by omega,h1⟩
  ·rw[if_neg h1]at h;cases h
 ·rw[if_neg h0]at h
  by_cases h1: -(n:Int)≤i
  ·rw[if_pos h1]at h
   have e:(i+n).toNat=j:=Option.some.inj h
   exact⟨by rw[seqIndex_neg (by omega) h1,e],by omega,h1,by omega⟩
  ·rw[if_neg h1]at h;cases h
theorem BS {α:Type}{xs:List α}{i:Int}{v:α}(h:da xs i=some v):∃j,seqIndex? i xs.length=some j∧xs[j]? =some v∧j<xs.length∧ -(xs.length:Int)≤i∧i<xs.length:=by
 unfold da at h
 cases e:i5 xs.length i with
 |none=>rw[e]at h;cases h
 |some j=>
  rw[e]at h
  obtain⟨h1,h2,h3,h4⟩:=xf e
  exact⟨j,h1,h,h2,h3,h4⟩
theorem ZL {α:Type}{xs:List α}{j:Nat}{v:α}(h:xs[j]? =some v):da xs (j:Int)=some v:=by
 have hj:j<xs.length:=(List.getElem?_eq_some_iff.mp h).1
 have e:i5 xs.length (j:Int)=some j:=by
  unfold i5
  rw[if_pos (by omega),if_pos (by omega)];simp
 unfold da;rw[e];exact h
def Pe (b:Expr):Prop:=∀o i,subscripted b false o i=operate [o,i] (getItem o i)
def jr (X:Cx) (r:R2):Prop:=
 ∀(value slice:Expr) (pins:List (Addr×Obj)) (s:Shared) (σ:St) (H:Hp) (x y:V) (v u:Value) (Q:VK),Inv X pins σ H s→RelV x v→RelV y u→r x y H Q→
  subscripted slice false v u=operate [v,u] (getItem v u)→wpAny (model X.prog X.w) X.A (subscriptTail value slice v u) (EP X pins σ Q) X.xe s
def xD (X:Cx) (id:String) (r:V→List V→Hp→VK→Prop):Prop:=
 ∀(pins:List (Addr×Obj)) (s:Shared) (σ:St) (H:Hp) (x:V) (xs:List V) (v:Value) (us:List Value) (Q:VK),Inv X pins σ H s→RelV x v→Vals xs us→r x xs H Q→
  wpAny (model X.prog X.w) X.A (call (.builtin id) (v::us)) (EP X pins σ Q) X.xe s
section
variable {X:Cx}{a b:Expr}{ta tb:TE}{pos:Pos}
theorem Zw {r:R2}(hr:jr X r) (ha:PE X a ta) (hb:PE X b tb) (hs:Pe b):PE X (.Subscript a b pos) (lr r ta tb):=by
 intro pins s σ H Q I h
 exact Subscript_ (wC ha hb I h fun v u s2 x y H2 I2 rx ry q=>hr a b pins s2 σ H2 x y v u Q I2 rx ry q (hs _ _))
def EM (K:PySem.W.Frag):R2:=fun x y H Q=> ∃p xs i v,x=.ref p∧y=.int i∧aj K H p xs∧da xs i=some v∧Q v H
def ki (K:PySem.W.Frag):R2:=fun x y H Q=> ∃p xs i v,x=.ref p∧y=.int i∧ag K H p xs∧da xs i=some v∧Q v H
theorem Z6:jr X (EM X.K):=by
 intro value slice pins s σ H x y v u Q I rx ry h hs
 obtain⟨p,xs,i,z,rfl,rfl,hq,he,q⟩:=h
 cases rx
 obtain⟨t,rfl⟩:=ry
 obtain⟨aa,r,pl,hz⟩:=I.list hq
 obtain⟨j,h1,h2,h3,h4,h5⟩:=BS he
 obtain⟨w,ew,gJ⟩:=r.get h2
 have hl:=r.length
 have hn:=nK
 have fin:EP X pins σ Q w s:=⟨z,H,I,gJ,q⟩
 by_cases h0:0≤i
 ·have hj:i.toNat=j:=by
   rw[seqIndex_of h0 h5]at h1
   exact Option.some.inj h1
  exact item_listR pl.isList h0 (by omega) (by rw[hj];simpa using ew) fin hs
 ·have hj:(i+(aa.toArray.size:Int)).toNat=j:=by
   rw[seqIndex_neg (by omega) h4]at h1
   rw[List.size_toArray,←hl]
   exact Option.some.inj h1
  exact subscriptTail_builtinR (x:=w) pl.isList.typeIs slot_list_getitem.lookup
   (wpAny_getItem_list_neg (Q:=fun r s'=>r=w∧EP X pins σ Q r s') pl.isList (by omega) (by rw[List.size_toArray]<;>omega) (by omega) (by rw[hj];simpa using ew) ⟨rfl,fin⟩) hs
theorem Zz:jr X (ki X.K):=by
 intro value slice pins s σ H x y v u Q I rx ry h hs
 obtain⟨p,xs,i,z,rfl,rfl,hq,he,q⟩:=h
 cases rx
 obtain⟨t,rfl⟩:=ry
 obtain⟨aa,r,pl,hz⟩:=I.tuple hq
 obtain⟨j,h1,h2,h3,h4,h5⟩:=BS he
 obtain⟨w,ew,gJ⟩:=r.get h2
 have hl:=r.length
 have hn:=nK
 have fin:EP X pins σ Q w s:=⟨z,H,I,gJ,q⟩
 exact subscriptTail_builtinR (x:=w) pl.typeIs slot_tuple_getitem.lookup
  (getItem_tuple (j:=j) (Q:=fun r s'=>r=w∧EP X pins σ Q r s') pl (by omega) (by omega) (by rw[List.size_toArray,←hl];exact h1) (by simpa using ew) ⟨rfl,fin⟩) hs
theorem OG (aa:List Value) (n j:Nat) (u:Value):Obj.mapSeq (·.setIfInBounds j u) {cls:=.type "list",data:=.seq aa.toArray n} = {cls:=.type "list",data:=.seq (aa.set j u).toArray n} :=by
 simp[Obj.mapSeq]
theorem Inv.lst {pins:List (Addr×Obj)}{σ:St}{H:Hp}{s:Shared}{p:Addr}{xs:List V}(I:Inv X pins σ H s) (h:H p=some (.lst xs)):
  ∃(aa:List Value) (n:Nat),Vals xs aa∧s.heap.get? p=some {cls:=.type "list",data:=.seq aa.toArray n}∧xs.length≤sizeLine:=by
 obtain⟨z,aa,n,r,e⟩:=I.ak p _ h
 exact⟨aa,n,r,e,z⟩
theorem Inv.F5 {pins:List (Addr×Obj)}{σ:St}{H:Hp}{s:Shared}{p:Addr}{xs ys:List V}{aa its':List Value}{n n':Nat}{f:Obj→Obj}(I:Inv X pins σ H s) (h:H p=some (.lst xs))
  (ho:s.heap.get? p=some {cls:=.type "list",data:=.seq aa.toArray n}) (hf:f {cls:=.type "list",data:=.seq aa.toArray n} = {cls:=.type "list",data:=.seq its'.toArray n'}) (r:Vals ys its') (hz:ys.length≤sizeLine) (t:Nat):
  Inv X pins σ (upd H p (.lst ys)) {s with heap:=s.heap.update p f,toks:=t} :=by
 have e:(s.heap.update p f).get? p=some {cls:=.type "list",data:=.seq its'.toArray n'} :=by
  rw[Heap.get?_update_self f ho (by rw[hf]<;>rfl),hf]
 refine I.write (x:=p) (e:=p) (by rw[h];trivial) (.inl rfl) (fun b u hb q=> (Heap.get?_update_other _ _ (Ne.symm hb)).trans q) ⟨_,e⟩ ?_
 exact⟨hz,its',n',r,e⟩
def EH:V→V→V→Hp→(Hp→Prop)→Prop:=fun o i v H Q=> ∃p xs k j,o=.ref p∧i=.int k∧H p=some (.lst xs)∧i5 xs.length k=some j∧Q (upd H p (.lst (xs.set j v)))
theorem CH:CY X EH:=by
 intro pins s σ H o i v ov iv u Q I ro ri rv h
 obtain⟨p,xs,k,j,rfl,rfl,hp,hj,q⟩:=h
 cases ro
 obtain⟨t,rfl⟩:=ri
 obtain⟨aa,n,r,ho,hz⟩:=I.lst hp
 obtain⟨h1,h2,h3,h4⟩:=xf hj
 have hl:=r.length
 have hn:=nK
 have I':Inv X pins σ (upd H p (.lst (xs.set j v))) {s with heap:=s.heap.update p (Obj.mapSeq (·.setIfInBounds j u))} :=
  I.F5 hp ho (OG aa n j u) (r.set rv j) (by rw[List.length_set];exact hz) s.toks
 by_cases h0:0≤k
 ·have hk:k.toNat=j:=by
   rw[seqIndex_of h0 h4]at h1
   exact Option.some.inj h1
  exact PySem.W.ki_setAt ho h0 (by omega) (by rw[List.size_toArray,←hl];exact h4) (by rw[hk];exact⟨_,I',q⟩)
 ·have hk:(k+(aa.toArray.size:Int)).toNat=j:=by
   rw[seqIndex_neg (by omega) h3]at h1
   rw[List.size_toArray,←hl]
   exact Option.some.inj h1
  exact PySem.W.ki_setBack ho (by omega) (by rw[List.size_toArray,←hl];exact h3) (by omega) (by rw[hk];exact⟨_,I',q⟩)
theorem OZ (lo hi:Option Int) (n:Nat):(sliceBounds lo hi none n).1=((HT.aH n 0 lo:Nat):Int)∧(sliceBounds lo hi none n).2.1=((HT.aH n n hi:Nat):Int)∧(sliceBounds lo hi none n).2.2=1:=by
 refine⟨?_,?_,rfl⟩
 ·cases lo with
  |none=>simp[sliceBounds,HT.aH]
  |some i=>
   simp only[sliceBounds,HT.aH,Option.getD_none,show(1:Int)>0 by decide,if_true]
   by_cases h:i<0
   ·simp only[h,if_true]<;>omega
   ·simp only[h,if_false]<;>omega
 ·cases hi with
  |none=>simp[sliceBounds,HT.aH]
  |some i=>
   simp only[sliceBounds,HT.aH,Option.getD_none,show(1:Int)>0 by decide,if_true]
   by_cases h:i<0
   ·simp only[h,if_true]<;>omega
   ·simp only[h,if_false]<;>omega
theorem Uq (aa:List Value) (lo hi:Option Int):slicePick aa.toArray lo hi none=((aa.drop (HT.aH aa.length 0 lo)).take (HT.aH aa.length aa.length hi - HT.aH aa.length 0 lo)).toArray:=by
 obtain⟨h1,h2,h3⟩:=OZ lo hi aa.toArray.size
 unfold slicePick
 rw[h1,h2,h3]
 simp only[sliceRange_one,pick_run,List.size_toArray]<;>rfl
def EF (K:PySem.W.Frag):V→Option Int→Option Int→Hp→VK→Prop:=fun x lo hi H Q=> ∃a xs,x=.ref a∧aj K H a xs∧∀p,H p=none→Q (.ref p) (upd H p (.lst (bH xs lo hi)))
theorem Ct:rW X (EF X.K):=by
 intro pins s σ H x v vl vu lo hi sl Q I rx hs pl pu h
 obtain⟨a,xs,rfl,hx,q⟩:=h
 cases rx
 obtain⟨aa,r,ht,hz⟩:=I.list hx
 have hlen:=r.length
 refine⟨"list",_,slot_list_getitem.lookup,ht.isList.typeIs,?_⟩
 refine wpAny_getItem_list_slice ht.isList hs pl pu .none (by simp) ?_ (by rw[List.size_toArray]<;>omega)
 rw[Uq,←hlen]
 refine⟨.ref s.heap.objs.size,_,I.laid (t':=s.toks) (o:=.lst (bH xs lo hi)) (fun b ob q=>Heap.get?_push_of_some _ q) (Nat.le_refl _) ?_,rfl,q _ (I.ak.fresh (Nat.le_refl _))⟩
 exact⟨Nat.le_trans (Wm xs lo hi) hz,_,0,(r.drop (HT.aH xs.length 0 lo)).take (HT.aH xs.length xs.length hi - HT.aH xs.length 0 lo),Heap.get?_push_size _ rfl⟩
def dR:V→Bool
 | .ae=>true
 | .bl _=>true
 | .int _=>true
 | .str _=>true
 |_=>false
def bD:V→V→Bool
 | .ae,.ae=>true
 | .bl a,.bl b=>a==b
 | .bl a,.int b=> (if a then 1 else 0)==b
 | .int a,.bl b=>a==(if b then 1 else 0)
 | .int a,.int b=>a==b
 | .str a,.str b=>a==b
 |_,_=>false
theorem Bj {A:Around}{s:Shared}{y x:V}{u v:Value}(ry:RelV y u) (rx:RelV x v) (fy:dR y=true) (fx:dR x=true):SeqAt.EqAt A s u v (bD y x):=by
 cases y with
 |ae=>
  cases ry
  cases x with
  |ae=>cases rx;exact SeqAt.EqAt.same _
  |bl b=>cases rx;exact SeqAt.EqAt.none_bool b
  |int b=>obtain⟨t,rfl⟩:=rx;exact SeqAt.EqAt.none_int b t
  |str b=>obtain⟨t,rfl⟩:=rx;exact SeqAt.EqAt.none_str b t
  |_=>exact absurd (show false=true from fx) Bool.false_ne_true
 |bl a=>
  cases ry
  cases x with
  |ae=>cases rx;exact SeqAt.EqAt.bool_none a
  |bl b=>cases rx;exact SeqAt.EqAt.bool_bool a b
  |int b=>obtain⟨t,rfl⟩:=rx;exact SeqAt.EqAt.bool_int a b t
  |str b=>obtain⟨t,rfl⟩:=rx;exact SeqAt.EqAt.bool_str a b t
  |_=>exact absurd (show false=true from fx) Bool.false_ne_true
 |int a=>
  obtain⟨t',rfl⟩:=ry
  cases x with
  |ae=>cases rx;exact SeqAt.EqAt.int_none a t'
  |bl b=>cases rx;exact SeqAt.EqAt.int_bool a t' b
  |int b=>obtain⟨t,rfl⟩:=rx;exact SeqAt.EqAt.int_int a t' b t
  |str b=>obtain⟨t,rfl⟩:=rx;exact SeqAt.EqAt.int_str a t' b t
  |_=>exact absurd (show false=true from fx) Bool.false_ne_true
 |str a=>
  obtain⟨t',rfl⟩:=ry
  cases x with
  |ae=>cases rx;exact SeqAt.EqAt.str_none a t'
  |bl b=>cases rx;exact SeqAt.EqAt.str_bool a t' b
  |int b=>obtain⟨t,rfl⟩:=rx;exact SeqAt.EqAt.str_int a t' b t
  |str b=>obtain⟨t,rfl⟩:=rx;exact SeqAt.EqAt.str_str a t' b t
  |_=>exact absurd (show false=true from fx) Bool.false_ne_true
 |_=>exact absurd (show false=true from fy) Bool.false_ne_true
def dC (x:V) (u:Value):Bool:=match u with
 | .none=>bD .ae x
 | .bool b=>bD (.bl b) x
 | .int i _=>bD (.int i) x
 | .str z _=>bD (.str z) x
 |_=>false
theorem wV {x y:V}{u:Value}(r:RelV y u) (f:dR y=true):dC x u=bD y x:=by
 cases y with
 |ae=>cases r;rfl
 |bl b=>cases r;rfl
 |int i=>obtain⟨t,rfl⟩:=r;rfl
 |str z=>obtain⟨t,rfl⟩:=r;rfl
 |_=>exact absurd (show false=true from f) Bool.false_ne_true
theorem JX {x:V} :∀{xs:List V}{us:List Value},Vals xs us→xs.all dR=true→us.any (dC x)=xs.any fun y=>bD y x
 |_,_,.nil,_=>rfl
 |y::xs,u::us,.cons r t,f=>by
  rw[List.all_cons,Bool.and_eq_true]at f
  rw[List.any_cons,List.any_cons,wV r f.1,JX t f.2]
theorem YY {A:Around}{s:Shared}{x:V}{v:Value}(rx:RelV x v) (fx:dR x=true):∀{xs:List V}{us:List Value},Vals xs us→xs.all dR=true→∀u∈us,SeqAt.EqAt A s u v (dC x u)
 |_,_,.nil,_=>fun u hu=>by cases hu
 |y::xs,u::us,.cons r t,f=>fun u' hu=>by
  rw[List.all_cons,Bool.and_eq_true]at f
  rcases List.mem_cons.mp hu with rfl |hu
  ·rw[wV r f.1];exact Bj r rx f.1 fx
  ·exact YY rx fx t f.2 u' hu
def aE (x:V) (xs:List V):Bool:=xs.any fun y=>bD y x
def nC (K:PySem.W.Frag) (neg:Bool):R2:=fun x y H Q=> ∃p xs,y=.ref p∧(aj K H p xs∨ag K H p xs)∧dR x=true∧xs.all dR=true∧Q (.bl (if neg then !aE x xs else aE x xs)) H
theorem UL:aR X (compareOp .In) (nC X.K false):=by
 intro pins s σ H x y v u Q I rx ry h
 obtain⟨p,xs,rfl,hq,fx,fs,q⟩:=h
 cases ry
 rcases hq with hq |hq
 ·obtain⟨aa,r,pl,hz⟩:=I.list hq
  refine SeqAt.in_listAt (dC x) pl.isList (fun w hw=>YY rx fx r fs w (by simpa using hw)) ⟨.bl _,H,I,rfl,?_⟩
  rw[show aa.toArray.any (dC x)=aa.any (dC x) by simp,JX r fs]
  exact q
 ·obtain⟨aa,r,pl,hz⟩:=I.tuple hq
  refine SeqAt.in_tupleAt (dC x) pl (fun w hw=>YY rx fx r fs w (by simpa using hw)) ⟨.bl _,H,I,rfl,?_⟩
  rw[show aa.toArray.any (dC x)=aa.any (dC x) by simp,JX r fs]
  exact q
theorem Z4:aR X (compareOp .NotIn) (nC X.K true):=by
 intro pins s σ H x y v u Q I rx ry h
 obtain⟨p,xs,rfl,hq,fx,fs,q⟩:=h
 cases ry
 rcases hq with hq |hq
 ·obtain⟨aa,r,pl,hz⟩:=I.list hq
  refine SeqAt.notIn_listAt (dC x) pl.isList (fun w hw=>YY rx fx r fs w (by simpa using hw)) ⟨.bl _,H,I,rfl,?_⟩
  rw[show aa.toArray.any (dC x)=aa.any (dC x) by simp,JX r fs]
  exact q
 ·obtain⟨aa,r,pl,hz⟩:=I.tuple hq
  refine SeqAt.notIn_tupleAt (dC x) pl (fun w hw=>YY rx fx r fs w (by simpa using hw)) ⟨.bl _,H,I,rfl,?_⟩
  rw[show aa.toArray.any (dC x)=aa.any (dC x) by simp,JX r fs]
  exact q
theorem Zy:dX X (.builtin "len") (fun xs H Q=> ∃p ys,xs=[.ref p]∧(aj X.K H p ys∨ag X.K H p ys)∧Q (.int ys.length) H):=by
 intro pins s σ H xs us Q I r h
 obtain⟨p,ys,rfl,hq,q⟩:=h
 obtain⟨u,rfl,rx⟩:=vals1 r
 cases rx
 have hn:=nK
 rcases hq with hq |hq
 ·obtain⟨aa,r',pl,hz⟩:=I.list hq
  have hlen:=r'.length
  exact Calls.call_len_list pl.isList (by simp only[List.size_toArray]<;>omega) ⟨.int ys.length,H,I.tok _,⟨s.toks+1,by rw[List.size_toArray,hlen]⟩,q⟩
 ·obtain⟨aa,r',pl,hz⟩:=I.tuple hq
  have hlen:=r'.length
  exact len_tuple pl (by simp only[List.size_toArray]<;>omega) ⟨.int ys.length,H,I.tok _,⟨s.toks+1,by rw[List.size_toArray,hlen]⟩,q⟩
theorem ZX:dX X (.type "tuple") (fun xs H Q=> ∃p ys,xs=[.ref p]∧((aj X.K H p ys∧∀l,H l=none→Q (.ref l) (upd H l (.tup ys)))∨(ag X.K H p ys∧Q (.ref p) H))):=by
 intro pins s σ H xs us Q I r h
 obtain⟨p,ys,rfl,h⟩:=h
 obtain⟨u,rfl,rx⟩:=vals1 r
 cases rx
 rcases h with ⟨hq,q⟩ |⟨hq,q⟩
 ·obtain⟨aa,r',pl,hz⟩:=I.list hq
  have hlen:=r'.length
  refine call_tuple_list pl.isList (fun h' kp=> ?_) (by simp only[List.size_toArray]<;>omega)
  have I1:Inv X pins σ H {s with heap:=h'} :=I.kept (t':=s.toks) kp
  have I2:Inv X pins σ (upd H h'.objs.size (.tup ys)) {s with heap:=h'.push {cls:=.type "tuple",data:=.seq aa.toArray} } :=
   I1.laid (t':=s.toks) (fun b o e=>Heap.get?_push_of_some _ e) (Nat.le_refl _) (show bz X.prog X.w _ _ _ (.tup ys) from ⟨hz,aa,r',IsTup.new _ _,_,Heap.get?_push_size _ rfl,rfl⟩)
  exact⟨.ref h'.objs.size,_,I2,rfl,q _ (I1.ak.fresh (Nat.le_refl _))⟩
 ·obtain⟨aa,r',pl,hz⟩:=I.tuple hq
  exact call_tuple_same pl ⟨.ref p,H,I,rfl,q⟩
def yd (K:PySem.W.Frag) (T:String) (x:V) (H:Hp):Prop:=match x with
 | .str _=>T= "str"
 | .int _=>T= "int"
 | .ref p=> (T= "list" ∧∃xs,aj K H p xs)∨(T= "tuple" ∧((∃o,K.lookup p=some o∧o.cls=.type "tuple" ∧o.dict=none)∨∃xs,H p=some (.tup xs)))∨
   (T= "dict" ∧((∃ai,H p=some (.dK ai))∨∃ai,H p=some (.dT ai)))∨(T= "set" ∧∃S n,H p=some (.set S n))
 |_=>False
theorem LJ {pins:List (Addr×Obj)}{σ:St}{H:Hp}{s:Shared}{T:String}{x:V}{v:Value}(I:Inv X pins σ H s) (r:RelV x v) (ty:yd X.K T x H):
  s.TypeIs v T∧∀a,v=.ref a→∃ob,s.heap.get? a=some ob∧ob.dict=none:=by
 cases x with
 |str z=>
  obtain⟨t,rfl⟩:=r
  cases (show T= "str" from ty)
  exact⟨typeIs_str s z t,fun _ e=>nomatch e⟩
 |int i=>
  obtain⟨t,rfl⟩:=r
  cases (show T= "int" from ty)
  exact⟨typeIs_int s i t,fun _ e=>nomatch e⟩
 |ref p=>
  cases r
  rcases ty with ⟨rfl,xs,hq⟩ |⟨rfl,⟨o,hk,hc,hd⟩ |⟨xs,hx⟩⟩ |⟨rfl,hk⟩ |⟨rfl,S,n,hk⟩
  ·obtain⟨aa,_,pl,_⟩:=I.list hq
   refine⟨pl.isList.typeIs,fun a e=> ?_⟩
   cases e
   obtain⟨o,n,e,c,hd,_⟩:=pl
   exact⟨o,e,hd⟩
  ·refine⟨⟨o,I.dq p o hk,hc⟩,fun a e=> ?_⟩
   cases e
   exact⟨o,I.dq _ o hk,hd⟩
  ·obtain⟨_,_,_,⟨o,e,c,_⟩,o2,e2,hd⟩:=(show bz X.prog X.w H s.heap p (.tup xs) from I.ak p _ hx)
   refine⟨⟨o,e,c⟩,fun a e3=> ?_⟩
   cases e3
   exact⟨o2,e2,hd⟩
  ·have z:∃o,s.heap.get? p=some o∧o.ExactDict:=by
    rcases hk with ⟨ai,hk⟩ |⟨ai,hk⟩
    ·obtain⟨_,_,_,_,o,_,_,e,ex,_⟩:=I.ak p _ hk
     exact⟨o,e,ex⟩
    ·obtain⟨_,_,_,_,o,_,_,e,ex,_⟩:=I.ak p _ hk
     exact⟨o,e,ex⟩
   obtain⟨o,e,ex⟩:=z
   refine⟨⟨o,e,ex.1⟩,fun a e2=> ?_⟩
   cases e2
   exact⟨o,e,ex.2.1⟩
  ·obtain⟨o,_,_,_,e,ex,_⟩:=I.ak p _ hk
   refine⟨⟨o,e,ex.1⟩,fun a e2=> ?_⟩
   cases e2
   exact⟨o,e,ex.2.1⟩
 |_=>exact False.elim ty
def ym (K:PySem.W.Frag) (T:String) (r:V→List V→Hp→VK→Prop) (to:TE) (t:TA):TE:=fun σ H Q=>to σ H fun x H1=>yd K T x H1∧t σ H1 fun xs H2=>r x xs H2 Q
variable {o e:Expr}{es:List Expr}{to:TE}{t:TA}{name:Str}{apos dD:Pos}{T id:String}{r:V→List V→Hp→VK→Prop}
theorem WL (pa:PlainAttrs T) (slot:Slot T name id) (GG:typeOf (.builtin id)=pure (.type "method_descriptor")) (hm:xD X id r) (ho:PE X o to) (ha:PA X (e::es) t)
    (HU:attributeBase o name X.env (eval o X.env)=eval o X.env:=by rfl)
    (HA:((backTo dD (starEach (e::es) X.env)).all (fun x=> !x.1)&&(backToKw dD (keywordEach [] X.env)).all (fun x=>x.1.isSome)
      &&decide ((e::es).length+([]:List Keyword).length+(if ([]:List Keyword).isEmpty then 0 else 1)<30))=true:=by rfl)
    (Hn:(apos.endLine==dD.line)=true:=by rfl) (hs:starEach (e::es) X.env=(false,eval e X.env)::starEach es X.env:=by rfl) (G3:(backTo dD (starEach es X.env)).any (·.1)=false:=by rfl):
    PE X (.Call (.Attribute o name apos) (e::es) [] dD) (ym X.K T r to t):=by
  intro pins s σ H Q I h
  refine wpAny_Call_method_late HU HA Hn rfl (av (ho pins s σ H _ I h) fun v s1 ⟨x,H1,I1,r1,ty,q1⟩=> ?_)
  obtain⟨h1,h2⟩:=LJ I1 r1 ty
  refine⟨T,id,pa,slot,GG,h1,h2,?_⟩
  have hA:=ha dD pins s1 σ H1 _ I1 q1
  rw[hs]at hA ⊢
  refine Calls.callWith_builtin (by show(false||(backTo dD (starEach es X.env)).any (·.1))=false;rw[G3]<;>rfl) (Calls.evalArgs_plain ?_)
  exact av hA fun us s2 ⟨vs,H2,I2,r2,q2⟩=>hm pins s2 σ H2 x vs v us Q I2 r1 r2 q2
end
def C0 (X:Cx) (id:String) (r:V→List V→Hp→VK→Prop):Prop:=
 ∀(pins:List (Addr×Obj)) (s:Shared) (σ:St) (H:Hp) (x:V) (xs:List V) (v:Value) (us:List Value) (Q:VK),Inv X pins σ H s→RelV x v→Vals xs us→r x xs H Q→
  wpAny (model X.prog X.w) X.A (call (.builtin id) (v::us)) (EP X pins σ Q) X.xe s
theorem Vals.one:∀{x:V}{us:List Value},Vals [x] us→∃u,us=[u]∧RelV x u
 |_,_,.cons r .nil=> ⟨_,rfl,r⟩
theorem Vals.eraseIdx:∀{xs:List V}{us:List Value}(i:Nat),Vals xs us→Vals (xs.eraseIdx i) (us.eraseIdx i)
 |_,_,_,.nil=> .nil
 |_,_,0,.cons _ t=>t
 |_,_,i+1,.cons r t=> .cons r (Vals.eraseIdx i t)
theorem Vals.rep {xs:List V}{us:List Value}(h:Vals xs us):∀k:Nat,Vals (List.replicate k xs).flatten (List.replicate k us).flatten
 |0=> .nil
 |k+1=>by
  rw[List.replicate_succ,List.replicate_succ,List.flatten_cons,List.flatten_cons]
  exact Vals.append h (Vals.rep h k)
theorem UR {α:Type} :∀(l:List α) (i:Nat),(l.eraseIdx i).length≤l.length
 | [],_=>Nat.le_refl _
 |_::_,0=>Nat.le_succ _
 |_::r,i+1=>Nat.succ_le_succ (UR r i)
theorem UW (aa:List Value):∀(k:Nat) (acc:List Value),
  List.foldl (fun x1 x2=>x1++x2) acc.toArray (List.replicate k aa.toArray)=(acc++(List.replicate k aa).flatten).toArray
 |0,acc=>by simp
 |k+1,acc=>by
  have e:acc.toArray++aa.toArray=(acc++aa).toArray:=by simp
  have e2:(acc++aa)++(List.replicate k aa).flatten=acc++(List.replicate (k+1) aa).flatten:=by
   rw[List.replicate_succ,List.flatten_cons,List.append_assoc]
  rw[←e2,←UW aa k (acc++aa),←e,List.replicate_succ,List.foldl_cons]
section
variable {X:Cx}{pins:List (Addr×Obj)}{σ:St}{H:Hp}{s:Shared}{l b:Addr}{xs ys zs:List V}
theorem Inv.zq {aa its':List Value}{n:Nat}{f:Array Value→Array Value}{t':Nat}(I:Inv X pins σ H s) (hH:H l=some (.lst xs))
  (e:s.heap.get? l=some {cls:=.type "list",data:=.seq aa.toArray n}) (hf:f aa.toArray=its'.toArray) (hv:Vals ys its') (hz:ys.length≤sizeLine):
  Inv X pins σ (upd H l (.lst ys)) {s with heap:=s.heap.update l (Obj.mapSeq f),toks:=t'} :=by
 have q:=PySem.IsL.update e f
 rw[hf]at q
 refine I.write (x:=l) (e:=l) (by rw[hH];exact trivial) (.inl rfl) (fun b' u hb hu=> (Heap.get?_update_other s.heap (Obj.mapSeq f) (Ne.symm hb)).trans hu) ⟨_,q⟩ ?_
 exact⟨hz,its',_,hv,q⟩
theorem Inv.F6 {aa:List Value}{t':Nat}(I:Inv X pins σ H s) (hv:Vals ys aa) (hz:ys.length≤sizeLine):
  Inv X pins σ (upd H s.heap.objs.size (.lst ys)) {s with heap:=s.heap.push {cls:=.type "list",data:=.seq aa.toArray},toks:=t'} :=
 I.laid (fun _ _ q=>Heap.get?_push_of_some _ q) (Nat.le_refl _) ⟨hz,aa,0,hv,Heap.get?_push_size _ rfl⟩
theorem Inv.fresh (I:Inv X pins σ H s):H s.heap.objs.size=none:=I.ak.fresh (Nat.le_refl _)
theorem Inv.qP (I:Inv X pins σ H s) (hH:H l=some (.lst xs)):xs.length≤sizeLine∧∃(aa:List Value) (n:Nat),Vals xs aa∧xs.length=aa.length∧s.heap.get? l=some {cls:=.type "list",data:=.seq aa.toArray n} :=by
 obtain⟨z,aa,n,r,e⟩:=I.ak l _ hH
 exact⟨z,aa,n,r,r.length,e⟩
end
section
variable {X:Cx}
def yP:V→List V→Hp→VK→Prop:=fun x vs H Q=> ∃l xs y,x=.ref l∧vs=[y]∧H l=some (.lst xs)∧xs.length<sizeLine∧Q .ae (upd H l (.lst (xs++[y])))
theorem Jr:C0 X "list.append" yP:=by
 intro pins s σ H x vs v us Q I rx rv h
 obtain⟨l,xs,y,rfl,rfl,hH,hz,q⟩:=h
 cases rx
 obtain⟨u,rfl,ru⟩:=rv.one
 obtain⟨z,aa,n,r,hl,e⟩:=I.qP hH
 refine call_meets F.slot_list_append ⟨_,e,rfl⟩ F.entry_list_append (F.args_list_append_2 _ _) (PySem.list_append l aa.toArray n u (by rw[List.size_toArray];omega)) ⟨e,?_⟩
 refine⟨.ae,_,I.zq (its':=aa++[u]) hH e (by simp) (r.append (.cons ru .nil)) ?_,rfl,q⟩
 rw[List.length_append,List.length_singleton]
 omega
def EJ:V→List V→Hp→VK→Prop:=fun x vs H Q=> ∃l xs i k y,x=.ref l∧vs=[.int i]∧H l=some (.lst xs)∧ -(2^63)≤i∧i<2^63∧seqIndex? i xs.length=some k∧xs[k]? =some y∧Q y (upd H l (.lst (xs.eraseIdx k)))
theorem Me:C0 X "list.pop" EJ:=by
 intro pins s σ H x vs v us Q I rx rv h
 obtain⟨l,xs,i,k,y,rfl,rfl,hH,h1,h2,hk,hy,q⟩:=h
 cases rx
 obtain⟨u,rfl,ru⟩:=rv.one
 obtain⟨t,rfl⟩:=ru
 obtain⟨z,aa,n,r,hl,e⟩:=I.qP hH
 obtain⟨w,hw,gJ⟩:=r.get hy
 refine call_meets F.slot_list_pop ⟨_,e,rfl⟩ F.entry_list_pop (F.args_list_pop_2 _ _)
  (MeetsSeq.list_pop_at l aa.toArray n i t k w (fitsIndex_both h1 h2) (by rw[List.size_toArray,←hl];exact hk) (by rw[←Array.getElem?_toList];exact hw) (by rw[List.size_toArray];omega)) ⟨e,?_⟩
 refine⟨y,_,I.zq (its':=aa.eraseIdx k) hH e ?_ (r.eraseIdx k) ?_,gJ,q⟩
 ·show aa.toArray.eraseIdxIfInBounds k=(aa.eraseIdx k).toArray
  rw[List.eraseIdxIfInBounds_toArray]
 ·have:=UR xs k
  omega
def ES:R2:=fun x y H Q=> ∃l b xs zs,x=.ref l∧y=.ref b∧H l=some (.lst xs)∧H b=some (.lst zs)∧xs.length+zs.length≤sizeLine∧∀p,H p=none→Q (.ref p) (upd H p (.lst (xs++zs)))
theorem Bs:aR X (binaryOp .Add) ES:=by
 intro pins s σ H x y v u Q I rx ry h
 obtain⟨l,b,xs,zs,rfl,rfl,hH,hB,hz,q⟩:=h
 cases rx
 cases ry
 obtain⟨z,aa,n,r,hl,e⟩:=I.qP hH
 obtain⟨z2,i6,n2,r2,dB,e2⟩:=I.qP hB
 refine PySem.P.add_list e e2 ?_ (by rw[List.size_toArray,List.size_toArray];omega)
 have ea:aa.toArray++i6.toArray=(aa++i6).toArray:=by simp
 rw[ea]
 exact⟨.ref _,_,I.F6 (t':=s.toks) (r.append r2) (by rw[List.length_append];omega),rfl,q _ I.fresh⟩
theorem BF {α:Type}(xs:List α) (k:Nat):(List.replicate k xs).flatten.length=k*xs.length:=by
 induction k with
 |zero=>simp
 |succ k ih=>rw[List.replicate_succ,List.flatten_cons,List.length_append,ih,Nat.succ_mul,Nat.add_comm]
end
end L2
namespace C9
open PySem PySem.W PySem.Calls PyProof.Rows
theorem Wn {P:Params}{h:Heap} :∀(ns:List Int) (vs:List Value),WellAll P h vs (ns.map WData.int)→IntsAre vs ns:=by
 intro ns
 induction ns with
 |nil=>
  intro vs w
  rw[List.map_nil]at w
  cases w
  exact .nil
 |cons n ns ih=>
  intro vs w
  rw[List.map_cons]at w
  cases w with
  |cons a b=>
   cases a
   exact .cons _ _ (ih _ b)
theorem NS {l:OpenLaw}{n:Nat}(hn:l.most=some n) {P:Params}{h:Heap}{args:List WData}{vals:List Value}
  (qY:l.row.toRowW.claim.pre args=true) (vw:WellAll P h vals args):
  ∃a vs ns,vals=[Value.ref a]∧args=[WData.list (ns.map WData.int)]∧h.get? a=some {cls:=.type "list",data:=.seq vs.toArray}∧IntsAre vs ns∧ns.length≤n:=by
 have GR:WShape.hasAll [] args [.list .int]=true:=(pre_splitW qY).1
 have hc:l.pre.holds [] {args:=args} =true:=(pre_splitW qY).2
 obtain⟨d,r,rfl,h1,h2⟩:=hasAllW_cons GR
 obtain rfl:=hasAllW_nil h2
 obtain⟨xs,rfl,h3⟩:=hasW_list h1
 obtain⟨ns,rfl⟩:=items_int h3
 have hlen:ns.length≤n:=by
  unfold OpenLaw.pre at hc
  have h4:(WTm.not (.lt (.lit (.int (n:Int))) (.len (.arg 0)))).holds [] {args:=[.list (ns.map .int)]} =true:=by
   have h4:=(holds_andW hc).1
   rw[hn]at h4
   exact h4
  have h5:=condW_of h4 (w_not (w_lt w_lit (w_len_list (w_arg rfl))))
  rw[List.length_map]at h5
  refine Nat.le_of_not_lt fun q=> ?_
  have q':(n:Int)< ((ns.length:Nat):Int):=by omega
  first
   |(rw[decide_eq_true q']at h5;exact absurd h5 (by decide))
   |(simp at h5;omega)
 cases vw with
 |cons w1 w2=>
  cases w2
  cases w1 with
  |list ho bP=>exact⟨_,_,ns,rfl,rfl,ho,Wn ns _ bP,hlen⟩
theorem NO (l:OpenLaw) (args:List WData):l.row.toRowW.claim.post args (.bool true) args=true:=
 postW_of (r:=l.row.toRowW) (X:=(true==true))
  (show WShape.has [] (.bool true) .bool=true by first |rfl |decide |simp[WShape.has,WShape.arms,WShape.armsAll])
  (show(WTm.eq .res (.lit (.bool true))).value [] {args:=args,res:=some (.bool true),after:=args} =some (.bool (true==true)) from w_eq_bool (w_res rfl) w_lit) rfl
theorem KI {l:OpenLaw}{n:Nat}{q:Program}{loose:List Str}{XP:(Str→Option Value)→Heap→Prop}{YP:World→Heap→Prop}{d:DefRec}
    (hn:l.most=some n) (vZ:d.params.defaults=[])
    (call:∀(w:World) (bS aQ:Shared) (mg mb:Str→Option Value) (fa:Addr) (o:Obj) (pm cd doc:Value) (a:Addr) (vs:List Value) (ns:List Int),
      Ground q loose [] XP w bS mg mb aQ.heap→YP w aQ.heap→
      aQ.heap.get? fa=some o→o.data=.func (docDef d.name d.params d.body d.scope pm cd doc)→aQ.heap.CodeRec cd d.name→mg d.name=some (.ref fa)→
      aQ.heap.get? a=some {cls:=.type "list",data:=.seq vs.toArray}→IntsAre vs ns→ns.length≤n→aQ.gens= #[]→
      codeAny (model l.prog w) callerA (.call (.ref fa) ⟨[.ref a],[]⟩) (fun r s'=>r=.ok (.ret (.bool true))∧OldK aQ.heap s'.heap∧s'.os=aQ.os∧AllBare s'.gens) aQ):
    WalkO q loose XP YP l.row.toRowW d [] (fun f vs=>PySem.call f vs):=by
  intro w bS aQ mg mb G Y fa o pm cd doc dV kV ho hd fL hD hmg hg args vals as qY QG Qz vw QE
  obtain rfl:dV=.none:=Dflts.none hD vZ
  obtain rfl:kV=.none:=Dflts.noKw hD
  obtain⟨a,vs,ns,rfl,rfl,vK,hints,hlen⟩:=NS hn qY vw
  refine enter_call (codeAny_mono (call w bS aQ mg mb fa o pm cd doc a vs ns G Y ho (fd_plain hd) fL hmg vK hints hlen hg) fun r s' hq=> ?_)
  obtain⟨rfl,h2,h3,h4⟩:=hq
  exact⟨.inl ⟨.bool true,.bool true,[],rfl,fun _=>rfl,.bool true,NO l _,fun _=> ⟨List.Pairwise.nil,fun _ hm=> (nomatch hm)⟩⟩,h2,h3,h4⟩
end C9
namespace L2
open PySem PySem.Spec PyProof.Rows
theorem UA:∀{vs:List Value}{ns:List Int},IntsAre vs ns→Vals (ns.map V.int) vs
 |_,_,.nil=> .nil
 |_,_,.cons n t h=> .cons ⟨t,rfl⟩ (UA h)
def iP (s:Stmt):Arguments:=match s with
 | .FunctionDef _ a _ _ _ _ _ _ _ _=>a
 |_=> {posonlyargs:=[],args:=[],vararg:=none,kwonlyargs:=[],kw_defaults:=[],kwarg:=none,defaults:=[]}
def ie (s:Stmt):List Stmt:=match s with
 | .FunctionDef _ _ b _ _ _ _ _ _ _=>b
 |_=> []
def aM (s:Stmt):Scope:=match s with
 | .FunctionDef _ _ _ _ _ _ sc _ _ _=>sc
 |_=> {kind:=.function,names:=[],isGenerator:=false,isCoroutine:=false}
abbrev aJ:jt:=fun _ _ _ _ _ _=>False
abbrev E0:XK:=fun _ _ _=>False
theorem E2 {X:Cx} :Passes aJ X E0:=fun _ _ _ _ _ _ _ h=>h.elim
structure aO (K:PySem.W.Frag) (x qual:Str) (st:Stmt) (f:Addr) (fd:FuncData):Prop where
 ex:∃(oc:Value) (od:Option Addr) (kV doc pm:Value) (an:Option Addr) (ar ct:Value) (gK:Array (Option Value)),
  fd=PySem.W.fnOf x qual (iP st) (ie st) (aM st) .none kV doc pm an ar ct∧K.lookup f=some ⟨oc,od,.func fd,gK⟩∧PySem.W.codeIn K ar qual=true
 kp:PySem.W.keepIn K (.ref f)=true
section
variable {P:Program}{w:World}{K:PySem.W.Frag}{mg:Str→Option Value}{base:Heap}
theorem aO.ok {x qual:Str}{st:Stmt}{f:Addr}{fd:FuncData}{N ps:List Str}{k:Nat}{sp:Sp}(F:aO K x qual st f fd) (S:aX N ps (aM st)) (len:∀vs H Q E,sp vs H Q E→vs.length=ps.length)
    (v9:∀(ar:Value) (A:Around) (outer:List Env) (s:Shared) (H:Hp) (vs:List V) (Q:VK) (E:XK),cG k (A.deeper (envOfC qual (aM st) s.heap.objs.size f ar))→sp vs H Q E→
      ∃t,fR (jZ aJ P w K mg base N qual (aM st) f ar A outer s H E).lO (ie st) t∧t {nx:=fun _ H'=>Q .ae H',rt:=Q} (start N vs) H):aL P w K mg base aJ (k+1) f fd ps sp:=by
  obtain⟨oc,od,kV,doc,pm,an,ar,ct,gK,rfl,lk,fL⟩:=F.ex
  refine KQ lk fL S len fun A outer s H vs Q E hr jQ=> ?_
  obtain⟨t,h,q⟩:=v9 ar A outer s H vs Q E hr jQ
  exact⟨t,h.lO,q⟩
theorem aO.binds {x qual:Str}{st:Stmt}{f:Addr}{fd:FuncData}{ps:List Str}(F:aO K x qual st f fd)
  (h:∀(kV doc pm:Value) (an:Option Addr) (ar ct:Value) (us:List Value),us.length=ps.length→bindArgs (PySem.W.fnOf x qual (iP st) (ie st) (aM st) .none kV doc pm an ar ct) ⟨us,[]⟩=pure (ps.zip us)):Binds K fd ps []:=by
 obtain⟨oc,od,kV,doc,pm,an,ar,ct,gK,rfl,lk,fL⟩:=F.ex
 exact .all (h kV doc pm an ar ct)
theorem LU {x qual:Str}{st:Stmt}{f:Addr}{oc:Value}{od an:Option Addr}{gK:Array (Option Value)}{kV doc pm ar ct:Value}(l:K.lookup f=some ⟨oc,od,.func (PySem.W.fnOf x qual (iP st) (ie st) (aM st) .none kV doc pm an ar ct),gK⟩)
  (c:PySem.W.codeIn K ar qual=true) (k:PySem.W.keepIn K (.ref f)=true):aO K x qual st f (PySem.W.fnOf x qual (iP st) (ie st) (aM st) .none kV doc pm an ar ct):=⟨⟨oc,od,kV,doc,pm,an,ar,ct,gK,rfl,l,c⟩,k⟩
end
theorem UU {A:Around}{k:Nat}(hr:cG k A):A.units+1<cLine:=Nat.lt_of_le_of_lt (Nat.add_le_add_left (by decide:1≤64) _) hr.units
section
variable {X:Cx}
theorem pv (i:Nat) {x:Str}{pos:Pos}(hN:X.N[i]? =some x:=by rfl) (hv:ph X.env.scope x:=by first |exact Or.inl rfl |exact Or.inr (Or.inl rfl) |exact Or.inr (Or.inr rfl)) (hd:(x==("__debug__" :Str))=false:=by decide)
  (fL:(x==("__classdict__" :Str))=false:=by decide):PE X (.Name x pos) (jz i):=LC hN hv hd fL
end
theorem aq {A B:Prop}(h:B):if false=true then A else B:=by
 rw[if_neg Bool.false_ne_true]
 exact h
theorem az {A B:Prop}(h:A):if true=true then A else B:=by
 rw[if_pos rfl]
 exact h
theorem zw {c A B:Prop} [Decidable c] (h1:c→A) (h2:¬c→B):if c then A else B:=by
 by_cases h:c
 ·rw[if_pos h]
  exact h1 h
 ·rw[if_neg h]
  exact h2 h
def ah (H H':Hp):Prop:=∀b o,H b=some o→H' b=some o
theorem ah.refl (H:Hp):ah H H:=fun _ _ h=>h
theorem ah.trans {H H1 H2:Hp}(a:ah H H1) (b:ah H1 H2):ah H H2:=fun c o h=>b c o (a c o h)
theorem ah.free {H H':Hp}(e:ah H H') {l:Addr}(h:H' l=Option.none):H l=Option.none:=by
 cases q:H l with
 |none=>rfl
 |some o=>
  rw[e l o q]at h
  cases h
section
variable {κ:Type} [DecidableEq κ]
def dZ (ai:List (κ×V)) (k:κ):Option V:=(ai.find? fun kv=>decide (kv.1=k)).map (·.2)
def putK (ai:List (κ×V)) (k:κ) (v:V):List (κ×V):=
 if (ai.any fun kv=>decide (kv.1=k))=true then ai.map (fun kv=>if kv.1=k then (kv.1,v) else kv) else ai++[(k,v)]
theorem Ww {p:κ×V}{r:List (κ×V)}{k:κ}(e:p.1=k):dZ (p::r) k=some p.2:=by simp[dZ,List.find?_cons,e]
theorem Wx {p:κ×V}{r:List (κ×V)}{k:κ}(e:¬p.1=k):dZ (p::r) k=dZ r k:=by simp[dZ,List.find?_cons,e]
theorem Ja (k:κ):∀ai:List (κ×V),(ai.any fun kv=>decide (kv.1=k))=(dZ ai k).isSome
 | []=>rfl
 |p::r=>by
  rw[List.any_cons]
  by_cases e:p.1=k
  ·simp only[Ww e,decide_eq_true e,Bool.true_or,Option.isSome_some]
  ·rw[Wx e,decide_eq_false e,Bool.false_or];exact Ja k r
theorem Wi (ai:List (κ×V)) (k:κ) (v:V):(putK ai k v).length≤ai.length+1:=by
 unfold putK
 split
 ·rw[List.length_map];omega
 ·rw[List.length_append,List.length_cons,List.length_nil];omega
theorem Nq {ai:List (κ×V)}{k:κ}(v:V) (h:dZ ai k=none):putK ai k v=ai++[(k,v)]:=by
 unfold putK
 rw[Ja,h]
 exact if_neg (by decide)
theorem kX.vn {o:Option V}{u:Option Value}(r:kX o u):o.isSome=u.isSome:=by
 cases o with
 |none=>cases u with
  |none=>rfl
  |some _=>exact(show False from r).elim
 |some _=>cases u with
  |none=>exact(show False from r).elim
  |some _=>rfl
theorem KV.val {ai:List (κ×V)}{vs:List (κ×Value)}(r:KV ai vs) (k:κ):kX (dZ ai k) (valueAt vs k):=by
 unfold KV at r
 induction r with
 |nil=>exact True.intro
 | @cons p q ps qs h t ih=>
  obtain⟨h1,h2⟩:=h
  by_cases e:p.1=k
  ·have e':q.1=k:=h1.symm.trans e
   have b:valueAt (q::qs) k=some q.2:=by simp[valueAt,List.find?_cons,e']
   rw[Ww e,b];exact h2
  ·have e':¬q.1=k:=fun z=>e (h1.trans z)
   have b:valueAt (q::qs) k=valueAt qs k:=by simp[valueAt,List.find?_cons,e']
   rw[Wx e,b];exact ih
theorem KV.any {ai:List (κ×V)}{vs:List (κ×Value)}(r:KV ai vs) (k:κ):(ai.any fun kv=>decide (kv.1=k))=vs.any fun kv=>decide (kv.1=k):=by
 unfold KV at r
 induction r with
 |nil=>rfl
 |cons h t ih=>rw[List.any_cons,List.any_cons,ih,h.1]
theorem KV.uR {ai:List (κ×V)}{vs:List (κ×Value)}(r:KV ai vs) (k:κ) {y:V}{u:Value}(ry:RelV y u):
  KV (ai.map fun kv=>if kv.1=k then (kv.1,y) else kv) (vs.map fun kv=>if kv.1=k then (kv.1,u) else kv):=by
 unfold KV at r ⊢
 induction r with
 |nil=>exact .nil
 | @cons p q ps qs h t ih=>
  rw[List.map_cons,List.map_cons]
  refine .cons ?_ ih
  obtain⟨h1,h2⟩:=h
  by_cases e:p.1=k
  ·rw[if_pos e,if_pos (h1.symm.trans e)];exact⟨h1,ry⟩
  ·rw[if_neg e,if_neg (fun z=>e (h1.trans z))];exact⟨h1,h2⟩
theorem KV.put {ai:List (κ×V)}{vs:List (κ×Value)}(r:KV ai vs) (k:κ) {y:V}{u:Value}(ry:RelV y u):KV (putK ai k y) (stored vs k u):=by
 unfold putK stored
 rw[r.any k]
 by_cases e:(vs.any fun kv=>decide (kv.1=k))=true
 ·rw[if_pos e,if_pos e];exact r.uR k ry
 ·rw[if_neg e,if_neg e];exact Paired.snoc r ⟨rfl,ry⟩
theorem KV.length {ai:List (κ×V)}{vs:List (κ×Value)}(r:KV ai vs):ai.length=vs.length:=Paired.length r
end
theorem wO {P:Program}{w:World}{k:Key}{u:Value}(r:RelV (kV k) u):(fe P w).is k u=true:=by
 cases k with
 |inl i=>obtain⟨t,e⟩:=(show ∃t,u=Value.int i t from r);subst e;exact Pa P w i t
 |inr x=>obtain⟨t,e⟩:=(show ∃t,u=Value.str x t from r);subst e;exact Pb P w x t
theorem US {P:Program}{w:World} :∀{ks:List Key}{us:List Value},Vals (ks.map kV) us→ItemsAre (fe P w) ks us
 | [],_,r=>by rw[List.map_nil]at r;cases r;exact .nil
 |k::ks,_,r=>by
  rw[List.map_cons]at r
  cases r with
  |cons h t=>exact .cons (wO h) (US t)
abbrev KT (H:Hp):List (List Key×V)→List (List Key×Addr×Value)→Prop:=Paired fun p q=>p.1=q.1∧H q.2.1=some (.tup (p.1.map kV))∧RelV p.2 q.2.2
theorem KT.val {H:Hp}{ai:List (List Key×V)}{xs:List (List Key×Addr×Value)}(r:KT H ai xs) (k:List Key):kX (dZ ai k) ((atKey xs k).map (·.2)):=by
 induction r with
 |nil=>exact True.intro
 | @cons p q ps qs h t ih=>
  obtain⟨h1,_,h2⟩:=h
  by_cases e:p.1=k
  ·have e':q.1=k:=h1.symm.trans e
   have b:atKey (q::qs) k=some q.2:=by simp[atKey,List.find?_cons,e']
   rw[Ww e,b];exact h2
  ·have e':¬q.1=k:=fun z=>e (h1.trans z)
   have b:atKey (q::qs) k=atKey qs k:=by simp[atKey,List.find?_cons,e']
   rw[Wx e,b];exact ih
theorem KT.uR {H:Hp}{ai:List (List Key×V)}{xs:List (List Key×Addr×Value)}(r:KT H ai xs) (k:List Key) {y:V}{u:Value}(ry:RelV y u):
  KT H (ai.map fun kv=>if kv.1=k then (kv.1,y) else kv) (xs.map (putAt k u)):=by
 induction r with
 |nil=>exact .nil
 | @cons p q ps qs h t ih=>
  rw[List.map_cons,List.map_cons]
  refine .cons ?_ ih
  obtain⟨h1,h2,h3⟩:=h
  unfold putAt
  by_cases e:p.1=k
  ·rw[if_pos e,if_pos (h1.symm.trans e)];exact⟨h1,h2,ry⟩
  ·rw[if_neg e,if_neg (fun z=>e (h1.trans z))];exact⟨h1,h2,h3⟩
theorem KT.put {H:Hp}{ai:List (List Key×V)}{xs:List (List Key×Addr×Value)}(r:KT H ai xs) (k:List Key) {b:Addr}{y:V}{u:Value}(hb:H b=some (.tup (k.map kV))) (ry:RelV y u):
  KT H (putK ai k y) (storedH xs k b u):=by
 have e:(ai.any fun kv=>decide (kv.1=k))=(atKey xs k).isSome:=by
  rw[Ja,(r.val k).vn,Option.isSome_map]
 unfold putK storedH
 rw[e]
 by_cases q:(atKey xs k).isSome=true
 ·rw[if_pos q,if_pos q];exact r.uR k ry
 ·rw[if_neg q,if_neg q];exact Paired.snoc r ⟨rfl,hb,ry⟩
theorem KT.keeps {H H':Hp}{ai:List (List Key×V)}{xs:List (List Key×Addr×Value)}(r:KT H ai xs) (ht:∀b ys,H b=some (.tup ys)→H' b=some (.tup ys)):KT H' ai xs:=
 Paired.ba r fun _ _ z=> ⟨z.1,ht _ _ z.2.1,z.2.2⟩
section
variable {P:Program}{w:World}{H:Hp}{h:Heap}{a:Addr}
theorem A8 {u:HO}(ok:bu P w H h) (e:Rd H a u):bz P w H h a u:=e.ok ok
theorem A2 {ai:List (Key×V)}(ok:bu P w H h) (e:Rd H a (.dK ai)):ai.length≤sizeLine∧(a==sysModules)=false∧∃vs,KV ai vs∧h.DictOf (fe P w) a vs:=
 show bz P w H h a (.dK ai) from A8 ok e
theorem KO {ai:List (Key×V)}(ok:bu P w H h) (e:H a=some (.dK ai)):ai.length≤sizeLine∧(a==sysModules)=false∧∃vs,KV ai vs∧h.DictOf (fe P w) a vs:=A2 ok (.inl e)
theorem wX {ks:List Key}(ok:bu P w H h) (e:H a=some (.tup (ks.map kV))):(tupleKind (fe P w)).is h ks a:=by
 obtain⟨_,aa,r,⟨o,h1,h2,n,h3⟩,_⟩:=(show bz P w H h a (.tup (ks.map kV)) from ok a _ e)
 exact⟨o,aa.toArray,n,h1,h2,h3,by simpa using US r⟩
theorem A3 {ai:List (List Key×V)}(ok:bu P w H h) (e:Rd H a (.dT ai)):ai.length≤sizeLine∧(a==sysModules)=false∧
  ∃xs,KT H ai xs∧h.DictOfH (tupleKind (fe P w)) a xs:=by
 obtain⟨z,y,xs,r,o,es,ep,h1,h2,h3,h4,h5⟩:=(show bz P w H h a (.dT ai) from A8 ok e)
 refine⟨z,y,xs,r,o,es,ep,h1,h2,h3,h4,fun x hx=> ?_,h5⟩
 have all:∀{l:List (List Key×V)}{m:List (List Key×Addr×Value)},KT H l m→∀x∈m,(tupleKind (fe P w)).is h x.1 x.2.1:=by
  intro l m q
  induction q with
  |nil=>intro x hx;exact nomatch hx
  | @cons p q ps qs hq t ih=>
   intro x hx
   rcases List.mem_cons.mp hx with e |hx
   ·subst e
    exact wX ok (by rw[←hq.1];exact hq.2.1)
   ·exact ih x hx
 exact all r x hx
theorem KP {ai:List (List Key×V)}(ok:bu P w H h) (e:H a=some (.dT ai)):ai.length≤sizeLine∧(a==sysModules)=false∧
  ∃xs,KT H ai xs∧h.DictOfH (tupleKind (fe P w)) a xs:=A3 ok (.inl e)
end
def pI (H:Hp) (a:Addr) (y:V) (r:Option V):Prop:=
 (∃ai k,Rd H a (.dK ai)∧y=kV k∧r=dZ ai k)∨∃ai k b,Rd H a (.dT ai)∧y=.ref b∧H b=some (.tup (k.map kV))∧r=dZ ai k
def pH (H:Hp) (a:Addr) (y v:V) (H':Hp):Prop:=
 (∃ai k,H a=some (.dK ai)∧y=kV k∧ai.length<sizeLine∧H'=upd H a (.dK (putK ai k v)))∨
 ∃ai k b,H a=some (.dT ai)∧y=.ref b∧H b=some (.tup (k.map kV))∧ai.length<sizeLine∧H'=upd H a (.dT (putK ai k v))
theorem pI.t {H:Hp}{a b:Addr}{ai:List (List Key×V)}{k:List Key}(e:H a=some (.dT ai)) (eb:H b=some (.tup (k.map kV))):pI H a (.ref b) (dZ ai k):=.inr ⟨ai,k,b,.inl e,rfl,eb,rfl⟩
theorem pH.t {H:Hp}{a b:Addr}{ai:List (List Key×V)}{k:List Key}{v:V}(e:H a=some (.dT ai)) (eb:H b=some (.tup (k.map kV))) (hl:ai.length<sizeLine):
  pH H a (.ref b) v (upd H a (.dT (putK ai k v))):=.inr ⟨ai,k,b,e,rfl,eb,hl,rfl⟩
section
variable {X:Cx}{pins:List (Addr×Obj)}{σ:St}{H:Hp}{s:Shared}{a:Addr}{y v:V}{u r:Value}{o:Option V}{A:Around}{E:Value→Shared→Prop}
theorem Inv.big (I:Inv X pins σ H s):sysModules<s.heap.objs.size:=by
 have h:mainGlobals<s.heap.objs.size:=(I.mod.glob.keeps I.bk).lt
 exact Nat.lt_trans (by decide) h
theorem IP {Q:Value→Shared→Prop}(hu:A.units+1<cLine) (I:Inv X pins σ H s) (g:pI H a y o) (ry:RelV y u) (h:∀s',Inv X pins σ H s'→Q (.bool o.isSome) s'):
  wpAny (model X.prog X.w) A (compareOp .In u (.ref a)) Q E s:=by
 rcases g with ⟨ai,k,e,ey,l⟩ |⟨ai,k,b,e,ey,eb,l⟩
 ·subst ey
  obtain⟨z,hd,vs,rel,dd⟩:=A2 I.ak e
  refine wpAny_in_of (wO ry) hd dd.mapOf ?_
  rw[←(rel.val k).vn,←l]
  exact h _ (I.tok _)
 ·subst ey
  cases (show u=Value.ref b from ry)
  obtain⟨z,hd,xs,rel,dd⟩:=A3 I.ak e
  refine wpAny_in_heap (tupleKind_room_in1 hu) (wX I.ak eb) hd dd ?_
  have q:=(rel.val k).vn
  rw[Option.isSome_map]at q
  rw[←q,←l]
  exact h _ (I.tok _)
theorem BY {h':Heap}{t':Nat}{ob:HO}(I:Inv X pins σ H s) (mu:pC (H a)) (hs:Heap.SameBut a s.heap h') (he:∃q,h'.get? a=some q) (new:bz X.prog X.w (upd H a ob) h' a ob):
  Inv X pins σ (upd H a ob) {s with heap:=h',toks:=t'} :=
 I.write (x:=a) (e:=a) mu (.inl rfl) (fun b q hb z=> (hs.2 b hb).trans z) he new
theorem LS {P:Program}{w:World}{H':Hp}{h':Heap}{ai:List (Key×V)}{vs:List (Key×Value)}(z:ai.length≤sizeLine) (hd:(a==sysModules)=false) (rel:KV ai vs) (dd:h'.DictOf (fe P w) a vs):
  bz P w H' h' a (.dK ai):=⟨z,hd,vs,rel,dd⟩
theorem MS {H':Hp}{Q:Unit→Shared→Prop}(hu:A.units+1<cLine) (I:Inv X pins σ H s) (g:pH H a y v H') (ry:RelV y u) (rv:RelV v r) (h:∀s',Inv X pins σ H' s'→Q () s'):
  wpAny (model X.prog X.w) A (setItem (.ref a) u r) Q E s:=by
 rcases g with ⟨ai,k,e,ey,l,eH⟩ |⟨ai,k,b,e,ey,eb,l,eH⟩
 ·subst ey eH
  obtain⟨z,hd,vs,rel,dd⟩:=KO I.ak e
  have hz:vs.length≤sizeLine:=by rw[←rel.length];exact z
  have hl:(putK ai k v).length≤sizeLine:=by have:=Wi ai k v;omega
  refine wpAny_setItem_pairs (hsz:=hz) (wO ry) dd fun h' rD hs=>h _ ?_
  have he:∃q,h'.get? a=some q:=let ⟨q,_,_,hq,_⟩:=rD;⟨q,hq⟩
  exact BY I (by rw[e];exact True.intro) hs he (LS hl hd (rel.put k rv) rD)
 ·subst ey eH
  cases (show u=Value.ref b from ry)
  obtain⟨z,hd,xs,rel,dd⟩:=KP I.ak e
  have hz:xs.length≤sizeLine:=by rw[←Paired.length rel];exact z
  have hl:(putK ai k v).length≤sizeLine:=by have:=Wi ai k v;omega
  refine wpAny_setItem_heap (hsz:=hz) (tupleKind_room_in1 hu) (wX I.ak eb) dd fun h' rD hs=>h _ ?_
  obtain⟨q,es,ep,hq,h2,h3,h4,_,h5⟩:=rD
  refine BY I (by rw[e];exact True.intro) hs ⟨q,hq⟩ ⟨hl,hd,_,(rel.put k eb rv).keeps fun c ys ec=> ?_,q,es,ep,hq,h2,h3,h4,h5⟩
  rw[Zg (Ys ec e (fun z=>nomatch z))]
  exact ec
end
def DO (ty td:TE):TE:=fun σ H Q=>ty σ H fun y H1=>td σ H1 fun x H2=> ∃a o,x=.ref a∧pI H2 a y o∧Q (.bl o.isSome) H2
def Ep (td ty tv:TE):TS:=fun D σ H=>tv σ H fun v H1=>td σ H1 fun x H2=>ty σ H2 fun y H3=> ∃a H4,x=.ref a∧pH H3 a y v H4∧D.nx σ H4
section
variable {X:Cx}{o i e value:Expr}{pos pos' Qf:Pos}{td ty tv:TE}
theorem LA (hu:X.A.units+1<cLine) (hi:PE X i ty) (ho:PE X o td):PC X .In i o (DO ty td):=by
 intro pins s σ H Q I h
 refine av (hi pins s σ H _ I h) fun iv s1 ⟨y,H1,I1,ry,q1⟩=>av (ho pins s1 σ H1 _ I1 q1) fun u s2 ⟨x,H2,I2,rx,a,ov,ex,g,q2⟩=> ?_
 subst ex
 obtain rfl:u=Value.ref a:=rx
 exact IP hu I2 g ry fun s3 I3=> ⟨.bl ov.isSome,H2,I3,rfl,q2⟩
theorem MJ (hu:X.A.units+1<cLine) (ho:PE X o td) (hi:PE X i ty) (hv:PE X value tv) (hs:swapsWith value (some (.Subscript o i pos')) pos.line X.env=pure false):
  PS X (.Assign [.Subscript o i pos'] value pos) (Ep td ty tv):=by
 intro pins s σ H D I h
 refine wpAny_Assign_Subscript (av (hv pins s σ H _ I h) fun r s1 ⟨v,H1,I1,rv,q1⟩=>av (ho pins s1 σ H1 _ I1 q1) fun u s2 ⟨x,H2,I2,rx,q2⟩=>av (hi pins s2 σ H2 _ I2 q2) fun iv s3 ⟨y,H3,I3,ry,a,H4,ex,g,q3⟩=> ?_) hs
 subst ex
 obtain rfl:u=Value.ref a:=rx
 exact MS hu I3 g ry rv fun s4 I4=> ⟨σ,H4,I4,q3⟩
end
theorem MA {P:Program}{w:World}{H:Hp}(h:Heap) (hb:sysModules<h.objs.size):bz P w H (h.push {cls:=.type "dict",data:=.dict #[]}) h.objs.size (.dT []):=
 ⟨Nat.zero_le _,beq_eq_false_iff_ne.mpr (Ne.symm (Nat.ne_of_lt hb)),[],.nil,_, #[],0,Heap.get?_push_size _ rfl,⟨rfl,rfl,rfl⟩,rfl,rfl,List.nodup_nil⟩
def DN:TE:=fun _ H Q=> ∀p,H p=none→Q (.ref p) (upd H p (.dT []))
section
variable {X:Cx}{pos:Pos}
theorem Nl:PE X (.Dict [] [] pos) DN:=fun pins s σ H Q I h=>
 wpAny_Dict_empty ⟨.ref s.heap.objs.size,_,I.laid (a:=s.heap.objs.size) (o:=.dT []) (t':=s.toks) (fun _ _ q=>Heap.get?_push_of_some _ q) (Nat.le_refl _) (MA s.heap I.big),rfl,h _ (I.ak.fresh (Nat.le_refl _))⟩
end
structure M1 (X:Cx) (o:Expr) (m:Str) (apos:Pos) (e:Expr) (dD:Pos):Prop where
 base:attributeBase o m X.env (eval o X.env)=eval o X.env
 fu:((backTo dD (starEach [e] X.env)).all (fun x=> !x.1)&&(backToKw dD (keywordEach [] X.env)).all (fun x=>x.1.isSome)
  &&decide (([e]:List Expr).length+([]:List Keyword).length+(if ([]:List Keyword).isEmpty then 0 else 1)<30))=true
 line:(apos.endLine==dD.line)=true
 trees:backTo dD (starEach [e] X.env)=[(false,eval e X.env)]
structure M2 (X:Cx) (o:Expr) (m:Str) (apos:Pos) (e f:Expr) (dD:Pos):Prop where
 base:attributeBase o m X.env (eval o X.env)=eval o X.env
 fu:((backTo dD (starEach [e,f] X.env)).all (fun x=> !x.1)&&(backToKw dD (keywordEach [] X.env)).all (fun x=>x.1.isSome)
  &&decide (([e,f]:List Expr).length+([]:List Keyword).length+(if ([]:List Keyword).isEmpty then 0 else 1)<30))=true
 line:(apos.endLine==dD.line)=true
 trees:backTo dD (starEach [e,f] X.env)=[(false,eval e X.env),(false,eval f X.env)]
section
variable {κ:Type} [DecidableEq κ]
theorem NA {ai:List (κ×V)}{k:κ}(h:dZ ai k=none):¬k∈ai.map (·.1):=by
 intro m
 obtain⟨p,hp,e⟩:=List.mem_map.mp m
 have q:(ai.any fun kv=>decide (kv.1=k))=true:=List.any_eq_true.mpr ⟨p,hp,decide_eq_true e⟩
 rw[Ja,h]at q
 exact absurd q (by simp)
theorem Mp {ai:List (κ×V)}{k:κ}{v:V}(h:dZ ai k=some v):k∈ai.map (·.1):=by
 have q:(ai.any fun kv=>decide (kv.1=k))=true:=by
  rw[Ja,h]
  all_goals rfl
 obtain⟨p,hp,e⟩:=List.any_eq_true.mp q
 exact List.mem_map.mpr ⟨p,hp,of_decide_eq_true e⟩
theorem xk:∀{l:List κ}{k:κ},l.Nodup→¬k∈l→(l++[k]).Nodup
 | [],k,_,_=>by simp
 |a::r,k,h,hk=>by
  obtain⟨h1,h2⟩:=List.nodup_cons.mp h
  show(a::(r++[k])).Nodup
  refine List.nodup_cons.mpr ⟨fun m=> ?_,xk h2 fun m=>hk (List.mem_cons.mpr (Or.inr m))⟩
  rcases List.mem_append.mp m with q |q
  ·exact h1 q
  ·exact hk (List.mem_cons.mpr (Or.inl (List.mem_singleton.mp q).symm))
end
def dS (scope:Scope) (env:Env):List (Str×Addr):=scope.names.foldl (fun cs y=>if y.2==.free then (y.1,(env.cells.lookup y.1).getD 0)::cs else cs) []
theorem Yn {scope:Scope}{env:Env}(h:∀y∈scope.names,y.2=.free→∃c,env.cells.lookup y.1=some c):closureFor scope env=pure (dS scope env):=by
 unfold closureFor dS
 have key:∀(l:List (Str×NameKind)) (cs:List (Str×Addr)),(∀y∈l,y.2=.free→∃c,env.cells.lookup y.1=some c)→
   (forIn l cs (fun x r=>match x with |(name,kind)=>if (kind==NameKind.free)=true then do let c ←cellOf env name;pure (ForInStep.yield ((name,c)::r)) else pure (ForInStep.yield r)):Sem (List (Str×Addr)))
    =pure (l.foldl (fun cs y=>if y.2==.free then (y.1,(env.cells.lookup y.1).getD 0)::cs else cs) cs):=by
  intro l
  induction l with
  |nil=>intro cs _;rfl
  |cons y l ih=>
   intro cs hl
   obtain⟨n,k⟩:=y
   rw[List.forIn_cons,List.foldl_cons]
   by_cases hk:k=.free
   ·subst hk
    obtain⟨c,hc⟩:=hl (n,.free) List.mem_cons_self rfl
    have br:env.cells.lookup n=some c:=hc
    have e1:cellOf env n=pure c:=by unfold cellOf;rw[br]
    simp only[beq_self_eq_true,if_true,e1,br,Option.getD_some,pure_bind]
    exact ih _ fun y hy=>hl y (List.mem_cons_of_mem _ hy)
   ·have hb:(k==NameKind.free)=false:=by simpa using hk
    simp only[hb,Bool.false_eq_true,if_false,pure_bind]
    exact ih _ fun y hy=>hl y (List.mem_cons_of_mem _ hy)
 simp only[key scope.names [] h,pure_bind]
 all_goals rfl
theorem Jl {scope:Scope}{env:Env}{x:Str}{c:Addr}(h:(dS scope env).lookup x=some c):c=(env.cells.lookup x).getD 0∧(x,NameKind.free)∈scope.names:=by
 unfold dS at h
 have key:∀(l:List (Str×NameKind)) (cs:List (Str×Addr)),(l.foldl (fun cs y=>if y.2==.free then (y.1,(env.cells.lookup y.1).getD 0)::cs else cs) cs).lookup x=some c→
   (c=(env.cells.lookup x).getD 0∧(x,NameKind.free)∈l)∨cs.lookup x=some c:=by
  intro l
  induction l with
  |nil=>intro cs h;exact .inr h
  |cons y l ih=>
   intro cs h
   obtain⟨n,k⟩:=y
   rw[List.foldl_cons]at h
   rcases ih _ h with ⟨h1,h2⟩ |h'
   ·exact .inl ⟨h1,List.mem_cons_of_mem _ h2⟩
   ·by_cases hk:k=.free
    ·subst hk
     simp only[beq_self_eq_true,if_true]at h'
     rw[List.lookup_cons]at h'
     cases hx:x==n with
     |true=>
      rw[hx]at h'
      have e:x=n:=by simpa using hx
      subst e
      have e':(env.cells.lookup x).getD 0=c:=Option.some.inj h'
      exact .inl ⟨e'.symm,List.mem_cons_self⟩
     |false=>rw[hx]at h';exact .inr h'
    ·have hb:(k==NameKind.free)=false:=by simpa using hk
     simp only[hb,Bool.false_eq_true,if_false]at h'
     exact .inr h'
 rcases key _ _ h with h |h
 ·exact h
 ·simp at h
theorem JT {scope:Scope}{env:Env}{x:Str}(h:(x,NameKind.free)∈scope.names):∃c,(dS scope env).lookup x=some c:=by
 unfold dS
 have key:∀(l:List (Str×NameKind)) (cs:List (Str×Addr)),((x,NameKind.free)∈l∨∃c,cs.lookup x=some c)→∃c,(l.foldl (fun cs y=>if y.2==.free then (y.1,(env.cells.lookup y.1).getD 0)::cs else cs) cs).lookup x=some c:=by
  intro l
  induction l with
  |nil=>
   intro cs h
   rcases h with h |h
   ·simp at h
   ·exact h
  |cons y l ih=>
   intro cs h
   obtain⟨n,k⟩:=y
   rw[List.foldl_cons]
   refine ih _ ?_
   by_cases hk:k=.free
   ·subst hk
    simp only[beq_self_eq_true,if_true]
    rw[List.lookup_cons]
    cases hx:x==n with
    |true=>exact .inr ⟨_,rfl⟩
    |false=>
     rcases h with h |h
     ·rcases List.mem_cons.mp h with e |h
      ·have e1:x=n:=congrArg Prod.fst e
       simp[e1]at hx
      ·exact .inl h
     ·exact .inr h
   ·have hb:(k==NameKind.free)=false:=by simpa using hk
    simp only[hb,Bool.false_eq_true,if_false]
    rcases h with h |h
    ·rcases List.mem_cons.mp h with e |h
     ·exact absurd (congrArg Prod.snd e).symm hk
     ·exact .inl h
    ·exact .inr h
 exact key _ _ (.inl h)
def rl (env:Env) (y:Str×NameKind):Str×NameKind:=if (y.2==NameKind.free&&env.scope.kind==.function&&env.kindOf y.1==some .cell) then (y.1,NameKind.cell) else y
theorem w9 (env:Env) (y:Str×NameKind):(rl env y).1=y.1:=by unfold rl;split<;>rfl
theorem Mi {env:Env}{y:Str×NameKind}(h:y.2=.free):(rl env y).2=.cell∨(rl env y).2=.free:=by
 unfold rl;split
 ·exact .inl rfl
 ·exact .inr h
theorem Bp {env:Env}{y:Str×NameKind}(h:y.2≠.free):rl env y=y:=by
 have hb:(y.2==NameKind.free)=false:=by simpa using h
 unfold rl;rw[hb];simp
theorem YO (scope:Scope) (env:Env):(relabel scope env).names=scope.names.map (rl env):=rfl
theorem OW {scope:Scope}{env:Env}{x:Str}(hc:∀y∈scope.names,y.2≠.cell) (h:(relabel scope env).names.lookup x=some .cell∨(relabel scope env).names.lookup x=some .free):(x,NameKind.free)∈scope.names:=by
 rw[YO]at h
 have key:∀(l:List (Str×NameKind)),(∀y∈l,y.2≠.cell)→(∃k,(k=NameKind.cell∨k=.free)∧(l.map (rl env)).lookup x=some k)→(x,NameKind.free)∈l:=by
  intro l
  induction l with
  |nil=>rintro _ ⟨k,_,h⟩;simp at h
  |cons y l ih=>
   rintro hl ⟨k',aS,h⟩
   obtain⟨n,k⟩:=y
   have e1:(rl env (n,k))=(n,(rl env (n,k)).2):=Prod.ext (w9 env _) rfl
   rw[List.map_cons,e1,List.lookup_cons]at h
   cases hx:x==n with
   |true=>
    have e:x=n:=by simpa using hx
    subst e
    by_cases hk:k=.free
    ·subst hk;exact List.mem_cons_self
    ·rw[hx]at h
     rw[Bp (env:=env) (y:=(x,k)) hk]at h
     have e:k=k':=Option.some.inj h
     subst e
     rcases aS with z |z
     ·exact absurd z (hl _ List.mem_cons_self)
     ·exact absurd z hk
   |false=>
    rw[hx]at h
    exact List.mem_cons_of_mem _ (ih (fun y hy=>hl y (List.mem_cons_of_mem _ hy)) ⟨k',aS,h⟩)
 refine key _ hc ?_
 rcases h with h |h
 ·exact⟨_,.inl rfl,h⟩
 ·exact⟨_,.inr rfl,h⟩
theorem Yr {scope:Scope}{env:Env}{x:Str}(h:scope.names.lookup x=some .free):(relabel scope env).names.lookup x=some .cell∨(relabel scope env).names.lookup x=some .free:=by
 rw[YO]
 have key:∀(l:List (Str×NameKind)),l.lookup x=some .free→(l.map (rl env)).lookup x=some .cell∨(l.map (rl env)).lookup x=some .free:=by
  intro l
  induction l with
  |nil=>intro h;simp at h
  |cons y l ih=>
   intro h
   obtain⟨n,k⟩:=y
   have e1:(rl env (n,k))=(n,(rl env (n,k)).2):=Prod.ext (w9 env _) rfl
   rw[List.map_cons,e1,List.lookup_cons]
   rw[List.lookup_cons]at h
   cases hx:x==n with
   |true=>
    rw[hx]at h
    have e:k=.free:=Option.some.inj h
    rcases Mi (env:=env) (y:=(n,k)) e with z |z
    ·exact .inl (congrArg some z)
    ·exact .inr (congrArg some z)
   |false=>rw[hx]at h;exact ih h
 exact key _ h
def aI (X:Cx) (N':List Str) (scope:Scope) (C:Addr) (s2:Shared) (H2:Hp) (fp:List Addr):Cx:=
 {X with N:=N',bS:=s2,mJ:=H2,env:=compEnvC scope (dS scope X.env) C X.env,outer:=X.stack,stack:=X.stack,ex:=fp,fn:=fun _=>false,pn:=[],xe:=fun _ _=>False}
def oX (so si:Scope) (N N':List Str) (ts:Nat) (aF:List Nat):Bool:=
 decide (si.kind=.function)&&si.names.all (fun y=>y.2 !=.cell)&&si.names.all (fun y=>y.2 !=.local||si.names.lookup y.1==some .local)
 &&si.names.all (fun y=>y.2 !=.free||so.names.lookup y.1==some .cell||so.names.lookup y.1==some .free)
 &&decide N'.Nodup&&decide (N'.length=ts+aF.length)
 &&(List.range aF.length).all (fun k=> (N'[ts+k]? ==(aF[k]?.bind fun j=>N[j]?))&&(N'[ts+k]?.isSome)&&(N'[ts+k]?.all fun x=>so.names.lookup x !=some .local&&si.names.lookup x==some .free))
def cZ (ts:Nat) (aF:List Nat) (σ:St):St:=List.replicate ts none++aF.map fun j=> (σ[j]?).join
structure sy (X:Cx) (N':List Str) (ts:Nat) (aF:List Nat) (scope:Scope):Prop where
 kind:scope.kind=.function
 fY:∀y∈scope.names,y.2≠.cell
 names:∀y∈scope.names,y.2=.local→scope.names.lookup y.1=some .local
 free:∀y∈scope.names,y.2=.free→X.env.kindOf y.1=some .cell∨X.env.kindOf y.1=some .free
 nd:N'.Nodup
 len:N'.length=ts+aF.length
 wA:∀k j,aF[k]? =some j→∃x,N'[ts+k]? =some x∧X.N[j]? =some x∧X.env.kindOf x≠some .local∧scope.names.lookup x=some .free
theorem YH {x:Str}{k:NameKind} :∀{l:List (Str×NameKind)},l.lookup x=some k→(x,k)∈l
 | [],h=>by simp at h
 |(n,j)::l,h=>by
  rw[List.lookup_cons]at h
  cases hx:x==n with
  |true=>
   rw[hx]at h
   have e:x=n:=by simpa using hx
   have e':j=k:=Option.some.inj h
   subst e e'
   exact List.mem_cons_self
  |false=>rw[hx]at h;exact List.mem_cons_of_mem _ (YH h)
theorem Ug {X:Cx}{N':List Str}{ts:Nat}{aF:List Nat}{scope:Scope}(h:oX X.env.scope scope X.N N' ts aF=true):sy X N' ts aF scope:=by
 unfold oX at h
 simp only[Bool.and_eq_true]at h
 obtain⟨⟨⟨⟨⟨⟨h1,h2⟩,h3⟩,h4⟩,h5⟩,h6⟩,h7⟩:=h
 refine⟨of_decide_eq_true h1,fun y hy z=> ?_,fun y hy z=> ?_,fun y hy z=> ?_,of_decide_eq_true h5,of_decide_eq_true h6,fun k j hk=> ?_⟩
 ·have q:=List.all_eq_true.mp h2 y hy
  rw[z]at q;exact absurd q (by decide)
 ·have q:=List.all_eq_true.mp h3 y hy
  rw[z]at q
  simpa using q
 ·have q:=List.all_eq_true.mp h4 y hy
  rw[z]at q
  simpa[Env.kindOf] using q
 ·have ay:k<aF.length:=(List.getElem?_eq_some_iff.mp hk).1
  have q:=List.all_eq_true.mp h7 k (List.mem_range.mpr ay)
  simp only[Bool.and_eq_true]at q
  obtain⟨⟨q1,q2⟩,q3⟩:=q
  obtain⟨x,hx⟩:=Option.isSome_iff_exists.mp q2
  rw[hx]at q1 q3
  rw[hk]at q1
  have e1:some x=X.N[j]? :=by simpa using q1
  have kj:(X.env.scope.names.lookup x !=some .local&&scope.names.lookup x==some .free)=true:=q3
  simp only[Bool.and_eq_true]at kj
  refine⟨x,hx,e1.symm,?_,by simpa using kj.2⟩
  have z:=kj.1
  intro e
  have e':X.env.scope.names.lookup x=some .local:=e
  rw[e']at z
  exact absurd z (by decide)
section
variable {X:Cx}{pins:List (Addr×Obj)}{σ:St}{H:Hp}{s:Shared}
theorem BC {N':List Str}{ts:Nat}{aF:List Nat}{scope:Scope}{fp:List Addr}{h':Heap}{t':Nat}{m:Str→Option Value}{C:Addr}(S:sy X N' ts aF scope) (I:Inv X pins σ H s) (hf:∀b∈fp,aP X pins H b)
  (ho:∀b∈fp,∃o,s.heap.get? b=some o) (hC:s.heap.objs.size≤C) (hn:h'.Ns C m) (k:∀b o,s.heap.get? b=some o→h'.get? b=some o):
  Inv (aI X N' scope C s H fp) [] (cZ ts aF σ) H {s with heap:=h',toks:=t'} :=by
 have sub:∀x c,(dS scope X.env).lookup x=some c→X.env.cells.lookup x=some c:=fun x c e=>by
  obtain⟨e1,e2⟩:=Jl e
  obtain⟨c',br⟩:=I.ok.has x (S.free _ e2 rfl)
  rw[br]at e1
  rw[br,e1];rfl
 have bO:∀b o,s.heap.get? b=some o→b≠C:=fun b o e=>Nat.ne_of_lt (Nat.lt_of_lt_of_le (Heap.lt_size e) hC)
 refine⟨⟨I.ok.mod,?_,I.ok.glob,I.ok.blt,hC,fun x y c e1 e2=>I.ok.inj x y c (sub x c e1) (sub y c e2),fun x hx=> ?_,fun x c z _=>absurd z Bool.false_ne_true,I.ok.hd,I.ok.frames,.inl rfl,fun b hb=> ?_,fun b o e=>I.bs b o e,Nat.le_trans I.ok.j4 I.sz,fun b o e hb=> ?_,fun b hb=> ?_,I.stack,I.tj⟩,
  rfl,I.bare,Un.kept k,⟨m,hn,fun i x v e1 e2 e3=> ?_⟩,fun x c e=> ?_,I.ak.fresh hC,fun x c e=>I.h9 x c (sub x c e),fun p hp=>absurd (show p∈([]:List (Addr×Obj)) from hp) (by simp),I.ak.kept k,?_⟩
 ·show(relabel scope X.env).kind=.function
  exact S.kind
 ·exact JT (OW S.fY hx)
 ·obtain⟨o,e⟩:=ho b hb
  refine⟨bO b o e,fun x c ec=> ?_⟩
  exact(hf b hb).2.2.2.2.1 x c (sub x c ec)
 ·obtain⟨e1,e2⟩:=I.bs b o e
  obtain⟨f0,f1,f2,f3,f4,f5⟩:=hf b hb
  rcases f3 with z |z
  ·exact I.ok.lP b o e z
  ·exact absurd (Nat.lt_of_lt_of_le (Heap.lt_size (I.ok.bs b o e).1) z) (Nat.lt_irrefl _)
 ·intro z
  obtain⟨f0,f1,f2,f3,f4,f5⟩:=hf b hb
  rcases List.mem_cons.mp (I.pT b z) with q |q
  ·exact f1 q
  ·exact f2 q
 ·-- Dn FI values
  have hlen:¬i<ts:=fun ay=>by
   unfold cZ at e2
   rw[List.getElem?_append_left (by simpa using ay),List.getElem?_replicate]at e2
   split at e2<;>cases e2
  have ic:(aF.map fun j=> (σ[j]?).join)[i - ts]? =some (some v):=by
   unfold cZ at e2
   rw[List.getElem?_append_right (by simpa using hlen),List.length_replicate]at e2
   exact e2
  rw[List.getElem?_map]at ic
  cases hc:aF[i - ts]? with
  |none=>rw[hc]at ic;cases ic
  |some j=>
   rw[hc]at ic
   have ji:(σ[j]?).join=some v:=Option.some.inj ic
   have e4:σ[j]? =some (some v):=by
    cases q:σ[j]? with
    |none=>rw[q]at ji;cases ji
    |some o=>rw[q]at ji;exact congrArg some ji
   obtain⟨x',n1,n2,n3,n4⟩:=S.wA _ _ hc
   have ei:ts+(i - ts)=i:=by omega
   rw[ei]at n1
   have ex:x=x':=by
    have fv:N'[i]? =some x:=e1
    rw[n1]at fv;exact(Option.some.inj fv).symm
   subst ex
   obtain⟨mX,Hd,hl⟩:=I.loc
   have sI:ph X.env.scope x:=by
    rcases S.free _ (YH n4) rfl with z |z
    ·exact .inr (.inl z)
    ·exact .inr (.inr z)
   obtain⟨u,ru,lk⟩:=hl j x v n2 e4 sI
   refine⟨u,ru,?_⟩
   rcases lk with ⟨z,_⟩ |⟨z,c,ec,mC⟩
   ·exact absurd z n3
   ·obtain⟨c',br⟩:=JT (env:=X.env) (YH n4)
    have:=sub x c' br
    rw[ec]at this
    cases this
    refine .inr ⟨?_,c,br,mC.keeps k⟩
    exact Yr n4
 ·obtain⟨v,z⟩:=I.cell x c (sub x c e)
  exact⟨v,z.keeps k⟩
 ·show(cZ ts aF σ).length=N'.length
  unfold cZ
  rw[List.length_append,List.length_replicate,List.length_map,S.len]
end
def AccAt (h:Heap) (D:Addr) (ys:List V):Prop:=ys.length≤sizeLine∧∃(aa:List Value) (n:Nat),Vals ys aa∧h.get? D=some {cls:=.type "list",data:=.seq aa.toArray n}
theorem AccAt.keep {h h':Heap}{D:Addr}{ys:List V}(a:AccAt h D ys) (k:∀o,h.get? D=some o→h'.get? D=some o):AccAt h' D ys:=by
 obtain⟨z,aa,n,r,e⟩:=a
 exact⟨z,aa,n,r,k _ e⟩
abbrev TC:=List V→St→Hp→(List V→St→Hp→Prop)→Prop
def fE (Y:Cx) (D:Addr) (m:Sem PySem.Fin→Sem PySem.Fin) (t:TC):Prop:=
 ∀(pins:List (Addr×Obj)) (s:Shared) (σ:St) (H:Hp) (ys:List V) (Q:List V→St→Hp→Prop) (k:Sem PySem.Fin) (R:PySem.Fin→Shared→Prop),Inv Y pins σ H s→aP Y pins H D→AccAt s.heap D ys→t ys σ H Q→
  (∀s' aU af H',Inv Y pins af H' s'→aP Y pins H' D→AccAt s'.heap D aU→Q aU af H'→wpAny (model Y.prog Y.w) Y.A k R (fun _ _=>False) s')→wpAny (model Y.prog Y.w) Y.A (m k) R (fun _ _=>False) s
def sP (ifs:List Expr) (env:Env):Sem Bool:=forIn ifs true fun c r=>if r=true then do let ok ←isTrue c env (eval c env);pure (ForInStep.yield ok) else pure (ForInStep.yield r)
def gA (Y:Cx) (ifs:List Expr) (t:TT):Prop:=
 ∀(pins:List (Addr×Obj)) (s:Shared) (σ:St) (H:Hp) (Q:Bool→Hp→Prop),Inv Y pins σ H s→t σ H Q→wpAny (model Y.prog Y.w) Y.A (sP ifs Y.env) (TP Y pins σ Q) Y.xe s
def pQ:TT:=fun _ H Q=>Q true H
section
variable {Y:Cx}{D:Addr}
theorem Z1:gA Y [] pQ:=fun pins s σ H Q I h=>wpAny_tests_nil ⟨H,I,h⟩
theorem Yu {c:Expr}{t:TT}(hc:PT Y c t):gA Y [c] t:=fun pins s σ H Q I h=>wpAny_tests_one (hc pins s σ H Q I h)
def sW (te:TE):TC:=fun ys σ H Q=>te σ H fun v H1=>ys.length<sizeLine∧Q (ys++[v]) σ H1
theorem AccAt.fY {h:Heap}{ys:List V}(a:AccAt h D ys):∀b∈[D],∃o,h.get? b=some o∧∀v,o.data≠.cell v:=fun b hb=>by
 have e:b=D:=by simpa using hb
 subst e
 obtain⟨z,aa,n,r,e⟩:=a
 exact⟨_,e,fun v z=>by
  have z':Data.seq aa.toArray n=Data.cell v:=z
  cases z'⟩
theorem AccAt.through {h:Heap}{pins:List (Addr×Obj)}{af:St}{H':Hp}{s':Shared}{ys:List V}(a:AccAt h D ys) (I:Inv Y (pins++fc [D] h) af H' s'):AccAt s'.heap D ys∧H' D=none:=by
 obtain⟨z,aa,n,r,e⟩:=a
 have q:=I.pin (D,_) (List.mem_append_right _ (List.mem_append_right _ (ZA (List.mem_singleton.mpr rfl) e)))
 exact⟨⟨z,aa,n,r,q.1⟩,q.2.1⟩
theorem cz {elt:Expr}{te:TE}(hx:Y.xe=fun _ _=>False) (he:PE Y elt te):
    fE Y D (fun k=> (do let _ ←call (.builtin "list.append") [.ref D,←eval elt Y.env]) >>=fun _=>k) (sW te):=by
  intro pins s σ H ys Q k R I f a h hk
  refine wpAny_bind (wpAny_mono (Q:=fun _ s'=> ∃aU af H',Inv Y pins af H' s'∧aP Y pins H' D∧AccAt s'.heap D aU∧Q aU af H') ?_ (fun _ s' ⟨aU,af,H',q1,q2,q3,q4⟩=>hk s' aU af H' q1 q2 q3 q4) fun _ _ z=>z)
  have I':=I.pinned (fp:=[D]) (fun b hb=>by have e:b=D:=by simpa using hb
                                            subst e;exact f) a.fY
  refine wpAny_bind (wpAny_mono (he _ s σ H _ I' h) (fun u s1 ⟨v,H1,I1,ru,hz,q⟩=> ?_) fun e s1 z=>by rw[hx]at z;exact z)
  obtain⟨a1,n1⟩:=a.through I1
  have f1:aP Y pins H1 D:=⟨n1,f.2⟩
  obtain⟨z,aa,n,r,e⟩:=a1
  have hl:=r.length
  refine wpAny_bind (call_meets F.slot_list_append ⟨_,e,rfl⟩ F.entry_list_append (F.args_list_append_2 _ _) (PySem.list_append D aa.toArray n u (by rw[List.size_toArray];omega)) ⟨e,wpAny_pure ?_⟩)
  have q2:=PySem.IsL.update e (·.push u)
  obtain⟨f0,g1,g2,g3,g4,g5⟩:=f1
  have I2:Inv Y pins σ H1 {s1 with heap:=s1.heap.update D (Obj.mapSeq (·.push u))} :=I1.dI.turned (t':=s1.toks) (it:=D) (fun b o hb eb=> (Heap.get?_update_other s1.heap _ (Ne.symm hb)).trans eb) f0 g1 g3 g4 g5
  refine⟨ys++[v],σ,H1,I2,⟨f0,g1,g2,g3,g4,g5⟩,⟨by rw[List.length_append,List.length_singleton];omega,aa++[u],(if ((aa.toArray.push u).size==aa.toArray.size)=true then n else n+1),r.append (.cons ru .nil),?_⟩,q⟩
  have e3:aa.toArray.push u=(aa++[u]).toArray:=by simp
  rw[←e3]
  exact q2
def inner (elt:Expr) (gens:List Comprehension) (scope:Scope) (pos:Pos) (d:Nat) (acc:Value) (env:Env) (k:Sem PySem.Fin):Sem PySem.Fin:=
 match gens[d+1]? with
 |some g'=>eval g'.iter env >>=fun x=>standAt g'.iter.pos >>=fun _=>foldedSetIterable g'.iter env x >>=fun x=>holding [x] (pyIter x) >>=fun gQ=>
  runOwn (.compStart (.ListComp elt gens scope pos) (d+1) gQ acc env) env >>=fun _=>k
 |none=> (do let _ ←call (.builtin "list.append") [acc,←eval elt env]) >>=fun _=>k
set_option maxHeartbeats 400000 in
theorem wx (elt tg iter:Expr) (ifs:List Expr) (gens:List Comprehension) (scope:Scope) (pos:Pos) (d:Nat) (it acc:Value) (env:Env) (hg:gens[d]? =some ⟨tg,iter,ifs,0⟩) (h2:∀g',gens[d+1]? =some g'→g'.is_async=0):
  compTurn (.ListComp elt gens scope pos) d it acc env=(standAt iter.pos >>=fun _=>pyNext it >>=fun r=>match r with
   |none=>pure (.done .next)
   |some v=>letOwnedTupleGo tg it v >>=fun _=>assign tg env v >>=fun _=>sP ifs env >>=fun ok=>
    if ok=true then inner elt gens scope pos d acc env (again (.compLoop (.ListComp elt gens scope pos) d it acc env)) else again (.compLoop (.ListComp elt gens scope pos) d it acc env)):=by
 unfold compTurn inner
 dsimp only
 rw[hg]
 generalize hn:gens[d+1]? =o
 cases o with
 |none=>rfl
 |some g'=>
  have e:=h2 g' hn
  obtain⟨t',i',f',a'⟩:=g'
  have e':a'=0:=e
  subst e'
  rfl
def eY (g:TG) (tt:TT) (ti:TC) (J:It):TC:=fun ys σ H Q=> ∃W:Nat→Nat→List V→St→Hp→Prop,(∃m,W 0 m ys σ H)∧∀i m ys σ H,W i m ys σ H→
 (J.stop i H∧Q ys σ H)∨(J.go i H∧∃N:List V→St→Hp→Prop,(∀aU af H',N aU af H'→∃m',m'<m∧W (i+1) m' aU af H')∧
  ∀x H',J.mP i H x H'→g x σ H' fun bq H2=>tt bq H2 fun b H3=>if b=true then ti ys bq H3 N else N ys bq H3)
theorem oW {elt tg iter:Expr}{ifs:List Expr}{gens:List Comprehension}{scope:Scope}{pos:Pos}{d:Nat}{it:Addr}{fp:List Addr}{tn:Nat→Heap→Prop}{J:It}{g:TG}{tt:TT}{ti:TC}{pins:List (Addr×Obj)}{s:Shared}{σ:St}{H:Hp}{ys:List V}{Q:List V→St→Hp→Prop}
    (hx:Y.xe=fun _ _=>False) (hc:Y.calm=true) (hg:gens[d]? =some ⟨tg,iter,ifs,0⟩) (T:Turn Y.prog Y.w Y.K tg J fp it tn) (hf:∀b∈fp,aP Y pins H b) (st:tn 0 s.heap) (hD:D∉fp)
    (h2:∀g',gens[d+1]? =some g'→g'.is_async=0) (pg:PG Y tg g) (pt:gA Y ifs tt) (pi:fE Y D (inner elt gens scope pos d (.ref D) Y.env) ti)
    (I:Inv Y pins σ H s) (f:aP Y pins H D) (a:AccAt s.heap D ys) (h:eY g tt ti J ys σ H Q):
    codeAny (model Y.prog Y.w) Y.A (.compLoop (.ListComp elt gens scope pos) d (.ref it) (.ref D) Y.env) (fun r s'=>match r with
      | .ok _=> ∃aU af H',Inv Y pins af H' s'∧aP Y pins H' D∧AccAt s'.heap D aU∧Q aU af H'
      | .error _=>False) s:=by
  obtain⟨W,⟨m0,w0⟩,turn⟩:=h
  have stat:∀{H':Hp},(∀b∈fp,H' b=none)→∀b∈fp,aP Y pins H' b:=fun hn b hb=> ⟨hn b hb,(hf b hb).2⟩
  refine codeAny_loop rfl (fun n s'=> ∃i aU af H',Inv Y pins af H' s'∧aP Y pins H' D∧AccAt s'.heap D aU∧tn i s'.heap∧(∀b∈fp,H' b=none)∧W i n aU af H') (fun n s3 hI=> ?_) m0 ⟨0,ys,σ,H,I,f,a,st,fun b hb=> (hf b hb).1,w0⟩
  obtain⟨i,gD,df,H3,I3,f3,a3,bt,mE,w3⟩:=hI
  show wpAny _ Y.A ((compTurn (.ListComp elt gens scope pos) d (.ref it) (.ref D) Y.env).onRaise (fun x=>do noteFrame x Y.env;theTreesLotGoes x)) _ _ s3
  refine wpAny_noted (wpAny_mono (E:=fun _ _=>False) ?_ (fun _ _ q=>q) fun _ _ z=>z.elim)
  rw[wx elt tg iter ifs gens scope pos d (.ref it) (.ref D) Y.env hg h2]
  refine wpAny_bind (wpAny_standAt (wpAny_bind ?_))
  have aD:∀{h h':Heap},(∀b o,b∉fp→h.get? b=some o→h'.get? b=some o)→∀{zs},AccAt h D zs→AccAt h' D zs:=fun k _ q=>q.keep fun o e=>k D o hD e
  have pE:=I3.pinned (fp:=[D]) (fun b hb=>by have e:b=D:=by simpa using hb
                                             subst e;exact f3) a3.fY
  have mU:∀b∈fp,aP Y (pins++fc [D] s3.heap) H3 b:=fun b hb=>by
    obtain⟨g0,g1,g2,g3,g4,g5⟩:=stat mE b hb
    refine⟨g0,g1,g2,g3,g4,fun p hp=> ?_⟩
    rcases List.mem_append.mp hp with z |z
    · exact g5 p (List.mem_append_left _ z)
    · rcases List.mem_append.mp z with z |z
      · exact g5 p (List.mem_append_right _ z)
      · intro q
        have e:p.1=D:=by simpa using (YW z).1
        exact hD (by rw[←e,q];exact hb)
  rcases turn i n gD df H3 w3 with ⟨stop,qn⟩ |⟨go,N,hN,step⟩
  · refine wpAny_mono (T.done Y rfl rfl rfl hc i _ s3 df H3 (fun _ _=>False) pE mU bt stop) (fun r s4 ⟨hr,I4⟩=> ?_) fun _ _ z=>z
    subst hr
    obtain⟨a4,n4⟩:=a3.through I4
    exact wpAny_pure ⟨gD,df,H3,I4.dI,f3,a4,qn⟩
  · refine wpAny_mono (T.item Y rfl rfl rfl hc i _ s3 df H3 (fun _ _=>False) pE mU bt go) (fun r s4 ⟨u,hr,h4⟩=> ?_) fun _ _ z=>z
    subst hr
    refine wpAny_bind (wpAny_mono h4 (fun _ s5 ⟨x,H5,I5,r5,y5,cP,oP⟩=> ?_) fun _ _ z=>z)
    obtain⟨a5,n5⟩:=a3.through I5
    have f5:aP Y pins H5 D:=⟨n5,f3.2⟩
    have vL:∀b∈D::fp,∃o,s5.heap.get? b=some o∧∀v,o.data≠.cell v:=fun b hb=>by
      rcases List.mem_cons.mp hb with e |hb
      · exact a5.fY b (by simp[e])
      · exact T.obj _ _ cP b hb
    have pD:=I5.dI.pinned (fp:=D::fp) (fun b hb=>by
      rcases List.mem_cons.mp hb with e |hb
      · rw[e];exact f5
      · exact stat oP b hb) vL
    refine wpAny_bind (wpAny_mono (pg _ s5 df H5 x u _ pD r5 (step x H5 y5)) (fun _ s6 ⟨iS,H6,I6,q6⟩=> ?_) fun _ _ z=>by rw[hx]at z;exact z)
    refine wpAny_bind (wpAny_mono (pt _ s6 iS H6 _ I6 q6) (fun b s7 ⟨H7,I7,q7⟩=> ?_) fun _ _ z=>by rw[hx]at z;exact z)
    have nG:∀{bW:St}{H7:Hp}{s7:Shared},Inv Y (pins++fc (D::fp) s5.heap) bW H7 s7→AccAt s7.heap D gD∧H7 D=none:=fun {bW H7 s7} J=>by
      obtain⟨z,aa,n,r,e⟩:=id a5
      have q:=J.pin (D,_) (List.mem_append_right _ (List.mem_append_right _ (ZA List.mem_cons_self e)))
      exact⟨⟨z,aa,n,r,q.1⟩,q.2.1⟩
    have nF:∀{bW:St}{H7:Hp}{s7:Shared},Inv Y (pins++fc (D::fp) s5.heap) bW H7 s7→tn (i+1) s7.heap∧∀b∈fp,H7 b=none:=fun {bW H7 s7} J=>by
      refine⟨T.keep _ _ _ cP fun b hb o e=> (J.pin (b,o) (List.mem_append_right _ (List.mem_append_right _ (ZA (List.mem_cons_of_mem _ hb) e)))).1,fun b hb=> ?_⟩
      obtain⟨o,e,dd⟩:=T.obj _ _ cP b hb
      exact(J.pin (b,o) (List.mem_append_right _ (List.mem_append_right _ (ZA (List.mem_cons_of_mem _ hb) e)))).2.1
    cases b with
    |false=>
     simp only[Bool.false_eq_true,if_false]at q7 ⊢
     obtain⟨m',hm,w7⟩:=hN _ _ _ q7
     obtain⟨a7,n7⟩:=nG I7
     obtain⟨t7,r7⟩:=nF I7
     exact wpAny_pure ⟨rfl,m',hm,i+1,gD,iS,H7,I7.dI,⟨n7,f3.2⟩,a7,t7,r7,w7⟩
    |true=>
     simp only[if_true]at q7 ⊢
     obtain⟨a7,n7⟩:=nG I7
     obtain⟨t7,r7⟩:=nF I7
     have xK:=I7.dI.pinned (fp:=fp) (stat r7) (T.obj _ _ t7)
     have f7:aP Y (pins++fc fp s7.heap) H7 D:=by
       obtain⟨g0,g1,g2,g3,g4,g5⟩:=f3
       refine⟨n7,g1,g2,g3,g4,fun p hp=> ?_⟩
       rcases List.mem_append.mp hp with z |z
       · exact g5 p (List.mem_append_left _ z)
       · rcases List.mem_append.mp z with z |z
         · exact g5 p (List.mem_append_right _ z)
         · intro q
           exact hD (by rw[←q];exact(YW z).1)
     refine pi _ s7 iS H7 gD N _ _ xK f7 a7 q7 fun s8 sG sF H8 I8 f8 a8 q8=> ?_
     obtain⟨m',hm,w8⟩:=hN _ _ _ q8
     refine wpAny_pure ⟨rfl,m',hm,i+1,sG,sF,H8,I8.dI,⟨f8.1,f3.2⟩,a8,T.keep _ _ _ t7 fun b hb o e=> (I8.pin (b,o) (List.mem_append_right _ (List.mem_append_right _ (ZA hb e)))).1,fun b hb=> ?_,w8⟩
     obtain⟨o,e,dd⟩:=T.obj _ _ t7 b hb
     exact(I8.pin (b,o) (List.mem_append_right _ (List.mem_append_right _ (ZA hb e)))).2.1
theorem oV {elt tg iter:Expr}{ifs:List Expr}{gens:List Comprehension}{scope:Scope}{pos:Pos}{d:Nat}{it:Addr}{R:Result→Shared→Prop}{s:Shared}{A:Around}{prog:Program}{w:World}{env:Env}{acc:Value}{fp:List Addr}{tn:Nat→Heap→Prop}{J:It}{K:PySem.W.Frag}
  (hg:gens[d]? =some ⟨tg,iter,ifs,0⟩) (T:Turn prog w K tg J fp it tn) {i:Nat} (st:tn i s.heap) (h:codeAny (model prog w) A (.compLoop (.ListComp elt gens scope pos) d (.ref it) acc env) R s):
  codeAny (model prog w) A (.compStart (.ListComp elt gens scope pos) d (.ref it) acc env) R s:=by
 refine codeAny_of_tree ?_
 show wpAny _ _ ((compStart (.ListComp elt gens scope pos) d (.ref it) acc env).onRaise (fun x=>do noteFrame x env;standAt theWindowsPlace)) _ _ s
 refine wpAny_notedAt ?_
 have vX:(clausesOf (.ListComp elt gens scope pos))[d]? =some ⟨tg,iter,ifs,0⟩:=hg
 unfold compStart
 rw[vX]
 show wpAny _ _ (ask >>=_) _ _ s
 refine wpAny_bind (wpAny_askSetting (wpAny_ite ?_))
 split
 ·first
   |exact wpAny_bind (wpAny_pure (wpAny_pure (And.intro rfl h)))
   |exact wpAny_pure (And.intro rfl h)
 ·refine wpAny_bind (wpAny_rule ?_)
  show wpAny _ _ (standAt iter.pos >>=_) _ _ s
  exact wpAny_bind (wpAny_standAt (wpAny_bind (T.self A i s _ _ st (wpAny_pure (And.intro rfl h)))))
def DH (wi:TI) (g:TG) (tt:TT) (ti:TC):TC:=fun ys σ H Q=>wi σ H fun J H1=>eY g tt ti J ys σ H1 Q
theorem CF {elt tg iter:Expr}{ifs:List Expr}{gens:List Comprehension}{scope:Scope}{pos:Pos}{d:Nat}{wi:TI}{g:TG}{tt:TT}{ti:TC}
    (hx:Y.xe=fun _ _=>False) (hc:Y.calm=true) (hg:gens[d+1]? =some ⟨tg,iter,ifs,0⟩) (hi:PI Y tg iter wi) (pg:PG Y tg g) (pt:gA Y ifs tt) (pi:fE Y D (inner elt gens scope pos (d+1) (.ref D) Y.env) ti)
    (hs:∀x,foldedSetIterable iter Y.env x=pure x) (h2:∀g',gens[d+1+1]? =some g'→g'.is_async=0):fE Y D (inner elt gens scope pos d (.ref D) Y.env) (DH wi g tt ti):=by
  intro pins s σ H ys Q k R I f a h hk
  unfold inner
  rw[hg]
  have I':=I.pinned (fp:=[D]) (fun b hb=>by have e:b=D:=by simpa using hb
                                            subst e;exact f) a.fY
  refine wpAny_bind (wpAny_mono (hi _ s σ H _ I' h) (fun v s1 h1=> ?_) fun _ _ z=>by rw[hx]at z;exact z)
  refine wpAny_bind (wpAny_standAt (wpAny_bind (wpAny_of_eq (hs v) (wpAny_bind (wpAny_holding (wpAny_mono h1 (fun gQ s2 h2=> ?_) fun _ _ z=>by rw[hx]at z;exact z))))))
  obtain⟨it,fp,tn,J,H2,e,I2,T,au,f2,q2⟩:=h2
  subst e
  obtain⟨a2,n2⟩:=a.through I2
  have fD:aP Y pins H2 D:=⟨n2,f.2⟩
  have hD:D∉fp:=fun z=>by
    obtain⟨z1,aa,n,r,e⟩:=a
    exact(f2 D z).2.2.2.2.2 (D,_) (List.mem_append_right _ (List.mem_append_right _ (ZA (List.mem_singleton.mpr rfl) e))) rfl
  have AJ:∀b∈fp,aP Y pins H2 b:=fun b hb=>by
    obtain⟨g0,g1,g2,g3,g4,g5⟩:=f2 b hb
    exact⟨g0,g1,g2,g3,g4,fun p hp=>g5 p (by
      rcases List.mem_append.mp hp with z |z
      · exact List.mem_append_left _ z
      · exact List.mem_append_right _ (List.mem_append_left _ z))⟩
  refine wpAny_bind (wpAny_runOwn (codeAny_mono (oV hg T au (oW (Q:=Q) hx hc hg T AJ au hD h2 pg pt pi I2.dI fD a2 q2)) fun r s' hr=> ?_))
  cases r with
  |ok fl=>
   obtain⟨aU,af,H',q1,q2,q3,q4⟩:=hr
   exact hk s' aU af H' q1 q2 q3 q4
  |error e=>exact hr.elim
end
section
variable {X:Cx}{pins:List (Addr×Obj)}{σ:St}{H H':Hp}{s s':Shared}
theorem rG {N':List Str}{scope:Scope}{C D:Addr}{fp:List Addr}{af:St}{ys:List V}{pl:List (Addr×Obj)}{h':Heap}(I:Inv X pins σ H s) (hf:∀b∈fp,aP X pins H b) (hC:s.heap.objs.size≤C) (hD:s.heap.objs.size≤D) (ck:D≠C)
  (J:Inv (aI X N' scope C s H fp) pl af H' s') (n:H' D=none) (a:AccAt s'.heap D ys) (sb:Heap.SameBut C s'.heap h'):Inv X pins σ (upd H' D (.lst ys)) {s' with heap:=h'} :=by
 have bO:∀b o,s.heap.get? b=some o→b≠C:=fun b o e=>Nat.ne_of_lt (Nat.lt_of_lt_of_le (Heap.lt_size e) hC)
 have qJ:∀b o,s.heap.get? b=some o→b≠D:=fun b o e=>Nat.ne_of_lt (Nat.lt_of_lt_of_le (Heap.lt_size e) hD)
 have jJ:∀b o,H b=some o→b≠D:=fun b o e=>Nat.ne_of_lt (Nat.lt_of_lt_of_le (I.ak.lt e) hD)
 have fC:H' C=none:=J.free
 have u:Un (dQ X.stack) fp H H' s.heap s'.heap:=J.base
 refine I.wB (s':= {s' with heap:=h'}) (ch:=fp) J.os ⟨fun b o e nb hb hx=> (sb.2 b (bO b o e)).trans (u.keep b o e nb hb hx),fun b o e nb hb hx=> ?_,fun b o e nb hx=>by rw[Zg (qJ b o e)];exact u.free b o e nb hx,fun b o e hx=> ?_,
  fun b xs e=>by rw[Zg (jJ b _ e)];exact u.gE b xs e,fun b o xs e=>by rw[Zg (jJ b _ e)];exact u.gp b o xs e,fun b ps e=>by rw[Zg (jJ b _ e)];exact u.fV b ps e⟩ (fun b v e=> ?_) J.bare fun b hb=> ?_
 ·obtain⟨sl,q⟩:=u.slot b o e nb hb hx
  exact⟨sl,(sb.2 b (bO b o e)).trans q⟩
 ·obtain⟨o',q⟩:=u.there b o e hx
  exact⟨o',(sb.2 b (bO b o e)).trans q⟩
 ·by_cases hb:b=D
  ·subst hb
   rw[Zc]at e
   cases e
   obtain⟨z,aa,k,r,q⟩:=a
   exact⟨z,aa,k,r,(sb.2 b ck).trans q⟩
  ·rw[Zg hb]at e
   refine(J.ak b v e).bT (fun c w hc q=> (sb.2 c ?_).trans q) (fun c q=>by rw[Zg (Zd q n)];exact q) fun c xs q=>by rw[Zg (Zd q n)];exact q
   rcases hc with z |z
   ·rw[z];exact Zd e fC
   ·exact Zd z fC
 ·obtain⟨f0,f1,f2,f3,f4,f5⟩:=hf b hb
  exact⟨f3,f1,f4,f5⟩
theorem rF {elt tg iter:Expr}{ifs:List Expr}{rest:List Comprehension}{scope:Scope}{pos:Pos}{N':List Str}{ts:Nat}{aF:List Nat}{it:Addr}{fp:List Addr}{tn:Nat→Heap→Prop}{J:It}{g:TG}{tt:TT}{ti:TC}{Q:List V→Hp→Prop}{E:Value→Shared→Prop}{RR:Value→Addr→Result→Shared→Prop}
  (S:sy X N' ts aF scope) (hc:X.calm=true) (I:Inv X pins σ H s) (T:Turn X.prog X.w X.K tg J fp it tn) (st:tn 0 s.heap) (hf:∀b∈fp,aP X pins H b)
  (h2:∀g',(Comprehension.mk tg iter ifs 0::rest)[0+1]? =some g'→g'.is_async=0)
  (pg:∀C,PG (aI X N' scope C s H fp) tg g) (pt:∀C,gA (aI X N' scope C s H fp) ifs tt)
  (pi:∀C D,fE (aI X N' scope C s H fp) D (inner elt (⟨tg,iter,ifs,0⟩::rest) scope pos 0 (.ref D) (aI X N' scope C s H fp).env) ti)
  (h:eY g tt ti J [] (cZ ts aF σ) H fun ys _ H2=>Q ys H2)
  (oK:∀C D s' af H' ys fl,s.heap.objs.size≤C→s.heap.objs.size≤D→D≠C→Inv (aI X N' scope C s H fp) [] af H' s'→H' D=none→AccAt s'.heap D ys→Q ys H'→RR (.ref D) C (.ok fl) s'):
  wpAny (model X.prog X.w) X.A (newList []) (fun acc mT=>wpAny (model X.prog X.w) X.A (newFunctionEnv scope X.env.globals (dS scope X.env) [] X.env.qual none .none (some X.env)) (fun j0 mS=>
   codeAny (model X.prog X.w) X.A (.compStart (.ListComp elt (⟨tg,iter,ifs,0⟩::rest) scope pos) 0 (.ref it) acc {j0 with scope:=relabel scope X.env}) (RR acc j0.locals) mS) E mT) E s:=by
 refine wpAny_newObj_type (wpAny_newFunctionEnv S.fY (by intro y hy;simp at hy) (fun dw g8 fh=> ?_) S.kind)
 dsimp only at g8 fh ⊢
 generalize fq:s.heap.push {cls:=.type "list",dict:=none,data:=.seq ([]:List Value).toArray} =h0 at g8 fh ⊢
 have hC:h0.objs.size=s.heap.objs.size+1:=by rw[←fq,Heap.size_push]
 have ck:s.heap.objs.size≠h0.objs.size:=by rw[hC];exact Nat.ne_of_lt (Nat.lt_succ_self _)
 have hX:s.heap.objs.size≤h0.objs.size:=by rw[hC];exact Nat.le_succ _
 have bO:∀b o,s.heap.get? b=some o→b≠h0.objs.size:=fun b o e=>Nat.ne_of_lt (Nat.lt_of_lt_of_le (Heap.lt_size e) hX)
 have old:∀b o,s.heap.get? b=some o→dw.get? b=some o:=fun b o e=>fh.extBut b o (bO b o e) (Heap.get?_push_of_some _ (fq▸Heap.get?_push_of_some _ e))
 have je:dw.get? s.heap.objs.size=some {cls:=.type "list",data:=.seq ([]:List Value).toArray 0} :=fh.extBut _ _ ck (Heap.get?_push_of_some _ (fq▸Heap.get?_push_size _ rfl))
 have ho:∀b∈fp,∃o,s.heap.get? b=some o:=fun b hb=>let ⟨o,e,_⟩:=T.obj _ _ st b hb;⟨o,e⟩
 have I1:Inv (aI X N' scope h0.objs.size s H fp) [] (cZ ts aF σ) H {s with heap:=dw,toks:=s.toks+([]:List (Str×Value)).length} :=BC S I hf ho hX g8 old
 have fresh:=I.ak.fresh (a:=s.heap.objs.size) (Nat.le_refl _)
 have oQ:∀b∈fp,aP (aI X N' scope h0.objs.size s H fp) [] H b:=fun b hb=>by
  obtain⟨f0,f1,f2,f3,f4,f5⟩:=hf b hb
  refine⟨f0,(I1.ok.jW b hb).1,I1.ok.kP b hb,.inl hb,(I1.ok.jW b hb).2,fun p hp=>absurd (show p∈([]:List (Addr×Obj)) from hp) (by simp)⟩
 have fD:aP (aI X N' scope h0.objs.size s H fp) [] H s.heap.objs.size:=by
  refine⟨fresh,ck,fun z=> ?_,.inr (Nat.le_refl _),fun x c e z=> ?_,fun p hp=>absurd (show p∈([]:List (Addr×Obj)) from hp) (by simp)⟩
  ·obtain⟨_,o,eW,_⟩:=I.stack.mem z
   exact absurd (Heap.lt_size eW) (Nat.lt_irrefl _)
  ·obtain⟨e1,e2⟩:=Jl e
   obtain⟨c',br⟩:=I.ok.has x (S.free _ e2 rfl)
   obtain⟨v,q⟩:=I.cell x c' br
   rw[br]at e1
   have e3:c=c':=e1
   have l:=q.lt
   rw[←e3,z]at l
   exact absurd l (Nat.lt_irrefl _)
 have aD:AccAt dw s.heap.objs.size []:=⟨Nat.zero_le _,[],0,.nil,je⟩
 have oN:s.heap.objs.size∉fp:=fun z=>by obtain⟨o,e⟩:=ho _ z;exact absurd (Heap.lt_size e) (Nat.lt_irrefl _)
 have aw:tn 0 dw:=T.keep _ _ _ st fun b _ o e=>old b o e
 have run:=oV (elt:=elt) (gens:=⟨tg,iter,ifs,0⟩::rest) (scope:=scope) (pos:=pos) (d:=0) rfl T aw
  (oW (Y:=aI X N' scope h0.objs.size s H fp) (D:=s.heap.objs.size) (Q:=fun ys _ H2=>Q ys H2) (elt:=elt) (gens:=⟨tg,iter,ifs,0⟩::rest) (scope:=scope) (pos:=pos) (d:=0) rfl hc rfl T oQ aw oN h2 (pg _) (pt _) (pi _ _) I1 fD aD h)
 refine codeAny_mono run fun r s' hr=> ?_
 cases r with
 |error e=>exact hr.elim
 |ok fl=>
  obtain⟨aU,af,H',q1,q2,q3,q4⟩:=hr
  exact oK _ _ s' af H' aU fl hX (Nat.le_refl _) ck q1 q2.1 q3 q4
end
def sY (wi:TI) (ts:Nat) (aF:List Nat) (g:TG) (tt:TT) (ti:TC):TE:=fun σ H Q=>wi σ H fun J H1=>eY g tt ti J [] (cZ ts aF σ) H1 fun ys _ H2=> ∀p,H2 p=none→Q (.ref p) (upd H2 p (.lst ys))
section
variable {X:Cx}{elt tg iter:Expr}{ifs:List Expr}{rest:List Comprehension}{scope:Scope}{pos:Pos}{wi:TI}{g:TG}{tt:TT}{ti:TC}
theorem Yb (N':List Str) (ts:Nat) (aF:List Nat) (hi:PI X tg iter wi) (pg:∀C s H fp,PG (aI X N' scope C s H fp) tg g) (pt:∀C s H fp,gA (aI X N' scope C s H fp) ifs tt)
  (pi:∀C s H fp D,fE (aI X N' scope C s H fp) D (inner elt (⟨tg,iter,ifs,0⟩::rest) scope pos 0 (.ref D) (aI X N' scope C s H fp).env) ti)
  (ok:oX X.env.scope scope X.N N' ts aF=true:=by rfl) (hc:X.calm=true:=by rfl) (h2:∀g',(Comprehension.mk tg iter ifs 0::rest)[0+1]? =some g'→g'.is_async=0:=by(intro g' h;cases h<;>rfl))
  (hs:∀x,foldedSetIterable iter X.env x=pure x:=by intro _;rfl):
  PE X (.ListComp elt (⟨tg,iter,ifs,0⟩::rest) scope pos) (sY wi ts aF g tt ti):=by
 intro pins s σ H Q I h
 have S:=Ug ok
 rw[eval_ListComp]
 refine wpAny_comprehension_free (use:=none) rfl hs (Yn fun y hy e=>I.ok.has _ (S.free y hy e)) S.kind S.names (av (hi pins s σ H _ I h) fun v s1 h1=>av h1 fun gQ s2 kM=> ?_)
 obtain⟨it,fp,tn,J,H2,e,I2,T,au,f2,q2⟩:=kM
 subst e
 refine rF (RR:=fun acc C=>compPost (model X.prog X.w) X.A X.xe none _ acc C) S hc I2 T au f2 h2 (fun C=>pg C _ _ _) (fun C=>pt C _ _ _) (fun C D=>pi C _ _ _ D) q2 ?_
 intro C D s' af H' ys fl hC hD ck J' n a q
 obtain⟨m,hn,_⟩:=J'.loc
 exact⟨m,hn,fun h' sb=> ⟨.ref D,_,rG I2 f2 hC hD ck J' n a sb,rfl,q D n⟩⟩
theorem Jq (N':List Str) (ts:Nat) (aF:List Nat) {i:Nat}{x:Str}{px yo:Pos}(hN:X.N.Nodup) (mi:X.N[i]? =some x) (hx:Loc X.env.scope x) (hi:PI X tg iter wi) (pg:∀C s H fp,PG (aI X N' scope C s H fp) tg g) (pt:∀C s H fp,gA (aI X N' scope C s H fp) ifs tt)
  (pi:∀C s H fp D,fE (aI X N' scope C s H fp) D (inner elt (⟨tg,iter,ifs,0⟩::rest) scope pos 0 (.ref D) (aI X N' scope C s H fp).env) ti)
  (GP:swapsWith (.ListComp elt (⟨tg,iter,ifs,0⟩::rest) scope pos) (some (.Name x px)) yo.line X.env=pure true:=by rfl)
  (ok:oX X.env.scope scope X.N N' ts aF=true:=by rfl) (hc:X.calm=true:=by rfl) (h2:∀g',(Comprehension.mk tg iter ifs 0::rest)[0+1]? =some g'→g'.is_async=0:=by(intro g' h;cases h<;>rfl))
  (hs:∀x,foldedSetIterable iter X.env x=pure x:=by intro _;rfl) (hG:X.fn x=true∨X.env.scope.names.lookup x=some .local:=by first |exact .inl rfl |exact .inr rfl |assumption):
  PS X (.Assign [.Name x px] (.ListComp elt (⟨tg,iter,ifs,0⟩::rest) scope pos) yo) (mR (sY wi ts aF g tt ti) (bR i)):=by
 intro pins s σ H D I h
 have S:=Ug ok
 rw[exec_Assign_Name_used _ _ _ _ GP]
 refine wpAny_bind (wpAny_standAt (wpAny_bind ?_))
 show wpAny _ X.A (do let _ ←comprehension (.ListComp elt (⟨tg,iter,ifs,0⟩::rest) scope pos) scope X.env _ (newList []) false (eval iter X.env) (some (assign (.Name x px) X.env))) _ _ s
 refine wpAny_bind (wpAny_mono (wpAny_comprehension_free (use:=some (assign (.Name x px) X.env)) (Q:=fun _ s'=> ∃af H',Inv X pins af H' s'∧D.nx af H') rfl hs (Yn fun y hy e=>I.ok.has _ (S.free y hy e)) S.kind S.names
  (av (hi pins s σ H _ I h) fun v s1 h1=>av h1 fun gQ s2 kM=> ?_)) (fun _ s' hq=>wpAny_pure (wpAny_pure hq)) fun _ _ e=>e)
 obtain⟨it,fp,tn,J,H2,e,I2,T,au,f2,q2⟩:=kM
 subst e
 refine rF (RR:=fun acc C=>compPost (model X.prog X.w) X.A X.xe (some (assign (.Name x px) X.env)) _ acc C) S hc I2 T au f2 h2 (fun C=>pg C _ _ _) (fun C=>pt C _ _ _) (fun C D=>pi C _ _ _ D) q2 ?_
 intro C B s' af H' ys fl hC hB Ax J' n a q
 obtain⟨m,hn,_⟩:=J'.loc
 have IX:Inv X pins σ (upd H' B (.lst ys)) s':=rG I2 f2 hC hB Ax J' n a (Heap.SameBut.refl C s'.heap)
 have fC:=I2.kN (H':=upd H' B (.lst ys)) (b:=C) hC (by rw[Zg (Ne.symm Ax)];exact J'.free)
 obtain⟨f0,f1,AJ,f3,f4,f5⟩:=fC
 show wpAny _ X.A (assign (.Name x px) X.env (.ref B)) _ _ s'
 refine wpAny_assign_Name (UD (v:=.ref B) (u:=.ref B) IX hN mi hx rfl (fun nq Pg ⟨c,sb,rk⟩=> ?_) hG)
 have Il:C≠c:=by
  rcases rk with z |z
  ·rw[z];exact f1
  ·exact(f4 x c z).symm
 refine⟨m,Heap.Ns.sameBut hn sb Il,fun h' Eo=> ?_⟩
 refine⟨σ.set i (some (.ref B)),_,Pg.turned (t':=nq.toks) (it:=C) (fun b o hb e=> (Eo.2 b hb).trans e) f0 f1 f3 f4 f5,q B n⟩
end
section
variable {X:Cx}
theorem Jm {c:String} :dX X (.builtin "isinstance") (fun xs H Q=> ∃x t b,xs=[x,.ty c]∧dG X.K H x t∧PySem.W.kitOne X.K t (.type c)=some b∧Q (.bl b) H):=by
 intro pins s σ H xs us Q I r h
 obtain⟨x,t,b,rfl,ty,e,q⟩:=h
 obtain⟨u,v,rfl,ru,rv⟩:=vals2 r
 cases rv
 exact M3 I ru ty e fun tk=> ⟨.bl b,H,I.tok tk,rfl,q⟩
theorem JV (hc:X.calm=true:=by rfl):dX X (.builtin "all") (fun xs H Q=> ∃(p:Addr) (bs:List Bool),xs=[.ref p]∧aj X.K H p (bs.map V.bl)∧Q (.bl (bs.all id)) H):=by
 intro pins s σ H xs us Q I r h
 obtain⟨p,bs,rfl,hp,q⟩:=h
 obtain⟨u,rfl,ru⟩:=vals1 r
 cases ru
 obtain⟨aa,rv,pl,hz⟩:=I.list hp
 have hb:∀(i:Nat) (v:Value),aa.toArray[i]? =some v→v=.bool (bs.getD i false):=fun i v e=>by
  have e':aa[i]? =some v:=by simpa using e
  have hl:=rv.length
  have hi:i<aa.length:=(List.getElem?_eq_some_iff.mp e').1
  have aW:i< (bs.map V.bl).length:=by omega
  obtain⟨u,hu,ru⟩:=rv.get (i:=i) (x:=(bs.map V.bl)[i]) (by simp)
  rw[e']at hu
  cases hu
  rw[List.getElem_map]at ru
  have oB:i<bs.length:=by simpa using aW
  have e2:bs.getD i false=bs[i]:=by simp[List.getD_eq_getElem?_getD,oB]
  rw[e2]
  exact ru
 refine call_all_walk (wpAny_pyIter_list pl.isList ?_)
 have cf:p≠s.heap.objs.size:=Nat.ne_of_lt (by obtain⟨o,n,e,_⟩:=pl;exact Heap.lt_size e)
 refine⟨s.heap.objs.size,_,_,_,_,_,fun i=>bs.getD i false,rfl,Walks.list (A:=X.A.in1) (show X.A.in1.handled=none from I.ok.hd hc) s.heap.objs.size p cf aa.toArray,⟨⟨_,Heap.get?_push_size _ rfl,rfl,rfl⟩,pl.isList.at fun o e=>Heap.get?_push_of_some _ e⟩,fun i v s' Q' E' hP hQ=> ?_,fun h' tk hk=> ?_⟩
 ·rw[hb i v hP]
  exact wpAny_truthy_bool hQ
 ·have e:(List.range aa.toArray.size).all (fun i=>bs.getD i false)=bs.all id:=by
   have hl:aa.toArray.size=bs.length:=by have:=rv.length;rw[List.length_map]at this;simpa using this.symm
   rw[hl,Bool.eq_iff_iff,List.all_eq_true,List.all_eq_true]
   constructor
   ·intro h b hb
    obtain⟨i,hi,e⟩:=List.mem_iff_getElem.mp hb
    have:=h i (List.mem_range.mpr hi)
    rw[List.getD_eq_getElem?_getD,List.getElem?_eq_getElem hi,Option.getD_some,e]at this
    exact this
   ·intro h i hi
    have aW:=List.mem_range.mp hi
    rw[List.getD_eq_getElem?_getD,List.getElem?_eq_getElem aW,Option.getD_some]
    exact h _ (List.getElem_mem aW)
  rw[e]
  refine⟨.bl (bs.all id),H,I.kept fun b o eb=>hk b o ?_ (Heap.get?_push_of_some _ eb),rfl,q⟩
  intro z
  have e1:b=s.heap.objs.size:=by simpa using z
  exact absurd (Heap.lt_size eb) (by rw[e1];exact Nat.lt_irrefl _)
def lJ (ns:List Int):Nat:=(PyProof.Rows.firstMet (fun i=>ns.getD i 0) ns.length).length
theorem Uw (hc:X.calm=true:=by rfl):dX X (.type "set") (fun xs H Q=> ∃(p:Addr) (ns:List Int),xs=[.ref p]∧aj X.K H p (ns.map V.int)∧ns.length≤1000∧∀q S,H q=none→Q (.ref q) (upd H q (.set S (lJ ns)))):=by
 intro pins s σ H xs us Q I r h
 obtain⟨p,ns,rfl,hp,hn,q⟩:=h
 obtain⟨u,rfl,ru⟩:=vals1 r
 cases ru
 obtain⟨aa,rv,pl,hz⟩:=I.list hp
 have hl:=rv.length
 rw[List.length_map]at hl
 refine call_set_list (I.ok.hd hc) pl.isList (ZV rv) (by rw[List.size_toArray,←hl];unfold scanBound;omega) fun h' tk hs hk=> ?_
 have e:aa.toArray.size=ns.length:=by simp[hl]
 rw[e]at hs
 exact⟨.ref s.heap.objs.size,_,I.laid (a:=s.heap.objs.size) (o:=.set _ (lJ ns)) (fun b o eb=>hk b o (Heap.lt_size eb) eb) (Nat.le_refl _) hs,rfl,q _ _ I.fresh⟩
theorem Uy:dX X (.builtin "len") (fun xs H Q=> ∃p S n,xs=[.ref p]∧H p=some (.set S n)∧Q (.int n) H):=by
 intro pins s σ H xs us Q I r h
 obtain⟨p,S,n,rfl,hp,q⟩:=h
 obtain⟨u,rfl,ru⟩:=vals1 r
 cases ru
 obtain⟨o,es,ep,t,h1,h2,h3,h4,h5,h6,h7,h8⟩:=(show bz X.prog X.w H s.heap p (.set S n) from I.ak p _ hp)
 refine call_len_set h1 h2 h3 h7 (by have:scanBound=4096:=rfl;omega) ⟨.int n,H,I.tok _,⟨_,by rw[h8]⟩,q⟩
theorem Om:dX X (.type "range") (fun xs H Q=> ∃j:Int,xs=[.int j]∧∀q,H q=none→Q (.ref q) (upd H q (.fX 0 j))):=by
 intro pins s σ H xs us Q I r h
 obtain⟨j,rfl,q⟩:=h
 obtain⟨u,rfl,ru⟩:=vals1 r
 obtain⟨t,rfl⟩:=ru
 refine call_range_1 ?_
 exact⟨.ref s.heap.objs.size,_,I.laid (a:=s.heap.objs.size) (o:=.fX 0 j) (fun b o eb=>Heap.get?_push_of_some _ eb) (Nat.le_refl _) ⟨_,_,_,Heap.get?_push_size _ rfl⟩,rfl,q _ I.fresh⟩
def upTo (n:Nat):List V:=(List.range n).map fun(i:Nat)=>V.int (i:Int)
theorem OR {acc:Array Value}{n:Nat}(h:ItemsOf (fun i v=> ∃t,v=.int (0+i*1) t) acc n):Vals (upTo n) acc.toList:=by
 obtain⟨h1,h2⟩:=h
 obtain⟨l⟩:=acc
 have h1:l.length=n:=h1
 have h2:∀(j:Nat) (v:Value),l[j]? =some v→∃t,v=.int (j:Int) t:=fun j v e=>by
  obtain⟨t,q⟩:=h2 j v (by simpa using e)
  exact⟨t,by rw[q];congr 1;omega⟩
 have key:∀(l:List Value) (k:Nat),(∀(j:Nat) (v:Value),l[j]? =some v→∃t,v=.int ((k+j:Nat):Int) t)→Vals ((List.range' k l.length).map fun(i:Nat)=>V.int (i:Int)) l:=by
  intro l
  induction l with
  |nil=>intro k _;exact .nil
  |cons v l ih=>
   intro k h
   rw[List.length_cons,List.range'_succ,List.map_cons]
   obtain⟨t,e⟩:=h 0 v rfl
   refine .cons ⟨t,by rw[e];simp⟩ (ih (k+1) fun j w q=> ?_)
   obtain⟨t',e'⟩:=h (j+1) w (by simpa using q)
   exact⟨t',by rw[e'];congr 1;omega⟩
 have:=key l 0 (fun j v e=>by simpa using h2 j v e)
 unfold upTo
 rw[←h1,List.range_eq_range']
 exact this
theorem Ux (hc:X.calm=true:=by rfl):dX X (.type "list") (fun xs H Q=> ∃(p:Addr) (j:Int),xs=[.ref p]∧H p=some (.fX 0 j)∧0≤j∧j≤1000∧∀q,H q=none→Q (.ref q) (upd H q (.lst (upTo j.toNat)))):=by
 intro pins s σ H xs us Q I r h
 obtain⟨p,j,rfl,hp,h0,h1,q⟩:=h
 obtain⟨u,rfl,ru⟩:=vals1 r
 cases ru
 obtain⟨t,u,v,e⟩:=(show bz X.prog X.w H s.heap p (.fX 0 j) from I.ak p _ hp)
 refine call_list_range (n:=j.toNat) (I.ok.hd hc) e (small_one (by omega) (by omega) (by omega) (by omega)) (by rw[rangeSize_one];split<;>omega) (by omega) fun h' tk acc c' hk hS je=> ?_
 have r2:=OR je
 have hlen:(upTo j.toNat).length≤sizeLine:=by unfold upTo;rw[List.length_map,List.length_range,sizeLine_eq];omega
 exact⟨.ref s.heap.objs.size,_,I.laid (a:=s.heap.objs.size) (o:=.lst (upTo j.toNat)) hk (Nat.le_refl _) ⟨hlen,acc.toList,c',r2,by simpa using hS⟩,rfl,q _ I.fresh⟩
theorem Nh:aR X (binaryOp .Add) (fun x y H Q=> ∃a b ys,x=.ref a∧y=.ref b∧ag X.K H a []∧ag X.K H b ys∧Q (.ref b) H):=by
 intro pins s σ H x y u v Q I rx ry h
 obtain⟨a,b,ys,rfl,rfl,ha,hb,q⟩:=h
 cases rx
 cases ry
 obtain⟨aa,rv,pl,hz⟩:=I.tuple ha
 obtain⟨i6,eG,cw,gR⟩:=I.tuple hb
 cases rv
 obtain⟨⟨cls,dd,data,sl⟩,ho,oD,n,hd⟩:=id pl
 obtain⟨⟨AZ,jY,data2,jC⟩,iJ,fM,n2,hd2⟩:=id cw
 simp only at oD hd fM hd2
 subst oD hd fM hd2
 exact concat_meets ⟨_,ho,rfl⟩ ⟨_,iJ,rfl⟩ noFill_tuple_add seq_tuple_add PySem.F.slot_tuple_add PySem.F.entry_tuple_add (PySem.F.args_tuple_add_2 _ _)
   (tuple_addW0 a b #[] i6.toArray n n2 dd jY sl jC rfl) ⟨ho,iJ,⟨.ref b,H,I,rfl,q⟩⟩
end
theorem Jf {K:PySem.W.Frag}{a:Addr}{xs:List V}{g:TG}{tt:TT}{ti:TC}{ys:List V}{σ:St}{H:Hp}{Q:List V→St→Hp→Prop}(Pv:Nat→List V→St→Hp→Prop) (h0:Pv 0 ys σ H)
  (hl:∀i ys σ H,i≤xs.length→Pv i ys σ H→ag K H a xs)
  (hs:∀i x ys σ H,xs[i]? =some x→Pv i ys σ H→g x σ H fun bq H2=>tt bq H2 fun b H3=>if b=true then ti ys bq H3 (Pv (i+1)) else Pv (i+1) ys bq H3)
  (hd:∀ys σ H,Pv xs.length ys σ H→Q ys σ H):eY g tt ti (xH K a) ys σ H Q:=by
 refine⟨fun i m ys σ H=>m=xs.length - i∧i≤xs.length∧Pv i ys σ H,⟨xs.length,by simp,Nat.zero_le _,h0⟩,?_⟩
 rintro i m ys σ H ⟨rfl,hi,p⟩
 have q:=hl i ys σ H hi p
 by_cases ay:i<xs.length
 ·refine .inr ⟨⟨xs,xs[i],q,by simp[ay]⟩,Pv (i+1),fun aU af H' p'=> ⟨xs.length - (i+1),by omega,rfl,ay,p'⟩,fun x H' y=> ?_⟩
  obtain⟨e,y⟩:=y
  subst e
  exact hs i x ys σ _ (y xs q) p
 ·have e:i=xs.length:=by omega
  subst e
  exact .inl ⟨⟨xs,q,Nat.le_refl _⟩,hd ys σ H p⟩
theorem Z5 {K:PySem.W.Frag}{a:Addr}{xs:List V}{g:TG}{tt:TT}{ti:TC}{ys:List V}{σ:St}{H:Hp}{Q:List V→St→Hp→Prop}(Pv:Nat→List V→St→Hp→Prop) (h0:Pv 0 ys σ H)
  (hl:∀i ys σ H,i≤xs.length→Pv i ys σ H→aj K H a xs)
  (hs:∀i x ys σ H,xs[i]? =some x→Pv i ys σ H→g x σ H fun bq H2=>tt bq H2 fun b H3=>if b=true then ti ys bq H3 (Pv (i+1)) else Pv (i+1) ys bq H3)
  (hd:∀ys σ H,Pv xs.length ys σ H→Q ys σ H):eY g tt ti (mI K a) ys σ H Q:=by
 refine⟨fun i m ys σ H=>m=xs.length - i∧i≤xs.length∧Pv i ys σ H,⟨xs.length,by simp,Nat.zero_le _,h0⟩,?_⟩
 rintro i m ys σ H ⟨rfl,hi,p⟩
 have q:=hl i ys σ H hi p
 by_cases ay:i<xs.length
 ·refine .inr ⟨⟨xs,xs[i],q,by simp[ay]⟩,Pv (i+1),fun aU af H' p'=> ⟨xs.length - (i+1),by omega,rfl,ay,p'⟩,fun x H' y=> ?_⟩
  obtain⟨e,y⟩:=y
  subst e
  exact hs i x ys σ _ (y xs q) p
 ·have e:i=xs.length:=by omega
  subst e
  exact .inl ⟨⟨xs,q,Nat.le_refl _⟩,hd ys σ H p⟩
theorem YF {lo:Int}{n:Nat}{g:TG}{tt:TT}{ti:TC}{ys:List V}{σ:St}{H:Hp}{Q:List V→St→Hp→Prop}(Pv:Nat→List V→St→Hp→Prop) (h0:Pv 0 ys σ H)
  (hs:∀i ys σ H,i<n→Pv i ys σ H→g (.int (lo+i)) σ H fun bq H2=>tt bq H2 fun b H3=>if b=true then ti ys bq H3 (Pv (i+1)) else Pv (i+1) ys bq H3)
  (hd:∀ys σ H,Pv n ys σ H→Q ys σ H):eY g tt ti (kZ lo n) ys σ H Q:=by
 refine⟨fun i m ys σ H=>m=n - i∧i≤n∧Pv i ys σ H,⟨n,by simp,Nat.zero_le _,h0⟩,?_⟩
 rintro i m ys σ H ⟨rfl,hi,p⟩
 by_cases ay:i<n
 ·refine .inr ⟨ay,Pv (i+1),fun aU af H' p'=> ⟨n - (i+1),by omega,rfl,ay,p'⟩,fun x H' y=> ?_⟩
  obtain⟨e,y⟩:=y
  subst e y
  exact hs i ys σ _ ay p
 ·have e:i=n:=by omega
  subst e
  exact .inl ⟨Nat.le_refl _,hd ys σ H p⟩
theorem pb {X:Cx}{N':List Str}{scope:Scope}{C:Addr}{s:Shared}{H:Hp}{fp:List Addr}(i:Nat) {x:Str}{pos:Pos}(hN:N'.Nodup:=by decide+kernel) (hi:N'[i]? =some x:=by rfl) (hx:(relabel scope X.env).names.lookup x=some .local:=by rfl):
  PG (aI X N' scope C s H fp) (.Name x pos) (bR i):=Zs (X:=aI X N' scope C s H fp) hN hi (.inl hx) (.inr hx)
def Def (P:Program) (w:World) (K:PySem.W.Frag) (mg:Str→Option Value) (base:Heap) (k:Nat) (x:Str) (ps:List Str) (sp:Sp):Prop:=
 ∃f fd,aL P w K mg base aJ k f fd ps sp∧mg x=some (.ref f)∧PySem.W.keepIn K (.ref f)=true∧Binds K fd ps []
section
variable {X:Cx}{k:Nat}{x:Str}{ps:List Str}{sp:Sp}{e:Expr}{es:List Expr}{t:TA}{p pos:Pos}
theorem Zf (d:Def X.prog X.w X.K X.mg X.base k x ps sp) (hr:cG k X.A) (ha:PA X (e::es) t) (hg:Gl X x:=by rfl) (jd:(x==("__debug__" :Str))=false:=by decide)
  (he:starEach (e::es) X.env=(false,eval e X.env)::starEach es X.env:=by rfl) (bC:(backTo pos (starEach es X.env)).any (·.1)=false:=by rfl):
  PE X (.Call (.Name x p) (e::es) [] pos) (yk sp [] E0 t):=by
 obtain⟨f,fd,F,hm,hk,hb⟩:=d
 exact MD F hr hg hm hk hb .nil E2 ha jd he bC
end
def j7 (K:PySem.W.Frag) (H:Hp) (x:V):Prop:=∃T,dG K H x (.type T)
def whole:V→Bool
 | .int _=>true
 |_=>false
def bA:V→Int→Int→Bool
 | .int i,a,b=>decide (a≤i)&&decide (i≤b)
 |_,_,_=>false
def sN:Option HO→Option (List V)
 |some (.tup xs)=>some xs
 |_=>none
def cm (H:Hp):V→Option (List V)
 | .ref a=>sN (H a)
 |_=>none
theorem Yt {H:Hp}{a:Addr} :cm H (.ref a)=sN (H a):=rfl
theorem ZB {H:Hp}{a:Addr}{xs:List V}(h:H a=some (.tup xs)):cm H (.ref a)=some xs:=by rw[Yt,h];rfl
theorem NW {o:Option HO}{xs:List V}(h:sN o=some xs):o=some (.tup xs):=by
 cases o with
 |none=>cases h
 |some o=>cases o<;>first |(cases h;rfl) |cases h
theorem Zv {H:Hp}{x:V}{xs:List V}(h:cm H x=some xs):∃a,x=.ref a∧H a=some (.tup xs):=by
 cases x with
 |ref a=>exact⟨a,rfl,NW h⟩
 |_=>cases h
theorem ah.cm {H H':Hp}(s:ah H H') {x:V}{xs:List V}(h:L2.cm H x=some xs):L2.cm H' x=some xs:=by
 obtain⟨a,rfl,q⟩:=Zv h
 exact ZB (s _ _ q)
theorem ah.yV {K:PySem.W.Frag}{H H':Hp}(s:ah H H') {x:V}(h:j7 K H x):j7 K H' x:=by
 obtain⟨T,t⟩:=h
 cases t with
 |ae=>exact⟨_,.ae⟩
 |bl y=>exact⟨_,.bl y⟩
 |int i=>exact⟨_,.int i⟩
 |str y=>exact⟨_,.str y⟩
 |jh y=>exact⟨_,.jh y⟩
 |lst e=>exact⟨_,.lst (s _ _ e)⟩
 |cK e=>exact⟨_,.cK (s _ _ e)⟩
 |tup e=>exact⟨_,.tup (s _ _ e)⟩
 |dK e=>exact⟨_,.dK (s _ _ e)⟩
 |dT e=>exact⟨_,.dT (s _ _ e)⟩
def vo:V→Bool
 | .int _=>true
 | .bl _=>true
 |_=>false
def zx:V→Bool
 | .bl _=>true
 |_=>false
theorem K7 {K:PySem.W.Frag}{H:Hp}{x:V}{T:String}(t:dG K H x (.type T)):PySem.W.kitOne K (.type T) (.type "int")=some (vo x):=by cases t<;>rfl
theorem L8 {K:PySem.W.Frag}{H:Hp}{x:V}{T:String}(t:dG K H x (.type T)):PySem.W.kitOne K (.type T) (.type "bool")=some (zx x):=by cases t<;>rfl
theorem Na {K:PySem.W.Frag}{H:Hp}{x:V}{T:String}(t:dG K H x (.type T)):PySem.W.kitOne K (.type T) (.type "tuple")=some (cm H x).isSome:=by
 cases t with
 |tup e=>rw[ZB e];rfl
 |lst e=>rw[Yt,e];rfl
 |cK e=>rw[Yt,e];rfl
 |dK e=>rw[Yt,e];rfl
 |dT e=>rw[Yt,e];rfl
 |_=>rfl
theorem Ow (x:V):whole x=(vo x&& !zx x):=by cases x<;>rfl
def Dy (i j k:Nat) (ta:TA):TS:=fun D σ H=>ta σ H fun vs H1=> ∃v w z,vs=[v,w,z]∧D.nx (((σ.set k (some z)).set j (some w)).set i (some v)) H1
theorem MK {X:Cx}{pos:Pos}{i j k:Nat}{x y z:Str}{a b c:Expr}{ta:TA}{px py pz pt:Pos}{kt k2 km} (hc:X.calm=true) (hN:X.N.Nodup) (hi:X.N[i]? =some x) (hj:X.N[j]? =some y) (hk:X.N[k]? =some z)
  (hx:X.env.scope.names.lookup x=some .local) (hy:X.env.scope.names.lookup y=some .local) (hz:X.env.scope.names.lookup z=some .local) (ha:PA X [a,b,c] ta)
  (hw:swappedStores [.Tuple [.Name x px,.Name y py,.Name z pz] kt pt] (.Tuple [a,b,c] k2 km) X.env=pure (some [x,y,z]):=by rfl)
  (hs:swapsWithSole [.Tuple [.Name x px,.Name y py,.Name z pz] kt pt] (.Tuple [a,b,c] k2 km) pos.line X.env=pure false:=by rfl):
  PS X (.Assign [.Tuple [.Name x px,.Name y py,.Name z pz] kt pt] (.Tuple [a,b,c] k2 km) pos) (Dy i j k ta):=by
 intro pins s σ H D I h
 rw[exec_Assign_arm]
 refine wpAny_bind (wpAny_standAt ?_)
 rw[hs]
 refine wpAny_bind (wpAny_pure ?_)
 rw[if_neg (by decide)]
 refine wpAny_bind (Tuple_ (av (ha _ pins s σ H _ I h) fun us s1 ⟨vs,H1,I1,r1,q1⟩=> ?_))
 obtain⟨v,w,t,e1,q1⟩:=q1
 subst e1
 obtain⟨u1,u2,u3,rfl,rv,gJ,rt⟩:∃u1 u2 u3,us=[u1,u2,u3]∧RelV v u1∧RelV w u2∧RelV t u3:=by
  cases r1 with
  |cons p q=>
   cases q with
   |cons p' q'=>
    cases q' with
    |cons E5 EV=>
     cases EV
     exact⟨_,_,_,rfl,p,p',E5⟩
 refine wpAny_newObj_type ?_ (by show 3≤sizeLine;decide)
 have I2:Inv X pins σ H1 {s1 with heap:=s1.heap.push {cls:=.type "tuple",data:=.seq [u1,u2,u3].toArray} } :=I1.kept (t':=s1.toks) fun b o e=>Heap.get?_push_of_some _ e
 rw[hw]
 refine wpAny_bind (wpAny_pure ?_)
 show wpAny (model X.prog X.w) X.A (do rule "assign.swapped-stores";let items ←unpackItems (.ref s1.heap.objs.size) 3 none;assignInOrder [fun v=>bindName X.env z v,fun v=>bindName X.env y v,fun v=>bindName X.env x v] items.reverse;pure Flow.next) _ _ _
 refine wpAny_bind (wpAny_rule (wpAny_bind (unpackItems_tuple (items:= #[u1,u2,u3]) (I.ok.hd hc) (IsTup.new s1.heap _) fun h' eU=> ?_)))
 have I3:=I2.kept (h':=h') (t':=s1.toks) fun b o e=>eU b o (Nat.ne_of_lt (Heap.lt_size e)) e
 show wpAny _ _ (assignInOrder [fun v=>bindName X.env z v,fun v=>bindName X.env y v,fun v=>bindName X.env x v] [u3,u2,u1] >>=fun _=>pure Flow.next) _ _ _
 refine wpAny_bind (assignInOrder_cons (wpAny_bindName (YC I3 hN hk (.inl hz) rt (fun s2 I4=> ?_) (.inr hz))))
 refine assignInOrder_cons (wpAny_bindName (YC I4 hN hj (.inl hy) gJ (fun s3 I5=> ?_) (.inr hy)))
 refine assignInOrder_cons (wpAny_bindName (YC I5 hN hi (.inl hx) rv (fun s4 I6=>assignInOrder_nil (wpAny_pure ?_)) (.inr hx)))
 exact⟨_,H1,I6,q1⟩
def aN (p:Addr) (H H':Hp):Prop:=∀b o,H b=some o→b≠p→H' b=some o
theorem aN.refl (p:Addr) (H:Hp):aN p H H:=fun _ _ h _=>h
theorem aN.trans {p:Addr}{H H1 H2:Hp}(a:aN p H H1) (b:aN p H1 H2):aN p H H2:=fun c o h n=>b c o (a c o h n) n
theorem ah.x {p:Addr}{H H1:Hp}(a:ah H H1):aN p H H1:=fun c o h _=>a c o h
theorem aN.upd {p:Addr}{H:Hp}{o:HO} :aN p H (L2.upd H p o):=fun b u h n=>by rw[Zg n];exact h
theorem WO {X:Cx}(hu:X.A.units<cLine):aR X (compareOp .Eq) (fun x y H Q=> ∃(a b:Addr) (xs:List V),x=.ref a∧y=.ref b∧aj X.K H a xs∧aj X.K H b []∧Q (.bl xs.isEmpty) H):=by
 intro pins s σ H x y u v Q I rx ry h
 obtain⟨a,b,xs,rfl,rfl,ha,hb,q⟩:=h
 cases rx
 cases ry
 obtain⟨aa,rv,pl,hz⟩:=I.list ha
 obtain⟨i6,eG,cw,gR⟩:=I.list hb
 cases eG
 cases rv with
 |nil=>exact SeqAt.eq_listAt (e:=fun _=>true) pl.isList cw.isList rfl hu (fun j h1 h2=>absurd h2 (by simp)) ⟨.bl true,H,I,rfl,q⟩
 |cons r t=>exact SeqAt.eq_list_lengthsAt pl.isList cw.isList (by simp) hu ⟨.bl false,H,I,rfl,q⟩
theorem rP {X:Cx}(hu:X.A.units<cLine):aR X (compareOp .NotEq) (fun x y H Q=> ∃(a b:Addr) (xs:List V),x=.ref a∧y=.ref b∧aj X.K H a xs∧aj X.K H b []∧Q (.bl (!xs.isEmpty)) H):=by
 intro pins s σ H x y u v Q I rx ry h
 obtain⟨a,b,xs,rfl,rfl,ha,hb,q⟩:=h
 cases rx
 cases ry
 obtain⟨aa,rv,pl,hz⟩:=I.list ha
 obtain⟨i6,eG,cw,gR⟩:=I.list hb
 cases eG
 cases rv with
 |nil=>exact SeqAt.RcNeAt.lists (e:=fun _=>true) pl.isList cw.isList rfl hu (fun j h1 h2=>absurd h2 (by simp)) _ _ _ _ ⟨.bl false,H,I,rfl,q⟩
 |cons r t=>exact SeqAt.RcNeAt.lists_lengths pl.isList cw.isList (by simp) hu _ _ _ _ ⟨.bl true,H,I,rfl,q⟩
section
variable {X:Cx}{pins:List (Addr×Obj)}{σ:St}{H:Hp}{s:Shared}{fp:List Addr}{h':Heap}{tk:Nat}
theorem Ws (hf:∀b∈fp,aP X pins H b) (b:Addr) (o:HO) (q:H b=some o):b∉fp:=fun hm=>by
 rw[(hf b hm).1]at q;cases q
theorem xu (I:Inv X pins σ H s) (hf:∀b∈fp,aP X pins H b) (hk:∀b o,b∉fp→s.heap.get? b=some o→h'.get? b=some o):Inv X pins σ H {s with heap:=h',toks:=tk} :=by
 refine I.call (g':=s.gens) (d':=s.drawn) (t':=tk) (h':=h') (ch:=fp) ⟨fun b o q _ _ hx=>hk b o hx q,fun b o q _ _ hx=> ⟨o.slots,hk b o hx q⟩,fun b o q n hx=>n,fun b o q hx=> ⟨o,hk b o hx q⟩,fun b ys q=>q,fun b o u q=>q,fun b ps q=> ⟨#[],by rw[q];simp⟩⟩ (fun b o q=> ?_) I.bare fun b hb=> ?_
 ·refine(I.ak b o q).bT (fun c ob br q'=>hk c ob ?_ q') (fun _ q'=>q') fun _ _ q'=>q'
  rcases br with z' |z'
  ·rw[z'];exact Ws hf b o q
  ·exact Ws hf c _ z'
 ·obtain⟨f0,f1,f2,f3,f4,f5⟩:=hf b hb
  exact⟨f3,f1,f4,f5⟩
theorem W2 {T:Addr}{x y:V}{u v:Value}(I:Inv X pins σ H s) (hf:∀b∈fp,aP X pins H b) (hk:∀b o,b∉fp→s.heap.get? b=some o→h'.get? b=some o) (cj:s.heap.objs.size≤T) (oH:h'.IsTuple T #[u,v]) (ru:RelV x u) (rv:RelV y v):
  Inv X pins σ (upd H T (.par [x,y])) {s with heap:=h',toks:=tk} :=by
 have HY:H T=none:=I.ak.fresh cj
 have neT:∀b o,s.heap.get? b=some o→b≠T:=fun b o q=>Nat.ne_of_lt (Nat.lt_of_lt_of_le (Heap.lt_size q) cj)
 have nI:∀b o,H b=some o→b≠T:=fun b o q=>Zd q HY
 refine I.call (g':=s.gens) (d':=s.drawn) (t':=tk) (h':=h') (ch:=fp) ⟨fun b o q _ _ hx=>hk b o hx q,fun b o q _ _ hx=> ⟨o.slots,hk b o hx q⟩,fun b o q n hx=>by rw[Zg (neT b o q)];exact n,fun b o q hx=> ⟨o,hk b o hx q⟩,
  fun b ys q=>by rw[Zg (nI b _ q)];exact q,fun b o u q=>by rw[Zg (nI b _ q)];exact q,fun b ps q=> ⟨#[],by rw[Zg (nI b _ q),q];simp⟩⟩ (fun b o q=> ?_) I.bare fun b hb=> ?_
 ·by_cases hb:b=T
  ·subst hb
   rw[Zc]at q
   cases q
   exact⟨by show 2≤sizeLine;decide,[u,v],.cons ru (.cons rv .nil),oH⟩
  ·rw[Zg hb]at q
   refine(I.ak b o q).bT (fun c ob br q'=>hk c ob ?_ q') (fun c q'=>by rw[Zg (nI c _ q')];exact q') fun c ys q'=>by rw[Zg (nI c _ q')];exact q'
   rcases br with z' |z'
   ·rw[z'];exact Ws hf b o q
   ·exact Ws hf c _ z'
 ·obtain⟨f0,f1,f2,f3,f4,f5⟩:=hf b hb
  exact⟨f3,f1,f4,f5⟩
end
section
variable {prog:Program}{w:World}{A:Around}{E:Value→Shared→Prop}{s:Shared}
theorem OH {j t:Addr}{i:Nat}{aa:Array Value}{x:Value}{Q:Value→Shared→Prop}(h1:s.heap.IsTupleIter j t i) (h2:s.heap.IsTuple t aa) (hx:aa[i]? =some x)
  (k:∀h',h'.IsTupleIter j t (i+1)→Heap.SameBut j s.heap h'→Q x {s with heap:=h'}):wpAny (model prog w) A (Builtin.SmallTypes.nextOf (.ref j)) Q E s:=by
 obtain⟨o,eo,co,dO⟩:=id h1
 obtain⟨ot,et,_,nt,dt⟩:=h2
 unfold Builtin.SmallTypes.nextOf
 refine wpAny_bind (wpAny_callSpecial?_slot (name:=Str.ofString "__next__") h1.typeIs F.slot_tuple_iterator_next (wpAny_call_entry F.slot_tuple_iterator_next h1.typeIs F.entry_tuple_iterator_next ?_ (F.args_tuple_iterator_next_1 _)))
 show wpAny _ _ (field (.ref j) 0 >>=_) _ _ s
 refine wpAny_bind (wpAny_field eo dO (x:=.ref t) rfl ?_)
 show wpAny _ _ (if (Value.ref t==Value.none)=true then _ else _) _ _ s
 rw[if_neg (show ¬((Value.ref t==Value.none)=true) from Bool.false_ne_true)]
 show wpAny _ _ (field (.ref j) 1 >>=_) _ _ s
 refine wpAny_bind (wpAny_field eo dO (x:=.int i 0) rfl ?_)
 show wpAny _ _ (seqItems? (.ref t) >>=_) _ _ s
 refine wpAny_bind (wpAny_seqItems et dt ?_)
 simp only[Int.toNat_natCast,hx]
 refine wpAny_bind (wpAny_setField eo dO (by simp) (wpAny_pure ⟨x,rfl,wpAny_pure (k _ ⟨_,Heap.get?_update_self _ eo (Obj.isFreed_of_fields (Obj.data_mapFields dO _)),(Obj.cls_mapFields ..).trans co,?_⟩ (Heap.SameBut.update ..))⟩))
 rw[Obj.data_mapFields dO]
 simp[rawInt]
theorem Oa {j t:Addr}{i:Nat}{aa:Array Value}{Q:Value→Shared→Prop}(hh:A.handled=none) (h1:s.heap.IsTupleIter j t i) (h2:s.heap.IsTuple t aa) (hx:aa[i]? =none)
  (k:∀h' e,Heap.ExtBut j s.heap h'→(∃o,h'.get? e=some o∧o.cls=.type "StopIteration")→E (.ref e) {s with heap:=h'}):wpAny (model prog w) A (Builtin.SmallTypes.nextOf (.ref j)) Q E s:=by
 obtain⟨o,eo,co,dO⟩:=id h1
 obtain⟨ot,et,_,nt,dt⟩:=h2
 unfold Builtin.SmallTypes.nextOf
 refine wpAny_bind (wpAny_callSpecial?_slot (name:=Str.ofString "__next__") h1.typeIs F.slot_tuple_iterator_next (wpAny_call_entry F.slot_tuple_iterator_next h1.typeIs F.entry_tuple_iterator_next ?_ (F.args_tuple_iterator_next_1 _)))
 show wpAny _ _ (field (.ref j) 0 >>=_) _ _ s
 refine wpAny_bind (wpAny_field eo dO (x:=.ref t) rfl ?_)
 show wpAny _ _ (if (Value.ref t==Value.none)=true then _ else _) _ _ s
 rw[if_neg (show ¬((Value.ref t==Value.none)=true) from Bool.false_ne_true)]
 show wpAny _ _ (field (.ref j) 1 >>=_) _ _ s
 refine wpAny_bind (wpAny_field eo dO (x:=.int i 0) rfl ?_)
 show wpAny _ _ (seqItems? (.ref t) >>=_) _ _ s
 refine wpAny_bind (wpAny_seqItems et dt ?_)
 simp only[Int.toNat_natCast,hx]
 refine wpAny_bind (wpAny_rule (wpAny_bind (wpAny_setField eo dO (by simp) ?_)))
 show wpAny _ _ (newExc (.type "StopIteration") [] >>=_) _ _ _
 refine wpAny_bind ?_
 simp only[newExc,newTuple]
 refine wpAny_bind (wpAny_newObj_type ?_ (by size_fits))
 refine wpAny_bind (m:=firstArgMember _ _) (wpAny_of_eq (a:=Value.none) (by first |rfl |(simp only[firstArgMember];rfl)) (wpAny_newObj_type ?_ (by size_fits)))
 simp only[raiseNew]
 refine wpAny_bind (wpAny_handled ?_)
 first |rw[show A.in1.handled=none from hh] |rw[hh]
 exact wpAny_bind (wpAny_pure (wpAny_throw (k _ _ (((Heap.SameBut.update ..).extBut.push _).push _) ⟨_,Heap.get?_push_size _ rfl,rfl⟩)))
end
theorem AV {prog:Program}{w:World}{A:Around}(hh:A.handled=none) (j t:Addr) (cf:t≠j) (aa:Array Value):
  Draws prog w A j [j,t] aa.size (fun i v=>aa[i]? =some v) (fun i h=>h.IsTupleIter j t i∧h.IsTuple t aa) where
 live:=fun _ _ st=>let ⟨o,ho,_⟩:=st.1;⟨o,ho⟩
 frame:=fun _ _ _ st hk=> ⟨st.1.at fun o e=>hk j (by simp) o e,st.2.at fun o e=>hk t (by simp) o e⟩
 item:=fun i s Q E hi st hQ=>OH st.1 st.2 (x:=aa[i]) (by simp[hi]) fun h' a b=>hQ _ h' s.toks (by simp[hi]) ⟨a,st.2.extBut b.extBut cf⟩ b
 done:=fun s Q E st hE=>Oa hh st.1 st.2 (by simp) hE
section
variable {prog:Program}{w:World}{A:Around}{E:Value→Shared→Prop}{s:Shared}
theorem MT (l:Addr) (aa:Array Value) (n:Nat) (rE:Option Addr) (sl:Array (Option Value)):
  Meets (Builtin.«enumerate.__new__» ⟨[.type "enumerate",.ref l],[]⟩) (fun _ R s=>s.heap.get? l=some {cls:=.type "tuple",dict:=rE,data:=.seq aa n,slots:=sl}∧
   R (.ok (.ret (.ref (s.heap.push {cls:=.type "tuple_iterator",data:=.fields #[.ref l,.int 0 0]}).objs.size)))
    {s with heap:=(s.heap.push {cls:=.type "tuple_iterator",data:=.fields #[.ref l,.int 0 0]}).push {cls:=.type "enumerate",data:=.fields #[.none,.bool false,.ref s.heap.objs.size,rawInt 0,.none,.none]} }):=
 .of_wp fun prog w A R s h=>by
  obtain⟨hp,g,d,tk,os⟩:=s
  obtain⟨hl,h⟩:=h
  have GQ:=sub_enumerate
  have hL:Heap.IsTuple (Shared.heap ⟨hp,g,d,tk,os⟩) l aa:=⟨_,hl,rfl,n,rfl⟩
  wp_walk using AutoSeq1.wpAny_loadPart' hl
  refine wpAny_stack_any fun st=>wpAny_pure ?_
  split
  ·rename_i c _ _ _ _ _
   cases (c==Value.type "enumerate")<;> (wp_walk using AutoSeq1.wpAny_loadPart' hl,wpAny_pyIter_tuple hL;exact⟨_,rfl,h⟩)
  ·wp_walk using AutoSeq1.wpAny_loadPart' hl,wpAny_pyIter_tuple hL
   exact⟨_,rfl,h⟩
theorem Ox {l:Addr}{aa:Array Value}{Q:Value→Shared→Prop}(hL:s.heap.IsTuple l aa)
  (h:∀h',IsEnum h' (s.heap.objs.size+1) s.heap.objs.size 0 .none→h'.IsTupleIter s.heap.objs.size l 0→(∀b o,s.heap.get? b=some o→h'.get? b=some o)→Q (.ref (s.heap.objs.size+1)) {s with heap:=h'}):
  wpAny (model prog w) A (call (.type "enumerate") [.ref l]) Q E s:=by
 obtain⟨⟨c,rE,dt,sl⟩,hl,hc,n,hd⟩:=hL
 replace hc:c=.type "tuple" :=hc
 replace hd:dt=.seq aa n:=hd
 subst hc hd
 refine callType_new F.called_enumerate (by decide) (F.typeCall_enumerate_1 _) (F.newCall_enumerate_1 _) (fun obj=>F.args_object_init_2 obj _) F.entry_enumerate_new (MT l aa n rE sl) ⟨hl,?_⟩
 have hz:(s.heap.push {cls:=.type "tuple_iterator",data:=.fields #[.ref l,.int 0 0]}).objs.size=s.heap.objs.size+1:=Heap.size_push ..
 show _∧_
 rw[hz]
 have he:IsEnum ((s.heap.push {cls:=.type "tuple_iterator",data:=.fields #[.ref l,.int 0 0]}).push {cls:=.type "enumerate",data:=.fields #[.none,.bool false,.ref s.heap.objs.size,rawInt 0,.none,.none]}) (s.heap.objs.size+1) s.heap.objs.size 0 .none:=by
  have q:=Heap.get?_push_size (s.heap.push {cls:=.type "tuple_iterator",data:=.fields #[.ref l,.int 0 0]}) (o:= {cls:=.type "enumerate",data:=.fields #[.none,.bool false,.ref s.heap.objs.size,rawInt 0,.none,.none]}) rfl
  rw[hz]at q
  exact q
 exact⟨⟨_,he,rfl⟩,h _ he ⟨_,Heap.get?_push_of_some _ (Heap.get?_push_size _ rfl),rfl,rfl⟩ fun b o x=>Heap.get?_push_of_some _ (Heap.get?_push_of_some _ x)⟩
end
def xI (K:PySem.W.Frag) (t:Addr):It:=
 ⟨fun i H=> ∃xs x,ag K H t xs∧xs[i]? =some x,fun i H x H'=> ∃(T:Addr) (y:V),x=.ref T∧H T=none∧H'=upd H T (.par [.int (i:Int),y])∧∀xs,ag K H t xs→xs[i]? =some y,fun i H=> ∃xs,ag K H t xs∧xs.length=i⟩
theorem NX {P:Program}{w:World}{K:PySem.W.Frag}{elts:List Expr}{kk:Nat}{pos:Pos}(t e j:Addr) (rd:e≠j) (zF:t≠e) (zE:t≠j):
  Turn P w K (.Tuple elts kk pos) (xI K t) [e,j] e (fun i h=> (∃old,IsEnum h e j i old)∧h.IsTupleIter j t i) where
 mem:=by simp
 obj:=fun i h st b hb=>by
  obtain⟨⟨old,he⟩,o,ho,hc,hd⟩:=st
  rcases List.mem_cons.mp hb with rfl |hb
  ·exact⟨_,he,fun v z=>by cases z⟩
  ·rw[List.mem_singleton.mp hb]
   exact⟨o,ho,fun v z=>by rw[hd]at z;cases z⟩
 keep:=fun i h h' st k=> ⟨let ⟨old,he⟩:=st.1;⟨old,k e (by simp) _ he⟩,st.2.at fun o q=>k j (by simp) o q⟩
 item:=by
  intro X hP hw hK hc i pins s σ H E I hf st hg
  subst hP hw hK
  obtain⟨xs,x,hq,hx⟩:=hg
  obtain⟨aa,rv,p,hz⟩:=I.tuple hq
  obtain⟨u,hu,ru⟩:=rv.get hx
  have hl:=rv.length
  have mj:i<aa.toArray.size:=by
   have:=(List.getElem?_eq_some_iff.mp hu).1
   simpa using this
  have W:=WalksT.enumerateD (prog:=X.prog) (w:=X.w) (A:=X.A) (AV (A:=X.A.in1) (show X.A.in1.handled=none from I.ok.hd hc) j t zE aa.toArray) e rd (by simp[rd,zF.symm]) (by simp)
  have hT:s.heap.IsTuple t aa.toArray:=p
  refine W.item i s _ _ mj ⟨st.1,st.2,hT⟩ fun T vals h' tk hP cj oG jR hk=> ⟨_,rfl,W.go elts kk pos i T _ _ _ jR fun eX bY fm=> ?_⟩
  obtain⟨pP,x2,nU,rfl⟩:=hP
  have nT:aa[i]? =some x2:=by simpa using nU
  rw[hu]at nT
  cases nT
  have Ao:T∉[e,j]:=W.apart _ _ _ jR
  refine⟨.ref T,upd H T (.par [.int (i:Int),x]),W2 (s:=s) (h':=eX) (tk:=tk) I hf (fun b o hb q=>fm b o hb (hk b o hb q)) cj (oG.at fun o q=>fm T o Ao q) ⟨pP,rfl⟩ ru,rfl,⟨T,x,rfl,I.ak.fresh cj,rfl,fun ys hy=>by rw[I.sJ hy hq];exact hx⟩,⟨bY.1,bY.2.1⟩,fun b hb=> ?_⟩
  rw[Zg (fun z=>Ao (by rw[←z];exact hb))]
  exact(hf b hb).1
 done:=by
  intro X hP hw hK hc i pins s σ H E I hf st hg
  subst hP hw hK
  obtain⟨xs,hq,hx⟩:=hg
  obtain⟨aa,rv,p,hz⟩:=I.tuple hq
  have hl:=rv.length
  have W:=WalksT.enumerateD (prog:=X.prog) (w:=X.w) (A:=X.A) (AV (A:=X.A.in1) (show X.A.in1.handled=none from I.ok.hd hc) j t zE aa.toArray) e rd (by simp[rd,zF.symm]) (by simp)
  have hn:i=aa.toArray.size:=by rw[List.size_toArray];omega
  have hT:s.heap.IsTuple t aa.toArray:=p
  rw[hn]at st
  exact W.done s _ _ ⟨st.1,st.2,hT⟩ fun h' tk hk=> ⟨rfl,xu (s:=s) (h':=h') (tk:=tk) I hf hk⟩
 self:=fun A i s Q E st h=>let ⟨old,he⟩:=st.1;wpAny_pyIter_enum he h
section
variable {X:Cx}{elts:List Expr}{kk:Nat}{tp:Pos}
def Gp (K:PySem.W.Frag) (ta:TA):TI:=fun σ H R=>ta σ H fun vs H1=> ∃t,vs=[.ref t]∧(∃xs,ag K H1 t xs)∧R (xI K t) H1
theorem MG {a:Expr}{ta:TA}{p pos:Pos}(hg:Gl X "enumerate") (hm:X.mg "enumerate" =none) (ha:PA X [a] ta) (hs:starEach [a] X.env=[(false,eval a X.env)]:=by rfl):PI X (.Tuple elts kk tp) (.Call (.Name "enumerate" p) [a] [] pos) (Gp X.K ta):=by
 intro pins s σ H R I h
 refine Call_ (YS I hg hm boot_enumerate (PyProof.Rows.callWith_type1 (av (ha pos pins s σ H _ I h) fun us s1 ⟨vs,H1,I1,r1,q1⟩=> ?_) hs rfl))
 obtain⟨t,e,⟨xs,hq⟩,q⟩:=q1
 subst e
 obtain⟨u,rfl,ru⟩:=vals1 r1
 cases ru
 obtain⟨aa,rv,pl,hz⟩:=I1.tuple hq
 have hT:s1.heap.IsTuple t aa.toArray:=pl
 have ht:t<s1.heap.objs.size:=by obtain⟨o,ho,_⟩:=hT;exact Heap.lt_size ho
 refine Ox hT fun h' he hj hk=>wpAny_pyIter_enum he ?_
 have I2:Inv X pins σ H1 {s1 with heap:=h'} :=I1.kept (t':=s1.toks) hk
 refine⟨s1.heap.objs.size+1,[s1.heap.objs.size+1,s1.heap.objs.size],_,_,H1,rfl,I2,NX t _ _ (Nat.succ_ne_self _) (Nat.ne_of_lt (Nat.lt_succ_of_lt ht)) (Nat.ne_of_lt ht),⟨⟨_,he⟩,hj⟩,fun b hb=> ?_,q⟩
 have hJ:s1.heap.objs.size≤b:=by
  rcases List.mem_cons.mp hb with z |z
  ·rw[z];exact Nat.le_succ _
  ·rw[List.mem_singleton.mp z];exact Nat.le_refl _
 exact I1.kN hJ (I1.ak.fresh hJ)
end
theorem N7 {K:PySem.W.Frag}{a:Addr}{xs:List V}{g:TG}{tt:TT}{ti:TC}{ys:List V}{σ:St}{H:Hp}{Q:List V→St→Hp→Prop}(Pv:Nat→List V→St→Hp→Prop) (h0:Pv 0 ys σ H)
  (hl:∀i ys σ H,i≤xs.length→Pv i ys σ H→ag K H a xs)
  (hs:∀i x T ys σ H,xs[i]? =some x→H T=none→Pv i ys σ H→g (.ref T) σ (upd H T (.par [.int (i:Int),x])) fun bq H2=>tt bq H2 fun b H3=>if b=true then ti ys bq H3 (Pv (i+1)) else Pv (i+1) ys bq H3)
  (hd:∀ys σ H,Pv xs.length ys σ H→Q ys σ H):eY g tt ti (xI K a) ys σ H Q:=by
 refine⟨fun i m ys σ H=>m=xs.length - i∧i≤xs.length∧Pv i ys σ H,⟨xs.length,by simp,Nat.zero_le _,h0⟩,?_⟩
 rintro i m ys σ H ⟨rfl,hi,p⟩
 have q:=hl i ys σ H hi p
 by_cases ay:i<xs.length
 ·refine .inr ⟨⟨xs,xs[i],q,by simp[ay]⟩,Pv (i+1),fun aU af H' p'=> ⟨xs.length - (i+1),by omega,rfl,ay,p'⟩,fun x H' y=> ?_⟩
  obtain⟨T,z,e1,e2,e3,e4⟩:=y
  subst e1 e3
  exact hs i z T ys σ H (e4 xs q) e2 p
 ·have e:i=xs.length:=by omega
  subst e
  exact .inl ⟨⟨xs,q,rfl⟩,hd ys σ H p⟩
structure Fl (P:Program) (w:World) (outer:List Env) (H:Hp) (s:Shared) (e C:Addr) (H':Hp) (s':Shared):Prop where
 os:s'.os=s.os
 bare:AllBare s'.gens
 un:Un (dQ outer) [] H H' s.heap s'.heap
 ak:bu P w H' s'.heap
 QL:∃B a0,Heap.FlyingW B outer e (.ref C) a0 s'.heap∧(∀b o,s.heap.get? b=some o→b∉dQ outer→∃u,B.get? b=some u)∧∀b o,H' b=some o→∃u,B.get? b=some u
end L2
namespace L2
open PySem PySem.Spec PyProof.Rows PySem.Builtin PySem.Builtin.ObjectAttr PySem.Builtin.Getset_descriptor
structure QV (K:PySem.W.Frag) (C:Addr):Prop where
 ga:PySem.W.findIn K (.ref C) "__getattribute__" =some (some (.builtin "BaseException.__getattribute__"))
 hook:PySem.W.findIn K (.ref C) "__getattr__" =some none
 cl:PySem.W.findIn K (.ref C) "__class__" =some (some (.builtin "object.__class__"))
 ob:PySem.W.mroIn K C (.type "object")=some true
 bx:PySem.W.mroIn K C (.type "BaseException")=some true
 cls:(PySem.W.clsIn K C).isSome=true
end L2
namespace L2
open PySem PySem.Spec PyProof.Rows
abbrev Cx.gm (X:Cx) (e:Value):Cx:= {X with A:=X.A.mark (some e),calm:=false,xe:=fun _ _=>False}
structure QR (X:Cx) (c P:Addr):Prop where
 code:X.env.code=.ref c
 hd:PySem.W.CodeHd X.base c P
 bm:∃bm ob,X.mg "__builtins__" =some (.ref bm)∧bm≠builtinsNs∧X.base.get? bm=some ob∧ob.cls=.type "module" ∧ob.dict=some builtinsNs∧ob.data=.plain
structure QP (base:Heap) (scope:Scope) (cl:List (Str×Addr)) (x y:Str) (vx vy:V):Prop where
 kx:scope.names.lookup x=some .free
 ky:scope.names.lookup y=some .free
 only:∀z,scope.names.lookup z=some .cell∨scope.names.lookup z=some .free→z=x∨z=y
 ne:x≠y
 cx:∃c u,cl.lookup x=some c∧base.IsCell c (some u)∧RelV vx u
 cy:∃c u,cl.lookup y=some c∧base.IsCell c (some u)∧RelV vy u
 mem:∀z c,cl.lookup z=some c→z=x∨z=y
 inj:∀c,cl.lookup x=some c→cl.lookup y=some c→False
inductive Lit where
 |sc (v:V)
 |tup (xs:List V)
 |lst (xs:List V)
 |rE
theorem Uz (n l1 l2:Nat) (h1:l1<n) (h2:l2<n):ZipApart (n+4) (n+2) (n+3) n (n+1) l1 l2:=by
 constructor<;>intro z<;>refine absurd (show @Eq Nat _ _ from z) ?_<;>omega
end L2
namespace L2
open PySem PySem.Spec PyProof.Rows SeqAt
def vp (items:Array Value) (x:Value) (i:Nat) (_:Option PySem.Fin×Unit):Sem (ForInStep (Option PySem.Fin×Unit)):=
 match items[i]? with
 |some y=> (do
  let b ←eqBool y x
  if b=true then (do let v ←retInt (i:Int);pure (ForInStep.done (some v,()))) else pure (ForInStep.yield (none,())))
 |_=>pure (ForInStep.yield (none,()))
theorem Ck {prog:Program}{w:World}{A:Around}{E:Value→Shared→Prop}{s:Shared}{items:Array Value}{x:Value}{e:Value→Bool}{j:Nat}{Q:Option PySem.Fin×Unit→Shared→Prop}(hj:j<items.size) (hit:e items[j]=true) (iK:∀m (hm:m<items.size),m<j→e items[m]=false)
  (he:∀y,y∈items→EqAt A s y x (e y)) (h:Q (some (.done (.ret (.int j s.toks))),()) {s with toks:=s.toks+1}):
  ∀k i,i+k=items.size→i≤j→wpAny (model prog w) A (forIn (List.range' i k) ((none:Option PySem.Fin),()) (vp items x)) Q E s
 |0,i,hk,hi=>by omega
 |k+1,i,hk,hi=>by
  have ay:i<items.size:=by omega
  rw[List.range'_succ,List.forIn_cons]
  refine wpAny_bind ?_
  unfold vp
  rw[Array.getElem?_eq_getElem ay]
  refine wpAny_bind (he _ (Array.getElem_mem ay) prog w _ _ ?_)
  by_cases bV:i=j
  ·subst bV
   rw[hit,if_pos rfl]
   refine wpAny_bind ?_
   wp_walk
   exact h
  ·rw[iK i ay (by omega),if_neg Bool.false_ne_true]
   refine wpAny_pure ?_
   exact Ck hj hit iK he h k (i+1) (by omega) (by omega)
theorem Up (l:Addr) (items:Array Value) (n:Nat) (dd:Option Addr) (sl:Array (Option Value)) (x:Value) (e:Value→Bool) (j:Nat) (hj:j<items.size) (hit:e items[j]=true) (iK:∀m (hm:m<items.size),m<j→e items[m]=false):
  Meets (Builtin.«tuple.index» ⟨[.ref l,x],[]⟩)
   (fun A R s=>s.heap.get? l=some {cls:=.type "tuple",dict:=dd,data:=.seq items n,slots:=sl}∧(∀y,y∈items→EqAt A.in1 s y x (e y))∧R (.ok (.ret (.int j s.toks))) {s with toks:=s.toks+1}):=
 .of_wp fun prog w A R s h=>by
  obtain⟨hp,g,d,tk,os⟩:=s;obtain⟨hl,he,h⟩:=h
  wp_walk using AutoSeq1.wpAny_loadPart' hl
  show wpAny (model prog w) A.in1 (forIn (m:=Sem) [:min items.size items.size] ((none:Option PySem.Fin),()) (vp items x)) _ _ _
  rw[Std.Legacy.Range.forIn_eq_forIn_range']
  refine Ck hj hit iK he ?_ _ _ (by simp[Std.Legacy.Range.size]) (Nat.zero_le _)
  exact wpAny_pure ⟨_,rfl,h⟩
def EC (K:PySem.W.Frag):V→List V→Hp→VK→Prop:=fun v vs H Q=> ∃(a:Addr) (xs:List V) (x:V) (j:Nat),v=.ref a∧vs=[x]∧ag K H a xs∧dR x=true∧xs.all dR=true∧(∃y,xs[j]? =some y∧bD y x=true)∧(∀m y,m<j→xs[m]? =some y→bD y x=false)∧Q (.int (j:Int)) H
theorem Ng {X:Cx} :xD X "tuple.index" (EC X.K):=by
 intro pins s σ H v vs u us Q I rv uO h
 obtain⟨a,xs,x,j,rfl,rfl,hq,fx,fs,⟨y,hy,ey⟩,iK,q⟩:=h
 cases rv
 obtain⟨ux,rfl,rx⟩:=vals1 uO
 obtain⟨aa,r,pl,hz⟩:=I.tuple hq
 obtain⟨o,ho,hc,n,hd⟩:=id pl
 obtain⟨cls,dd,dt,sl⟩:=o
 replace hc:cls=.type "tuple" :=hc
 replace hd:dt=.seq aa.toArray n:=hd
 subst hc hd
 obtain⟨uy,GD,Qj⟩:=r.get hy
 have mh:j<aa.length:=(List.getElem?_eq_some_iff.mp GD).1
 have o8:∀k (hk:k<aa.length),∃z,xs[k]? =some z∧RelV z aa[k]:=fun k hk=>by
  have fk:k<xs.length:=by rw[r.length];exact hk
  obtain⟨w,hw,gJ⟩:=r.get (List.getElem?_eq_getElem fk)
  rw[List.getElem?_eq_getElem hk]at hw
  cases hw
  exact⟨_,List.getElem?_eq_getElem fk,gJ⟩
 have eqs:∀(A:Around) (k:Nat) (hk:k<aa.length) z,xs[k]? =some z→EqAt A s aa[k] ux (bD z x):=fun A k hk z fg=>by
  obtain⟨z',gR,rz⟩:=o8 k hk
  rw[fg]at gR
  cases gR
  exact Bj rz rx (List.all_eq_true.mp fs z (List.mem_of_getElem? fg)) fx
 have vd:∀k l' (hk:k<aa.length) (hl:l'<aa.length) zk zl,xs[k]? =some zk→xs[l']? =some zl→aa[k]=aa[l']→bD zk x=bD zl x:=fun k l' hk hl zk zl h1 h2 he=>by
  obtain⟨z1,e1,r1⟩:=o8 k hk
  obtain⟨z2,e2,r2⟩:=o8 l' hl
  rw[h1]at e1;rw[h2]at e2
  cases e1;cases e2
  rw[he]at r1
  have f1:=List.all_eq_true.mp fs zk (List.mem_of_getElem? h1)
  have f2:=List.all_eq_true.mp fs zl (List.mem_of_getElem? h2)
  have:zk=zl:=by
   generalize aa[l']=val at r1 r2
   cases zk<;>cases zl<;>first
    |rfl
    |(exact absurd f1 Bool.false_ne_true)
    |(exact absurd f2 Bool.false_ne_true)
    |(cases r1;cases r2;rfl)
    |(cases r1;cases r2;done)
    |(obtain⟨_,rfl⟩:=r1;obtain⟨_,e⟩:=r2;cases e;rfl)
    |(obtain⟨_,rfl⟩:=r1;obtain⟨_,e⟩:=r2;cases e;done)
    |(obtain⟨_,rfl⟩:=r1;cases r2;done)
    |(cases r1;obtain⟨_,e⟩:=r2;cases e;done)
  rw[this]
 classical
 refine call_meets F.slot_tuple_index ⟨_,ho,rfl⟩ F.entry_tuple_index (F.args_tuple_index_2 _ _)
  (Up a aa.toArray n dd sl ux (fun val=>decide (∃(k:Nat) (z:V),aa[k]? =some val∧xs[k]? =some z∧bD z x=true)) j (by simpa using mh) ?_ ?_) ⟨ho,fun val GB=> ?_,?_⟩
 ·refine decide_eq_true ⟨j,y,?_,hy,ey⟩
  simp[mh]
 ·intro m hm Hi
  refine decide_eq_false ?_
  rintro⟨k,z,hk,fg,ez⟩
  have om:m<aa.length:=by simpa using hm
  obtain⟨zm,zy,_⟩:=o8 m om
  have aS:=(List.getElem?_eq_some_iff.mp hk)
  obtain⟨jT,oq⟩:=aS
  have e2:=vd k m jT om z zm fg zy (by rw[oq];simp)
  rw[ez,iK m zm Hi zy]at e2
  cases e2
 ·have GA:val∈aa:=by simpa using GB
  obtain⟨k,jT,oq⟩:=List.getElem_of_mem GA
  obtain⟨z,fg,rz⟩:=o8 k jT
  have ee:=eqs X.A.in1 k jT z fg
  rw[oq]at ee
  have:decide (∃(k:Nat) (z:V),aa[k]? =some val∧xs[k]? =some z∧bD z x=true)=bD z x:=by
   cases hb:bD z x with
   |true=>exact decide_eq_true ⟨k,z,by rw[List.getElem?_eq_getElem jT,oq],fg,hb⟩
   |false=>
    refine decide_eq_false ?_
    rintro⟨k2,z2,h1,h2,h3⟩
    obtain⟨dB,HF⟩:=List.getElem?_eq_some_iff.mp h1
    have:=vd k2 k dB jT z2 z h2 fg (by rw[HF,oq])
    rw[h3,hb]at this
    cases this
  rw[this]
  exact ee
 ·exact⟨.int (j:Int),H,I.tok _,⟨_,rfl⟩,q⟩
theorem Y8 {α β:Type}{F:α→β→Prop} :∀{jL:List α}{jK:List β}{i:Nat}{x:α},Paired F jL jK→jL[i]? =some x→∃y,jK[i]? =some y∧F x y
 |_,_,_,_,.nil,h=>by simp at h
 |_,_,0,_,.cons r _,h=>by simp at h;subst h;exact⟨_,rfl,r⟩
 |_,_,i+1,_,.cons _ t,h=>by
  obtain⟨y,e,q⟩:=Y8 t (i:=i) (by simpa using h)
  exact⟨y,by simpa using e,q⟩
theorem oR {α β:Type}{f g:α→Option β} :∀{l:List α},(∀x∈l,f x=g x)→l.filterMap f=l.filterMap g
 | [],_=>rfl
 |a::l,h=>by
  rw[List.filterMap_cons,List.filterMap_cons,h a List.mem_cons_self,oR fun x hx=>h x (List.mem_cons_of_mem _ hx)]
section
variable {prog:Program}{w:World}{A:Around}{E:Value→Shared→Prop}{s:Shared}
theorem Nu (xs:Array Value):((List.range xs.size).filterMap fun(k:Nat)=>xs[(((xs.size:Int) - 1)+(k:Int)*(-1)).toNat]?)=xs.toList.reverse:=by
 have e:((List.range xs.size).filterMap fun(k:Nat)=>xs[(((xs.size:Int) - 1)+(k:Int)*(-1)).toNat]?)=(((List.range xs.size).map fun k=>xs.size - 1 - k).filterMap fun m=>xs[m]?):=by
  rw[List.filterMap_map]
  refine oR ?_
  intro k hk
  have:=List.mem_range.mp hk
  have e2:(((xs.size:Int) - 1)+(k:Int)*(-1)).toNat=xs.size - 1 - k:=by omega
  show xs[_]? =xs[_]?
  rw[e2]
 rw[e,PySem.W.krv_range,List.filterMap_reverse,PySem.W.krv_all]
theorem JP {t sl:Addr}{items:Array Value}{tk:Tok}{Q:Value→Shared→Prop}(ht:IsTup s.heap t items) (hs:s.heap.IsSliceOf sl .none .none (.int (-1) tk))
  (h:Q (.ref s.heap.objs.size) {s with heap:=s.heap.push {cls:=.type "tuple",data:=.seq items.toList.reverse.toArray} }) (hsz:items.size≤sizeLine):wpAny (model prog w) A (getItem (.ref t) (.ref sl)) Q E s:=by
 have i7:sizeOk (.seq items.toList.reverse.toArray):=by
  show items.toList.reverse.toArray.size≤sizeLine
  simpa using hsz
 obtain⟨os,gk,mw,jc⟩:=id hs
 have cj:s.TypeIs (.ref sl) "slice" :=⟨os,gk,mw⟩
 unfold getItem
 try with_reducible refine wpAny_holding ?_
 first |refine wpAny_bind (wpAny_pure ?_) |skip
 refine wpAny_bind (wpAny_sequenceKey ht.typeIs (by decide) ?_)
 refine wpAny_bind (wpAny_callSpecial?_slot (name:=Str.ofString "__getitem__") ht.typeIs PyProof.Rows.slot_tuple_getitem
  (wpAny_call_entry PyProof.Rows.slot_tuple_getitem ht.typeIs entry_tuple_getitem ?_ (args_tuple_getitem _ _)))
 show wpAny _ _ (Builtin.Tuple.tupleItemsOf (.ref t) >>=_) _ _ s
 refine wpAny_bind (tupleItemsOf_ ht ?_)
 refine wpAny_bind (wpAny_typeOf cj ?_)
 rw[if_pos (by decide)]
 unfold Builtin.Slice.sliceApplied Builtin.Slice.sliceFields
 refine wpAny_bind (wpAny_bind (wpAny_bind (wpAny_field gk jc (x:=.none) rfl (wpAny_bind (wpAny_field gk jc (x:=.none) rfl (wpAny_bind (wpAny_field gk jc (x:=.int (-1) tk) rfl (wpAny_pure ?_))))))))
 refine wpAny_bind (slicePart_int ?_)
 show wpAny _ _ (if ((-1:Int)==0)=true then _ else _) _ _ s
 rw[if_neg (by decide)]
 refine wpAny_bind (slicePart_none (wpAny_bind (slicePart_none (wpAny_bind (wpAny_pure ?_)))))
 have iQ:Builtin.Slice.sliceAdjust none none (-1) (items.size:Int)=((items.size:Int) - 1, -1):=rfl
 have EY:Builtin.Slice.slicePlaces ((items.size:Int) - 1) (-1) (-1)=items.size:=by
  unfold Builtin.Slice.slicePlaces
  rw[if_neg (by decide)]
  by_cases h0:items.size=0
  ·rw[h0];rfl
  ·rw[if_pos (by omega)]
   have e:((items.size:Int) - 1 - -1 - 1)/(- -1)=(items.size:Int) - 1:=by
    rw[show(- -1:Int)=1 by decide,Int.ediv_one]
    omega
   rw[e]
   omega
 show wpAny _ _ (match Builtin.Slice.sliceAdjust none none (-1) (items.size:Int) with |(lo,hi)=>pure (lo,(-1:Int),Builtin.Slice.slicePlaces lo hi (-1))) _ _ s
 rw[iQ]
 show wpAny _ _ (pure ((items.size:Int) - 1,(-1:Int),Builtin.Slice.slicePlaces ((items.size:Int) - 1) (-1) (-1))) _ _ s
 rw[EY]
 refine wpAny_pure ?_
 have iK:¬((((items.size:Int) - 1)==0&&(-1:Int)==1&&items.size==items.size)=true):=by
  intro q
  rw[Bool.and_eq_true,Bool.and_eq_true]at q
  exact absurd q.1.2 (by decide)
 show wpAny _ _ (if (((items.size:Int) - 1)==0&&(-1:Int)==1&&items.size==items.size)=true then _ else _) _ _ s
 rw[if_neg iK,Nu]
 first
  |exact wpAny_bind (m:=Builtin.Tuple.tupleExact _) (wpAny_newObj_type (wpAny_pure ⟨_,rfl,wpAny_pure h⟩) i7)
  |exact wpAny_bind (m:=Builtin.Tuple.tupleExact _) (wpAny_newObj_type (wpAny_bind (wpAny_pure (wpAny_pure ⟨_,rfl,wpAny_pure h⟩))) i7)
  |exact wpAny_bind (wpAny_bind (m:=Builtin.Tuple.tupleExact _) (wpAny_newObj_type (wpAny_pure (wpAny_pure ⟨_,rfl,wpAny_pure h⟩)) i7))
  |exact wpAny_bind (wpAny_bind (m:=Builtin.Tuple.tupleExact _) (wpAny_newObj_type (wpAny_pure ⟨_,rfl,wpAny_pure h⟩) i7))
end
section
variable {X:Cx}{e:Expr}{te:TE}{p1 p2 p3 pos:Pos}{j:Nat}
def yf (K:PySem.W.Frag) (te:TE):TE:=fun σ H Q=>te σ H fun x H1=> ∃a xs,x=.ref a∧ag K H1 a xs∧∀p,H1 p=none→Q (.ref p) (upd H1 p (.tup xs.reverse))
theorem CM:∀{xs:List V}{us:List Value},Vals xs us→Vals xs.reverse us.reverse
 |_,_,.nil=> .nil
 |_,_,.cons r t=>by
  rw[List.reverse_cons,List.reverse_cons]
  exact(CM t).append (.cons r .nil)
theorem BO (he:PE X e te):PE X (.Subscript e (.Slice none none (some (.UnaryOp .USub (.Constant (.int 1) j p1) p2)) p3) pos) (yf X.K te):=by
 intro pins s σ H Q I h
 refine Subscript_ (av (he pins s σ H _ I h) fun v s1 ⟨x,H1,I1,r1,a,xs,ex,hq,q⟩=> ?_)
 subst ex
 cases r1
 refine wpAny_Slice ?_
 rw[evalPart_none]
 refine wpAny_pure (wpAny_pure ?_)
 rw[evalPart_some]
 refine av (LO LK Zh pins s1 σ H1 (fun v H2=>v=.int (-1)∧H2=H1) I1 ⟨_,rfl,rfl,rfl⟩) fun vk s2 ⟨y,H2,I2,r2,ey,eh⟩=> ?_
 subst ey eh
 obtain⟨tk,rfl⟩:=r2
 have I4:Inv X pins σ H2 {s2 with heap:=s2.heap.push {cls:=.type "slice",data:=.fields #[.none,.none,.int (-1) tk]} } :=I2.kept (t':=s2.toks) fun b ob q=>Heap.get?_push_of_some _ q
 obtain⟨aa,r,pl,hz⟩:=I4.tuple hq
 refine tail_any (ops:=[.ref a,.ref s2.heap.objs.size]) pl.typeIs PyProof.Rows.slot_tuple_getitem.lookup ?_ (by with_unfolding_all rfl)
 have hsz:aa.toArray.size≤sizeLine:=by rw[List.size_toArray,←r.length];exact hz
 refine JP pl (Heap.IsSliceOf.new ..) ?_ hsz
 refine⟨.ref _,_,I4.laid (a:=(s2.heap.push {cls:=.type "slice",data:=.fields #[.none,.none,.int (-1) tk]}).objs.size) (o:=.tup xs.reverse) (t':=s2.toks) (fun b u z=>Heap.get?_push_of_some _ z) (Nat.le_refl _) ⟨by rw[List.length_reverse];exact hz,aa.reverse,CM r,⟨_,Heap.get?_push_size _ rfl,rfl,0,(by show Data.seq aa.toArray.toList.reverse.toArray 0=Data.seq aa.reverse.toArray 0;simp)⟩,_,Heap.get?_push_size _ rfl,rfl⟩,rfl,q _ (I4.ak.fresh (Nat.le_refl _))⟩
end
section
variable {X:Cx}
theorem JE:∀{us:List Value}{ns:List Int},IntsAre us ns→Vals (ns.map V.int) us
 |_,_,.nil=> .nil
 |_,_,.cons _ _ h=> .cons ⟨_,rfl⟩ (JE h)
theorem YB {ns:List Int}{us:List Value}(r:Vals (ns.map V.int) us) (j:Nat) (h:j<us.length):∃t,us[j]=.int (ns.getD j 0) t:=by
 have hl:=r.length
 rw[List.length_map]at hl
 have hj:j<ns.length:=by omega
 obtain⟨u,hu,t,ru⟩:=r.get (i:=j) (x:=.int ns[j]) (by rw[List.getElem?_map,List.getElem?_eq_getElem hj];rfl)
 rw[List.getElem?_eq_getElem h]at hu
 cases hu
 exact⟨t,by rw[ru];simp[hj]⟩
theorem U5 {x:V} :∀{xs:List V}{us:List Value},Vals xs us→xs.all dR=true→us.countP (dC x)=xs.countP fun y=>bD y x
 |_,_,.nil,_=>rfl
 |y::xs,u::us,.cons r t,f=>by
  rw[List.all_cons,Bool.and_eq_true]at f
  rw[List.countP_cons,List.countP_cons,wV r f.1,U5 t f.2]
end
end L2
namespace L2
open PySem PySem.Spec PyProof.Rows
structure One (base:Heap) (scope:Scope) (cl:List (Str×Addr)) (x:Str) (vx:V):Prop where
 kx:scope.names.lookup x=some .free
 only:∀z,scope.names.lookup z=some .cell∨scope.names.lookup z=some .free→z=x
 cx:∃c u,cl.lookup x=some c∧base.IsCell c (some u)∧RelV vx u
 mem:∀z c,cl.lookup z=some c→z=x
structure Src (prog:Program) (w:World) (i l:Addr) (n:Nat) (f:Nat→Value) (S:Nat→Heap→Prop):Prop where
 here:∀k h,S k h→∃o,h.get? i=some o
 bT:∀k h h',S k h→(∀c,c=i∨c=l→∀o,h.get? c=some o→h'.get? c=some o)→S k h'
 item:∀(A:Around) k (s:Shared) (Q:Value→Shared→Prop) (E:Value→Shared→Prop),k<n→S k s.heap→(∀h',S (k+1) h'→Heap.SameBut i s.heap h'→Q (f k) {s with heap:=h'})→wpAny (model prog w) A (Builtin.SmallTypes.nextOf (.ref i)) Q E s
 stop:∀(A:Around) (s:Shared) (Q:Value→Shared→Prop) (E:Value→Shared→Prop),A.handled=none→S n s.heap→(∀h' e,Heap.ExtBut i s.heap h'→(∃o,h'.get? e=some o∧o.cls=.type "StopIteration")→E (.ref e) {s with heap:=h'})→wpAny (model prog w) A (Builtin.SmallTypes.nextOf (.ref i)) Q E s
theorem UE (prog:Program) (w:World) {i l:Addr}(aa:Array Value) (cf:l≠i):Src prog w i l aa.size (fun k=>aa.getD k .none) (fun k h=>IsTupIter h i l k∧IsTup h l aa) where
 here:=fun k h ⟨⟨o,ho,_⟩,_⟩=> ⟨o,ho⟩
 bT:=fun k h h' ⟨⟨o,ho,r⟩,⟨u,hu,r'⟩⟩ st=> ⟨⟨o,st i (.inl rfl) o ho,r⟩,⟨u,st l (.inr rfl) u hu,r'⟩⟩
 item:=fun A k s Q E hk ⟨hi,ht⟩ q=>by
  obtain⟨oi,gi,ci,di⟩:=id hi
  obtain⟨ot,gt,ct,nt,dt⟩:=id ht
  have hx:aa[k]? =some (aa.getD k .none):=by simp[hk]
  unfold Builtin.SmallTypes.nextOf
  refine wpAny_bind (wpAny_callSpecial?_slot (name:=Str.ofString "__next__") hi.typeIs slot_tupleiter_next (wpAny_call_entry slot_tupleiter_next hi.typeIs entry_tupleiter_next ?_ (args_tupleiter_next _)))
  refine(show wpAny _ _ (field (.ref i) 0 >>=_) _ _ s from wpAny_bind (wpAny_field gi di (x:=.ref l) rfl ?_))
  refine(show wpAny _ _ (if (Value.ref l==Value.none)=true then _ else _) _ _ s from ?_)
  rw[if_neg (by exact Bool.false_ne_true)]
  refine(show wpAny _ _ (field (.ref i) 1 >>=_) _ _ s from wpAny_bind (wpAny_field gi di (x:=.int k 0) rfl ?_))
  refine(show wpAny _ _ (seqItems? (.ref l) >>=_) _ _ s from wpAny_bind (wpAny_seqItems gt dt ?_))
  simp only[Int.toNat_natCast,hx]
  refine wpAny_bind (wpAny_setField gi di (by simp) (wpAny_pure ⟨_,rfl,wpAny_pure (q _ ⟨⟨_,Heap.get?_update_self _ gi (Obj.isFreed_of_fields (Obj.data_mapFields di _)),(Obj.cls_mapFields ..).trans ci,?_⟩,?_⟩ (Heap.SameBut.update ..))⟩))
  ·rw[Obj.data_mapFields di];simp[rawInt]
  ·exact⟨ot,(Heap.SameBut.update ..).extBut _ _ cf gt,ct,nt,dt⟩
 stop:=fun A s Q E hh ⟨hi,ht⟩ q=>by
  obtain⟨oi,gi,ci,di⟩:=id hi
  obtain⟨ot,gt,ct,nt,dt⟩:=id ht
  have hx:aa[aa.size]? =none:=by simp
  unfold Builtin.SmallTypes.nextOf
  refine wpAny_bind (wpAny_callSpecial?_slot (name:=Str.ofString "__next__") hi.typeIs slot_tupleiter_next (wpAny_call_entry slot_tupleiter_next hi.typeIs entry_tupleiter_next ?_ (args_tupleiter_next _)))
  refine(show wpAny _ _ (field (.ref i) 0 >>=_) _ _ s from wpAny_bind (wpAny_field gi di (x:=.ref l) rfl ?_))
  refine(show wpAny _ _ (if (Value.ref l==Value.none)=true then _ else _) _ _ s from ?_)
  rw[if_neg (by exact Bool.false_ne_true)]
  refine(show wpAny _ _ (field (.ref i) 1 >>=_) _ _ s from wpAny_bind (wpAny_field gi di (x:=.int aa.size 0) rfl ?_))
  refine(show wpAny _ _ (seqItems? (.ref l) >>=_) _ _ s from wpAny_bind (wpAny_seqItems gt dt ?_))
  simp only[Int.toNat_natCast,hx]
  refine wpAny_bind (wpAny_rule (wpAny_bind (wpAny_setField gi di (by simp) ?_)))
  refine(show wpAny _ _ (newExc (.type "StopIteration") [] >>=_) _ _ _ from wpAny_bind ?_)
  simp only[newExc,newTuple]
  refine wpAny_bind (wpAny_newObj_type ?_ (by size_fits))
  refine wpAny_bind (m:=firstArgMember _ _) (wpAny_of_eq (a:=Value.none) (by first |rfl |(simp only[firstArgMember];rfl)) ?_)
  refine wpAny_newObj_type ?_ (by size_fits)
  simp only[raiseNew]
  refine wpAny_bind (wpAny_handled ?_)
  first |rw[show A.in1.handled=none from hh] |rw[hh]
  refine wpAny_bind (wpAny_pure (wpAny_throw ?_))
  exact q _ _ (((Heap.SameBut.update ..).extBut.push _).push _) ⟨_,Heap.get?_push_size _ rfl,rfl⟩
section
variable {prog:Program}{w:World}{A:Around}{E:Value→Shared→Prop}{s:Shared}{z TI TO i1 i2 l1 l2:Addr}{n k:Nat}{f g:Nat→Value}{S1 S2:Nat→Heap→Prop}
theorem Mv {a b:Value}{Q:Value→Shared→Prop}(U1:Src prog w i1 l1 n f S1) (U2:Src prog w i2 l2 n g S2) (D:ZipApart z TI TO i1 i2 l1 l2) (hk:k<n) (hz:IsZip s.heap z TI TO .none) (hI:IsPair s.heap TI (.ref i1) (.ref i2)) (hO:IsPair s.heap TO a b) (h1:S1 k s.heap) (h2:S2 k s.heap)
    (q:∀h',IsZip h' z TI TO (rawInt s.heap.objs.size)→IsPair h' TO (f k) (g k)→S1 (k+1) h'→S2 (k+1) h'→IsPair h' s.heap.objs.size (f k) (g k)→h'.objs.size=s.heap.objs.size+1→
      (∀c o,c≠z→c≠TO→c≠i1→c≠i2→s.heap.get? c=some o→h'.get? c=some o)→Q (.ref s.heap.objs.size) {s with heap:=h'}):
    wpAny (model prog w) A (Builtin.«zip.__next__» ⟨[.ref z],[]⟩) (fun fin s'=> ∃v,fin=.done (.ret v)∧Q v s') E s:=by
  refine(show wpAny _ _ (field (.ref z) 2 >>=_) _ _ _ from wpAny_bind (wpAny_field hz rfl (x:=.bool false) rfl ?_))
  refine(show wpAny _ _ (field (.ref z) 3 >>=_) _ _ _ from wpAny_bind (wpAny_field hz rfl (x:=.ref TI) rfl (wpAny_bind (wpAny_seqItems hI rfl ?_))))
  refine(show wpAny _ _ (Builtin.SmallTypes.ownedTupleIsFree (.ref z) >>=_) _ _ _ from wpAny_bind ?_)
  unfold Builtin.SmallTypes.ownedTupleIsFree
  refine wpAny_bind (wpAny_field hz rfl (x:=.none) rfl (wpAny_pure ?_))
  simp only[if_true]
  refine wpAny_bind (wpAny_rule (wpAny_bind (wpAny_field hz rfl (x:=.ref TO) rfl (wpAny_bind (wpAny_setField_rec hz (by simp) fun m1 ka e1=> ?_)))))
  replace ka:IsZip m1 z TI TO .ellipsis:=ka
  have b1:=e1.extBut
  refine wpAny_bind ?_
  simp only[List.zipIdx_cons,List.zipIdx_nil,List.forIn_cons,List.forIn_nil]
  refine wpAny_bind (wpAny_bind (wpAny_onRaise ?_))
  have aw:S1 k m1:=U1.bT _ _ _ h1 fun c hc o ho=>by rcases hc with rfl |rfl<;>first |exact b1 _ _ D.i1z ho |exact b1 _ _ D.l1z ho
  refine(show wpAny _ _ (Builtin.SmallTypes.nextOf (.ref i1) >>=_) _ _ _ from wpAny_bind (U1.item _ k _ _ _ hk aw fun m2 au e2=>wpAny_pure ?_))
  have b2:=e2.extBut
  have o2:IsPair m2 TO a b:=b2 _ _ D.TOi1 (b1 _ _ D.TOz hO)
  refine wpAny_bind (wpAny_seqItems o2 rfl (wpAny_bind (wpAny_updateSeq_pair o2 fun m3 o3 e3=> ?_)))
  replace o3:IsPair m3 TO (f k) b:=o3
  have b3:=e3.extBut
  refine wpAny_bind (wpAny_letGo (wpAny_pure (wpAny_bind (wpAny_bind (wpAny_onRaise ?_)))))
  have w3:S2 k m3:=U2.bT _ _ _ h2 fun c hc o ho=>by
    rcases hc with rfl |rfl
    · exact b3 _ _ D.TOi2.symm (b2 _ _ D.i12.symm (b1 _ _ D.i2z ho))
    · exact b3 _ _ D.l2TO (b2 _ _ D.l2i1 (b1 _ _ D.l2z ho))
  refine(show wpAny _ _ (Builtin.SmallTypes.nextOf (.ref i2) >>=_) _ _ _ from wpAny_bind (U2.item _ k _ _ _ hk w3 fun m4 w4 e4=>wpAny_pure ?_))
  have b4:=e4.extBut
  have o4:IsPair m4 TO (f k) b:=b4 _ _ D.TOi2 o3
  refine wpAny_bind (wpAny_seqItems o4 rfl (wpAny_bind (wpAny_updateSeq_pair o4 fun m5 o5 e5=> ?_)))
  replace o5:IsPair m5 TO (f k) (g k):=o5
  have b5:=e5.extBut
  refine wpAny_bind (wpAny_letGo (wpAny_pure (wpAny_pure (wpAny_bind (wpAny_seqItems o5 rfl (wpAny_bind (wpAny_newTuple ?_)))))))
  have sz:m5.objs.size=s.heap.objs.size:=by rw[e5.1,e4.1,e3.1,e2.1,e1.1]
  have z5:IsZip m5 z TI TO .ellipsis:=b5 _ _ D.TOz.symm (b4 _ _ D.i2z.symm (b3 _ _ D.TOz.symm (b2 _ _ D.i1z.symm ka)))
  have kp:∀c o,c≠z→c≠TO→c≠i1→c≠i2→s.heap.get? c=some o→m5.get? c=some o:=fun c o c1 c2 c3 c4 e=>b5 _ _ c2 (b4 _ _ c4 (b3 _ _ c2 (b2 _ _ c3 (b1 _ _ c1 e))))
  have cP:S1 (k+1) m5:=U1.bT _ _ _ au fun c hc o ho=>by
    rcases hc with rfl |rfl
    · exact b5 _ _ D.TOi1.symm (b4 _ _ D.i12 (b3 _ _ D.TOi1.symm ho))
    · exact b5 _ _ D.l1TO (b4 _ _ D.l1i2 (b3 _ _ D.l1TO ho))
  have w5:S2 (k+1) m5:=U2.bT _ _ _ w4 fun c hc o ho=>by rcases hc with rfl |rfl<;>first |exact b5 _ _ D.TOi2.symm ho |exact b5 _ _ D.l2TO ho
  have xX:z<m5.objs.size:=Heap.lt_size z5
  refine(show wpAny _ _ (Builtin.SmallTypes.ownedTupleHandOut (.ref z) (.ref m5.objs.size) >>=_) _ _ _ from wpAny_bind ?_)
  unfold Builtin.SmallTypes.ownedTupleHandOut
  have z6:IsZip (m5.push {cls:=.type "tuple",data:=.seq #[f k,g k]}) z TI TO .ellipsis:=Heap.get?_push_of_some _ z5
  refine wpAny_bind (wpAny_setField_rec z6 (by simp) fun m7 z7 e7=> ?_)
  replace z7:IsZip m7 z TI TO (rawInt m5.objs.size):=z7
  refine wpAny_setField_rec z7 (by simp) fun m8 z8 e8=> ?_
  replace z8:IsZip m8 z TI TO (rawInt m5.objs.size):=z8
  have up:∀c o,c≠z→m5.get? c=some o→m8.get? c=some o:=fun c o c1 e=>e8.extBut _ _ c1 (e7.extBut _ _ c1 (Heap.get?_push_of_some _ e))
  have t8:IsPair m8 m5.objs.size (f k) (g k):=e8.extBut _ _ (Nat.ne_of_gt xX) (e7.extBut _ _ (Nat.ne_of_gt xX) (Heap.get?_push_size _ rfl))
  have s8:m8.objs.size=m5.objs.size+1:=by rw[e8.1,e7.1,Heap.size_push]
  rw[sz]at z8 t8 s8
  refine wpAny_pure ⟨_,rfl,?_⟩
  show Q (.ref m5.objs.size) _
  rw[sz]
  refine q m8 z8 (up _ _ D.TOz o5) (U1.bT _ _ _ cP fun c hc o ho=> ?_) (U2.bT _ _ _ w5 fun c hc o ho=> ?_) t8 s8 fun c o c1 c2 c3 c4 e=>up c o c1 (kp c o c1 c2 c3 c4 e)
  · rcases hc with rfl |rfl<;>first |exact up _ _ D.i1z ho |exact up _ _ D.l1z ho
  · rcases hc with rfl |rfl<;>first |exact up _ _ D.i2z ho |exact up _ _ D.l2z ho
theorem LL {a b:Value}{Q:PySem.Fin→Shared→Prop}(hh:A.handled=none) (U1:Src prog w i1 l1 n f S1) (D:ZipApart z TI TO i1 i2 l1 l2) (hz:IsZip s.heap z TI TO .none) (hI:IsPair s.heap TI (.ref i1) (.ref i2)) (hO:IsPair s.heap TO a b) (h1:S1 n s.heap)
  (q:∀h' e,(∀c o,c≠z→c≠TO→c≠i1→c≠i2→s.heap.get? c=some o→h'.get? c=some o)→(∃o,h'.get? e=some o∧o.cls=.type "StopIteration")→E (.ref e) {s with heap:=h'}):
  wpAny (model prog w) A (Builtin.«zip.__next__» ⟨[.ref z],[]⟩) Q E s:=by
 refine(show wpAny _ _ (field (.ref z) 2 >>=_) _ _ _ from wpAny_bind (wpAny_field hz rfl (x:=.bool false) rfl ?_))
 refine(show wpAny _ _ (field (.ref z) 3 >>=_) _ _ _ from wpAny_bind (wpAny_field hz rfl (x:=.ref TI) rfl (wpAny_bind (wpAny_seqItems hI rfl ?_))))
 refine(show wpAny _ _ (Builtin.SmallTypes.ownedTupleIsFree (.ref z) >>=_) _ _ _ from wpAny_bind ?_)
 unfold Builtin.SmallTypes.ownedTupleIsFree
 refine wpAny_bind (wpAny_field hz rfl (x:=.none) rfl (wpAny_pure ?_))
 simp only[if_true]
 refine wpAny_bind (wpAny_rule (wpAny_bind (wpAny_field hz rfl (x:=.ref TO) rfl (wpAny_bind (wpAny_setField_rec hz (by simp) fun m1 ka e1=> ?_)))))
 replace ka:IsZip m1 z TI TO .ellipsis:=ka
 have b1:=e1.extBut
 refine wpAny_bind ?_
 simp only[List.zipIdx_cons,List.zipIdx_nil,List.forIn_cons,List.forIn_nil]
 refine wpAny_bind (wpAny_bind (wpAny_onRaise ?_))
 have aw:S1 n m1:=U1.bT _ _ _ h1 fun c hc o ho=>by rcases hc with rfl |rfl<;>first |exact b1 _ _ D.i1z ho |exact b1 _ _ D.l1z ho
 refine(show wpAny _ _ (Builtin.SmallTypes.nextOf (.ref i1) >>=_) _ _ _ from wpAny_bind (U1.stop _ _ _ _ hh aw fun m2 e e2 he=> ?_))
 obtain⟨oe,ge,ce⟩:=he
 have z2:IsZip m2 z TI TO .ellipsis:=e2 _ _ D.i1z.symm ka
 have FE:e≠z:=fun y=>by subst y;rw[z2]at ge;cases ge;simp at ce
 refine wpAny_setField_rec z2 (by simp) fun m3 _ e3=>q m3 e (fun c o c1 _ c3 _ x=>e3.extBut _ _ c1 (e2 _ _ c3 (b1 _ _ c1 x))) ⟨oe,e3.extBut _ _ FE ge,ce⟩
end
section
variable {prog:Program}{w:World}{A:Around}{z TI TO i1 i2 l1 l2:Addr}{n:Nat}{f g:Nat→Value}{S1 S2:Nat→Heap→Prop}
theorem CN (hh:A.handled=none) (U1:Src prog w i1 l1 n f S1) (U2:Src prog w i2 l2 n g S2) (D:ZipApart z TI TO i1 i2 l1 l2):
  WalksT prog w A z [z,TI,TO,i1,i2,l1,l2] [z,TO,i1,i2] n (fun k vals=>vals= #[f k,g k])
   (fun k h=>IsZip h z TI TO .none∧IsPair h TI (.ref i1) (.ref i2)∧(∃a b,IsPair h TO a b)∧S1 k h∧S2 k h)
   (fun k T h=>IsZip h z TI TO (rawInt T)∧IsPair h TI (.ref i1) (.ref i2)∧(∃a b,IsPair h TO a b)∧S1 (k+1) h∧S2 (k+1) h∧T∉[z,TO,i1,i2]) where
 sub:=fun c hc=>by
  simp only[List.mem_cons,List.not_mem_nil,or_false]at hc ⊢
  rcases hc with rfl |rfl |rfl |rfl<;>simp
 frame:=fun k h h' ⟨a1,a2,⟨a,b,a3⟩,a4,a5⟩ kp=> ⟨kp z (by simp) _ a1,kp TI (by simp) _ a2,⟨a,b,kp TO (by simp) _ a3⟩,U1.bT _ _ _ a4 fun c hc o=>kp c (by rcases hc with rfl |rfl<;>simp) o,U2.bT _ _ _ a5 fun c hc o=>kp c (by rcases hc with rfl |rfl<;>simp) o⟩
 item:=fun k s Q E hk ⟨a1,a2,⟨a,b,a3⟩,a4,a5⟩ q=>by
  have ty:s.TypeIs (.ref z) "zip" :=⟨_,a1,rfl⟩
  have ne:∀{c o},s.heap.get? c=some o→s.heap.objs.size≠c:=fun e=>Nat.ne_of_gt (Heap.lt_size e)
  obtain⟨o1,g1⟩:=U1.here _ _ a4
  obtain⟨o2,g2⟩:=U2.here _ _ a5
  unfold pyNext
  refine wpAny_bind (wpAny_attempt (wpAny_callSpecial?_slot (name:=Str.ofString "__next__") ty F.slot_zip_next (wpAny_call_entry F.slot_zip_next ty F.entry_zip_next (Mv U1 U2 D hk a1 a2 a3 a4 a5 fun h' c1 c2 c3 c4 c5 c6 c7=>wpAny_pure ?_) (F.args_zip_next_1 _))))
  refine q s.heap.objs.size #[f k,g k] h' s.toks rfl (Nat.le_refl _) ⟨_,c5,rfl,_,rfl⟩ ⟨c1,c7 _ _ D.TIz D.TITO D.TIi1 D.TIi2 a2,⟨_,_,c2⟩,c3,c4,fun m=> ?_⟩ fun c o hc e=>c7 c o (fun x=>hc (by simp[x])) (fun x=>hc (by simp[x])) (fun x=>hc (by simp[x])) (fun x=>hc (by simp[x])) e
  simp only[List.mem_cons,List.not_mem_nil,or_false]at m
  rcases m with m |m |m |m
  ·exact ne a1 m
  ·exact ne a3 m
  ·exact ne g1 m
  ·exact ne g2 m
 go:=fun elts kk pos k T s Q E ⟨a1,a2,⟨a,b,a3⟩,a4,a5,_⟩ q=>wpAny_letOwnedTupleGo_zip a1 fun h' z' s'=>by
  have ex:=s'.extBut
  refine q h' ⟨z',ex _ _ D.TIz a2,⟨a,b,ex _ _ D.TOz a3⟩,U1.bT _ _ _ a4 fun c hc o ho=> ?_,U2.bT _ _ _ a5 fun c hc o ho=> ?_⟩ fun c o hc e=>ex _ _ (fun x=>hc (by simp[x])) e
  ·rcases hc with rfl |rfl<;>first |exact ex _ _ D.i1z ho |exact ex _ _ D.l1z ho
  ·rcases hc with rfl |rfl<;>first |exact ex _ _ D.i2z ho |exact ex _ _ D.l2z ho
 apart:=fun k T h ⟨_,_,_,_,_,t⟩=>t
 done:=fun s Q E ⟨a1,a2,⟨a,b,a3⟩,a4,a5⟩ q=>by
  have ty:s.TypeIs (.ref z) "zip" :=⟨_,a1,rfl⟩
  unfold pyNext
  refine wpAny_bind (wpAny_attempt (wpAny_callSpecial?_slot (name:=Str.ofString "__next__") ty F.slot_zip_next (wpAny_call_entry F.slot_zip_next ty F.entry_zip_next (LL hh U1 D a1 a2 a3 a4 fun h' e kp he=> ?_) (F.args_zip_next_1 _))))
  obtain⟨o,ho,hc⟩:=he
  refine wpAny_bind (wpAny_isInstance (T:= "StopIteration") (b:=true) ⟨o,ho,hc⟩ isSubtype_stop (wpAny_pure (q _ s.toks fun c o hc e=> ?_)))
  exact kp c o (fun x=>hc (by simp[x])) (fun x=>hc (by simp[x])) (fun x=>hc (by simp[x])) (fun x=>hc (by simp[x])) e
 self:=fun k s Q E st q=>wpAny_pyIter_zip st.1 q
end
theorem OD {h:Heap}{l:Addr}{xs:Array Value}(t:IsTup h l xs) (o:Obj):IsTup (h.push o) l xs:=let ⟨u,hu,r⟩:=t;⟨u,Heap.get?_push_of_some _ hu,r⟩
section
variable {X:Cx}{pins:List (Addr×Obj)}{σ:St}{H:Hp}{s:Shared}{fp:List Addr}
theorem CD {T:Addr}{o:HO}(hf:∀b∈fp,aP X pins H b) (cj:s.heap.objs.size≤T) (Hb:∀b∈fp,∃o,s.heap.get? b=some o∧∀v,o.data≠.cell v) (b:Addr) (hb:b∈fp):upd H T o b=none:=by
 obtain⟨o,ho,_⟩:=Hb b hb
 rw[Zg (Nat.ne_of_lt (Nat.lt_of_lt_of_le (Heap.lt_size ho) cj))]
 exact(hf b hb).1
end
theorem Jn {z TI TO i1 i2 b:Addr}(hb:b∉[z,TI,TO,i1,i2]):b∉[z,TO,i1,i2]:=fun hm=>hb (by
 simp only[List.mem_cons,List.not_mem_nil,or_false]at hm ⊢
 rcases hm with h |h |h |h
 ·exact .inl h
 ·exact .inr (.inr (.inl h))
 ·exact .inr (.inr (.inr (.inl h)))
 ·exact .inr (.inr (.inr (.inr h))))
theorem qL {z TI TO i1 i2:Addr}{P:Addr→Prop}(h1:P z) (h2:P TI) (h3:P TO) (h4:P i1) (h5:P i2):∀b∈[z,TI,TO,i1,i2],P b:=fun b hb=>by
 simp only[List.mem_cons,List.not_mem_nil,or_false]at hb
 rcases hb with rfl |rfl |rfl |rfl |rfl
 ·exact h1
 ·exact h2
 ·exact h3
 ·exact h4
 ·exact h5
end L2
namespace L2
open PySem PySem.Spec PyProof.Rows SeqAt
section
variable {X:Cx}
theorem BK (hu:X.A.units<cLine):aR X (compareOp .Eq) (fun x y H Q=> ∃(a b:Addr) (ns ms:List Int),x=.ref a∧y=.ref b∧ag X.K H a (ns.map V.int)∧ag X.K H b (ms.map V.int)∧Q (.bl (decide (ns=ms))) H):=by
 intro pins s σ H x y u v Q I rx ry h
 obtain⟨a,b,ns,ms,rfl,rfl,ha,hb,q⟩:=h
 cases rx
 cases ry
 obtain⟨us,r1,p1,_⟩:=I.tuple ha
 obtain⟨vs,r2,p2,_⟩:=I.tuple hb
 have l1:=r1.length
 have l2:=r2.length
 rw[List.length_map]at l1 l2
 refine eq_tupleAt (e:=fun j=>ns.getD j 0==ms.getD j 0) p1 p2 hu (fun j h1 h2=> ?_) ?_
 ·obtain⟨t1,e1⟩:=YB r1 j (by simpa using h1)
  obtain⟨t2,e2⟩:=YB r2 j (by simpa using h2)
  rw[show us.toArray[j]=us[j]'(by simpa using h1) by simp,show vs.toArray[j]=vs[j]'(by simpa using h2) by simp,e1,e2]
  exact SeqAt.EqAt.int_int _ _ _ _
 ·have e:((List.range (min us.toArray.size vs.toArray.size)).all (fun j=>ns.getD j 0==ms.getD j 0)&&us.toArray.size==vs.toArray.size)=decide (ns=ms):=by
   rw[Bool.eq_iff_iff,Bool.and_eq_true,List.all_eq_true,decide_eq_true_eq,beq_iff_eq,List.size_toArray,List.size_toArray]
   constructor
   ·rintro⟨h,hl⟩
    refine List.ext_getElem (by omega) fun i h1 h2=> ?_
    have:=h i (by rw[List.mem_range];omega)
    simpa[h1,h2] using this
   ·rintro rfl
    exact⟨fun j _=>by simp,by omega⟩
  rw[e]
  exact⟨.bl _,H,I,rfl,q⟩
end
structure Cells (base:Heap) (scope:Scope) (cl:List (Str×Addr)) (N:List Str) (vs:List V):Prop where
 len:vs.length=N.length
 only:∀z,scope.names.lookup z=some .cell∨scope.names.lookup z=some .free→z∈N
 at_:∀(i:Nat) x v,N[i]? =some x→vs[i]? =some v→scope.names.lookup x=some .free∧∃c u,cl.lookup x=some c∧base.IsCell c (some u)∧RelV v u
 mem:∀z c,cl.lookup z=some c→z∈N
 inj:∀x y c,cl.lookup x=some c→cl.lookup y=some c→x=y
end L2
namespace L2
open PySem PySem.Spec PyProof.Rows
section
variable {prog:Program}{w:World}{A:Around}{E:Value→Shared→Prop}{s:Shared}
theorem JQ {t sl:Addr}{items:Array Value}{vl vu:Value}{lo hi:Option Int}{Q:Value→Shared→Prop}(ht:IsTup s.heap t items) (hs:s.heap.IsSliceOf sl vl vu .none) (pl:IsPart vl lo) (pu:IsPart vu hi)
  (hw:HT.aH items.size 0 lo=0∧HT.aH items.size items.size hi=items.size) (h:Q (.ref t) s):wpAny (model prog w) A (getItem (.ref t) (.ref sl)) Q E s:=by
 obtain⟨os,gk,mw,jc⟩:=id hs
 have Dj:s.TypeIs (.ref sl) "slice" :=⟨os,gk,mw⟩
 unfold getItem
 try with_reducible refine wpAny_holding ?_
 first |refine wpAny_bind (wpAny_pure ?_) |skip
 refine wpAny_bind (wpAny_sequenceKey ht.typeIs (by decide) (wpAny_bind (wpAny_callSpecial?_slot (name:=Str.ofString "__getitem__") ht.typeIs PyProof.Rows.slot_tuple_getitem (wpAny_call_entry PyProof.Rows.slot_tuple_getitem ht.typeIs entry_tuple_getitem ?_ (args_tuple_getitem _ _)))))
 refine(show wpAny _ _ (Builtin.Tuple.tupleItemsOf (.ref t) >>=_) _ _ s from wpAny_bind (tupleItemsOf_ ht (wpAny_bind (wpAny_typeOf Dj ?_))))
 rw[if_pos (by decide)]
 refine wpAny_bind (HT.yq hs pl pu ?_)
 rw[hw.1,hw.2]
 refine(show wpAny _ _ (if ((((0:Nat):Int)==0&&(1:Int)==1&&(items.size - 0)==items.size)=true) then _ else _) _ _ s from ?_)
 rw[if_pos (by simp)]
 unfold Builtin.Tuple.tupleIsExact
 refine wpAny_bind ?_
 wp_walk using wpAny_typeOf ht.typeIs
 exact⟨_,rfl,wpAny_pure h⟩
end
section
variable {X:Cx}
def EG (K:PySem.W.Frag):V→Option Int→Option Int→Hp→VK→Prop:=fun x lo hi H Q=> ∃a xs,x=.ref a∧H a=some (.tup xs)∧∀(c:Addr) H',ah H H'→H' c=some (.tup (bH xs lo hi))→Q (.ref c) H'
theorem JG:rW X (EG X.K):=by
 intro pins s σ H x v vl vu lo hi sl Q I rx hs pl pu h
 obtain⟨a,xs,rfl,ha,q⟩:=h
 have hx:ag X.K H a xs:=ag.of ha
 by_cases hw:HT.aH xs.length 0 lo=0∧HT.aH xs.length xs.length hi=xs.length
 ·cases rx
  obtain⟨aa,r,ht,hz⟩:=I.tuple hx
  have hlen:aa.toArray.size=xs.length:=by rw[List.size_toArray];exact r.length.symm
  refine⟨"tuple",_,PyProof.Rows.slot_tuple_getitem.lookup,ht.typeIs,?_⟩
  refine JQ ht hs pl pu (by rw[hlen];exact hw) ⟨.ref a,H,I,rfl,q a H (ah.refl _) ?_⟩
  rw[ha]
  unfold bH
  rw[hw.1,hw.2,List.drop_zero,Nat.sub_zero,List.take_length]
 ·exact xb pins s σ H (.ref a) v vl vu lo hi sl Q I rx hs pl pu ⟨a,xs,rfl,hx,hw,fun p hp=>q p _ (fun b u hb=>by rw[Zg (Zd hb hp)];exact hb) Zc⟩
end
theorem J8:fillsNumberSlot (.type "tuple") "mul" =pure false:=
 PySem.fillsNumberSlot_seq (id:= "tuple.__mul__") (r:=some (.builtin "tuple.__rmul__")) PySem.F.slot_tuple_mul.lookup (by decide+kernel) PySem.F.slot_tuple_rmul.lookup (by decide+kernel)
theorem OX:seqRepeat? (.type "tuple")=pure (some (.builtin "tuple.__mul__")):=by
 unfold seqRepeat?
 rw[PySem.seqSlot_of (T:= "tuple") (name:= "__mul__") (id:= "tuple.__mul__") PySem.F.slot_tuple_mul.lookup (by decide+kernel),PySem.seqSlot_of (T:= "tuple") (name:= "__rmul__") (id:= "tuple.__rmul__") PySem.F.slot_tuple_rmul.lookup (by decide+kernel)]
 rfl
theorem WE (a:Int) (t:Tok) (l:Addr) (items:Array Value) (n:Nat) (d:Option Addr) (sl:Array (Option Value)):
  Meets (Builtin.«int.__rmul__» ⟨[.int a t,.ref l],[]⟩) (fun _ R s=>s.heap.get? l=some {cls:=.type "tuple",dict:=d,data:=.seq items n,slots:=sl}∧R (.ok (.ret Value.notImplemented)) s):=
 .of_wp fun prog w A R s h=>by obtain⟨hp,g,d,tk,os⟩:=s;obtain⟨hl,h⟩:=h;wp_walk;exact⟨_,rfl,h⟩
theorem Ut (l:Addr) (items:Array Value) (n:Nat) (d:Option Addr) (sl:Array (Option Value)) (u:Tok):
  Meets (Builtin.«tuple.__mul__» ⟨[.ref l,.int 1 u],[]⟩) (fun _ R s=>s.heap.get? l=some {cls:=.type "tuple",dict:=d,data:=.seq items n,slots:=sl}∧R (.ok (.ret (.ref l))) s):=
 .of_wp fun prog w A R s h=>by
  obtain⟨hp,g,d,tk,os⟩:=s;obtain⟨hl,h⟩:=h
  wp_walk;exact⟨_,rfl,h⟩
theorem WR (l:Addr) (items:Array Value) (n:Nat) (d:Option Addr) (sl:Array (Option Value)) (x:Int) (u:Tok) (h0:items.isEmpty=false) (h1:(x==1)=false) (h2:1≤x) (hs:items.size*x.toNat≤1000) (hx:x≤1000) (hz:(List.foldl (fun x1 x2=>x1++x2) #[] (List.replicate x.toNat items)).size≤sizeLine):
  Meets (Builtin.«tuple.__mul__» ⟨[.ref l,.int x u],[]⟩) (fun _ R s=>s.heap.get? l=some {cls:=.type "tuple",dict:=d,data:=.seq items n,slots:=sl}∧R (.ok (.ret (Value.ref s.heap.objs.size))) {s with heap:=s.heap.push {cls:=Value.type "tuple",data:=Data.seq (List.foldl (fun x1 x2=>x1++x2) #[] (List.replicate x.toNat items))},toks:=s.toks}):=
 .of_wp fun prog w A R s h=>by
  obtain⟨hp,g,d,tk,os⟩:=s;obtain⟨hl,h⟩:=h
  have a1:decide (x< -(2^63))=false:=decide_eq_false (by omega)
  have a2:decide (x≥2^63)=false:=decide_eq_false (by omega)
  have a3:decide (x≤0)=false:=decide_eq_false (by omega)
  have hn:(items.size:Int)*x≤1000:=by
   have e:x=(x.toNat:Int):=by omega
   rw[e]
   exact_mod_cast hs
  have a4:¬((items.size:Int)*x> (2^63 - 1)/8):=by omega
  have a5:Builtin.Tuple.tupleTooMany ((items.size:Int)*x)=false:=by
   unfold Builtin.Tuple.tupleTooMany
   have e:=sizeLine_eq
   simp
   omega
  wp_walk
  rw[if_neg (by rw[a1,a2];decide)]
  have ht:IsTup hp l items:=⟨_,hl,rfl,n,rfl⟩
  refine wpAny_bind (tupleItemsOf_ ht ?_)
  dsimp only
  rw[if_neg (by rw[h0,h1];decide),if_neg (by rw[a3,h0];decide),if_neg a4,a5,if_neg Bool.false_ne_true]
  wp_walk;exact⟨_,rfl,h⟩
section
variable {X:Cx}
def EI:R2:=fun x y H Q=> ∃a k xs,x=.ref a∧y=.int k∧H a=some (.tup xs)∧xs≠[]∧1≤k∧k≤1000∧xs.length*k.toNat≤1000∧∀(c:Addr) H',ah H H'→H' c=some (.tup (List.replicate k.toNat xs).flatten)→Q (.ref c) H'
theorem MC:aR X (binaryOp .Mult) EI:=by
  intro pins s σ H x y v u Q I rx ry h
  obtain⟨l,k,xs,rfl,rfl,hH,cf,h1,h2,hz,q⟩:=h
  cases rx
  obtain⟨t,rfl⟩:=ry
  obtain⟨aa,r,pl,_⟩:=I.tuple (ag.of hH)
  have hl:=r.length
  obtain⟨⟨cls,dd,data,sl⟩,ho,oD,n,hd⟩:=id pl
  simp only at oD hd
  subst oD hd
  have f0:∀m:Nat,List.foldl (fun x1 x2=>x1++x2) #[] (List.replicate m aa.toArray)=(List.replicate m aa).flatten.toArray:=fun m=>by
    have:=UW aa m []
    rw[List.nil_append]at this
    exact this
  have hsz:aa.toArray.size*k.toNat≤1000:=by rw[List.size_toArray,←hl];exact hz
  have h0:aa.toArray.isEmpty=false:=by
    cases aa with
    |nil=>
     cases xs with
     |nil=>exact absurd rfl cf
     |cons a b=>cases hl
    |cons a b=>rfl
  refine wpAny_binaryOp_repeat_ref (T:= "tuple") (U:= "int") (by decide) ⟨_,ho,rfl⟩ (fun s'=>typeIs_int s' k t) J8 PySem.F.fills_int_mul PySem.F.slot_int_rmul OX PySem.F.slot_int_index.lookup
    (call_meets PySem.F.slot_int_rmul (typeIs_int s k t) PySem.F.entry_int_rmul (PySem.F.args_int_rmul_2 _ _) (WE k t l aa.toArray n dd sl)
      ⟨ho,rfl,⟨_,ho,rfl⟩,?_⟩)
  by_cases hk:k=1
  · subst hk
    refine call_meets PySem.F.slot_tuple_mul ⟨_,ho,rfl⟩ PySem.F.entry_tuple_mul (PySem.F.args_tuple_mul_2 _ _) (Ut l aa.toArray n dd sl t) ⟨ho,⟨.ref l,H,I,rfl,q l H (ah.refl _) ?_⟩⟩
    rw[hH]
    simp
  · refine call_meets PySem.F.slot_tuple_mul ⟨_,ho,rfl⟩ PySem.F.entry_tuple_mul (PySem.F.args_tuple_mul_2 _ _) (WR l aa.toArray n dd sl k t h0 (by simpa using hk) h1 hsz h2 ?_) ⟨ho,?_⟩
    · rw[f0,List.size_toArray,BF,sizeLine_eq]
      rw[List.size_toArray,Nat.mul_comm]at hsz
      omega
    · rw[f0]
      refine⟨.ref s.heap.objs.size,upd H s.heap.objs.size (.tup (List.replicate k.toNat xs).flatten),?_,rfl,q _ _ (fun b o hb=>by rw[Zg (Zd hb I.fresh)];exact hb) Zc⟩
      refine I.laid (t':=s.toks) (fun b o e=>Heap.get?_push_of_some _ e) (Nat.le_refl _) ⟨by rw[BF,sizeLine_eq,Nat.mul_comm];omega,_,r.rep k.toNat,?_⟩
      exact⟨⟨_,Heap.get?_push_size s.heap rfl,rfl,0,rfl⟩,_,Heap.get?_push_size s.heap rfl,rfl⟩
end
end L2
namespace PyProof.Rows.de
open PySem
def Iu:Bool→Keyed→Array Keyed→Nat→Nat→Nat→StateT SortSt Sem (Option Nat):=sortPriv%PySem.Builtin.gallop
def rH (left:Bool) (key:Keyed) (arr:Array Keyed) (base:Nat) (i:Nat):StateT SortSt Sem (Option Bool):=
 elem' arr (base+i) >>=fun x=>if left=true then lt' x key else lt' key x >>=fun c=>pure (c.map fun z=> !z)
structure Ord (r:Keyed→Keyed→Bool):Prop where
 fB:∀x y,r x y=true→r y x=false
 cV:∀x y z,r y x=false→r z y=false→r z x=false
theorem Ord.jM {r:Keyed→Keyed→Bool}(o:Ord r) (x:Keyed):r x x=false:=by
 cases h:r x x with
 |false=>rfl
 |true=>have:=o.fB x x h;rw[h]at this;cases this
section
variable {prog:Program}{w:World}{A:Around}{E:Value→Shared→Prop}{s:Shared}{κ:SortKind}{a₀:Array Keyed}{r:Keyed→Keyed→Bool}
def gC (prog:Program) (w:World) (A:Around) (E:Value→Shared→Prop) (s:Shared) (κ:SortKind) (a₀:Array Keyed) (r:Keyed→Keyed→Bool):Prop:=
 ∀(x y:Keyed) (st:SortSt) (Q:Option Bool→SortSt→Prop),x∈a₀.toList→y∈a₀.toList→kindOf st=κ→Q (some (r x y)) st→wpS (model prog w) A E s (lt' x y) Q st
theorem Zu {arr:Array Keyed}{i:Nat}{x:Keyed}{Q:Keyed→SortSt→Prop}{st:SortSt}(hx:arr[i]? =some x) (h:Q x st):wpS (model prog w) A E s (elem' arr i) Q st:=by
 rw[elem'_eq,hx]
 exact wpS_pure h
theorem ZH {σ α:Type}{c:Prop} [Decidable c] {t e:StateT σ Sem α}{Q:α→σ→Prop}{st:σ}(h1:c→wpS (model prog w) A E s t Q st) (h2:¬c→wpS (model prog w) A E s e Q st):wpS (model prog w) A E s (if c then t else e) Q st:=by
 by_cases h:c
 ·rw[if_pos h];exact h1 h
 ·rw[if_neg h];exact h2 h
theorem ZI {σ α:Type}{x y:Nat}{t e:StateT σ Sem α}{Q:α→σ→Prop}{st:σ}(h1:x=y→wpS (model prog w) A E s t Q st) (h2:¬x=y→wpS (model prog w) A E s e Q st):wpS (model prog w) A E s (if (x==y)=true then t else e) Q st:=
 ZH (fun h=>h1 (beq_iff_eq.mp h)) (fun h=>h2 fun z=>h (beq_iff_eq.mpr z))
theorem wU {σ α:Type}{b:Bool}{t e:StateT σ Sem α}{Q:α→σ→Prop}{st:σ}(h1:b=true→wpS (model prog w) A E s t Q st) (h2:b=false→wpS (model prog w) A E s e Q st):wpS (model prog w) A E s (if b=true then t else e) Q st:=
 ZH h1 (fun h=>h2 (Bool.eq_false_iff.mpr h))
theorem Br {σ α γ:Type}{c:Prop} [Decidable c] {j:Unit→γ→StateT σ Sem α}{x y:γ}{Q:α→σ→Prop}{st:σ}(h:∀x,wpS (model prog w) A E s (j () x) Q st):wpS (model prog w) A E s (if c then j () x else j () y) Q st:=
 ZH (fun _=>h _) (fun _=>h _)
theorem rN {σ α γ δ:Type}{c:Prop} [Decidable c] {j:Unit→γ→δ→StateT σ Sem α}{t:StateT σ Sem α}{x:γ}{y:δ}{Q:α→σ→Prop}{st:σ}(P:γ→δ→Prop) (h:∀x y,P x y→wpS (model prog w) A E s (j () x y) Q st)
  (h1:c→(∀x y,P x y→wpS (model prog w) A E s (j () x y) Q st)→wpS (model prog w) A E s t Q st) (h2:¬c→P x y):wpS (model prog w) A E s (if c then t else j () x y) Q st:=
 ZH (fun z=>h1 z h) (fun z=>h _ _ (h2 z))
theorem Bk {σ α:Type}{c:Prop} [Decidable c] {j:Unit→StateT σ Sem α}{t:StateT σ Sem α}{Q:α→σ→Prop}{st:σ}(P:σ→Prop) (h:∀ab,P ab→wpS (model prog w) A E s (j ()) Q ab)
  (h1:c→(∀ab,P ab→wpS (model prog w) A E s (j ()) Q ab)→wpS (model prog w) A E s t Q st) (h2:¬c→P st):wpS (model prog w) A E s (if c then t else j ()) Q st:=
 ZH (fun z=>h1 z h) (fun z=>h _ (h2 z))
def bp (r:Keyed→Keyed→Bool) (left:Bool) (key x:Keyed):Bool:=if left=true then r x key else !r key x
theorem Oi {left:Bool}{key:Keyed}{arr:Array Keyed}{base i:Nat}{x:Keyed}{Q:Option Bool→SortSt→Prop}{st:SortSt}(hc:gC prog w A E s κ a₀ r) (hk:kindOf st=κ) (hx:arr[base+i]? =some x) (mx:x∈a₀.toList) (mk:key∈a₀.toList) (h:Q (some (bp r left key x)) st):
  wpS (model prog w) A E s (rH left key arr base i) Q st:=by
 unfold rH
 refine wpS_bind (Zu hx ?_)
 cases left with
 |true=>
  rw[if_pos rfl]
  exact hc _ _ _ _ mx mk hk h
 |false=>
  rw[if_neg Bool.false_ne_true]
  exact wpS_bind (hc _ _ _ _ mk mx hk (wpS_pure h))
theorem Yj {left:Bool}{key:Keyed}{arr:Array Keyed}{base n hint:Nat}{Q:Option Nat→SortSt→Prop}{st:SortSt}(hc:gC prog w A E s κ a₀ r) (hk:kindOf st=κ) (p:Nat→Bool)
  (hp:∀i,i<n→∃x,arr[base+i]? =some x∧x∈a₀.toList∧p i=bp r left key x) (mk:key∈a₀.toList) (mono:∀i j,i≤j→j<n→p j=true→p i=true) (hh:hint<n)
  (h:∀k,k≤n→(∀i,i<k→p i=true)→(∀i,k≤i→i<n→p i=false)→Q (some k) st):wpS (model prog w) A E s (Iu left key arr base n hint) Q st:=by
 have oZ:∀{i:Nat}{Q:Option Bool→SortSt→Prop},i<n→Q (some (p i)) st→wpS (model prog w) A E s (rH left key arr base i) Q st:=fun {i Q} hi hq=>by
  obtain⟨x,e,m,ep⟩:=hp i hi
  exact Oi hc hk e m mk (by rw[←ep];exact hq)
 have down:∀i j,i≤j→j<n→p i=false→p j=false:=fun i j bV hj hf=>by
  cases hh:p j with
  |false=>rfl
  |true=>rw[mono i j bV hj hh]at hf;cases hf
 show wpS (model prog w) A E s (rH left key arr base hint >>=_) _ _
 dsimp only
 refine wpS_bind (oZ hh ?_)
 cases zL:p hint with
 |true=>
  dsimp only
  rw[if_pos rfl]
  refine wpS_bind (wpS_mono (wpS_forRange (I:=fun x c ab=>ab=st∧∃bJ bB,c=(none,bJ,bB)∧hint+bJ<n∧p (hint+bJ)=true∧bJ<bB∧x+1≤bB) (Q:=fun c ab=>ab=st∧∃bJ bB,c=(none,bJ,bB)∧hint+bJ<n∧p (hint+bJ)=true∧bJ<bB∧∀i,hint+bB≤i→i<n→p i=false) ?_ ?_ ⟨rfl,0,1,rfl,hh,zL,Nat.one_pos,Nat.le_refl _⟩) ?_)
  ·rintro x c ab _ hx ⟨rfl,bJ,bB,rfl,q1,q2,q3,q4⟩
   dsimp only
   refine ZH (fun fo=>wpS_pure ⟨rfl,_,_,rfl,q1,q2,q3,fun i h1 h2=>by omega⟩) (fun fo=>wpS_bind (oZ (by omega) ?_))
   cases n0:p (hint+bB) with
   |true=>exact wpS_pure ⟨rfl,bB,2*bB+1,rfl,by omega,n0,by omega,by omega⟩
   |false=>exact wpS_pure ⟨rfl,_,_,rfl,q1,q2,q3,fun i h1 h2=>down (hint+bB) i h1 h2 n0⟩
  ·rintro c ab ⟨rfl,bJ,bB,rfl,q1,q2,q3,q4⟩
   rw[Nat.max_eq_right (Nat.zero_le n)]at q4
   exact⟨rfl,_,_,rfl,q1,q2,q3,fun i h1 h2=>by omega⟩
  ·rintro c ab ⟨rfl,bJ,bB,rfl,q1,q2,q3,q4⟩
   dsimp only
   refine wpS_bind (wpS_forRange (I:=fun x c au=>au=ab∧∃lo hi,c=(none,lo,hi)∧lo≤hi∧hi≤n∧(∀i,i<lo→p i=true)∧(∀i,hi≤i→i<n→p i=false)∧hi - lo≤n - x) ?_ ?_ ⟨rfl,_,_,rfl,(by omega),(by omega),(fun i hi=>mono i (hint+bJ) (by omega) q1 q2),(fun i h1 h2=>q4 i (by omega) h2),by omega⟩)
   ·rintro x c au _ hx ⟨rfl,lo,hi,rfl,h1,h2,h3,h4,h5⟩
    dsimp only
    refine ZH (fun fo=> ?_) (fun fo=> ?_)
    ·have e:=Nat.le_antisymm h1 fo
     subst e
     exact wpS_pure (wpS_pure (h lo h2 h3 h4))
    ·have hm:lo+(hi - lo)/2<hi:=by omega
     have oh:=Nat.le_add_right lo ((hi - lo)/2)
     generalize em:lo+(hi - lo)/2=m at hm oh
     refine wpS_bind (oZ (by omega) ?_)
     cases n6:p m with
     |true=>exact wpS_pure ⟨rfl,m+1,hi,rfl,hm,h2,fun i aW=>mono i m (Nat.le_of_lt_succ aW) (by omega) n6,h4,by omega⟩
     |false=>exact wpS_pure ⟨rfl,lo,m,rfl,oh,by omega,h3,fun i h1 h2=>down m i h1 h2 n6,by omega⟩
   ·rintro c au ⟨rfl,lo,hi,rfl,h1,h2,h3,h4,h5⟩
    rw[Nat.max_eq_right (Nat.zero_le n)]at h5
    have e:lo=hi:=by omega
    subst e
    exact wpS_pure (h lo h2 h3 h4)
 |false=>
  dsimp only
  rw[if_neg Bool.false_ne_true]
  refine wpS_bind (wpS_mono (wpS_forRange (I:=fun x c ab=>ab=st∧∃bJ bB,c=(none,bJ,bB)∧bJ≤hint∧p (hint - bJ)=false∧bJ<bB∧x+1≤bB) (Q:=fun c ab=>ab=st∧∃bJ bB,c=(none,bJ,bB)∧bJ≤hint∧p (hint - bJ)=false∧bJ<bB∧∀i,i+bB≤hint→p i=true) ?_ ?_ ⟨rfl,0,1,rfl,Nat.zero_le _,zL,Nat.one_pos,Nat.le_refl _⟩) ?_)
  ·rintro x c ab _ hx ⟨rfl,bJ,bB,rfl,q1,q2,q3,q4⟩
   dsimp only
   refine ZH (fun fo=>wpS_pure ⟨rfl,_,_,rfl,q1,q2,q3,fun i h1=>by omega⟩) (fun fo=>wpS_bind (oZ (by omega) ?_))
   cases n0:p (hint - bB) with
   |true=>exact wpS_pure ⟨rfl,_,_,rfl,q1,q2,q3,fun i h1=>mono i (hint - bB) (Nat.le_sub_of_add_le h1) (by omega) n0⟩
   |false=>exact wpS_pure ⟨rfl,bB,2*bB+1,rfl,by omega,n0,by omega,by omega⟩
  ·rintro c ab ⟨rfl,bJ,bB,rfl,q1,q2,q3,q4⟩
   rw[Nat.max_eq_right (Nat.zero_le n)]at q4
   exact⟨rfl,_,_,rfl,q1,q2,q3,fun i h1=>by omega⟩
  ·rintro c ab ⟨rfl,bJ,bB,rfl,q1,q2,q3,q4⟩
   dsimp only
   refine wpS_bind (wpS_forRange (I:=fun x c au=>au=ab∧∃lo hi,c=(none,lo,hi)∧lo≤hi∧hi≤n∧(∀i,i<lo→p i=true)∧(∀i,hi≤i→i<n→p i=false)∧hi - lo≤n - x) ?_ ?_ ⟨rfl,_,_,rfl,(by omega),(by omega),(fun i hi=>q4 i (by omega)),(fun i h1 h2=>down (hint - bJ) i (by omega) h2 q2),by omega⟩)
   ·rintro x c au _ hx ⟨rfl,lo,hi,rfl,h1,h2,h3,h4,h5⟩
    dsimp only
    refine ZH (fun fo=> ?_) (fun fo=> ?_)
    ·have e:=Nat.le_antisymm h1 fo
     subst e
     exact wpS_pure (wpS_pure (h lo h2 h3 h4))
    ·have hm:lo+(hi - lo)/2<hi:=by omega
     have oh:=Nat.le_add_right lo ((hi - lo)/2)
     generalize em:lo+(hi - lo)/2=m at hm oh
     refine wpS_bind (oZ (by omega) ?_)
     cases n6:p m with
     |true=>exact wpS_pure ⟨rfl,m+1,hi,rfl,hm,h2,fun i aW=>mono i m (Nat.le_of_lt_succ aW) (by omega) n6,h4,by omega⟩
     |false=>exact wpS_pure ⟨rfl,lo,m,rfl,oh,by omega,h3,fun i h1 h2=>down m i h1 h2 n6,by omega⟩
   ·rintro c au ⟨rfl,lo,hi,rfl,h1,h2,h3,h4,h5⟩
    rw[Nat.max_eq_right (Nat.zero_le n)]at h5
    have e:lo=hi:=by omega
    subst e
    exact wpS_pure (h lo h2 h3 h4)
end
def yr:Nat→StateT SortSt Sem Unit:=sortPriv%PySem.Builtin.setMinGallop
def F2:Array Keyed→Array Keyed→StateT SortSt Sem (Array Keyed):=sortPriv%PySem.Builtin.mergeLo
theorem JY (g:Nat):yr g=modify fun s=>SortSt.mk' (kindOf s) (arrOf s) (pendingOf s) g (failedOf s):=rfl
abbrev Pw (r:Keyed→Keyed→Bool) (l:List Keyed):Prop:=l.Pairwise fun x y=>r y x=false
def SG (st ab:SortSt):Prop:=kindOf ab=kindOf st∧arrOf ab=arrOf st∧pendingOf ab=pendingOf st∧failedOf ab=failedOf st
theorem SG.refl (st:SortSt):SG st st:=⟨rfl,rfl,rfl,rfl⟩
def Good (r:Keyed→Keyed→Bool) (a b res:Array Keyed):Prop:=res.toList.Perm (a.toList++b.toList)∧Pw r res.toList
structure JW (r:Keyed→Keyed→Bool) (a b out:Array Keyed) (ia ib:Nat):Prop where
 perm:(out.toList++(a.toList.drop ia++b.toList.drop ib)).Perm (a.toList++b.toList)
 iV:Pw r out.toList
 fN:∀x∈out.toList,∀y∈a.toList.drop ia++b.toList.drop ib,r y x=false
structure dH (r:Keyed→Keyed→Bool) (a b:Array Keyed):Prop where
 o:Ord r
 sa:Pw r a.toList
 sb:Pw r b.toList
theorem Ju {α:Type}{l:List α}{i:Nat}{x:α}(h:l[i]? =some x):l.drop i=x::l.drop (i+1):=by
 obtain⟨hi,e⟩:=List.getElem?_eq_some_iff.mp h
 rw[List.drop_eq_getElem_cons hi,e]
theorem ZM {xs:Array Keyed}{i:Nat}{x:Keyed}(h:xs[i]? =some x):xs.toList[i]? =some x:=by rw[Array.getElem?_toList];exact h
theorem Zj {xs:Array Keyed}{i:Nat}(h:i<xs.size):∃x,xs[i]? =some x:=⟨xs[i],getElem?_pos xs i h⟩
theorem JL {r:Keyed→Keyed→Bool}{l:List Keyed}{i:Nat}{x:Keyed}(o:Ord r) (p:Pw r l) (h:l[i]? =some x):∀y∈l.drop i,r y x=false:=fun y hy=>by
 rw[Ju h]at hy
 rcases List.mem_cons.mp hy with rfl |hy
 ·exact o.jM _
 ·have q:Pw r (l.drop i):=List.Pairwise.sublist (List.drop_sublist i l) p
  rw[Ju h]at q
  exact(List.pairwise_cons.mp q).1 y hy
theorem We (xs:Array Keyed) (i j:Nat):(xs.extract i j).toList=(xs.toList.drop i).take (j - i):=by
 rw[Array.toList_extract,List.extract_eq_drop_take]
theorem Wu (xs:Array Keyed) (i:Nat):(xs.extract i xs.size).toList=xs.toList.drop i:=by
 rw[We,List.take_of_length_le (by rw[List.length_drop,Array.length_toList];exact Nat.le_refl _)]
section
variable {r:Keyed→Keyed→Bool}{a b out:Array Keyed}{ia ib:Nat}
theorem JW.jH (C:dH r a b) (J:JW r a b out ia ib) {x:Keyed}(hx:a[ia]? =some x) (h:∀y,b[ib]? =some y→r y x=false):JW r a b (out.push x) (ia+1) ib:=by
 have eU:=ZM hx
 have hd:=Ju eU
 have low:∀y∈a.toList.drop (ia+1)++b.toList.drop ib,r y x=false:=fun y hy=>by
  rcases List.mem_append.mp hy with hy |hy
  ·exact JL C.o C.sa eU y (by rw[hd];exact List.mem_cons_of_mem _ hy)
  ·cases e:b[ib]? with
   |none=>
    rw[←Array.getElem?_toList]at e
    rw[List.drop_eq_nil_of_le (by rw[List.getElem?_eq_none_iff]at e;exact e)]at hy
    cases hy
   |some z=>
    have h1:=JL C.o C.sb (ZM e) y hy
    exact C.o.cV x z y (h z e) h1
 refine⟨?_,?_,fun u hu y hy=> ?_⟩
 ·rw[Array.toList_push,List.append_assoc]
  have:=J.perm
  rw[hd]at this
  exact this
 ·rw[Array.toList_push]
  refine List.pairwise_append.mpr ⟨J.iV,List.pairwise_singleton _ _,fun u hu v hv=> ?_⟩
  rw[List.mem_singleton.mp hv]
  exact J.fN u hu x (List.mem_append_left _ (by rw[hd];exact List.mem_cons_self))
 ·rw[Array.toList_push]at hu
  rcases List.mem_append.mp hu with hu |hu
  ·refine J.fN u hu y ?_
   rcases List.mem_append.mp hy with hy |hy
   ·exact List.mem_append_left _ (by rw[hd];exact List.mem_cons_of_mem _ hy)
   ·exact List.mem_append_right _ hy
  ·rw[List.mem_singleton.mp hu]
   exact low y hy
theorem JW.jG (C:dH r a b) (J:JW r a b out ia ib) {y:Keyed}(hy:b[ib]? =some y) (h:∀x,a[ia]? =some x→r x y=false):JW r a b (out.push y) ia (ib+1):=by
 have kB:=ZM hy
 have hd:=Ju kB
 have low:∀z∈a.toList.drop ia++b.toList.drop (ib+1),r z y=false:=fun z hz=>by
  rcases List.mem_append.mp hz with hz |hz
  ·cases e:a[ia]? with
   |none=>
    rw[←Array.getElem?_toList]at e
    rw[List.drop_eq_nil_of_le (by rw[List.getElem?_eq_none_iff]at e;exact e)]at hz
    cases hz
   |some x=>
    have h1:=JL C.o C.sa (ZM e) z hz
    exact C.o.cV y x z (h x e) h1
  ·exact JL C.o C.sb kB z (by rw[hd];exact List.mem_cons_of_mem _ hz)
 refine⟨?_,?_,fun u hu z hz=> ?_⟩
 ·rw[Array.toList_push,List.append_assoc]
  have:=J.perm
  rw[hd]at this
  refine List.Perm.trans (List.Perm.append_left _ ?_) this
  exact(show(y::(a.toList.drop ia++b.toList.drop (ib+1))).Perm _ from List.perm_middle.symm)
 ·rw[Array.toList_push]
  refine List.pairwise_append.mpr ⟨J.iV,List.pairwise_singleton _ _,fun u hu v hv=> ?_⟩
  rw[List.mem_singleton.mp hv]
  exact J.fN u hu y (List.mem_append_right _ (by rw[hd];exact List.mem_cons_self))
 ·rw[Array.toList_push]at hu
  rcases List.mem_append.mp hu with hu |hu
  ·refine J.fN u hu z ?_
   rcases List.mem_append.mp hz with hz |hz
   ·exact List.mem_append_left _ hz
   ·exact List.mem_append_right _ (by rw[hd];exact List.mem_cons_of_mem _ hz)
  ·rw[List.mem_singleton.mp hu]
   exact low z hz
theorem Ca {xs:Array Keyed}{i k:Nat}{x:Keyed}(hx:xs[i+k]? =some x):xs.extract i (i+(k+1))=(xs.extract i (i+k)).push x:=by
 obtain⟨h,e⟩:=Array.getElem?_eq_some_iff.mp hx
 rw[←e,←Nat.add_assoc,Array.extract_succ_right (by omega) h]
theorem JW.nA (C:dH r a b) (J:JW r a b out ia ib):∀k,ia+k≤a.size→(∀i,i<k→∀x y,a[ia+i]? =some x→b[ib]? =some y→r y x=false)→JW r a b (out++a.extract ia (ia+k)) (ia+k) ib
 |0,_,_=>by
  rw[Nat.add_zero]
  have e:a.extract ia ia= #[]:=by simp;omega
  rw[e,Array.append_empty]
  exact J
 |k+1,hk,h=>by
  obtain⟨x,hx⟩:=Zj (xs:=a) (i:=ia+k) (by omega)
  have ih:=JW.nA C J k (by omega) fun i hi=>h i (by omega)
  have:=ih.jH C hx fun y hy=>h k (by omega) x y hx hy
  rw[Ca hx,Array.append_push]
  exact this
theorem JW.nr (C:dH r a b) (J:JW r a b out ia ib):∀k,ib+k≤b.size→(∀i,i<k→∀y x,b[ib+i]? =some y→a[ia]? =some x→r x y=false)→JW r a b (out++b.extract ib (ib+k)) ia (ib+k)
 |0,_,_=>by
  rw[Nat.add_zero]
  have e:b.extract ib ib= #[]:=by simp;omega
  rw[e,Array.append_empty]
  exact J
 |k+1,hk,h=>by
  obtain⟨y,hy⟩:=Zj (xs:=b) (i:=ib+k) (by omega)
  have ih:=JW.nr C J k (by omega) fun i hi=>h i (by omega)
  have:=ih.jG C hy fun x hx=>h k (by omega) y x hy hx
  rw[Ca hy,Array.append_push]
  exact this
theorem JW.done (C:dH r a b) (J:JW r a b out ia ib) (h:a.size≤ia∨b.size≤ib):Good r a b (out++a.extract ia a.size++b.extract ib b.size):=by
 unfold Good
 rw[Array.toList_append,Array.toList_append,Wu,Wu]
 refine⟨by rw[List.append_assoc];exact J.perm,?_⟩
 have pa:Pw r (a.toList.drop ia):=List.Pairwise.sublist (List.drop_sublist _ _) C.sa
 have pb:Pw r (b.toList.drop ib):=List.Pairwise.sublist (List.drop_sublist _ _) C.sb
 rw[List.append_assoc]
 refine List.pairwise_append.mpr ⟨J.iV,?_,J.fN⟩
 rcases h with h |h
 ·rw[List.drop_eq_nil_of_le (by rw[Array.length_toList];exact h),List.nil_append]
  exact pb
 ·rw[List.drop_eq_nil_of_le (as:=b.toList) (by rw[Array.length_toList];exact h),List.append_nil]
  exact pa
theorem JW.last (C:dH r a b) (J:JW r a b out ia ib) (h:ia+1=a.size) (hl:∀x,a[a.size - 1]? =some x→∀y∈b.toList,r x y=false):Good r a b (out++b.extract ib b.size++a.extract ia a.size):=by
 unfold Good
 rw[Array.toList_append,Array.toList_append,Wu,Wu]
 obtain⟨x,hx⟩:=Zj (xs:=a) (i:=ia) (by omega)
 have ed:a.toList.drop ia=[x]:=by
  rw[Ju (ZM hx),List.drop_eq_nil_of_le (by rw[Array.length_toList];omega)]
 have P:=J.perm
 have B:=J.fN
 rw[ed]at P B ⊢
 have pb:Pw r (b.toList.drop ib):=List.Pairwise.sublist (List.drop_sublist _ _) C.sb
 refine⟨?_,?_⟩
 ·rw[List.append_assoc]
  exact List.Perm.trans (List.Perm.append_left _ List.perm_append_comm) P
 ·rw[List.append_assoc]
  refine List.pairwise_append.mpr ⟨J.iV,List.pairwise_append.mpr ⟨pb,List.pairwise_singleton _ _,fun y hy z hz=> ?_⟩,fun u hu z hz=>B u hu z ?_⟩
  ·rw[List.mem_singleton.mp hz]
   exact hl x (by rw[show a.size - 1=ia by omega];exact hx) y (List.mem_of_mem_drop hy)
  ·rcases List.mem_append.mp hz with hz |hz
   ·exact List.mem_append_right _ hz
   ·exact List.mem_append_left _ hz
end
theorem ZS {xs:Array Keyed}{i:Nat}{x:Keyed}(h:xs[i]? =some x):x∈xs.toList:=List.mem_of_getElem? (ZM h)
theorem JK {r:Keyed→Keyed→Bool}{l:List Keyed}{i j:Nat}{x y:Keyed}(o:Ord r) (p:Pw r l) (hx:l[i]? =some x) (hy:l[j]? =some y) (h:i≤j):r y x=false:=by
 refine JL o p hx y ?_
 have:(l.drop i)[j - i]? =some y:=by rw[List.getElem?_drop,show i+(j - i)=j by omega];exact hy
 exact List.mem_of_getElem? this
theorem wQ {r:Keyed→Keyed→Bool}{x y z:Keyed}(o:Ord r) (h:r y z=true) (h2:r y x=false):r x z=true:=by
 cases e:r x z with
 |true=>rfl
 |false=>
  have:=o.cV z x y e h2
  rw[h]at this
  cases this
section
variable {prog:Program}{w:World}{A:Around}{E:Value→Shared→Prop}{s:Shared}{κ:SortKind}{a₀:Array Keyed}{r:Keyed→Keyed→Bool}
theorem JC {g:Nat}{Q:Unit→SortSt→Prop}{st:SortSt}(h:Q () (SortSt.mk' (kindOf st) (arrOf st) (pendingOf st) g (failedOf st))):wpS (model prog w) A E s (yr g) Q st:=by
 rw[JY]
 exact wpS_modify h
theorem O7 {a b:Array Keyed}{Q:Array Keyed→SortSt→Prop}{st:SortSt}(hc:gC prog w A E s κ a₀ r) (hk:kindOf st=κ) (C:dH r a b) (ma:∀x∈a.toList,x∈a₀.toList) (mb:∀x∈b.toList,x∈a₀.toList) (na:1≤a.size) (nb:1≤b.size)
  (h0:∀y,b[0]? =some y→∀x∈a.toList,r x y=false) (hl:∀x,a[a.size - 1]? =some x→∀y∈b.toList,r x y=false)
  (h:∀res ab,SG st ab→Good r a b res→Q res ab):wpS (model prog w) A E s (F2 a b) Q st:=by
 show wpS (model prog w) A E s (_ >>=_) _ _
 try dsimp -zeta only
 refine wpS_bind (wpS_lift (wpAny_rule ⟨rfl,?_⟩))
 obtain⟨y0,jN⟩:=Zj (xs:=b) (i:=0) (by omega)
 refine wpS_bind (Zu jN ?_)
 have J0:JW r a b #[y0] 0 1:=by
  have e:JW r a b #[] 0 0:=⟨by simp,.nil,fun x hx=>by cases hx⟩
  exact e.jG C jN fun x hx=>h0 y0 jN x (ZS hx)
 refine ZI (fun iD=>wpS_pure (h _ _ (SG.refl _) (J0.done C (.inr (by omega))))) (fun iD=>ZI (fun ff=>wpS_pure (h _ _ (SG.refl _) (J0.last C (by omega) hl))) (fun ff=>wpS_bind (wpS_get ?_)))
 refine wpS_bind (wpS_mono (wpS_forRange (I:=fun x c aw=>SG st aw∧∃out ia ib g,c=(none,out,ia,ib,g)∧JW r a b out ia ib∧ia+1<a.size∧ib<b.size∧x+1≤ia+ib) (Q:=fun c aw=>SG st aw∧∃res,c.fst=some res∧Good r a b res) ?step ?fin ⟨SG.refl _,_,_,_,_,rfl,J0,by omega,by omega,by omega⟩) ?post)
 case post=>
  rintro c aw ⟨gG,res,ec,gd⟩
  rw[ec]
  exact wpS_pure (h res aw gG gd)
 case fin=>
  rintro c aw ⟨_,out,ia,ib,g,_,_,i1,i2,i3⟩
  rw[Nat.max_eq_right (Nat.zero_le _)]at i3
  omega
 case step=>
  rintro x c aw _ hx ⟨gG,out,ia,ib,g,rfl,J,i1,i2,i3⟩
  have me:kindOf aw=κ:=by rw[gG.1];exact hk
  refine wpS_bind (wpS_mono (wpS_forRange (I:=fun y c au=>au=aw∧∃dm eQ eO ac bc,c=(none,dm,eQ,eO,ac,bc)∧JW r a b dm eQ eO∧eQ+1<a.size∧eO<b.size∧ia+ib+y≤eQ+eO)
   (Q:=fun c au=>au=aw∧((∃res,c.fst=some res∧Good r a b res)∨∃dm eQ eO ac bc,c=(none,dm,eQ,eO,ac,bc)∧JW r a b dm eQ eO∧eQ+1<a.size∧eO<b.size∧ia+ib+1≤eQ+eO)) ?_ ?_ ⟨rfl,_,_,_,_,_,rfl,J,i1,i2,Nat.le_refl _⟩) ?_)
  ·rintro y c au _ hy ⟨rfl,dm,eQ,eO,ac,bc,rfl,J',j1,j2,j3⟩
   dsimp only
   obtain⟨yb,gT⟩:=Zj (xs:=b) (i:=eO) j2
   obtain⟨xa,gW⟩:=Zj (xs:=a) (i:=eQ) (by omega)
   refine wpS_bind (Zu gT (wpS_bind (Zu gW (wpS_bind (hc _ _ _ _ (mb _ (ZS gT)) (ma _ (ZS gW)) me ?_)))))
   refine wU (fun hr=>wpS_bind (Zu gT ?_)) (fun hr=>wpS_bind (Zu gW ?_))
   ·have J2:=J'.jG C gT (fun x hx=>by rw[gW]at hx;cases hx;exact C.o.fB _ _ hr)
    exact ZI (fun hz=>wpS_pure ⟨rfl,.inl ⟨_,rfl,J2.done C (.inr (by omega))⟩⟩) (fun hz=>ZH (fun _=>wpS_pure ⟨rfl,.inr ⟨_,_,_,_,_,rfl,J2,j1,by omega,by omega⟩⟩) (fun _=>wpS_pure ⟨rfl,_,_,_,_,_,rfl,J2,j1,by omega,by omega⟩))
   ·have J2:=J'.jH C gW (fun x hx=>by rw[gT]at hx;cases hx;exact hr)
    exact ZI (fun hz=>wpS_pure ⟨rfl,.inl ⟨_,rfl,J2.last C hz hl⟩⟩) (fun hz=>ZH (fun _=>wpS_pure ⟨rfl,.inr ⟨_,_,_,_,_,rfl,J2,by omega,j2,by omega⟩⟩) (fun _=>wpS_pure ⟨rfl,_,_,_,_,_,rfl,J2,by omega,j2,by omega⟩))
  ·rintro c au ⟨rfl,dm,eQ,eO,ac,bc,rfl,J',j1,j2,j3⟩
   rw[Nat.max_eq_right (Nat.zero_le _)]at j3
   omega
  rintro c au ⟨rfl,⟨res,ec,gd⟩ |⟨dm,eQ,eO,ac,bc,rfl,J',j1,j2,j3⟩⟩
  ·rw[ec]
   exact wpS_pure ⟨gG,res,rfl,gd⟩
  clear J i1 i2 me
  dsimp -zeta only
  refine wpS_bind (wpS_lift (wpAny_rule ⟨rfl,?_⟩))
  refine wpS_bind (wpS_mono (wpS_forRange (I:=fun y c au=>SG st au∧∃out ia ib g ac bc,c=(none,out,ia,ib,g,ac,bc)∧JW r a b out ia ib∧ia+1<a.size∧ib<b.size∧eQ+eO+y≤ia+ib)
   (Q:=fun c au=>SG st au∧((∃res,c.fst=some res∧Good r a b res)∨∃out ia ib g ac bc,c=(none,out,ia,ib,g,ac,bc)∧JW r a b out ia ib∧ia+1<a.size∧ib<b.size∧eQ+eO≤ia+ib)) ?_ ?_ ⟨gG,_,_,_,_,_,_,rfl,J',j1,j2,Nat.le_refl _⟩) ?_)
  ·rintro y c au _ hy ⟨ir,out,ia,ib,g,ac,bc,rfl,J,i1,i2,i4⟩
   obtain⟨y2,cD⟩:=Zj (xs:=b) (i:=ib) i2
   extract_lets -underBinder s1 o1 s2 x1 s3 z1 s4 g1 s5 o9 o7 jp g2
   refine Br (j:=jp) fun g'=> ?_
   dsimp -zeta only[jp,o7,o9,s5,s4,z1,s3,x1,s2,o1,s1]
   clear g2 jp o7 o9 s5 g1 s4 z1 s3 x1 s2 o1 s1
   refine wpS_bind (JC ?_)
   generalize vW:SortSt.mk' _ _ _ _ _=bt
   have dj:SG st bt:=by rw[←vW];exact ir
   have kH:kindOf bt=κ:=by rw[dj.1];exact hk
   refine wpS_bind (Zu cD ?_)
   refine wpS_bind (Yj hc kH (fun i=>match a[ia+i]? with |some x=> !r y2 x |none=>false) (fun i hi=> ?_) (mb y2 (ZS cD)) (fun i j bV hj hp=> ?_) (by omega) fun k kn fG fH=> ?_)
   ·obtain⟨x,hx⟩:=Zj (xs:=a) (i:=ia+i) (by omega)
    refine⟨x,hx,ma x (ZS hx),?_⟩
    try dsimp only
    rw[hx]
    rfl
   ·obtain⟨xj,gU⟩:=Zj (xs:=a) (i:=ia+j) (by omega)
    obtain⟨xi,jO⟩:=Zj (xs:=a) (i:=ia+i) (by omega)
    try dsimp only at hp ⊢
    rw[gU]at hp
    rw[jO]
    rw[Bool.not_eq_true']at hp ⊢
    exact C.o.cV _ _ _ (JK C.o C.sa (ZM jO) (ZM gU) (by omega)) hp
   have low:ia+k<a.size→∀x,a[ia+k]? =some x→r y2 x=true:=fun hk x hx=>by
    have:=fH k (Nat.le_refl _) (by omega)
    try dsimp only at this
    rw[hx,Bool.not_eq_false']at this
    exact this
   dsimp -zeta only
   extract_lets -underBinder wL jp o3 x3
   refine rN (j:=jp) (fun o i=>JW r a b o i ib∧i+1<a.size∧ia≤i∧∀x,a[i]? =some x→r y2 x=true) ?_ (fun ja hj=> ?_) (fun ja=> ?_)
   ·rintro o i ⟨J1,q1,q2,q3⟩
    clear low fG fH kn
    dsimp -zeta only[jp]
    clear x3 o3 jp
    clear_value wL
    refine wpS_bind (Zu cD ?_)
    have J2:=J1.jG C cD (fun x hx=>C.o.fB _ _ (q3 x hx))
    obtain⟨x3,gX⟩:=Zj (xs:=a) (i:=i) (by omega)
    refine ZI (fun hz=>wpS_pure ⟨dj,.inl ⟨_,rfl,J2.done C (.inr (by omega))⟩⟩) (fun hz=>wpS_bind (Zu gX ?_))
    refine wpS_bind (Yj hc kH (fun i=>match b[ib+1+i]? with |some y=>r y x3 |none=>false) (fun i hi=> ?_) (ma x3 (ZS gX)) (fun i j bV hj hp=> ?_) (by omega) fun k1 lZ fG fH=> ?_)
    ·obtain⟨y,hy⟩:=Zj (xs:=b) (i:=ib+1+i) (by omega)
     refine⟨y,hy,mb y (ZS hy),?_⟩
     try dsimp only
     rw[hy]
     rfl
    ·obtain⟨yj,iE⟩:=Zj (xs:=b) (i:=ib+1+j) (by omega)
     obtain⟨yi,iF⟩:=Zj (xs:=b) (i:=ib+1+i) (by omega)
     try dsimp only at hp ⊢
     rw[iE]at hp
     rw[iF]
     exact wQ C.o hp (JK C.o C.sb (ZM iF) (ZM iE) (by omega))
    have low:ib+1+k1<b.size→∀y,b[ib+1+k1]? =some y→r y x3=false:=fun hk y hy=>by
     have:=fH k1 (Nat.le_refl _) (by omega)
     try dsimp only at this
     rw[hy]at this
     exact this
    dsimp -zeta only
    extract_lets -underBinder wF jp o3 z3
    refine rN (j:=jp) (fun o z=>JW r a b o i z∧z<b.size∧ib+1≤z∧∀y,b[z]? =some y→r y x3=false) ?_ (fun ja hj=> ?_) (fun ja=> ?_)
    ·rintro o z ⟨J3,p1,p2,p3⟩
     clear low fG fH lZ
     dsimp -zeta only[jp]
     clear z3 o3 jp
     clear_value wF
     refine wpS_bind (Zu gX ?_)
     have J4:=J3.jH C gX p3
     exact ZI (fun hz=>wpS_pure ⟨dj,.inl ⟨_,rfl,J4.last C hz hl⟩⟩) (fun hz=>ZH (fun _=>wpS_pure ⟨dj,.inr ⟨_,_,_,_,_,_,rfl,J4,by omega,p1,by omega⟩⟩) (fun _=>wpS_pure ⟨dj,_,_,_,_,_,_,rfl,J4,by omega,p1,by omega⟩))
    ·dsimp only[o3,z3]
     clear_value jp
     have J3:=J2.nr C k1 (by omega) (fun i hi y x hy hx=>by
      rw[gX]at hx
      cases hx
      have:=fG i hi
      try dsimp only at this
      rw[hy]at this
      exact C.o.fB _ _ this)
     exact ZI (fun hz=>wpS_pure ⟨dj,.inl ⟨_,rfl,J3.done C (.inr (by omega))⟩⟩) (fun hz=>hj _ _ ⟨J3,by omega,by omega,low (by omega)⟩)
    ·obtain rfl:k1=0:=by omega
     exact⟨J2,by omega,Nat.le_refl _,low (by omega)⟩
   ·dsimp only[o3,x3]
    clear_value jp
    have J1:=J.nA C k (by omega) (fun i hi x y hx hy=>by
     rw[cD]at hy
     cases hy
     have:=fG i hi
     try dsimp only at this
     rw[hx,Bool.not_eq_true']at this
     exact this)
    exact ZI (fun hz=>wpS_pure ⟨dj,.inl ⟨_,rfl,J1.last C hz hl⟩⟩) (fun iD=>ZI (fun hz=>wpS_pure ⟨dj,.inl ⟨_,rfl,J1.done C (.inl (by omega))⟩⟩) (fun hz=>hj _ _ ⟨J1,by omega,by omega,low (by omega)⟩))
   ·obtain rfl:k=0:=by omega
    exact⟨J,i1,Nat.le_refl _,low (by omega)⟩
  ·rintro c au ⟨_,out,Gi,Gh,g,ac,bc,rfl,_,k1,k2,k3⟩
   rw[Nat.max_eq_right (Nat.zero_le _)]at k3
   omega
  rintro c au ⟨ir,⟨res,ec,gd⟩ |⟨out,Gi,Gh,g,ac,bc,rfl,J2,k1,k2,k3⟩⟩
  ·rw[ec]
   exact wpS_pure ⟨ir,res,rfl,gd⟩
  dsimp only
  exact wpS_bind (JC (wpS_pure ⟨ir,_,_,_,_,rfl,J2,k1,k2,by omega⟩))
end
def F3:Array Keyed→Array Keyed→StateT SortSt Sem (Array Keyed):=sortPriv%PySem.Builtin.mergeHi
structure JH (r:Keyed→Keyed→Bool) (a b out:Array Keyed) (na nb:Nat):Prop where
 la:na≤a.size
 lb:nb≤b.size
 perm:((a.toList.take na++b.toList.take nb)++out.toList.reverse).Perm (a.toList++b.toList)
 iV:Pw r out.toList.reverse
 fN:∀y∈a.toList.take na++b.toList.take nb,∀x∈out.toList,r x y=false
theorem xp {α:Type}{l:List α}{i:Nat}{x:α}(h:l[i]? =some x):l.take (i+1)=l.take i++[x]:=by
 rw[List.take_add_one,h]
 rfl
theorem Wq {r:Keyed→Keyed→Bool}{l:List Keyed}{i:Nat}{x:Keyed}(o:Ord r) (p:Pw r l) (h:l[i]? =some x):∀y∈l.take (i+1),r x y=false:=fun y hy=>by
 obtain⟨j,hj,e⟩:=List.getElem_of_mem hy
 rw[List.length_take]at hj
 rw[List.getElem_take]at e
 exact JK (i:=j) o p (by rw[List.getElem?_eq_getElem (by omega),e]) h (by omega)
theorem rM (xs:Array Keyed) (j:Nat):(xs.extract 0 j).toList=xs.toList.take j:=by
 rw[We,List.drop_zero,Nat.sub_zero]
section
variable {r:Keyed→Keyed→Bool}{a b out:Array Keyed}{na nb:Nat}
theorem JH.jH (C:dH r a b) (J:JH r a b out na nb) {x:Keyed}(h1:1≤na) (hx:a[na - 1]? =some x) (h:1≤nb→∀y,b[nb - 1]? =some y→r x y=false):JH r a b (out.push x) (na - 1) nb:=by
 have la:=J.la
 have lb:=J.lb
 have eU:=ZM hx
 have ht:=xp eU
 rw[Nat.sub_add_cancel h1]at ht
 have mx:x∈a.toList.take na:=by rw[ht];simp
 have low:∀y∈a.toList.take (na - 1)++b.toList.take nb,r x y=false:=fun y hy=>by
  rcases List.mem_append.mp hy with hy |hy
  ·exact Wq C.o C.sa eU y (by rw[Nat.sub_add_cancel h1,ht];exact List.mem_append_left _ hy)
  ·have n1:1≤nb:=by
    rcases Nat.eq_zero_or_pos nb with z |z
    ·rw[z]at hy;cases hy
    ·exact z
   obtain⟨z,e⟩:=Zj (xs:=b) (i:=nb - 1) (by omega)
   have:=Wq C.o C.sb (ZM e) y (by rw[Nat.sub_add_cancel n1];exact hy)
   exact C.o.cV y z x this (h n1 z e)
 refine⟨by omega,lb,?_,?_,fun y hy u hu=> ?_⟩
 ·rw[Array.toList_push,List.reverse_append]
  have P:=J.perm
  rw[ht]at P
  refine List.Perm.trans ?_ P
  show((a.toList.take (na - 1)++b.toList.take nb)++(x::out.toList.reverse)).Perm (((a.toList.take (na - 1)++[x])++b.toList.take nb)++out.toList.reverse)
  rw[List.append_assoc,List.append_assoc,List.append_assoc]
  refine List.Perm.append_left _ ?_
  show(b.toList.take nb++x::out.toList.reverse).Perm (x::(b.toList.take nb++out.toList.reverse))
  exact List.perm_middle
 ·rw[Array.toList_push,List.reverse_append]
  refine List.pairwise_cons.mpr ⟨fun u hu=> ?_,J.iV⟩
  exact J.fN x (List.mem_append_left _ mx) u (List.mem_reverse.mp hu)
 ·rw[Array.toList_push]at hu
  rcases List.mem_append.mp hu with hu |hu
  ·refine J.fN y ?_ u hu
   rcases List.mem_append.mp hy with hy |hy
   ·exact List.mem_append_left _ (by rw[ht];exact List.mem_append_left _ hy)
   ·exact List.mem_append_right _ hy
  ·rw[List.mem_singleton.mp hu]
   exact low y hy
theorem JH.jG (C:dH r a b) (J:JH r a b out na nb) {y:Keyed}(h1:1≤nb) (hy:b[nb - 1]? =some y) (h:1≤na→∀x,a[na - 1]? =some x→r y x=false):JH r a b (out.push y) na (nb - 1):=by
 have la:=J.la
 have lb:=J.lb
 have kB:=ZM hy
 have ht:=xp kB
 rw[Nat.sub_add_cancel h1]at ht
 have my:y∈b.toList.take nb:=by rw[ht];simp
 have low:∀z∈a.toList.take na++b.toList.take (nb - 1),r y z=false:=fun z hz=>by
  rcases List.mem_append.mp hz with hz |hz
  ·have n1:1≤na:=by
    rcases Nat.eq_zero_or_pos na with q |q
    ·rw[q]at hz;cases hz
    ·exact q
   obtain⟨x,e⟩:=Zj (xs:=a) (i:=na - 1) (by omega)
   have:=Wq C.o C.sa (ZM e) z (by rw[Nat.sub_add_cancel n1];exact hz)
   exact C.o.cV z x y this (h n1 x e)
  ·exact Wq C.o C.sb kB z (by rw[Nat.sub_add_cancel h1,ht];exact List.mem_append_left _ hz)
 refine⟨la,by omega,?_,?_,fun z hz u hu=> ?_⟩
 ·rw[Array.toList_push,List.reverse_append]
  have P:=J.perm
  rw[ht]at P
  refine List.Perm.trans ?_ P
  show((a.toList.take na++b.toList.take (nb - 1))++(y::out.toList.reverse)).Perm ((a.toList.take na++(b.toList.take (nb - 1)++[y]))++out.toList.reverse)
  rw[List.append_assoc,List.append_assoc,List.append_assoc]
  exact .refl _
 ·rw[Array.toList_push,List.reverse_append]
  refine List.pairwise_cons.mpr ⟨fun u hu=> ?_,J.iV⟩
  exact J.fN y (List.mem_append_right _ my) u (List.mem_reverse.mp hu)
 ·rw[Array.toList_push]at hu
  rcases List.mem_append.mp hu with hu |hu
  ·refine J.fN z ?_ u hu
   rcases List.mem_append.mp hz with hz |hz
   ·exact List.mem_append_left _ hz
   ·exact List.mem_append_right _ (by rw[ht];exact List.mem_append_left _ hz)
  ·rw[List.mem_singleton.mp hu]
   exact low z hz
theorem Bt {xs:Array Keyed}{i n:Nat}{x:Keyed}(hx:xs[i]? =some x) (h:i<n) (hn:n≤xs.size):(xs.extract i n).reverse=(xs.extract (i+1) n).reverse.push x:=by
 apply Array.toList_inj.mp
 rw[Array.toList_reverse,Array.toList_push,Array.toList_reverse,We,We,Ju (ZM hx),show n - i=(n - (i+1))+1 by omega,List.take_succ_cons,List.reverse_cons]
theorem JH.nA (C:dH r a b) (J:JH r a b out na nb):∀k,k≤na→(∀i,na - k≤i→i<na→∀x y,a[i]? =some x→b[nb - 1]? =some y→r x y=false)→JH r a b (out++(a.extract (na - k) na).reverse) (na - k) nb
 |0,_,_=>by
  have e:a.extract (na - 0) na= #[]:=by simp;omega
  rw[e]
  simpa using J
 |k+1,hk,h=>by
  have la:=J.la
  obtain⟨x,hx⟩:=Zj (xs:=a) (i:=na - (k+1)) (by omega)
  have ih:=JH.nA C J k (by omega) fun i h1 h2=>h i (by omega) h2
  have e1:na - k - 1=na - (k+1):=by omega
  have:=ih.jH C (x:=x) (by omega) (by rw[e1];exact hx) fun _ y hy=>h (na - (k+1)) (Nat.le_refl _) (by omega) x y hx hy
  rw[e1]at this
  rw[Bt hx (by omega) la,show na - (k+1)+1=na - k by omega,Array.append_push]
  exact this
theorem JH.nr (C:dH r a b) (J:JH r a b out na nb):∀k,k≤nb→(∀i,nb - k≤i→i<nb→∀y x,b[i]? =some y→a[na - 1]? =some x→r y x=false)→JH r a b (out++(b.extract (nb - k) nb).reverse) na (nb - k)
 |0,_,_=>by
  have e:b.extract (nb - 0) nb= #[]:=by simp;omega
  rw[e]
  simpa using J
 |k+1,hk,h=>by
  have lb:=J.lb
  obtain⟨y,hy⟩:=Zj (xs:=b) (i:=nb - (k+1)) (by omega)
  have ih:=JH.nr C J k (by omega) fun i h1 h2=>h i (by omega) h2
  have e1:nb - k - 1=nb - (k+1):=by omega
  have:=ih.jG C (y:=y) (by omega) (by rw[e1];exact hy) fun _ x hx=>h (nb - (k+1)) (Nat.le_refl _) (by omega) y x hy hx
  rw[e1]at this
  rw[Bt hy (by omega) lb,show nb - (k+1)+1=nb - k by omega,Array.append_push]
  exact this
theorem JH.Ey (C:dH r a b) (J:JH r a b out na nb) {m:Nat}(hm:m≤na) (h:∀i,m≤i→i<na→∀x y,a[i]? =some x→b[nb - 1]? =some y→r x y=false):JH r a b (out++(a.extract m na).reverse) m nb:=by
 have:=J.nA C (na - m) (by omega) (fun i h1 h2=>h i (by omega) h2)
 rw[show na - (na - m)=m by omega]at this
 exact this
theorem JH.Ex (C:dH r a b) (J:JH r a b out na nb) {m:Nat}(hm:m≤nb) (h:∀i,m≤i→i<nb→∀y x,b[i]? =some y→a[na - 1]? =some x→r y x=false):JH r a b (out++(b.extract m nb).reverse) na m:=by
 have:=J.nr C (nb - m) (by omega) (fun i h1 h2=>h i (by omega) h2)
 rw[show nb - (nb - m)=m by omega]at this
 exact this
theorem JH.done (C:dH r a b) (J:JH r a b out na nb) (h:na=0∨nb=0):Good r a b (a.extract 0 na++b.extract 0 nb++out.reverse):=by
 unfold Good
 rw[Array.toList_append,Array.toList_append,rM,rM,Array.toList_reverse]
 refine⟨J.perm,?_⟩
 have pa:Pw r (a.toList.take na):=List.Pairwise.sublist (List.take_sublist _ _) C.sa
 have pb:Pw r (b.toList.take nb):=List.Pairwise.sublist (List.take_sublist _ _) C.sb
 refine List.pairwise_append.mpr ⟨?_,J.iV,fun y hy x hx=>J.fN y hy x (List.mem_reverse.mp hx)⟩
 rcases h with h |h
 ·rw[h,List.take_zero,List.nil_append]
  exact pb
 ·rw[h,List.take_zero,List.append_nil]
  exact pa
theorem JH.first (C:dH r a b) (J:JH r a b out na nb) (h:nb=1) (h0:∀y,b[0]? =some y→∀x∈a.toList,r x y=false):Good r a b (b.extract 0 nb++a.extract 0 na++out.reverse):=by
 have lb:=J.lb
 subst h
 unfold Good
 obtain⟨y,hy⟩:=Zj (xs:=b) (i:=0) (by omega)
 have et:b.toList.take 1=[y]:=by rw[show(1:Nat)=0+1 from rfl,xp (ZM hy)];rfl
 rw[Array.toList_append,Array.toList_append,rM,rM,Array.toList_reverse,et]
 have P:=J.perm
 have B:=J.fN
 rw[et]at P B
 have pa:Pw r (a.toList.take na):=List.Pairwise.sublist (List.take_sublist _ _) C.sa
 refine⟨List.Perm.trans (List.Perm.append_right _ List.perm_append_comm) P,?_⟩
 refine List.pairwise_append.mpr ⟨?_,J.iV,fun z hz x hx=>B z ?_ x (List.mem_reverse.mp hx)⟩
 ·refine List.pairwise_cons.mpr ⟨fun z hz=>h0 y hy z (List.mem_of_mem_take hz),pa⟩
 ·rcases List.mem_append.mp hz with hz |hz
  ·exact List.mem_append_right _ hz
  ·exact List.mem_append_left _ hz
end
section
variable {prog:Program}{w:World}{A:Around}{E:Value→Shared→Prop}{s:Shared}{κ:SortKind}{a₀:Array Keyed}{r:Keyed→Keyed→Bool}
theorem O6 {a b:Array Keyed}{Q:Array Keyed→SortSt→Prop}{st:SortSt}(hc:gC prog w A E s κ a₀ r) (hk:kindOf st=κ) (C:dH r a b) (ma:∀x∈a.toList,x∈a₀.toList) (mb:∀x∈b.toList,x∈a₀.toList) (FJ:1≤a.size) (Qs:1≤b.size)
  (h0:∀y,b[0]? =some y→∀x∈a.toList,r x y=false) (hl:∀x,a[a.size - 1]? =some x→∀y∈b.toList,r x y=false)
  (h:∀res ab,SG st ab→Good r a b res→Q res ab):wpS (model prog w) A E s (F3 a b) Q st:=by
 show wpS (model prog w) A E s (_ >>=_) _ _
 try dsimp -zeta only
 refine wpS_bind (wpS_lift (wpAny_rule ⟨rfl,?_⟩))
 obtain⟨x0,kC⟩:=Zj (xs:=a) (i:=a.size - 1) (by omega)
 refine wpS_bind (Zu kC ?_)
 have J0:JH r a b #[x0] (a.size - 1) b.size:=by
  have e:JH r a b #[] a.size b.size:=⟨Nat.le_refl _,Nat.le_refl _,by simp[←Array.length_toList],.nil,fun y hy x hx=>by cases hx⟩
  exact e.jH C FJ kC fun _ y hy=>hl x0 kC y (ZS hy)
 refine ZI (fun iD=>wpS_pure (h _ _ (SG.refl _) (J0.done C (.inl iD)))) (fun iD=>ZI (fun ff=>wpS_pure (h _ _ (SG.refl _) (J0.first C ff h0))) (fun ff=>wpS_bind (wpS_get ?_)))
 refine wpS_bind (wpS_mono (wpS_forRange (I:=fun x c aw=>SG st aw∧∃na nb out g,c=(none,na,nb,out,g)∧JH r a b out na nb∧1≤na∧2≤nb∧na+nb+x+1≤a.size+b.size) (Q:=fun c aw=>SG st aw∧∃res,c.fst=some res∧Good r a b res) ?step ?fin ⟨SG.refl _,_,_,_,_,rfl,J0,by omega,by omega,by omega⟩) ?post)
 case post=>
  rintro c aw ⟨gG,res,ec,gd⟩
  rw[ec]
  exact wpS_pure (h res aw gG gd)
 case fin=>
  rintro c aw ⟨_,na,nb,out,g,_,_,i1,i2,i3⟩
  rw[Nat.max_eq_right (Nat.zero_le _)]at i3
  omega
 case step=>
  rintro x c aw _ hx ⟨gG,na,nb,out,g,rfl,J,i1,i2,i3⟩
  have me:kindOf aw=κ:=by rw[gG.1];exact hk
  refine wpS_bind (wpS_mono (wpS_forRange (I:=fun y c au=>au=aw∧∃eJ eI dm ac bc,c=(none,eJ,eI,dm,ac,bc)∧JH r a b dm eJ eI∧1≤eJ∧2≤eI∧eJ+eI+y≤na+nb)
   (Q:=fun c au=>au=aw∧((∃res,c.fst=some res∧Good r a b res)∨∃eJ eI dm ac bc,c=(none,eJ,eI,dm,ac,bc)∧JH r a b dm eJ eI∧1≤eJ∧2≤eI∧eJ+eI+1≤na+nb)) ?_ ?_ ⟨rfl,_,_,_,_,_,rfl,J,i1,i2,Nat.le_refl _⟩) ?_)
  ·rintro y c au _ hy ⟨rfl,eJ,eI,dm,ac,bc,rfl,J',j1,j2,j3⟩
   dsimp only
   have la:=J'.la
   have lb:=J'.lb
   obtain⟨yb,gT⟩:=Zj (xs:=b) (i:=eI - 1) (by omega)
   obtain⟨xa,gW⟩:=Zj (xs:=a) (i:=eJ - 1) (by omega)
   refine wpS_bind (Zu gT (wpS_bind (Zu gW (wpS_bind (hc _ _ _ _ (mb _ (ZS gT)) (ma _ (ZS gW)) me ?_)))))
   refine wU (fun hr=>wpS_bind (Zu gW ?_)) (fun hr=>wpS_bind (Zu gT ?_))
   ·have J2:=J'.jH C j1 gW (fun _ y hy=>by rw[gT]at hy;cases hy;exact C.o.fB _ _ hr)
    exact ZI (fun hz=>wpS_pure ⟨rfl,.inl ⟨_,rfl,J2.done C (.inl hz)⟩⟩) (fun hz=>ZH (fun _=>wpS_pure ⟨rfl,.inr ⟨_,_,_,_,_,rfl,J2,by omega,j2,by omega⟩⟩) (fun _=>wpS_pure ⟨rfl,_,_,_,_,_,rfl,J2,by omega,j2,by omega⟩))
   ·have J2:=J'.jG C (by omega) gT (fun _ x hx=>by rw[gW]at hx;cases hx;exact hr)
    exact ZI (fun hz=>wpS_pure ⟨rfl,.inl ⟨_,rfl,J2.first C hz h0⟩⟩) (fun hz=>ZH (fun _=>wpS_pure ⟨rfl,.inr ⟨_,_,_,_,_,rfl,J2,j1,by omega,by omega⟩⟩) (fun _=>wpS_pure ⟨rfl,_,_,_,_,_,rfl,J2,j1,by omega,by omega⟩))
  ·rintro c au ⟨rfl,eJ,eI,dm,ac,bc,rfl,J',j1,j2,j3⟩
   rw[Nat.max_eq_right (Nat.zero_le _)]at j3
   have la:=J.la
   have lb:=J.lb
   omega
  rintro c au ⟨rfl,⟨res,ec,gd⟩ |⟨eJ,eI,dm,ac,bc,rfl,J',j1,j2,j3⟩⟩
  ·rw[ec]
   exact wpS_pure ⟨gG,res,rfl,gd⟩
  clear J i1 i2 me
  dsimp -zeta only
  refine wpS_bind (wpS_lift (wpAny_rule ⟨rfl,?_⟩))
  refine wpS_bind (wpS_mono (wpS_forRange (I:=fun y c au=>SG st au∧∃na nb out g ac bc,c=(none,na,nb,out,g,ac,bc)∧JH r a b out na nb∧1≤na∧2≤nb∧na+nb+y≤eJ+eI)
   (Q:=fun c au=>SG st au∧((∃res,c.fst=some res∧Good r a b res)∨∃na nb out g ac bc,c=(none,na,nb,out,g,ac,bc)∧JH r a b out na nb∧1≤na∧2≤nb∧na+nb≤eJ+eI)) ?_ ?_ ⟨gG,_,_,_,_,_,_,rfl,J',j1,j2,Nat.le_refl _⟩) ?_)
  ·rintro y c au _ hy ⟨ir,na,nb,out,g,ac,bc,rfl,J,i1,i2,i4⟩
   have la:=J.la
   have lb:=J.lb
   obtain⟨y2,cD⟩:=Zj (xs:=b) (i:=nb - 1) (by omega)
   extract_lets -underBinder s1 x1 s2 z1 s3 o1 s4 g1 s5 o9 o7 jp g2
   refine Br (j:=jp) fun g'=> ?_
   dsimp -zeta only[jp,o7,o9,s5,s4,z1,s3,x1,s2,o1,s1]
   clear g2 jp o7 o9 s5 g1 s4 o1 s3 z1 s2 x1 s1
   refine wpS_bind (JC ?_)
   generalize vW:SortSt.mk' _ _ _ _ _=bt
   have dj:SG st bt:=by rw[←vW];exact ir
   have kH:kindOf bt=κ:=by rw[dj.1];exact hk
   refine wpS_bind (Zu cD ?_)
   refine wpS_bind (Yj hc kH (fun i=>match a[0+i]? with |some x=> !r y2 x |none=>false) (fun i hi=> ?_) (mb y2 (ZS cD)) (fun i j bV hj hp=> ?_) (by omega) fun at_ kn fG fH=> ?_)
   ·obtain⟨x,hx⟩:=Zj (xs:=a) (i:=0+i) (by omega)
    refine⟨x,hx,ma x (ZS hx),?_⟩
    try dsimp only
    rw[hx]
    rfl
   ·obtain⟨xj,gU⟩:=Zj (xs:=a) (i:=0+j) (by omega)
    obtain⟨xi,jO⟩:=Zj (xs:=a) (i:=0+i) (by omega)
    try dsimp only at hp ⊢
    rw[gU]at hp
    rw[jO]
    rw[Bool.not_eq_true']at hp ⊢
    exact C.o.cV _ _ _ (JK C.o C.sa (ZM jO) (ZM gU) (by omega)) hp
   have low:1≤at_→∀x,a[at_ - 1]? =some x→r y2 x=false:=fun hk x hx=>by
    have:=fG (at_ - 1) (by omega)
    try dsimp only at this
    rw[Nat.zero_add,hx,Bool.not_eq_true']at this
    exact this
   dsimp -zeta only
   extract_lets -underBinder k2 wL jp o3 x3
   refine rN (j:=jp) (fun n o=>JH r a b o n nb∧1≤n∧n≤na∧∀x,a[n - 1]? =some x→r y2 x=false) ?_ (fun ja hj=> ?_) (fun ja=> ?_)
   ·rintro n o ⟨J1,q1,q2,q3⟩
    clear low fG fH kn
    dsimp -zeta only[jp]
    clear x3 o3 jp
    clear_value wL k2
    refine wpS_bind (Zu cD ?_)
    have J2:=J1.jG C (by omega) cD (fun _=>q3)
    obtain⟨x3,gX⟩:=Zj (xs:=a) (i:=n - 1) (by omega)
    refine ZI (fun hz=>wpS_pure ⟨dj,.inl ⟨_,rfl,J2.first C hz h0⟩⟩) (fun hz=>wpS_bind (Zu gX ?_))
    refine wpS_bind (Yj hc kH (fun i=>match b[0+i]? with |some y=>r y x3 |none=>false) (fun i hi=> ?_) (ma x3 (ZS gX)) (fun i j bV hj hp=> ?_) (by omega) fun k1 lZ fG fH=> ?_)
    ·obtain⟨y,hy⟩:=Zj (xs:=b) (i:=0+i) (by omega)
     refine⟨y,hy,mb y (ZS hy),?_⟩
     try dsimp only
     rw[hy]
     rfl
    ·obtain⟨yj,iE⟩:=Zj (xs:=b) (i:=0+j) (by omega)
     obtain⟨yi,iF⟩:=Zj (xs:=b) (i:=0+i) (by omega)
     try dsimp only at hp ⊢
     rw[iE]at hp
     rw[iF]
     exact wQ C.o hp (JK C.o C.sb (ZM iF) (ZM iE) (by omega))
    have low:1≤k1→∀y,b[k1 - 1]? =some y→r x3 y=false:=fun hk y hy=>by
     have:=fG (k1 - 1) (by omega)
     try dsimp only at this
     rw[Nat.zero_add,hy]at this
     exact C.o.fB _ _ this
    dsimp -zeta only
    extract_lets -underBinder k3 wF jp o3 z3
    refine rN (j:=jp) (fun m o=>JH r a b o n m∧2≤m∧m≤nb - 1∧∀y,b[m - 1]? =some y→r x3 y=false) ?_ (fun ja hj=> ?_) (fun ja=> ?_)
    ·rintro m o ⟨J3,p1,p2,p3⟩
     clear low fG fH lZ
     dsimp -zeta only[jp]
     clear z3 o3 jp
     clear_value wF k3
     refine wpS_bind (Zu gX ?_)
     have J4:=J3.jH C q1 gX (fun _=>p3)
     exact ZI (fun hz=>wpS_pure ⟨dj,.inl ⟨_,rfl,J4.done C (.inl hz)⟩⟩) (fun hz=>ZH (fun _=>wpS_pure ⟨dj,.inr ⟨_,_,_,_,_,_,rfl,J4,by omega,p1,by omega⟩⟩) (fun _=>wpS_pure ⟨dj,_,_,_,_,_,_,rfl,J4,by omega,p1,by omega⟩))
    ·dsimp only[o3,z3]
     clear_value jp
     have J3:=J2.Ex C (m:=k1) lZ (fun i vV oB y x hy hx=>by
      rw[gX]at hx
      cases hx
      have:=fH i vV oB
      try dsimp only at this
      rw[Nat.zero_add,hy]at this
      exact this)
     exact ZI (fun hz=>wpS_pure ⟨dj,.inl ⟨_,rfl,J3.first C hz h0⟩⟩) (fun iD=>ZI (fun hz=>wpS_pure ⟨dj,.inl ⟨_,rfl,J3.done C (.inr hz)⟩⟩) (fun hz=>hj _ _ ⟨J3,by omega,lZ,low (by omega)⟩))
    ·obtain rfl:k1=nb - 1:=Nat.le_antisymm lZ (Nat.sub_eq_zero_iff_le.mp (Nat.eq_zero_of_not_pos ja))
     exact⟨J2,by omega,Nat.le_refl _,low (by omega)⟩
   ·dsimp only[o3,x3]
    clear_value jp
    have J1:=J.Ey C (m:=at_) kn (fun i vV oB x y hx hy=>by
     rw[cD]at hy
     cases hy
     have:=fH i vV oB
     try dsimp only at this
     rw[Nat.zero_add,hx,Bool.not_eq_false']at this
     exact C.o.fB _ _ this)
    exact ZI (fun hz=>wpS_pure ⟨dj,.inl ⟨_,rfl,J1.done C (.inl hz)⟩⟩) (fun hz=>hj _ _ ⟨J1,Nat.pos_of_ne_zero hz,kn,low (Nat.pos_of_ne_zero hz)⟩)
   ·obtain rfl:at_=na:=Nat.le_antisymm kn (Nat.sub_eq_zero_iff_le.mp (Nat.eq_zero_of_not_pos ja))
    exact⟨J,i1,Nat.le_refl _,low i1⟩
  ·rintro c au ⟨ir,na,nb,out,g,ac,bc,rfl,J,i1,i2,i4⟩
   rw[Nat.max_eq_right (Nat.zero_le _)]at i4
   have la:=J'.la
   have lb:=J'.lb
   omega
  rintro c au ⟨ir,⟨res,ec,gd⟩ |⟨Qt,Qr,out,g,ac,bc,rfl,J2,k1,k2,k3⟩⟩
  ·rw[ec]
   exact wpS_pure ⟨ir,res,rfl,gd⟩
  dsimp only
  exact wpS_bind (JC (wpS_pure ⟨ir,_,_,_,_,rfl,J2,k1,k2,by omega⟩))
end
def SI (r:Keyed→Keyed→Bool) (xs:Array Keyed) (lo hi:Nat):Prop:=∀i j x y,lo≤i→i≤j→j<hi→xs[i]? =some x→xs[j]? =some y→r y x=false
def NI (r:Keyed→Keyed→Bool) (xs:Array Keyed) (lo hi:Nat):Prop:=∀i j x y,lo≤i→i≤j→j<hi→xs[i]? =some x→xs[j]? =some y→r x y=false
def EQ (r:Keyed→Keyed→Bool) (xs:Array Keyed) (lo hi:Nat):Prop:=∀i j x y,lo≤i→i<hi→lo≤j→j<hi→xs[i]? =some x→xs[j]? =some y→r x y=false
section
variable {r:Keyed→Keyed→Bool}{xs:Array Keyed}{lo hi:Nat}
theorem SI.one (o:Ord r):SI r xs lo (lo+1):=fun i j x y h1 h2 h3 hx hy=>by
 obtain rfl:i=j:=by omega
 rw[hx]at hy;cases hy;exact o.jM _
theorem NI.one (o:Ord r):NI r xs lo (lo+1):=fun i j x y h1 h2 h3 hx hy=>by
 obtain rfl:i=j:=by omega
 rw[hx]at hy;cases hy;exact o.jM _
theorem EQ.one (o:Ord r):EQ r xs lo (lo+1):=fun i j x y h1 h2 h3 h4 hx hy=>by
 obtain rfl:i=j:=by omega
 rw[hx]at hy;cases hy;exact o.jM _
theorem SI.snoc (o:Ord r) (h:SI r xs lo hi) {p q:Keyed}(hl:lo<hi) (hp:xs[hi - 1]? =some p) (hq:xs[hi]? =some q) (hr:r q p=false):SI r xs lo (hi+1):=fun i j x y h1 h2 h3 hx hy=>by
 by_cases hj:j<hi
 ·exact h i j x y h1 h2 hj hx hy
 ·obtain rfl:j=hi:=by omega
  rw[hq]at hy;cases hy
  by_cases aW:i=j
  ·subst aW
   rw[hq]at hx;cases hx;exact o.jM _
  ·exact o.cV x p q (h i (j - 1) x p h1 (by omega) (by omega) hx hp) hr
theorem NI.snoc (o:Ord r) (h:NI r xs lo hi) {p q:Keyed}(hl:lo<hi) (hp:xs[hi - 1]? =some p) (hq:xs[hi]? =some q) (hr:r p q=false):NI r xs lo (hi+1):=fun i j x y h1 h2 h3 hx hy=>by
 by_cases hj:j<hi
 ·exact h i j x y h1 h2 hj hx hy
 ·obtain rfl:j=hi:=by omega
  rw[hq]at hy;cases hy
  by_cases aW:i=j
  ·subst aW
   rw[hq]at hx;cases hx;exact o.jM _
  ·exact o.cV q p x hr (h i (j - 1) x p h1 (by omega) (by omega) hx hp)
theorem EQ.snoc (o:Ord r) (h:EQ r xs lo hi) {p q:Keyed}(hl:lo<hi) (hp:xs[hi - 1]? =some p) (hq:xs[hi]? =some q) (hr:r p q=false) (gh:r q p=false):EQ r xs lo (hi+1):=fun i j x y h1 h2 h3 h4 hx hy=>by
 have one:∀i x,lo≤i→i<hi→xs[i]? =some x→r x q=false∧r q x=false:=fun i x h1 h2 hx=>
  ⟨o.cV q p x hr (h i (hi - 1) x p h1 h2 (by omega) (by omega) hx hp),o.cV x p q (h (hi - 1) i p x (by omega) (by omega) h1 h2 hp hx) gh⟩
 by_cases hj:j<hi
 ·by_cases aW:i<hi
  ·exact h i j x y h1 aW h3 hj hx hy
  ·obtain rfl:i=hi:=by omega
   rw[hq]at hx;cases hx
   exact(one j y h3 hj hy).2
 ·obtain rfl:j=hi:=by omega
  rw[hq]at hy;cases hy
  by_cases aW:i<j
  ·exact(one i x h1 aW hx).1
  ·obtain rfl:i=j:=by omega
   rw[hq]at hx;cases hx
   exact o.jM _
abbrev cC (xs:Array Keyed) (i j:Nat):Array Keyed:=mirror xs i j ((j - i)/2)
theorem WS (hh:hi≤xs.size) (k:Nat):(cC xs lo hi)[k]? =if lo≤k∧k<hi then xs[lo+hi - 1 - k]? else xs[k]? :=getElem?_mirror_all hh k
theorem SI.cC (h:SI r xs lo hi) (hh:hi≤xs.size):NI r (cC xs lo hi) lo hi:=fun i j x y h1 h2 h3 hx hy=>by
 rw[WS hh,if_pos ⟨by omega,by omega⟩]at hx hy
 exact h _ _ y x (by omega) (by omega) (by omega) hy hx
theorem NI.cC (h:NI r xs lo hi) (hh:hi≤xs.size):SI r (cC xs lo hi) lo hi:=fun i j x y h1 h2 h3 hx hy=>by
 rw[WS hh,if_pos ⟨by omega,by omega⟩]at hx hy
 exact h _ _ y x (by omega) (by omega) (by omega) hy hx
theorem NI.zj {m:Nat}(h:NI r xs lo hi) (e:EQ r xs m hi) (hm:lo≤m) (hh:hi≤xs.size):NI r (PyProof.Rows.de.cC xs m hi) lo hi:=fun i j x y h1 h2 h3 hx hy=>by
 rw[WS hh]at hx hy
 by_cases hj:m≤j
 ·rw[if_pos ⟨hj,h3⟩]at hy
  by_cases aW:m≤i
  ·rw[if_pos ⟨aW,by omega⟩]at hx
   exact e _ _ x y (by omega) (by omega) (by omega) (by omega) hx hy
  ·rw[if_neg (by omega)]at hx
   exact h i _ x y h1 (by omega) (by omega) hx hy
 ·rw[if_neg (by omega)]at hx hy
  exact h i j x y h1 h2 h3 hx hy
theorem CU {m:Nat}(hh:hi≤xs.size) (hm:m<hi) {p:Keyed}(hp:(cC xs m hi)[hi - 1]? =some p):xs[m]? =some p:=by
 rw[WS hh,if_pos ⟨by omega,by omega⟩,show m+hi - 1 - (hi - 1)=m by omega]at hp
 exact hp
theorem xh (hh:hi≤xs.size) {k:Nat}(h:k<lo∨hi≤k):(cC xs lo hi)[k]? =xs[k]? :=by rw[WS hh,if_neg (by omega)]
end
structure CB (a₀:Array Keyed) (κ:SortKind) (lo:Nat) (st ab:SortSt):Prop where
 kind:kindOf ab=κ
 pend:pendingOf ab=pendingOf st
 fail:failedOf ab=failedOf st
 perm:(arrOf ab).Perm a₀
 pre:∀k,k<lo→(arrOf ab)[k]? =(arrOf st)[k]?
theorem CB.size {a₀:Array Keyed}{κ:SortKind}{lo:Nat}{st ab:SortSt}(h:CB a₀ κ lo st ab):(arrOf ab).size=a₀.size:=h.perm.size_eq
theorem CB.mem {a₀:Array Keyed}{κ:SortKind}{lo:Nat}{st ab:SortSt}(h:CB a₀ κ lo st ab) {i:Nat}{x:Keyed}(hx:(arrOf ab)[i]? =some x):x∈a₀.toList:=(Array.perm_iff_toList_perm.mp h.perm).mem_iff.mp (ZS hx)
theorem CB.rev {a₀:Array Keyed}{κ:SortKind}{lo m hi:Nat}{st ab:SortSt}(h:CB a₀ κ lo st ab) (hm:lo≤m) (hh:hi≤a₀.size):CB a₀ κ lo st (setArr ab (cC (arrOf ab) m hi)):=
 ⟨h.kind,h.pend,h.fail,(mirror_perm _ _ _ _).trans h.perm,fun k hk=>by
  show(cC (arrOf ab) m hi)[k]? =_
  rw[xh (by rw[h.size];exact hh) (.inl (by omega))]
  exact h.pre k hk⟩
section
variable {prog:Program}{w:World}{A:Around}{E:Value→Shared→Prop}{s:Shared}{κ:SortKind}{a₀:Array Keyed}{r:Keyed→Keyed→Bool}
theorem Jo {st ab:SortSt}{lo i j:Nat}{x y:Keyed}{Q:Option Bool→SortSt→Prop}(hc:gC prog w A E s κ a₀ r) (B:CB a₀ κ lo st ab) (hx:(arrOf ab)[i]? =some x) (hy:(arrOf ab)[j]? =some y) (h:Q (some (r x y)) ab):wpS (model prog w) A E s (ltAt' i j) Q ab:=by
 rw[ltAt'_eq]
 exact wpS_bind (wpS_get (wpS_bind (Zu hx (wpS_bind (Zu hy (hc _ _ _ _ (B.mem hx) (B.mem hy) B.kind h))))))
theorem JD {st:SortSt}{i j:Nat}{Q:Unit→SortSt→Prop}(h:Q () (setArr st (cC (arrOf st) i j))):wpS (model prog w) A E s (reverseSlice' i j) Q st:=by
 rw[reverseSlice'_eq]
 exact wpS_modify h
theorem EQ.uV {xs:Array Keyed}{lo hi:Nat}(o:Ord r) (h:hi=lo+1):EQ r xs lo hi:=by subst h;exact EQ.one o
theorem Jv {st:SortSt}{lo dn:Nat}{Q:Option Nat→SortSt→Prop}(o:Ord r) (hc:gC prog w A E s κ a₀ r) (B0:CB a₀ κ lo st st) (h1:1≤dn) (hz:lo+dn≤a₀.size)
  (h:∀n ab,CB a₀ κ lo st ab→1≤n→n≤dn→SI r (arrOf ab) lo (lo+n)→Q (some n) ab):wpS (model prog w) A E s (countRun' lo dn) Q st:=by
 rw[countRun'_eq]
 try dsimp -zeta only
 have z0:=B0.size
 refine wpS_bind (wpS_mono (wpS_forRange (I:=fun y c ab=>ab=st∧c=(none,y)∧SI r (arrOf st) lo (lo+y))
  (Q:=fun c ab=>ab=st∧∃n,c=(none,n)∧1≤n∧n≤dn∧SI r (arrOf st) lo (lo+n)∧(n=dn∨∃p q,(arrOf st)[lo+n - 1]? =some p∧(arrOf st)[lo+n]? =some q∧r q p=true)) ?_ ?_ ⟨rfl,rfl,SI.one o⟩) ?_)
 ·rintro y c ab l0 cD ⟨rfl,rfl,S⟩
  dsimp only
  obtain⟨p,hp⟩:=Zj (xs:=arrOf ab) (i:=lo+y - 1) (by omega)
  obtain⟨q,hq⟩:=Zj (xs:=arrOf ab) (i:=lo+y) (by omega)
  refine wpS_bind (Jo hc B0 hq hp ?_)
  cases hr:r q p with
  |true=>exact wpS_pure ⟨rfl,y,rfl,l0,by omega,S,.inr ⟨p,q,hp,hq,hr⟩⟩
  |false=>exact wpS_pure ⟨rfl,rfl,S.snoc (hi:=lo+y) o (by omega) hp hq hr⟩
 ·rintro c ab ⟨rfl,rfl,S⟩
  have e9:max 1 dn=dn:=Nat.max_eq_right h1
  rw[e9]at S
  exact⟨rfl,dn,by rw[e9],h1,Nat.le_refl _,S,.inl rfl⟩
 rintro c ab ⟨rfl,n,rfl,n1,n2,S,hn⟩
 refine ZI (fun kG=>wpS_pure (h n ab B0 n1 n2 S)) (fun kG=> ?_)
 rcases hn with hn |⟨p,q,hp,hq,hr⟩
 ·exact absurd hn kG
 replace n2:n<dn:=Nat.lt_of_le_of_ne n2 kG
 dsimp -zeta only
 extract_lets -underBinder jp
 refine Bk (j:=jp) (fun stx=>CB a₀ κ lo ab stx∧NI r (arrOf stx) lo (lo+(n+1))) ?_ (fun Hg hj=> ?_) (fun Hg=> ?_)
 ·rintro aw ⟨B1,N1⟩
  dsimp -zeta only[jp]
  clear jp S hp hq hr
  refine wpS_bind (wpS_lift (wpAny_rule ⟨rfl,?_⟩))
  refine wpS_bind (wpS_mono (wpS_forRange (I:=fun y c stx=>CB a₀ κ lo ab stx∧∃cA,c=(none,y,cA)∧NI r (arrOf stx) lo (lo+y)∧cA+1≤y∧EQ r (arrOf stx) (lo+y - (cA+1)) (lo+y))
   (Q:=fun c stx=>CB a₀ κ lo ab stx∧∃m cA,c=(none,m,cA)∧n+1≤m∧m≤dn∧NI r (arrOf stx) lo (lo+m)∧cA+1≤m∧EQ r (arrOf stx) (lo+m - (cA+1)) (lo+m)) ?_ ?_ ⟨B1,0,rfl,N1,by omega,EQ.uV o (by omega)⟩) ?_)
  ·rintro y c au l0 cD ⟨B2,cA,rfl,N2,g1,e2⟩
   dsimp only
   have z2:=B2.size
   obtain⟨p2,eV⟩:=Zj (xs:=arrOf au) (i:=lo+y - 1) (by omega)
   obtain⟨q2,bG⟩:=Zj (xs:=arrOf au) (i:=lo+y) (by omega)
   refine wpS_bind (Jo hc B2 bG eV ?_)
   cases gh:r q2 p2 with
   |true=>
    dsimp only
    rw[if_pos rfl]
    by_cases qX:cA>0
    ·rw[if_pos qX]
     refine wpS_bind (JD ?_)
     have B3:=B2.rev (m:=lo+y - (cA+1)) (hi:=lo+y) (by omega) (by omega)
     have N3:NI r (cC (arrOf au) (lo+y - (cA+1)) (lo+y)) lo (lo+y):=N2.zj e2 (by omega) (by omega)
     obtain⟨p3,n8⟩:=Zj (xs:=cC (arrOf au) (lo+y - (cA+1)) (lo+y)) (i:=lo+y - 1) (by rw[mirror_size];omega)
     have G7:=CU (by omega) (by omega) n8
     have iI:(cC (arrOf au) (lo+y - (cA+1)) (lo+y))[lo+y]? =some q2:=by rw[xh (by omega) (.inr (Nat.le_refl _))];exact bG
     have h3:r p3 q2=false:=o.cV q2 p2 p3 (o.fB _ _ gh) (e2 _ _ p3 p2 (Nat.le_refl _) (by omega) (by omega) (by omega) G7 eV)
     exact wpS_pure ⟨B3,0,rfl,N3.snoc (hi:=lo+y) o (by omega) n8 iI h3,by omega,EQ.uV o (by omega)⟩
    ·rw[if_neg qX]
     exact wpS_pure ⟨B2,0,rfl,N2.snoc (hi:=lo+y) o (by omega) eV bG (o.fB _ _ gh),by omega,EQ.uV o (by omega)⟩
   |false=>
    dsimp only
    rw[if_neg Bool.false_ne_true]
    refine wpS_bind (Jo hc B2 eV bG ?_)
    cases zJ:r p2 q2 with
    |true=>exact wpS_pure ⟨B2,y,cA,rfl,by omega,by omega,N2,g1,e2⟩
    |false=>
     refine wpS_pure ⟨B2,cA+1,rfl,N2.snoc (hi:=lo+y) o (by omega) eV bG zJ,by omega,?_⟩
     have:=e2.snoc (hi:=lo+y) o (by omega) eV bG zJ gh
     rw[show lo+(y+1) - (cA+1+1)=lo+y - (cA+1) by omega]
     exact this
  ·rintro c au ⟨B2,cA,rfl,N2,g1,e2⟩
   have e9:max (n+1) dn=dn:=Nat.max_eq_right (by omega)
   rw[e9]at N2 g1 e2
   exact⟨B2,dn,cA,by rw[e9],by omega,by omega,N2,g1,e2⟩
  rintro c bt ⟨B3,m,cA,rfl,m1,m2,N3,g3,e3⟩
  have z3:=B3.size
  extract_lets -underBinder r1 s1 t1 u1
  dsimp -zeta only[r1,s1,t1,u1]
  extract_lets -underBinder jp
  refine Bk (j:=jp) (fun stx=>CB a₀ κ lo ab stx∧NI r (arrOf stx) lo (lo+m)) ?_ (fun qX hj=> ?_) (fun qX=> ⟨B3,N3⟩)
  ·rintro cT ⟨B4,N4⟩
   clear B3 N3 e3 z3
   dsimp -zeta only[jp]
   clear jp
   refine wpS_bind (JD ?_)
   have B9:=B4.rev (m:=lo) (hi:=lo+m) (Nat.le_refl _) (by omega)
   have S9:SI r (arrOf (setArr cT (cC (arrOf cT) lo (lo+m)))) lo (lo+m):=NI.cC N4 (by rw[B4.size];omega)
   generalize setArr cT (cC (arrOf cT) lo (lo+m))=lu at B9 S9
   have z9:=B9.size
   refine wpS_bind (wpS_forRange (I:=fun y c stx=>stx=lu∧c=(none,y)∧SI r (arrOf lu) lo (lo+y)) ?_ ?_ ⟨rfl,rfl,S9⟩)
   ·rintro y c stx l0 cD ⟨rfl,rfl,S⟩
    dsimp only
    obtain⟨p9,zO⟩:=Zj (xs:=arrOf stx) (i:=lo+y - 1) (by omega)
    obtain⟨q9,zK⟩:=Zj (xs:=arrOf stx) (i:=lo+y) (by omega)
    refine wpS_bind (Jo hc B9 zK zO ?_)
    cases GW:r q9 p9 with
    |true=>exact wpS_pure (wpS_pure (h y stx B9 (by omega) (by omega) S))
    |false=>exact wpS_pure ⟨rfl,rfl,S.snoc (hi:=lo+y) o (by omega) zO zK GW⟩
   ·rintro c stx ⟨rfl,rfl,S⟩
    rw[Nat.max_eq_right (by omega)]at S
    have e9:max m dn=dn:=Nat.max_eq_right (by omega)
    dsimp only
    rw[e9]
    exact wpS_pure (h dn stx B9 (by omega) (by omega) S)
  ·clear_value jp
   exact wpS_bind (JD (hj _ ⟨B3.rev (m:=lo+m - (cA+1)) (hi:=lo+m) (by omega) (by omega),N3.zj e3 (by omega) (by omega)⟩))
 ·clear_value jp
  obtain⟨f,hf⟩:=Zj (xs:=arrOf ab) (i:=lo) (by omega)
  refine wpS_bind (Jo hc B0 hf hp ?_)
  refine wU (fun zH=>wpS_pure (h n ab B0 n1 (Nat.le_of_lt n2) S)) (fun zH=>wpS_bind (JD (hj _ ⟨B0.rev (m:=lo) (hi:=lo+n) (Nat.le_refl _) (by omega),?_⟩)))
  have N1:NI r (cC (arrOf ab) lo (lo+n)) lo (lo+n):=S.cC (by omega)
  obtain⟨p1,l5⟩:=Zj (xs:=cC (arrOf ab) lo (lo+n)) (i:=lo+n - 1) (by rw[mirror_size];omega)
  have zP:=CU (by omega) (by omega) l5
  rw[hf]at zP
  cases zP
  have dA:(cC (arrOf ab) lo (lo+n))[lo+n]? =some q:=by rw[xh (by omega) (.inr (Nat.le_refl _))];exact hq
  exact N1.snoc (hi:=lo+n) o (by omega) l5 dA (o.cV q p f (o.fB _ _ hr) zH)
 ·obtain rfl:n=1:=by omega
  exact⟨B0,(NI.one o).snoc (hi:=lo+1) o (by omega) hp hq (o.fB _ _ hr)⟩
theorem Lo {x y z:Keyed}(o:Ord r) (h:r z x=true) (h2:r y x=false):r z y=true:=by
 cases e:r z y with
 |true=>rfl
 |false=>
  have:=o.cV x y z h2 e
  rw[h]at this
  cases this
theorem N6 {st:SortSt}{i j:Nat}{Q:Unit→SortSt→Prop}(h:Q () (setArr st (bubble (arrOf st) i (i - j)))):wpS (model prog w) A E s (moveDown' i j) Q st:=by
 rw[moveDown'_eq]
 exact wpS_modify h
theorem SI.put {xs:Array Keyed}{lo k l:Nat}{q:Keyed}(o:Ord r) (S:SI r xs lo (lo+k)) (hq:xs[lo+k]? =some q) (hl:l≤k) (h1:∀i x,i<l→xs[lo+i]? =some x→r q x=false) (h2:∀i x,l≤i→i<k→xs[lo+i]? =some x→r q x=true):SI r (bubble xs (lo+k) (lo+k - (lo+l))) lo (lo+(k+1)):=by
 have hs:lo+k<xs.size:=(Array.getElem?_eq_some_iff.mp hq).1
 intro i j x y g1 g2 g3 hx hy
 rw[getElem?_bubble hs _ (by omega)]at hx hy
 rw[show lo+k - (lo+k - (lo+l))=lo+l by omega]at hx hy
 by_cases ei:i=lo+l
 ·rw[if_pos ei,hq]at hx
  cases hx
  by_cases ej:j=lo+l
  ·rw[if_pos ej,hq]at hy
   cases hy
   exact o.jM _
  ·rw[if_neg ej,if_pos (by omega)]at hy
   exact o.fB _ _ (h2 (j - 1 - lo) y (by omega) (by omega) (by rw[show lo+(j - 1 - lo)=j - 1 by omega];exact hy))
 ·rw[if_neg ei]at hx
  by_cases ej:j=lo+l
  ·rw[if_pos ej,hq]at hy
   cases hy
   rw[if_neg (by omega)]at hx
   exact h1 (i - lo) x (by omega) (by rw[show lo+(i - lo)=i by omega];exact hx)
  ·rw[if_neg ej]at hy
   by_cases gi:lo+l<i
   ·rw[if_pos (by omega)]at hx hy
    exact S (i - 1) (j - 1) x y (by omega) (by omega) (by omega) hx hy
   ·rw[if_neg (by omega)]at hx
    by_cases gj:lo+l<j
    ·rw[if_pos (by omega)]at hy
     exact S i (j - 1) x y (by omega) (by omega) (by omega) hx hy
    ·rw[if_neg (by omega)]at hy
     exact S i j x y (by omega) (by omega) (by omega) hx hy
theorem Y6 {st cQ:SortSt}{lo n ok:Nat}{Q:Bool→SortSt→Prop}(o:Ord r) (hc:gC prog w A E s κ a₀ r) (B0:CB a₀ κ lo cQ st) (h1:1≤ok) (hn:ok≤n) (hz:lo+n≤a₀.size) (S0:SI r (arrOf st) lo (lo+ok))
  (h:∀ab,CB a₀ κ lo cQ ab→SI r (arrOf ab) lo (lo+n)→Q true ab):wpS (model prog w) A E s (binarySort' lo n ok) Q st:=by
 rw[binarySort'_eq]
 dsimp only
 rw[Nat.max_eq_left h1]
 refine wpS_bind (wpS_forRange (I:=fun k c ab=>c=(none,())∧CB a₀ κ lo cQ ab∧SI r (arrOf ab) lo (lo+k)) ?_ ?_ ⟨rfl,B0,S0⟩)
 ·rintro k c aw me fk ⟨rfl,B1,S1⟩
  try dsimp only
  have z1:=B1.size
  obtain⟨q,hq⟩:=Zj (xs:=arrOf aw) (i:=lo+k) (by omega)
  refine wpS_bind (wpS_mono (wpS_forRange (I:=fun y c ab=>ab=aw∧∃l u,c=(none,l,u)∧l≤u∧u≤k∧(∀i x,i<l→(arrOf aw)[lo+i]? =some x→r q x=false)∧(∀i x,u≤i→i<k→(arrOf aw)[lo+i]? =some x→r q x=true)∧u - l≤k - y)
   (Q:=fun c ab=>ab=aw∧∃l u,c=(none,l,u)∧l≤k∧(∀i x,i<l→(arrOf aw)[lo+i]? =some x→r q x=false)∧(∀i x,l≤i→i<k→(arrOf aw)[lo+i]? =some x→r q x=true)) ?_ ?_ ⟨rfl,0,k,rfl,by omega,by omega,fun i x hi=>absurd hi (by omega),fun i x g1 g2=>absurd g2 (by omega),by omega⟩) ?_)
  ·rintro y c ab _ hy ⟨rfl,l,u,rfl,g1,g2,g3,g4,g5⟩
   dsimp only
   refine ZH (fun fo=> ?_) (fun fo=> ?_)
   ·exact wpS_pure ⟨rfl,l,u,rfl,by omega,g3,fun i x g6=>g4 i x (by omega)⟩
   ·have hm:(l+u)/2<u:=by omega
    have fI:l≤(l+u)/2:=by omega
    generalize (l+u)/2=m at hm fI
    obtain⟨p,hp⟩:=Zj (xs:=arrOf ab) (i:=lo+m) (by omega)
    refine wpS_bind (Jo hc B1 hq hp ?_)
    cases hr:r q p with
    |true=>
     refine wpS_pure ⟨rfl,l,m,rfl,fI,by omega,g3,fun i x g6 g7 hx=> ?_,by omega⟩
     exact Lo o hr (S1 (lo+m) (lo+i) p x (by omega) (by omega) (by omega) hp hx)
    |false=>
     refine wpS_pure ⟨rfl,m+1,u,rfl,by omega,g2,fun i x g6 hx=> ?_,g4,by omega⟩
     exact o.cV x p q (S1 (lo+i) (lo+m) x p (by omega) (by omega) (by omega) hx hp) hr
  ·rintro c ab ⟨rfl,l,u,rfl,g1,g2,g3,g4,g5⟩
   rw[Nat.max_eq_right (Nat.zero_le _)]at g5
   exact⟨rfl,l,u,rfl,by omega,g3,fun i x g6=>g4 i x (by omega)⟩
  rintro c ab ⟨rfl,l,u,rfl,g1,g3,g4⟩
  dsimp only
  refine wpS_bind (N6 (wpS_pure ⟨rfl,⟨B1.kind,B1.pend,B1.fail,(bubble_perm _ _ _).trans B1.perm,fun i hi=> ?_⟩,S1.put o hq g1 g3 g4⟩))
  show(bubble (arrOf ab) (lo+k) (lo+k - (lo+l)))[i]? =_
  rw[getElem?_bubble (by omega) _ (by omega),if_neg (by omega),if_neg (by omega)]
  exact B1.pre i hi
 ·rintro c aw ⟨rfl,B1,S1⟩
  rw[Nat.max_eq_right hn]at S1
  exact wpS_pure (h aw B1 S1)
end
def seg (L:List Keyed) (s n:Nat):List Keyed:=(L.drop s).take n
theorem Jc {L:List Keyed}{s n i:Nat}(h:i<n):(seg L s n)[i]? =L[s+i]? :=by
 unfold seg
 rw[List.getElem?_take_of_lt h,List.getElem?_drop]
theorem Cr {L:List Keyed}{s n:Nat}(h:s+n≤L.length):(seg L s n).length=n:=by
 unfold seg
 rw[List.length_take,List.length_drop];omega
theorem SI.pw {r:Keyed→Keyed→Bool}{xs:Array Keyed}{lo n:Nat}(h:SI r xs lo (lo+n)):Pw r (seg xs.toList lo n):=by
 unfold Pw
 rw[List.pairwise_iff_getElem]
 intro i j hi hj bV
 have hn:j<n:=by unfold seg at hj;rw[List.length_take]at hj;omega
 have e1:(seg xs.toList lo n)[i]? =some (seg xs.toList lo n)[i]:=List.getElem?_eq_getElem hi
 have e2:(seg xs.toList lo n)[j]? =some (seg xs.toList lo n)[j]:=List.getElem?_eq_getElem hj
 rw[Jc (by omega),Array.getElem?_toList]at e1
 rw[Jc hn,Array.getElem?_toList]at e2
 exact h (lo+i) (lo+j) _ _ (by omega) (by omega) (by omega) e1 e2
def Runs (r:Keyed→Keyed→Bool) (L:List Keyed):List (Nat×Nat×Nat)→Nat→Nat→Prop
 | [],p,q=>p=q
 |x::rest,p,q=>x.1=p∧1≤x.2.1∧Pw r (seg L x.1 x.2.1)∧Runs r L rest (p+x.2.1) q
section
variable {r:Keyed→Keyed→Bool}{L L':List Keyed}
theorem Runs.le:∀{ps:List (Nat×Nat×Nat)}{p q:Nat},Runs r L ps p q→p+ps.length≤q
 | [],_,_,h=>by cases h;exact Nat.le_refl _
 |x::ps,p,q,h=>by
  have:=Runs.le h.2.2.2
  have:=h.2.1
  rw[List.length_cons]
  omega
theorem Runs.app:∀{l1 l2:List (Nat×Nat×Nat)}{p q:Nat},Runs r L (l1++l2) p q↔∃m,Runs r L l1 p m∧Runs r L l2 m q
 | [],l2,p,q=> ⟨fun h=> ⟨p,rfl,h⟩,fun⟨m,h1,h2⟩=>by cases h1;exact h2⟩
 |x::l1,l2,p,q=>by
  constructor
  ·rintro⟨h1,h2,h3,h4⟩
   obtain⟨m,g1,g2⟩:=Runs.app.mp h4
   exact⟨m,⟨h1,h2,h3,g1⟩,g2⟩
  ·rintro⟨m,⟨h1,h2,h3,g1⟩,g2⟩
   exact⟨h1,h2,h3,Runs.app.mpr ⟨m,g1,g2⟩⟩
theorem Runs.congr:∀{ps:List (Nat×Nat×Nat)}{p q:Nat},Runs r L ps p q→(∀s n,p≤s→s+n≤q→seg L s n=seg L' s n)→Runs r L' ps p q
 | [],_,_,h,_=>h
 |x::ps,p,q,⟨h1,h2,h3,h4⟩,e=>by
  have:=Runs.le h4
  refine⟨h1,h2,?_,Runs.congr h4 fun s n g1 g2=>e s n (by omega) g2⟩
  rw[←e x.1 x.2.1 (by omega) (by omega)]
  exact h3
theorem Cs {m s n:Nat}(h:L.take m=L'.take m) (hs:s+n≤m):seg L s n=seg L' s n:=by
 have key:∀M:List Keyed,seg M s n=seg (M.take m) s n:=fun M=>by
  unfold seg
  rw[List.drop_take,List.take_take,Nat.min_eq_left (by omega)]
 rw[key L,key L',h]
theorem Wz {m s n:Nat}(h:L.drop m=L'.drop m) (hs:m≤s):seg L s n=seg L' s n:=by
 have key:∀M:List Keyed,seg M s n=((M.drop m).drop (s - m)).take n:=fun M=>by
  unfold seg
  rw[List.drop_drop,show m+(s - m)=s by omega]
 rw[key L,key L',h]
theorem Nd {A B M:List Keyed}{k n:Nat}(o:Ord r) (sA:Pw r A) (sB:Pw r B) (hM:M.Perm (A.drop k++B.take n)) (sM:Pw r M) (h1:∀x∈A.take k,∀y∈B,r y x=false) (h2:∀z∈A,∀w∈B.drop n,r w z=false):Pw r (A.take k++(M++B.drop n)):=by
 have pa:Pw r (A.take k):=List.Pairwise.sublist (List.take_sublist _ _) sA
 have pb:Pw r (B.drop n):=List.Pairwise.sublist (List.drop_sublist _ _) sB
 have Es:Pw r (A.take k++A.drop k):=by rw[List.take_append_drop];exact sA
 have Er:Pw r (B.take n++B.drop n):=by rw[List.take_append_drop];exact sB
 refine List.pairwise_append.mpr ⟨pa,List.pairwise_append.mpr ⟨sM,pb,fun z hz w hw=> ?_⟩,fun x hx z hz=> ?_⟩
 ·rcases List.mem_append.mp (hM.mem_iff.mp hz) with hz |hz
  ·exact h2 z (List.mem_of_mem_drop hz) w hw
  ·exact(List.pairwise_append.mp Er).2.2 z hz w hw
 ·rcases List.mem_append.mp hz with hz |hz
  ·rcases List.mem_append.mp (hM.mem_iff.mp hz) with hz |hz
   ·exact(List.pairwise_append.mp Es).2.2 x hx z hz
   ·exact h1 x hx z (List.mem_of_mem_take hz)
  ·exact h1 x hx z (List.mem_of_mem_drop hz)
theorem Cn (off:Nat):∀(M:List Keyed) (j:Nat) (xs:Array Keyed),off+j+M.length≤xs.size→((M.zipIdx j).foldl (fun a x=>a.setIfInBounds (off+x.snd) x.fst) xs).toList=xs.toList.take (off+j)++(M++xs.toList.drop (off+j+M.length))
 | [],j,xs,_=>by
  show xs.toList=_
  rw[List.nil_append,List.length_nil,Nat.add_zero,List.take_append_drop]
 |m::M,j,xs,h=>by
  rw[List.length_cons]at h
  rw[List.zipIdx_cons,List.foldl_cons,Cn off M (j+1) _ (by rw[Array.size_setIfInBounds];omega),Array.toList_setIfInBounds]
  have hl:off+j<xs.toList.length:=by rw[Array.length_toList];omega
  rw[List.drop_set_of_lt (by omega),←Nat.add_assoc,List.take_add_one,List.take_set_of_le (Nat.le_refl _),List.getElem?_set_self hl]
  rw[List.append_assoc,List.length_cons,show off+j+1+M.length=off+j+(M.length+1) by omega]
  rfl
end
section
variable {s t k n m z y b:Nat}
theorem qa (h:¬n - k=0):s+(k+(n - k - 1))=s+(n - 1):=by omega
theorem qb (h:k≤n) (h1:1≤n):s+(n - 1)=s+k+(n - k) - 1:=by omega
theorem qc (e:t=s+n) (h:k≤n):s+k+(n - k+m)=t+m:=by omega
theorem qd (e:t=s+n) (h:k≤n):t - (s+k)=n - k:=by omega
theorem qe (h:k≤n) (g:m≤b):min k n+(n - k+m+(b - m))=n+b:=by omega
theorem qf (h:k≤n) (h1:1≤n) (h2:1≤m) (e:t=s+n) (f:z=y) (g:t+m≤y):s+k+(n - k) - 1<z:=by omega
theorem qg (e:t=s+n) (h:k≤n) (g:m≤b) (f:t+b≤y) (f':z=y):s+k+0+(n - k+m)≤z:=by omega
theorem qh (h2:1≤m) (f:z=y) (g:t+m≤y):t<z:=by omega
theorem qi (e:t=s+n) (f:z=y) (g:t+m≤y) (h:k<n):s+k<z:=by omega
theorem qj (f:z=y) (g:t+m≤y) (h:k<m):t+k<z:=by omega
end
section
variable {prog:Program}{w:World}{A:Around}{E:Value→Shared→Prop}{s:Shared}{κ:SortKind}{a₀:Array Keyed}{r:Keyed→Keyed→Bool}
theorem Mr {st ab:SortSt}{Q:PUnit→SortSt→Prop}(h:Q ⟨⟩ ab):wpS (model prog w) A E s (set ab:StateT SortSt Sem PUnit) Q st:=by
 unfold wpS
 exact wpAny_pure ⟨rfl,h⟩
theorem Mq {α:Type}{m:StateT SortSt Sem α}{Q:α→SortSt→Prop}{st:SortSt}(P:SortSt→Prop) (hp:P st) (h:∀cQ,P cQ→wpS (model prog w) A E s m Q cQ):wpS (model prog w) A E s m Q st:=h st hp
theorem O5 {st:SortSt}{i:Nat}{Q:Bool→SortSt→Prop}(o:Ord r) (hc:gC prog w A E s κ a₀ r) (hk:kindOf st=κ) (hP:(arrOf st).Perm a₀) (hF:failedOf st=none) {pre post:List (Nat×Nat×Nat)}{sa na pw sb nb qy:Nat}
  (hp:(pendingOf st).toList=pre++(sa,na,pw)::(sb,nb,qy)::post) (hi:pre.length=i) (jE:sb=sa+na) (n1:1≤na) (n2:1≤nb) (hz:sb+nb≤a₀.size) (SA:Pw r (seg (arrOf st).toList sa na)) (SB:Pw r (seg (arrOf st).toList sb nb))
  (h:∀ab,kindOf ab=κ→(arrOf ab).Perm a₀→failedOf ab=none→(pendingOf ab).toList=pre++(sa,na+nb,pw)::post→(arrOf ab).toList.take sa=(arrOf st).toList.take sa→(arrOf ab).toList.drop (sb+nb)=(arrOf st).toList.drop (sb+nb)→Pw r (seg (arrOf ab).toList sa (na+nb))→Q true ab):
  wpS (model prog w) A E s (mergeAt' i) Q st:=by
 have hsz:(arrOf st).size=a₀.size:=hP.size_eq
 have e1:(pendingOf st)[i]? =some (sa,na,pw):=by
  rw[←Array.getElem?_toList,hp,←hi]
  simp
 have e2:(pendingOf st)[i+1]? =some (sb,nb,qy):=by
  rw[←Array.getElem?_toList,hp,←hi,List.getElem?_append_right (by omega),show pre.length+1 - pre.length=1 by omega]
  rfl
 have zM:(((pendingOf st).setIfInBounds i (sa,na+nb,pw)).eraseIdxIfInBounds (i+1)).toList=pre++(sa,na+nb,pw)::post:=by
  rw[Array.toList_eraseIdxIfInBounds,Array.toList_setIfInBounds,hp,←hi,List.set_append_right _ _ (Nat.le_refl _),Nat.sub_self,List.set_cons_zero,List.eraseIdx_append_of_length_le (by omega),show pre.length+1 - pre.length=1 by omega]
  rfl
 show wpS (model prog w) A E s (_ >>=_) _ _
 obtain⟨kd,xs,pd,ga,fl⟩:=st
 refine wpS_bind (wpS_get ?_)
 replace e1:pd[i]? =some (sa,na,pw):=e1
 replace e2:pd[i+1]? =some (sb,nb,qy):=e2
 dsimp only
 rw[e1,e2]
 dsimp only
 refine wpS_bind (Mr ?_)
 refine Mq (fun cQ=>kindOf cQ=κ∧arrOf cQ=xs∧(pendingOf cQ).toList=pre++(sa,na+nb,pw)::post∧failedOf cQ=none) ⟨hk,rfl,zM,hF⟩ ?_
 rintro cQ ⟨g1,g2,g3,g4⟩
 clear zM e1 e2
 replace hP:xs.Perm a₀:=hP
 replace hsz:xs.size=a₀.size:=hsz
 replace SA:Pw r (seg xs.toList sa na):=SA
 replace SB:Pw r (seg xs.toList sb nb):=SB
 have mm:∀{j:Nat}{x:Keyed},xs[j]? =some x→x∈a₀.toList:=fun hx=> (Array.perm_iff_toList_perm.mp hP).mem_iff.mp (ZS hx)
 have lA:(seg xs.toList sa na).length=na:=Cr (by rw[Array.length_toList];omega)
 have lB:(seg xs.toList sb nb).length=nb:=Cr (by rw[Array.length_toList];omega)
 have wJ:∀{j:Nat}{x:Keyed},j<na→xs[sa+j]? =some x→(seg xs.toList sa na)[j]? =some x:=fun hj hx=>by rw[Jc hj,Array.getElem?_toList];exact hx
 have wI:∀{j:Nat}{x:Keyed},j<nb→xs[sb+j]? =some x→(seg xs.toList sb nb)[j]? =some x:=fun hj hx=>by rw[Jc hj,Array.getElem?_toList];exact hx
 have rK:∀{j:Nat}{x:Keyed},(seg xs.toList sa na)[j]? =some x→j<na∧xs[sa+j]? =some x:=fun {j x} hx=>by
  have hj:j<na:=by have:=(List.getElem?_eq_some_iff.mp hx).1;omega
  exact⟨hj,by rw[Jc hj,Array.getElem?_toList]at hx;exact hx⟩
 have wH:∀{j:Nat}{x:Keyed},(seg xs.toList sb nb)[j]? =some x→j<nb∧xs[sb+j]? =some x:=fun {j x} hx=>by
  have hj:j<nb:=by have:=(List.getElem?_eq_some_iff.mp hx).1;omega
  exact⟨hj,by rw[Jc hj,Array.getElem?_toList]at hx;exact hx⟩
 have fin:∀(k n:Nat) (M:List Keyed) (ab:SortSt),k≤na→n≤nb→kindOf ab=κ→failedOf ab=none→(pendingOf ab).toList=pre++(sa,na+nb,pw)::post→M.Perm ((seg xs.toList sa na).drop k++(seg xs.toList sb nb).take n)→Pw r M→
   (∀x∈(seg xs.toList sa na).take k,∀y∈seg xs.toList sb nb,r y x=false)→(∀z∈seg xs.toList sa na,∀w∈(seg xs.toList sb nb).drop n,r w z=false)→
   (arrOf ab).toList=xs.toList.take (sa+k)++(M++xs.toList.drop (sa+k+M.length))→Q true ab:=fun k n M ab vR kG f1 f2 f3 f4 f5 f6 f7 f8=>by
  have lM:M.length=(na - k)+n:=by
   rw[f4.length_eq,List.length_append,List.length_drop,List.length_take,lA,lB,Nat.min_eq_left kG]
  have hL:xs.toList.length=a₀.size:=by rw[Array.length_toList];exact hsz
  have eA:xs.toList.take (sa+k)=xs.toList.take sa++(seg xs.toList sa na).take k:=by
   rw[List.take_add]
   unfold seg
   rw[List.take_take,Nat.min_eq_left vR]
  have eB:xs.toList.drop (sa+k+M.length)=(seg xs.toList sb nb).drop n++xs.toList.drop (sb+nb):=by
   rw[lM,show sa+k+(na - k+n)=sb+n from qc jE vR,←List.drop_drop]
   have:xs.toList.drop sb=seg xs.toList sb nb++xs.toList.drop (sb+nb):=by
    unfold seg
    rw[←List.drop_drop,List.take_append_drop]
   rw[this,List.drop_append_of_le_length (by rw[lB];exact kG)]
  have IL:xs.toList=xs.toList.take sa++((seg xs.toList sa na++seg xs.toList sb nb)++xs.toList.drop (sb+nb)):=by
   have a1:xs.toList.drop sa=seg xs.toList sa na++xs.toList.drop sb:=by
    unfold seg
    rw[jE,←List.drop_drop,List.take_append_drop]
   have a2:xs.toList.drop sb=seg xs.toList sb nb++xs.toList.drop (sb+nb):=by
    unfold seg
    rw[←List.drop_drop,List.take_append_drop]
   rw[List.append_assoc,←a2,←a1,List.take_append_drop]
  have eN:(arrOf ab).toList=xs.toList.take sa++(((seg xs.toList sa na).take k++(M++(seg xs.toList sb nb).drop n))++xs.toList.drop (sb+nb)):=by
   rw[f8,eA,eB]
   simp only[List.append_assoc]
  have lX:(xs.toList.take sa).length=sa:=by rw[List.length_take];omega
  have lY:((seg xs.toList sa na).take k++(M++(seg xs.toList sb nb).drop n)).length=na+nb:=by
   rw[List.length_append,List.length_append,List.length_take,List.length_drop,lA,lB,lM];exact qe vR kG
  have pY:((seg xs.toList sa na).take k++(M++(seg xs.toList sb nb).drop n)).Perm (seg xs.toList sa na++seg xs.toList sb nb):=by
   refine List.Perm.trans (List.Perm.append_left _ (List.Perm.append_right _ f4)) ?_
   rw[List.append_assoc,List.take_append_drop,←List.append_assoc,List.take_append_drop]
  refine h ab f1 ?_ f2 f3 ?_ ?_ ?_
  ·refine Array.perm_iff_toList_perm.mpr (List.Perm.trans ?_ (Array.perm_iff_toList_perm.mp hP))
   rw[eN]
   refine List.Perm.trans (List.Perm.append_left _ (List.Perm.append_right _ pY)) ?_
   rw[←IL]
  ·rw[eN,List.take_left' lX]
  ·rw[eN,←List.append_assoc,List.drop_left' (by rw[List.length_append,lX,lY];omega)]
  ·have:seg (arrOf ab).toList sa (na+nb)=(seg xs.toList sa na).take k++(M++(seg xs.toList sb nb).drop n):=by
    rw[eN]
    show List.take (na+nb) (List.drop sa (xs.toList.take sa++(((seg xs.toList sa na).take k++(M++(seg xs.toList sb nb).drop n))++xs.toList.drop (sb+nb))))=_
    rw[List.drop_left' lX,List.take_left' lY]
   rw[this]
   exact Nd o SA SB f4 f5 f6 f7
 obtain⟨y0,jN⟩:=Zj (xs:=xs) (i:=sb) (qh n2 hsz hz)
 refine wpS_bind (Zu jN ?_)
 have Im:∀y∈seg xs.toList sb nb,r y y0=false:=fun y hy=>by
  obtain⟨j,hj⟩:=List.getElem?_of_mem hy
  exact JK o SB (wI (j:=0) (by omega) jN) hj (Nat.zero_le _)
 refine wpS_bind (Yj hc g1 (fun i=>match xs[sa+i]? with |some x=> !r y0 x |none=>false) (fun i hi=> ?_) (mm jN) (fun i j bV hj hp=> ?_) (by omega) fun k kn fG fH=> ?_)
 ·obtain⟨x,hx⟩:=Zj (xs:=xs) (i:=sa+i) (qi jE hsz hz (by omega))
  refine⟨x,hx,mm hx,?_⟩
  try dsimp only
  rw[hx]
  rfl
 ·obtain⟨xj,gU⟩:=Zj (xs:=xs) (i:=sa+j) (qi jE hsz hz (by omega))
  obtain⟨xi,jO⟩:=Zj (xs:=xs) (i:=sa+i) (qi jE hsz hz (by omega))
  try dsimp only at hp ⊢
  rw[gU]at hp
  rw[jO]
  rw[Bool.not_eq_true']at hp ⊢
  exact o.cV _ _ _ (JK o SA (wJ (by omega) jO) (wJ (by omega) gU) bV) hp
 dsimp only
 have low:∀x∈(seg xs.toList sa na).take k,∀y∈seg xs.toList sb nb,r y x=false:=fun x hx y hy=>by
  obtain⟨j,hj⟩:=List.getElem?_of_mem hx
  have Ad:j<k:=by have:=(List.getElem?_eq_some_iff.mp hj).1;rw[List.length_take]at this;omega
  rw[List.getElem?_take_of_lt Ad]at hj
  obtain⟨ow,kI⟩:=rK hj
  have:=fG j Ad
  try dsimp only at this
  rw[kI,Bool.not_eq_true']at this
  exact o.cV x y0 y this (Im y hy)
 refine ZH (fun iD=> ?_) (fun iD=> ?_)
 ·have ek:k=na:=by have:=beq_iff_eq.mp iD;omega
  subst ek
  refine wpS_pure (fin k 0 [] cQ (Nat.le_refl _) (Nat.zero_le _) g1 g4 g3 (by rw[List.drop_eq_nil_of_le (by omega)];exact .refl _) .nil low (fun z hz w hw=> ?_) ?_)
  ·exact low z (by rw[List.take_of_length_le (by omega)];exact hz) w (List.mem_of_mem_drop hw)
  ·rw[g2,List.nil_append,List.length_nil,Nat.add_zero,List.take_append_drop]
 have Gq:¬(na - k=0):=fun z=>iD (beq_iff_eq.mpr z)
 obtain⟨x0,kC⟩:=Zj (xs:=xs) (i:=sa+k+(na - k) - 1) (qf kn n1 n2 jE hsz hz)
 refine wpS_bind (Zu kC ?_)
 have zA:xs[sa+(na - 1)]? =some x0:=by rw[←kC];congr 1;exact qb kn n1
 have Io:∀x∈seg xs.toList sa na,r x0 x=false:=fun x hx=>by
  obtain⟨j,hj⟩:=List.getElem?_of_mem hx
  exact JK o SA hj (wJ (j:=na - 1) (by omega) zA) (by have:=(rK hj).1;omega)
 refine wpS_bind (Yj hc g1 (fun i=>match xs[sb+i]? with |some y=>r y x0 |none=>false) (fun i hi=> ?_) (mm kC) (fun i j bV hj hp=> ?_) (by omega) fun n nn FC FD=> ?_)
 ·obtain⟨y,hy⟩:=Zj (xs:=xs) (i:=sb+i) (qj hsz hz (by omega))
  refine⟨y,hy,mm hy,?_⟩
  try dsimp only
  rw[hy]
  rfl
 ·obtain⟨yj,iE⟩:=Zj (xs:=xs) (i:=sb+j) (qj hsz hz (by omega))
  obtain⟨yi,iF⟩:=Zj (xs:=xs) (i:=sb+i) (qj hsz hz (by omega))
  try dsimp only at hp ⊢
  rw[iE]at hp
  rw[iF]
  exact wQ o hp (JK o SB (wI (by omega) iF) (wI (by omega) iE) bV)
 dsimp only
 have high:∀z∈seg xs.toList sa na,∀w∈(seg xs.toList sb nb).drop n,r w z=false:=fun z hz w hw=>by
  obtain⟨j,hj⟩:=List.getElem?_of_mem hw
  rw[List.getElem?_drop]at hj
  obtain⟨ow,kI⟩:=wH hj
  have:=FD (n+j) (by omega) ow
  try dsimp only at this
  rw[kI]at this
  exact o.cV z x0 w (Io z hz) this
 refine ZH (fun ff=> ?_) (fun ff=> ?_)
 ·have en:n=0:=beq_iff_eq.mp ff
  subst en
  refine wpS_pure (fin na 0 [] cQ (Nat.le_refl _) (Nat.zero_le _) g1 g4 g3 (by rw[List.drop_eq_nil_of_le (by omega)];exact .refl _) .nil (fun x hx y hy=> ?_) high ?_)
  ·exact high x (List.mem_of_mem_take hx) y (by rw[List.drop_zero];exact hy)
  ·rw[g2,List.nil_append,List.length_nil,Nat.add_zero,List.take_append_drop]
 have Qx:¬(n=0):=fun z=>ff (beq_iff_eq.mpr z)
 have xA:(xs.extract (sa+k) sb).toList=(seg xs.toList sa na).drop k:=by
  rw[We]
  unfold seg
  rw[List.drop_take,List.drop_drop,show sb - (sa+k)=na - k from qd jE kn]
 have xB:(xs.extract sb (sb+n)).toList=(seg xs.toList sb nb).take n:=by
  rw[We,show sb+n - sb=n by omega]
  unfold seg
  rw[List.take_take,Nat.min_eq_left nn]
 have DU:(xs.extract (sa+k) sb).size=na - k:=by rw[←Array.length_toList,xA,List.length_drop,lA]
 have Qi:(xs.extract sb (sb+n)).size=n:=by rw[←Array.length_toList,xB,List.length_take,lB];omega
 have C:dH r (xs.extract (sa+k) sb) (xs.extract sb (sb+n)):=⟨o,by rw[xA];exact List.Pairwise.sublist (List.drop_sublist _ _) SA,by rw[xB];exact List.Pairwise.sublist (List.take_sublist _ _) SB⟩
 have mA:∀x∈(xs.extract (sa+k) sb).toList,x∈a₀.toList:=fun x hx=>by
  rw[xA]at hx
  obtain⟨j,hj⟩:=List.getElem?_of_mem (List.mem_of_mem_drop hx)
  exact mm (rK hj).2
 have mB:∀x∈(xs.extract sb (sb+n)).toList,x∈a₀.toList:=fun x hx=>by
  rw[xB]at hx
  obtain⟨j,hj⟩:=List.getElem?_of_mem (List.mem_of_mem_take hx)
  exact mm (wH hj).2
 have m0:∀y,(xs.extract sb (sb+n))[0]? =some y→∀x∈(xs.extract (sa+k) sb).toList,r x y=false:=fun y hy x hx=>by
  have l0:=ZM hy
  rw[xB,List.getElem?_take_of_lt (by omega),Jc (by omega),Nat.add_zero,Array.getElem?_toList,jN]at l0
  cases l0
  rw[xA]at hx
  obtain⟨j,hj⟩:=List.getElem?_of_mem hx
  rw[List.getElem?_drop]at hj
  obtain⟨ow,kI⟩:=rK hj
  have:=fH (k+j) (by omega) ow
  try dsimp only at this
  rw[kI,Bool.not_eq_false']at this
  exact o.fB _ _ this
 have ml:∀x,(xs.extract (sa+k) sb)[(xs.extract (sa+k) sb).size - 1]? =some x→∀y∈(xs.extract sb (sb+n)).toList,r x y=false:=fun x hx y hy=>by
  have vv:=ZM hx
  rw[DU,xA,List.getElem?_drop,Jc (by omega),Array.getElem?_toList,show sa+(k+(na - k - 1))=sa+(na - 1) from qa Gq,zA]at vv
  cases vv
  rw[xB]at hy
  obtain⟨j,hj⟩:=List.getElem?_of_mem hy
  have Ac:j<n:=by have:=(List.getElem?_eq_some_iff.mp hj).1;rw[List.length_take]at this;omega
  rw[List.getElem?_take_of_lt Ac]at hj
  obtain⟨ow,kI⟩:=wH hj
  have:=FC j Ac
  try dsimp only at this
  rw[kI]at this
  exact o.fB _ _ this
 have done:∀(res:Array Keyed) (aw:SortSt),SG cQ aw→Good r (xs.extract (sa+k) sb) (xs.extract sb (sb+n)) res→Q true (setArr aw (List.foldl (fun a x=>a.setIfInBounds (sa+k+x.snd) x.fst) (arrOf aw) res.toList.zipIdx)):=fun res aw sg gd=>by
  have p1:=gd.1
  rw[xA,xB]at p1
  have lR:res.toList.length=na - k+n:=by rw[p1.length_eq,List.length_append,List.length_drop,List.length_take,lA,lB];omega
  refine fin k n res.toList _ kn nn (by show kindOf aw=κ;rw[sg.1];exact g1) (by show failedOf aw=none;rw[sg.2.2.2];exact g4) (by show(pendingOf aw).toList=_;rw[sg.2.2.1];exact g3) p1 gd.2 low high ?_
  show(List.foldl (fun a x=>a.setIfInBounds (sa+k+x.snd) x.fst) (arrOf aw) res.toList.zipIdx).toList=_
  rw[sg.2.1,g2]
  exact Cn (sa+k) res.toList 0 xs (by rw[lR];exact qg jE kn nn hz hsz)
 refine ZH (fun hle=> ?_) (fun hle=> ?_)
 ·refine wpS_bind (O7 hc g1 C mA mB (by omega) (by omega) m0 ml fun res aw sg gd=> ?_)
  refine wpS_bind (wpS_modify (wpS_bind (wpS_get ?_)))
  have ef:(failedOf (setArr aw (List.foldl (fun a x=>a.setIfInBounds (sa+k+x.snd) x.fst) (arrOf aw) res.toList.zipIdx))).isNone=true:=by
   show(failedOf aw).isNone=true
   rw[sg.2.2.2,g4]
   rfl
  rw[ef]
  exact wpS_pure (done res aw sg gd)
 ·refine wpS_bind (O6 hc g1 C mA mB (by omega) (by omega) m0 ml fun res aw sg gd=> ?_)
  refine wpS_bind (wpS_modify (wpS_bind (wpS_get ?_)))
  have ef:(failedOf (setArr aw (List.foldl (fun a x=>a.setIfInBounds (sa+k+x.snd) x.fst) (arrOf aw) res.toList.zipIdx))).isNone=true:=by
   show(failedOf aw).isNone=true
   rw[sg.2.2.2,g4]
   rfl
  rw[ef]
  exact wpS_pure (done res aw sg gd)
structure RS (a₀:Array Keyed) (κ:SortKind) (r:Keyed→Keyed→Bool) (st:SortSt) (lo:Nat):Prop where
 kind:kindOf st=κ
 perm:(arrOf st).Perm a₀
 fail:failedOf st=none
 runs:Runs r (arrOf st).toList (pendingOf st).toList 0 lo
 le:lo≤a₀.size
theorem Ky {α:Type}{l:List α}{i:Nat}(h:i+1<l.length):∃pre a b post,l=pre++a::b::post∧pre.length=i:=by
 refine⟨l.take i,l[i],l[i+1],l.drop (i+2),?_,by rw[List.length_take];omega⟩
 rw[←List.drop_eq_getElem_cons h,←List.drop_eq_getElem_cons (by omega),List.take_append_drop]
theorem RS.merge {st:SortSt}{lo i:Nat}{Q:Bool→SortSt→Prop}(o:Ord r) (hc:gC prog w A E s κ a₀ r) (R:RS a₀ κ r st lo) (hi:i+1< (pendingOf st).size)
  (h:∀ab,RS a₀ κ r ab lo→(pendingOf ab).size+1=(pendingOf st).size→(arrOf ab).toList.drop lo=(arrOf st).toList.drop lo→Q true ab):wpS (model prog w) A E s (mergeAt' i) Q st:=by
 obtain⟨pre,⟨sa,na,pw⟩,⟨sb,nb,qy⟩,post,hp,hl⟩:=Ky (l:=(pendingOf st).toList) (i:=i) (by rw[Array.length_toList];exact hi)
 have hr:=R.runs
 rw[hp]at hr
 obtain⟨m,h1,h2⟩:=Runs.app.mp hr
 obtain⟨a1,a2,a3,h3⟩:=h2
 obtain⟨b1,b2,b3,h4⟩:=h3
 dsimp only at a1 a2 a3 b1 b2 b3 h4
 subst a1
 have l4:=h4.le
 have l1:=h1.le
 have le:=R.le
 refine O5 o hc R.kind R.perm R.fail hp hl b1 a2 b2 (by omega) a3 b3 fun ab g1 g2 g3 g4 g5 g6 g7=> ?_
 refine h ab ⟨g1,g2,g3,?_,le⟩ ?_ ?_
 ·rw[g4]
  refine Runs.app.mpr ⟨sa,h1.congr fun s n q1 q2=>Cs g5.symm q2,rfl,(show 1≤na+nb by omega),g7,?_⟩
  show Runs r (arrOf ab).toList post (sa+(na+nb)) lo
  rw[←Nat.add_assoc]
  exact h4.congr fun s n q1 q2=>Wz (m:=sb+nb) g6.symm (by omega)
 ·rw[←Array.length_toList,←Array.length_toList,g4,hp]
  simp only[List.length_append,List.length_cons]
  omega
 ·have key:∀M:List Keyed,M.drop lo=(M.drop (sb+nb)).drop (lo - (sb+nb)):=fun M=>by
   rw[List.drop_drop]
   congr 1
   omega
  rw[key,key (arrOf st).toList,g6]
theorem RS.push {st:SortSt}{lo n:Nat}(R:RS a₀ κ r st lo) (n1:1≤n) (hz:lo+n≤a₀.size) (S:Pw r (seg (arrOf st).toList lo n)):RS a₀ κ r (setPending st ((pendingOf st).push (lo,n,0))) (lo+n):=by
 refine⟨R.kind,R.perm,R.fail,?_,hz⟩
 show Runs r (arrOf st).toList ((pendingOf st).push (lo,n,0)).toList 0 (lo+n)
 rw[Array.toList_push]
 exact Runs.app.mpr ⟨lo,R.runs,rfl,n1,S,rfl⟩
theorem CG {L:List Keyed}{pw:Nat} :∀{ps:List (Nat×Nat×Nat)}{i p q:Nat},Runs r L ps p q→Runs r L (ps.modify i fun x=> (x.fst,x.2.fst,pw)) p q
 | [],i,p,q,h=>by rw[List.modify_nil];exact h
 |x::ps,0,p,q,h=>by
  rw[List.modify_zero_cons]
  exact h
 |x::ps,i+1,p,q,⟨h1,h2,h3,h4⟩=>by
  rw[List.modify_succ_cons]
  exact⟨h1,h2,h3,CG h4⟩
theorem RS.pow {st:SortSt}{lo i pw:Nat}(R:RS a₀ κ r st lo):RS a₀ κ r (setPending st ((pendingOf st).modify i fun x=> (x.fst,x.2.fst,pw))) lo:=by
 refine⟨R.kind,R.perm,R.fail,?_,R.le⟩
 show Runs r (arrOf st).toList ((pendingOf st).modify i fun x=> (x.fst,x.2.fst,pw)).toList 0 lo
 rw[Array.toList_modify]
 exact CG R.runs
theorem Nx {xs ys:Array Keyed}{lo:Nat}(h:∀k,k<lo→xs[k]? =ys[k]?):xs.toList.take lo=ys.toList.take lo:=by
 refine List.ext_getElem? fun k=> ?_
 by_cases hk:k<lo
 ·rw[List.getElem?_take_of_lt hk,List.getElem?_take_of_lt hk,Array.getElem?_toList,Array.getElem?_toList]
  exact h k hk
 ·rw[List.getElem?_eq_none (by rw[List.length_take];omega),List.getElem?_eq_none (by rw[List.length_take];omega)]
theorem CB.rs {st ab:SortSt}{lo:Nat}(R:RS a₀ κ r st lo) (B:CB a₀ κ lo st ab):RS a₀ κ r ab lo:=by
 refine⟨B.kind,B.perm,B.fail.trans R.fail,?_,R.le⟩
 rw[B.pend]
 exact R.runs.congr fun s n q1 q2=>Cs (Nx fun k hk=> (B.pre k hk).symm) q2
theorem Ul {st:SortSt}{Q:Unit→SortSt→Prop}(o:Ord r) (hc:gC prog w A E s κ a₀ r) (h2:2≤a₀.size) (k0:kindOf st=κ) (p0:(arrOf st).Perm a₀) (f0:failedOf st=none) (e0:pendingOf st= #[])
  (h:∀ab,(arrOf ab).Perm a₀→failedOf ab=none→Pw r (arrOf ab).toList→Q () ab):wpS (model prog w) A E s sortRuns' Q st:=by
 rw[sortRuns'_eq]
 dsimp only
 refine wpS_bind (wpS_get ?_)
 have z0:(arrOf st).size=a₀.size:=p0.size_eq
 rw[z0]
 generalize minRun' a₀.size a₀.size 0=mr
 refine wpS_bind (wpS_mono (wpS_forRange (I:=fun x c aw=> ∃lo,c=(none,lo)∧RS a₀ κ r aw lo∧x≤lo) (Q:=fun c aw=>c=(none,a₀.size)∧RS a₀ κ r aw a₀.size) ?step ?fin ⟨0,rfl,⟨k0,p0,f0,by rw[e0];exact rfl,Nat.zero_le _⟩,Nat.le_refl _⟩) ?post)
 case fin=>
  rintro c aw ⟨lo,rfl,R,hx⟩
  rw[Nat.max_eq_right (Nat.zero_le _)]at hx
  have:=R.le
  obtain rfl:lo=a₀.size:=by omega
  exact⟨rfl,R⟩
 case step=>
  rintro x c aw _ hx ⟨lo,rfl,R1,vt⟩
  dsimp only
  by_cases fo:lo≥a₀.size
  ·rw[if_pos fo]
   have:=R1.le
   obtain rfl:lo=a₀.size:=by omega
   exact wpS_pure ⟨rfl,R1⟩
  rw[if_neg fo]
  refine wpS_bind (Jv o hc (st:=aw) ⟨R1.kind,rfl,rfl,R1.perm,fun _ _=>rfl⟩ (by omega) (by omega) fun found au B2 f1 f2 S=> ?_)
  dsimp only
  by_cases ay:found<mr
  ·rw[if_pos ay]
   refine wpS_bind (wpS_lift (wpAny_rule ⟨rfl,?_⟩))
   have hG:found≤min (a₀.size - lo) mr:=by omega
   have Hz:min (a₀.size - lo) mr≤a₀.size - lo:=by omega
   generalize min (a₀.size - lo) mr=n at hG Hz
   refine wpS_bind (Y6 o hc B2 f1 hG (by omega) S fun bt B3 S3=> ?_)
   rw[if_neg (by decide)]
   have R2:=CB.rs R1 B3
   have S2:=S3.pw
   have n1:1≤n:=by omega
   clear S3 B3 B2 S
   clear au
   revert R2 S2
   generalize bt=au
   intro R2 S2
   refine wpS_bind (wpS_get ?_)
   cases hb:(pendingOf au).back? with
   |none=>
    try dsimp only
    exact wpS_bind (wpS_modify (wpS_pure ⟨_,rfl,R2.push n1 (by omega) S2,by omega⟩))
   |some z=>
    obtain⟨s1,m1,p1⟩:=z
    try dsimp only
    refine wpS_bind (wpS_mono (wpS_forRange (I:=fun _ c ab=>c=(none,())∧RS a₀ κ r ab lo∧(arrOf ab).toList.drop lo=(arrOf au).toList.drop lo) (Q:=fun c ab=>c=(none,())∧RS a₀ κ r ab lo∧(arrOf ab).toList.drop lo=(arrOf au).toList.drop lo) ?_ (fun c ab hh=>hh) ⟨rfl,R2,rfl⟩) ?_)
    ·rintro y c ab _ _ ⟨rfl,R,hd⟩
     refine wpS_bind (wpS_get ?_)
     by_cases hs:(pendingOf ab).size>1
     ·rw[if_pos hs]
      cases hq:(pendingOf ab)[(pendingOf ab).size - 2]? with
      |none=>exact wpS_pure ⟨rfl,R,hd⟩
      |some z=>
       obtain⟨z1,z2,E6⟩:=z
       dsimp only
       split
       ·exact wpS_pure ⟨rfl,R,hd⟩
       ·refine wpS_bind (R.merge o hc (by omega) fun bY pj _ v7=> ?_)
        rw[if_neg (by decide)]
        exact wpS_pure ⟨rfl,pj,v7.trans hd⟩
     ·rw[if_neg hs]
      exact wpS_pure ⟨rfl,R,hd⟩
    rintro c ab ⟨rfl,R,hd⟩
    dsimp only
    refine wpS_bind (wpS_modify (wpS_bind (wpS_modify (wpS_pure ⟨_,rfl,R.pow.push n1 (by omega) ?_,by omega⟩))))
    show Pw r (seg (arrOf ab).toList lo _)
    rw[Wz (L':=(arrOf au).toList) hd (Nat.le_refl _)]
    exact S2
  ·rw[if_neg ay]
   have R2:=CB.rs R1 B2
   have S2:=S.pw
   have n1:=f1
   clear S B2
   clear R1
   refine wpS_bind (wpS_get ?_)
   cases hb:(pendingOf au).back? with
   |none=>
    try dsimp only
    exact wpS_bind (wpS_modify (wpS_pure ⟨_,rfl,R2.push n1 (by omega) S2,by omega⟩))
   |some z=>
    obtain⟨s1,m1,p1⟩:=z
    try dsimp only
    refine wpS_bind (wpS_mono (wpS_forRange (I:=fun _ c ab=>c=(none,())∧RS a₀ κ r ab lo∧(arrOf ab).toList.drop lo=(arrOf au).toList.drop lo) (Q:=fun c ab=>c=(none,())∧RS a₀ κ r ab lo∧(arrOf ab).toList.drop lo=(arrOf au).toList.drop lo) ?_ (fun c ab hh=>hh) ⟨rfl,R2,rfl⟩) ?_)
    ·rintro y c ab _ _ ⟨rfl,R,hd⟩
     refine wpS_bind (wpS_get ?_)
     by_cases hs:(pendingOf ab).size>1
     ·rw[if_pos hs]
      cases hq:(pendingOf ab)[(pendingOf ab).size - 2]? with
      |none=>exact wpS_pure ⟨rfl,R,hd⟩
      |some z=>
       obtain⟨z1,z2,E6⟩:=z
       dsimp only
       split
       ·exact wpS_pure ⟨rfl,R,hd⟩
       ·refine wpS_bind (R.merge o hc (by omega) fun bY pj _ v7=> ?_)
        rw[if_neg (by decide)]
        exact wpS_pure ⟨rfl,pj,v7.trans hd⟩
     ·rw[if_neg hs]
      exact wpS_pure ⟨rfl,R,hd⟩
    rintro c ab ⟨rfl,R,hd⟩
    dsimp only
    refine wpS_bind (wpS_modify (wpS_bind (wpS_modify (wpS_pure ⟨_,rfl,R.pow.push n1 (by omega) ?_,by omega⟩))))
    show Pw r (seg (arrOf ab).toList lo _)
    rw[Wz (L':=(arrOf au).toList) hd (Nat.le_refl _)]
    exact S2
 case post=>
  rintro c aw ⟨rfl,R1⟩
  dsimp only
  refine wpS_bind (wpS_mono (wpS_forRange (I:=fun x c ab=>c=(none,())∧RS a₀ κ r ab a₀.size∧(pendingOf ab).size+x≤a₀.size) (Q:=fun c ab=>c=(none,())∧RS a₀ κ r ab a₀.size∧(pendingOf ab).size≤1) ?_ ?_ ⟨rfl,R1,by have:=R1.runs.le;rw[Array.length_toList]at this;omega⟩) ?_)
  ·rintro x c ab _ _ ⟨rfl,R,hx⟩
   refine wpS_bind (wpS_get ?_)
   by_cases hs:(pendingOf ab).size≤1
   ·rw[if_pos hs]
    exact wpS_pure ⟨rfl,R,hs⟩
   rw[if_neg hs]
   have idx:∀c:Prop,∀_:Decidable c,(if c then (pendingOf ab).size - 2 - 1 else (pendingOf ab).size - 2)+1< (pendingOf ab).size:=fun c _=>by split<;>omega
   refine wpS_bind (R.merge o hc (idx _ _) fun bY pj Qe _=> ?_)
   rw[if_neg (by decide)]
   exact wpS_pure ⟨rfl,pj,by omega⟩
  ·rintro c ab ⟨rfl,R,hx⟩
   rw[Nat.max_eq_right (Nat.zero_le _)]at hx
   exact⟨rfl,R,by omega⟩
  rintro c ab ⟨rfl,R,hs⟩
  refine wpS_pure (h ab R.perm R.fail ?_)
  have hr:=R.runs
  have hl:(pendingOf ab).toList.length≤1:=by rw[Array.length_toList];exact hs
  match hp:(pendingOf ab).toList,hl with
  | [],_=>
   rw[hp]at hr
   have:0=a₀.size:=hr
   omega
  | [x],_=>
   rw[hp]at hr
   obtain⟨q1,q2,q3,q4⟩:=hr
   have Qo:0+x.2.1=a₀.size:=q4
   rw[q1]at q3
   have:seg (arrOf ab).toList 0 x.2.1=(arrOf ab).toList:=by
    unfold seg
    rw[List.drop_zero,List.take_of_length_le (by rw[Array.length_toList,R.perm.size_eq];omega)]
   rw[this]at q3
   exact q3
  |_::_::_,h=>simp at h
def xN (a₀:Array Keyed) (r:Keyed→Keyed→Bool) (st:SortSt):Prop:=
 (arrOf st).Perm a₀∧failedOf st=none∧pendingOf st= #[(0,a₀.size,0)]∧Pw r (arrOf st).toList
theorem CB.AW {st ab:SortSt}(B:CB a₀ κ 0 st ab) (f0:failedOf st=none) (e0:pendingOf st= #[]) (S:SI r (arrOf ab) 0 (0+a₀.size)):xN a₀ r (setPending ab ((pendingOf ab).push (0,a₀.size,0))):=by
 refine⟨B.perm,B.fail.trans f0,by show(pendingOf ab).push _=_;rw[B.pend,e0];rfl,?_⟩
 show Pw r (arrOf ab).toList
 unfold Pw
 rw[List.pairwise_iff_getElem]
 intro i j hi hj bV
 have hz:=B.size
 rw[Array.length_toList]at hi hj
 exact S i j _ _ (Nat.zero_le _) (Nat.le_of_lt bV) (by omega) (by rw[Array.getElem_toList];exact Array.getElem?_eq_getElem hi) (by rw[Array.getElem_toList];exact Array.getElem?_eq_getElem hj)
theorem Um {st:SortSt}{Q:Unit→SortSt→Prop}(o:Ord r) (hc:gC prog w A E s κ a₀ r) (h2:2≤a₀.size) (Ip:a₀.size<64) (k0:kindOf st=κ) (p0:(arrOf st).Perm a₀) (f0:failedOf st=none) (e0:pendingOf st= #[])
  (h:∀ab,(arrOf ab).Perm a₀→failedOf ab=none→Pw r (arrOf ab).toList→Q () ab):wpS (model prog w) A E s sortRuns' Q st:=by
 rw[sortRuns'_eq]
 refine wpS_bind (wpS_get ?_)
 dsimp only
 have z0:(arrOf st).size=a₀.size:=p0.size_eq
 have Hh:minRun' a₀.size a₀.size 0=a₀.size:=by
  obtain⟨f,hf⟩:∃f,a₀.size=f+1:=⟨a₀.size - 1,by omega⟩
  have:minRun' (f+1) a₀.size 0=a₀.size:=by rw[minRun'_succ,if_pos Ip];rfl
  rwa [←hf]at this
 simp only[z0,Hh]
 refine wpS_bind (wpS_mono (wpS_forRange
  (I:=fun x c ab=> (x=0∧c=(none,0)∧ab=st)∨(1≤x∧c=(none,a₀.size)∧xN a₀ r ab))
  (Q:=fun c ab=>c=(none,a₀.size)∧xN a₀ r ab) ?step ?fin (.inl ⟨rfl,rfl,rfl⟩)) ?post)
 case fin=>
  rintro c ab (⟨hx,_,_⟩ |⟨_,hc,hD⟩)
  ·omega
  ·exact⟨hc,hD⟩
 case step=>
  rintro x c ab _ hx (⟨rfl,rfl,rfl⟩ |⟨vv,rfl,hD⟩)
  ·dsimp only
   rw[if_neg (by omega)]
   simp only[Nat.sub_zero,Nat.min_self,Nat.zero_add]
   refine wpS_bind (Jv o hc (st:=ab) ⟨k0,rfl,rfl,p0,fun _ _=>rfl⟩ (by omega) (by omega) fun m au B2 q0 fI iH=> ?_)
   dsimp only
   by_cases ay:m<a₀.size
   ·rw[if_pos ay]
    refine wpS_bind (wpS_lift (wpAny_rule ⟨rfl,?_⟩))
    refine wpS_bind (Y6 o hc B2 q0 fI (by omega) iH fun bt B3 GS=> ?_)
    simp only[Bool.not_true,Bool.false_eq_true,if_false]
    refine wpS_bind (wpS_get ?_)
    have hb:(pendingOf bt).back? =none:=by rw[B3.pend,e0];rfl
    rw[hb]
    dsimp only
    exact wpS_bind (wpS_modify (wpS_pure (.inr ⟨by omega,rfl,B3.AW f0 e0 GS⟩)))
   ·rw[if_neg ay]
    have hm:m=a₀.size:=by omega
    subst hm
    refine wpS_bind (wpS_get ?_)
    have hb:(pendingOf au).back? =none:=by rw[B2.pend,e0];rfl
    rw[hb]
    dsimp only
    exact wpS_bind (wpS_modify (wpS_pure (.inr ⟨by omega,rfl,B2.AW f0 e0 iH⟩)))
  ·dsimp only
   rw[if_pos (Nat.le_refl _)]
   exact wpS_pure ⟨rfl,hD⟩
 case post=>
  rintro c ab ⟨rfl,hD⟩
  dsimp only
  refine wpS_bind (wpS_mono (wpS_forRange (I:=fun _ c bY=>bY=ab∧c=(none,())) (Q:=fun c bY=>bY=ab∧c=(none,())) ?_ (fun _ _ hh=>hh) ⟨rfl,rfl⟩) ?_)
  ·rintro x c bY _ _ ⟨rfl,rfl⟩
   refine wpS_bind (wpS_get ?_)
   rw[if_pos (by rw[hD.2.2.1];exact Nat.le_refl 1)]
   exact wpS_pure ⟨rfl,rfl⟩
  ·rintro c bY ⟨rfl,rfl⟩
   exact wpS_pure (h _ hD.1 hD.2.1 hD.2.2.2)
end
end PyProof.Rows.de
namespace PyProof.Rows.de
open PySem PySem.W
section
variable {prog:Program}{w:World}{A:Around}{E:Value→Shared→Prop}{s:Shared}{κ:SortKind}{r:Keyed→Keyed→Bool}
def mO (prog:Program) (w:World) (A:Around) (E:Value→Shared→Prop) (κ:SortKind) (r:Keyed→Keyed→Bool) (a:Addr) (h:Heap) (vs:List Value):Prop:=
 ∀s6:Shared,(∀b o,b≠a→h.get? b=some o→s6.heap.get? b=some o)→(2≤vs.length→∀Q:SortKind→Shared→Prop,Q κ s6→wpAny (model prog w) A (keyKind' vs.toArray) Q E s6)∧gC prog w A E s6 κ (pairsOf vs) r
theorem O9 (o:Ord r) {a:Addr}{vs:List Value}{n:Nat}{P:PySem.Fin→Shared→Prop}(ho:s.heap.get? a=some (seqObj "list" vs.toArray n)) (hc:mO prog w A E κ r a s.heap vs) (hz:vs.length≤200000)
  (h:∀xs:Array Keyed,xs.Perm (pairsOf vs)→Pw r xs.toList→P (.done (.ret .none)) {s with heap:=sortedHeap s.heap a vs (xs.map (·.2))}):
  wpAny (model prog w) A (Builtin.«list.sort» ⟨[.ref a],[]⟩) P E s:=by
 rw[list_sort_plain]
 have ha:a<s.heap.objs.size:=Heap.lt_size ho
 have gY:vs.toArray.size≤sizeLine:=by rw[List.size_toArray,sizeLine_eq];omega
 refine wpAny_bind (listItems_at ho rfl ?_)
 refine wpAny_bind (listUpdate_at ho rfl ?_ gY)
 obtain⟨e1,i9⟩:∃e1,(s.heap.update a (Obj.mapSeq fun _=> #[])).get? a=some (seqObj "list" #[] e1):=⟨_,get?_update_seq ho (fun _=> #[])⟩
 refine wpAny_bind (seqEpoch_at i9 rfl ?_)
 refine wpAny_bind (wpAny_newTuple ?_ (by simpa using gY))
 refine wpAny_bind (wpAny_newList ?_)
 refine wpAny_holding ?_
 have i8:(((s.heap.update a (Obj.mapSeq fun _=> #[])).push (seqObj "tuple" vs.toArray 0)).push (seqObj "list" #[] 0)).get? a=some (seqObj "list" #[] e1):=by
  rw[Heap.get?_push_ne _ _ _ (by rw[size_push',Heap.size_update];exact Nat.ne_of_lt (Nat.lt_succ_of_lt ha)),Heap.get?_push_ne _ _ _ (by rw[Heap.size_update];exact Nat.ne_of_lt ha)]
  exact i9
 show wpAny (model prog w) A _ P E {s with heap:=((s.heap.update a (Obj.mapSeq fun _=> #[])).push (seqObj "tuple" vs.toArray 0)).push (seqObj "list" #[] 0)}
 dsimp only
 have keep:∀b o,b≠a→s.heap.get? b=some o→((((s.heap.update a (Obj.mapSeq fun _=> #[])).push (seqObj "tuple" vs.toArray 0)).push (seqObj "list" #[] 0))).get? b=some o:=fun b ob hb e=>
  Heap.get?_push_of_some _ (Heap.get?_push_of_some _ (by rw[Heap.get?_update_ne _ _ _ _ hb];exact e))
 obtain⟨hk,mz⟩:=hc {s with heap:=((s.heap.update a (Obj.mapSeq fun _=> #[])).push (seqObj "tuple" vs.toArray 0)).push (seqObj "list" #[] 0)} keep
 have hsz:vs.toArray.size=vs.length:=by simp
 by_cases h2:vs.toArray.size<2
 ·rw[if_pos h2,if_pos h2]
  refine wpAny_bind (wpAny_pure ?_)
  rw[StateT.run_pure]
  refine wpAny_bind (wpAny_pure ?_)
  dsimp only
  refine wpAny_bind (seqEpoch_at i8 rfl ?_)
  refine wpAny_bind (listUpdate_at i8 rfl ?_ (hsz2:=by rw[Array.size_map];show(pairsOf vs).size≤_;rw[pairsOf_size,sizeLine_eq];omega))
  simp only[bne_self_eq_false,Bool.false_eq_true,if_false]
  refine wpAny_pure (h (pairsOf vs) (Array.Perm.refl _) ?_)
  have hl:(pairsOf vs).toList.length<2:=by rw[Array.length_toList,pairsOf_size];omega
  match (pairsOf vs).toList,hl with
  | [],_=>exact .nil
  | [x],_=>exact List.pairwise_singleton _ _
  |_::_::_,h=>exact absurd h (by simp)
 ·rw[if_neg h2,if_neg h2]
  refine wpAny_bind (hk (by omega) _ ?_)
  refine wpAny_bind (wpAny_mono (Ul (κ:=κ) (r:=r) (a₀:=pairsOf vs) (st:=SortSt.mk' κ (vs.toArray.zip vs.toArray) #[] 7 none)
   (Q:=fun _ ab=> (arrOf ab).Perm (pairsOf vs)∧failedOf ab=none∧Pw r (arrOf ab).toList) o mz (by rw[pairsOf_size];omega) rfl (Array.Perm.refl _) rfl rfl fun ab a1 a2 a3=> ⟨a1,a2,a3⟩) ?_ fun _ _ e=>e)
  rintro⟨⟨⟩,ab⟩ s' ⟨rfl,hp,hf,hs⟩
  dsimp only
  refine wpAny_bind (seqEpoch_at i8 rfl ?_)
  refine wpAny_bind (listUpdate_at i8 rfl ?_ (hsz2:=by refine Nat.le_trans (Nat.le_of_eq ((Array.size_map ..).trans (hp.size_eq.trans (pairsOf_size _)))) ?_;rw[sizeLine_eq];omega))
  rw[hf]
  simp only[bne_self_eq_false,Bool.false_eq_true,if_false]
  exact wpAny_pure (h _ hp hs)
theorem Nw (o:Ord r) {l:Addr}{vs:List Value}{Q:Value→Shared→Prop}(hl:s.heap.IsList l vs.toArray) (hc:∀h' a,(∀b ob,s.heap.get? b=some ob→h'.get? b=some ob)→(∀b ob,s.heap.get? b=some ob→b≠a)→mO prog w A.in1.in1 (fun _ _=>False) κ r a h' vs) (hz:vs.length≤200000)
  (h:∀xs:Array Keyed,xs.Perm (pairsOf vs)→Pw r xs.toList→Q (.ref (s.heap.objs.size+1)) {s with heap:=sortedAll s.heap vs (xs.map (·.2))}):
  wpAny (model prog w) A (call (.builtin "sorted") [.ref l]) Q E s:=by
 have gY:vs.length≤sizeLine:=by rw[sizeLine_eq];omega
 refine Calls.call_function_entry kind_sorted plain_sorted entry_sorted (args_sorted1 _) ?_
 unfold Builtin.«sorted»
 refine wpAny_bind (m:=checkCount "sorted" 1 1 _) (wpAny_pure ?_)
 refine wpAny_bind (collect_list hl ?_ gY)
 refine wpAny_bind (wpAny_newList ?_ gY)
 have hsz:((s.heap.push (seqObj "list" #[] 0)).update s.heap.objs.size (Obj.mapSeq (· ++vs.toArray))).objs.size=s.heap.objs.size+1:=by
  rw[Heap.size_update,size_push']
 have gZ:(((s.heap.push (seqObj "list" #[] 0)).update s.heap.objs.size (Obj.mapSeq (· ++vs.toArray))).push (seqObj "list" vs.toArray 0)).get? (s.heap.objs.size+1)=some (seqObj "list" vs.toArray 0):=by
  rw[←hsz];exact Heap.get?_push_size _ rfl
 show wpAny _ _ _ _ _ {s with heap:=((s.heap.push (seqObj "list" #[] 0)).update s.heap.objs.size (Obj.mapSeq (· ++vs.toArray))).push (seqObj "list" vs.toArray 0)}
 rw[hsz]
 have asks:=hc (((s.heap.push (seqObj "list" #[] 0)).update s.heap.objs.size (Obj.mapSeq (· ++vs.toArray))).push (seqObj "list" vs.toArray 0)) (s.heap.objs.size+1)
  (fun b ob e=>Heap.get?_push_of_some _ (by rw[Heap.get?_update_ne _ _ _ _ (Nat.ne_of_lt (Heap.lt_size e))];exact Heap.get?_push_of_some _ e)) (fun b ob e=>Nat.ne_of_lt (Nat.lt_succ_of_lt (Heap.lt_size e)))
 have wK:mO prog w A.in1.in1 E κ r (s.heap.objs.size+1) (((s.heap.push (seqObj "list" #[] 0)).update s.heap.objs.size (Obj.mapSeq (· ++vs.toArray))).push (seqObj "list" vs.toArray 0)) vs:=fun s6 h6=>by
  obtain⟨q1,q2⟩:=asks s6 h6
  refine⟨fun g Q hq=>wpAny_mono (q1 g Q hq) (fun _ _ x=>x) fun _ _ x=>x.elim,fun x y st Q m1 m2 hk hq=> ?_⟩
  exact wpAny_mono (q2 x y st Q m1 m2 hk hq) (fun _ _ x=>x) fun _ _ x=>x.elim
 refine wpAny_bind (wpAny_holding (wpAny_call_entry slot_list_sort ⟨_,gZ,rfl⟩ entry_list_sort (O9 o gZ wK hz fun xs a1 a2=> ⟨_,rfl,?_⟩) (args_list_sort _)))
 exact wpAny_pure ⟨_,rfl,h xs a1 a2⟩
end
def ax:List Int→List Int→Bool
 | [],[]=>false
 | [],_::_=>true
 |_::_,[]=>false
 |a::l,b::m=>if a=b then ax l m else decide (a<b)
theorem Yo:∀x y,ax x y=true→ax y x=false
 | [],[],h=>by cases h
 | [],_::_,_=>rfl
 |_::_,[],h=>by cases h
 |a::l,b::m,h=>by
  unfold ax at h ⊢
  by_cases e:a=b
  ·rw[if_pos e]at h
   rw[if_pos e.symm]
   exact Yo l m h
  ·rw[if_neg e]at h
   rw[if_neg (Ne.symm e)]
   have:=of_decide_eq_true h
   exact decide_eq_false (by omega)
theorem Jg:∀x y z,ax y x=false→ax z y=false→ax z x=false
 | [],[],[],_,_=>rfl
 | [],[],_::_,_,_=>rfl
 | [],_::_,[],_,h=>by cases h
 | [],_::_,_::_,_,_=>rfl
 |_::_,[],_,h,_=>by cases h
 |_::_,_::_,[],_,h=>by cases h
 |a::l,b::m,c::n,h1,h2=>by
  unfold ax at h1 h2 ⊢
  by_cases e1:b=a
  ·rw[if_pos e1]at h1
   by_cases e2:c=b
   ·rw[if_pos e2]at h2
    rw[if_pos (e2.trans e1)]
    exact Jg l m n h1 h2
   ·rw[if_neg e2]at h2
    have:=of_decide_eq_false h2
    rw[if_neg (by omega)]
    exact decide_eq_false (by omega)
  ·rw[if_neg e1]at h1
   have q1:=of_decide_eq_false h1
   by_cases e2:c=b
   ·rw[if_neg (by omega)]
    exact decide_eq_false (by omega)
   ·rw[if_neg e2]at h2
    have q2:=of_decide_eq_false h2
    rw[if_neg (by omega)]
    exact decide_eq_false (by omega)
theorem xg:∀x y,ax x y=false→ax y x=false→x=y
 | [],[],_,_=>rfl
 | [],_::_,h,_=>by cases h
 |_::_,[],_,h=>by cases h
 |a::l,b::m,h1,h2=>by
  unfold ax at h1 h2
  by_cases e:a=b
  ·rw[if_pos e]at h1
   rw[if_pos e.symm]at h2
   rw[e,xg l m h1 h2]
  ·rw[if_neg e]at h1
   rw[if_neg (Ne.symm e)]at h2
   have q1:=of_decide_eq_false h1
   have q2:=of_decide_eq_false h2
   omega
theorem BN (key:Value→List Int):Ord fun x y:Keyed=>ax (key x.1) (key y.1):=⟨fun _ _=>Yo _ _,fun _ _ _=>Jg _ _ _⟩
section
variable {prog:Program}{w:World}{A:Around}{s:Shared}{b:Bool}{Q:Bool→Shared→Prop}
theorem Lf {c:Bool}{x y:Int}{t u:Tok}(h:Q (decide (x<y)) s):wpAny (model prog w) A (oneLt' c (.int x t) (.int y u)) Q (fun _ _=>False) s:=by
 cases c with
 |true=>exact oneLt_int h
 |false=>exact kat_one _ _ (lt_int (Q:=PySem.W.BoolBack Q) h)
theorem WZ {fin:Bool} :∀{us vs:List Value}{xs ys:List Int}{i:Nat},IntsAre us xs→IntsAre vs ys→fin=decide (xs.length<ys.length)→Q (ax xs ys) s→KatLex prog w A b fin Q (us.zip vs) i s
 |_,_,_,_,i,.nil,.nil,hf,h=>by
  subst hf
  exact h
 |_,_,_,_,i,.nil,.cons _ _ _,hf,h=>by
  subst hf
  exact h
 |_,_,_,_,i,.cons _ _ _,.nil,hf,h=>by
  subst hf
  exact h
 |_,_,_,_,i,.cons x t ix,.cons y u iy,hf,h=>by
  rw[List.zip_cons_cons]
  refine kat_cons (SeqAt.EqAt.int_int (A:=A) (s:=s) x t y u _ _ _ _ ?_)
  unfold ax at h
  by_cases e:x=y
  ·rw[if_pos e]at h
   rw[beq_iff_eq.mpr e]
   exact kat_yes (WZ ix iy (by rw[hf];exact decide_eq_decide.mpr (by simp only[List.length_cons];omega)) h)
  ·rw[if_neg e]at h
   rw[beq_eq_false_iff_ne.mpr e]
   exact kat_no (Lf h)
end
section
variable {prog:Program}{w:World}{A:Around}{E:Value→Shared→Prop}{s:Shared}{κ:SortKind}{r:Keyed→Keyed→Bool}
theorem O8 (o:Ord r) {a:Addr}{vs:List Value}{n:Nat}{P:PySem.Fin→Shared→Prop}(ho:s.heap.get? a=some (seqObj "list" vs.toArray n)) (hc:mO prog w A E κ r a s.heap vs) (hz:vs.length<64)
  (h:∀xs:Array Keyed,xs.Perm (pairsOf vs)→Pw r xs.toList→P (.done (.ret .none)) {s with heap:=sortedHeap s.heap a vs (xs.map (·.2))}):
  wpAny (model prog w) A (Builtin.«list.sort» ⟨[.ref a],[]⟩) P E s:=by
 rw[list_sort_plain]
 have ha:a<s.heap.objs.size:=Heap.lt_size ho
 have gY:vs.toArray.size≤sizeLine:=by rw[List.size_toArray,sizeLine_eq];omega
 refine wpAny_bind (listItems_at ho rfl ?_)
 refine wpAny_bind (listUpdate_at ho rfl ?_ gY)
 obtain⟨e1,i9⟩:∃e1,(s.heap.update a (Obj.mapSeq fun _=> #[])).get? a=some (seqObj "list" #[] e1):=⟨_,get?_update_seq ho (fun _=> #[])⟩
 refine wpAny_bind (seqEpoch_at i9 rfl ?_)
 refine wpAny_bind (wpAny_newTuple ?_ (by simpa using gY))
 refine wpAny_bind (wpAny_newList ?_)
 refine wpAny_holding ?_
 have i8:(((s.heap.update a (Obj.mapSeq fun _=> #[])).push (seqObj "tuple" vs.toArray 0)).push (seqObj "list" #[] 0)).get? a=some (seqObj "list" #[] e1):=by
  rw[Heap.get?_push_ne _ _ _ (by rw[size_push',Heap.size_update];exact Nat.ne_of_lt (Nat.lt_succ_of_lt ha)),Heap.get?_push_ne _ _ _ (by rw[Heap.size_update];exact Nat.ne_of_lt ha)]
  exact i9
 show wpAny (model prog w) A _ P E {s with heap:=((s.heap.update a (Obj.mapSeq fun _=> #[])).push (seqObj "tuple" vs.toArray 0)).push (seqObj "list" #[] 0)}
 dsimp only
 have keep:∀b o,b≠a→s.heap.get? b=some o→((((s.heap.update a (Obj.mapSeq fun _=> #[])).push (seqObj "tuple" vs.toArray 0)).push (seqObj "list" #[] 0))).get? b=some o:=fun b ob hb e=>
  Heap.get?_push_of_some _ (Heap.get?_push_of_some _ (by rw[Heap.get?_update_ne _ _ _ _ hb];exact e))
 obtain⟨hk,mz⟩:=hc {s with heap:=((s.heap.update a (Obj.mapSeq fun _=> #[])).push (seqObj "tuple" vs.toArray 0)).push (seqObj "list" #[] 0)} keep
 have hsz:vs.toArray.size=vs.length:=by simp
 by_cases h2:vs.toArray.size<2
 ·rw[if_pos h2,if_pos h2]
  refine wpAny_bind (wpAny_pure ?_)
  rw[StateT.run_pure]
  refine wpAny_bind (wpAny_pure ?_)
  dsimp only
  refine wpAny_bind (seqEpoch_at i8 rfl ?_)
  refine wpAny_bind (listUpdate_at i8 rfl ?_ (hsz2:=by rw[Array.size_map];show(pairsOf vs).size≤_;rw[pairsOf_size,sizeLine_eq];omega))
  simp only[bne_self_eq_false,Bool.false_eq_true,if_false]
  refine wpAny_pure (h (pairsOf vs) (Array.Perm.refl _) ?_)
  have hl:(pairsOf vs).toList.length<2:=by rw[Array.length_toList,pairsOf_size];omega
  match (pairsOf vs).toList,hl with
  | [],_=>exact .nil
  | [x],_=>exact List.pairwise_singleton _ _
  |_::_::_,h=>exact absurd h (by simp)
 ·rw[if_neg h2,if_neg h2]
  refine wpAny_bind (hk (by omega) _ ?_)
  refine wpAny_bind (wpAny_mono (Um (κ:=κ) (r:=r) (a₀:=pairsOf vs) (st:=SortSt.mk' κ (vs.toArray.zip vs.toArray) #[] 7 none)
   (Q:=fun _ ab=> (arrOf ab).Perm (pairsOf vs)∧failedOf ab=none∧Pw r (arrOf ab).toList) o mz (by rw[pairsOf_size];omega) (by rw[pairsOf_size];omega) rfl (Array.Perm.refl _) rfl rfl fun ab a1 a2 a3=> ⟨a1,a2,a3⟩) ?_ fun _ _ e=>e)
  rintro⟨⟨⟩,ab⟩ s' ⟨rfl,hp,hf,hs⟩
  dsimp only
  refine wpAny_bind (seqEpoch_at i8 rfl ?_)
  refine wpAny_bind (listUpdate_at i8 rfl ?_ (hsz2:=by refine Nat.le_trans (Nat.le_of_eq ((Array.size_map ..).trans (hp.size_eq.trans (pairsOf_size _)))) ?_;rw[sizeLine_eq];omega))
  rw[hf]
  simp only[bne_self_eq_false,Bool.false_eq_true,if_false]
  exact wpAny_pure (h _ hp hs)
theorem Nv (o:Ord r) {l:Addr}{vs:List Value}{Q:Value→Shared→Prop}(hl:s.heap.IsList l vs.toArray) (hc:∀h' a,(∀b ob,s.heap.get? b=some ob→h'.get? b=some ob)→(∀b ob,s.heap.get? b=some ob→b≠a)→mO prog w A.in1.in1 (fun _ _=>False) κ r a h' vs) (hz:vs.length<64)
  (h:∀xs:Array Keyed,xs.Perm (pairsOf vs)→Pw r xs.toList→Q (.ref (s.heap.objs.size+1)) {s with heap:=sortedAll s.heap vs (xs.map (·.2))}):
  wpAny (model prog w) A (call (.builtin "sorted") [.ref l]) Q E s:=by
 have gY:vs.length≤sizeLine:=by rw[sizeLine_eq];omega
 refine Calls.call_function_entry kind_sorted plain_sorted entry_sorted (args_sorted1 _) ?_
 unfold Builtin.«sorted»
 refine wpAny_bind (m:=checkCount "sorted" 1 1 _) (wpAny_pure ?_)
 refine wpAny_bind (collect_list hl ?_ gY)
 refine wpAny_bind (wpAny_newList ?_ gY)
 have hsz:((s.heap.push (seqObj "list" #[] 0)).update s.heap.objs.size (Obj.mapSeq (· ++vs.toArray))).objs.size=s.heap.objs.size+1:=by
  rw[Heap.size_update,size_push']
 have gZ:(((s.heap.push (seqObj "list" #[] 0)).update s.heap.objs.size (Obj.mapSeq (· ++vs.toArray))).push (seqObj "list" vs.toArray 0)).get? (s.heap.objs.size+1)=some (seqObj "list" vs.toArray 0):=by
  rw[←hsz];exact Heap.get?_push_size _ rfl
 show wpAny _ _ _ _ _ {s with heap:=((s.heap.push (seqObj "list" #[] 0)).update s.heap.objs.size (Obj.mapSeq (· ++vs.toArray))).push (seqObj "list" vs.toArray 0)}
 rw[hsz]
 have asks:=hc (((s.heap.push (seqObj "list" #[] 0)).update s.heap.objs.size (Obj.mapSeq (· ++vs.toArray))).push (seqObj "list" vs.toArray 0)) (s.heap.objs.size+1)
  (fun b ob e=>Heap.get?_push_of_some _ (by rw[Heap.get?_update_ne _ _ _ _ (Nat.ne_of_lt (Heap.lt_size e))];exact Heap.get?_push_of_some _ e)) (fun b ob e=>Nat.ne_of_lt (Nat.lt_succ_of_lt (Heap.lt_size e)))
 have wK:mO prog w A.in1.in1 E κ r (s.heap.objs.size+1) (((s.heap.push (seqObj "list" #[] 0)).update s.heap.objs.size (Obj.mapSeq (· ++vs.toArray))).push (seqObj "list" vs.toArray 0)) vs:=fun s6 h6=>by
  obtain⟨q1,q2⟩:=asks s6 h6
  refine⟨fun g Q hq=>wpAny_mono (q1 g Q hq) (fun _ _ x=>x) fun _ _ x=>x.elim,fun x y st Q m1 m2 hk hq=> ?_⟩
  exact wpAny_mono (q2 x y st Q m1 m2 hk hq) (fun _ _ x=>x) fun _ _ x=>x.elim
 refine wpAny_bind (wpAny_holding (wpAny_call_entry slot_list_sort ⟨_,gZ,rfl⟩ entry_list_sort (O8 o gZ wK hz fun xs a1 a2=> ⟨_,rfl,?_⟩) (args_list_sort _)))
 exact wpAny_pure ⟨_,rfl,h xs a1 a2⟩
end
end PyProof.Rows.de
namespace L2
open PySem PySem.Spec PyProof.Rows PyProof.Rows.de
def bg (H:Hp) (v:V) (k:List Int):Prop:=∃t:Addr,v=.ref t∧H t=some (.tup (k.map V.int))
theorem bg.same {H H':Hp}{v:V}{k:List Int}(h:bg H v k) (s:ah H H'):bg H' v k:=by
 obtain⟨t,e,h1⟩:=h
 exact⟨t,e,s _ _ h1⟩
def bo (h:Heap):Value→List Int
 | .ref t=>match h.get? t with
  |some o=>match o.data with
   | .seq aa _=>aa.toList.map numOf
   |_=> []
  |none=> []
 |_=> []
theorem ZR {h:Heap}{t:Addr}{o:Obj}{aa:Array Value}{n:Nat}{k:List Int}(e:h.get? t=some o) (d:o.data=.seq aa n) (i:IntsAre aa.toList k):bo h (.ref t)=k:=by
 unfold bo
 dsimp only
 rw[e]
 dsimp only
 rw[d]
 dsimp only
 clear d e
 generalize aa.toList=us at i
 induction i with
 |nil=>rfl
 |cons x t _ ih=>rw[List.map_cons,ih];rfl
def toV:Value→V
 | .ref t=> .ref t
 |_=> .ae
def jq (h:Heap) (u:Value) (k:List Int):Prop:=∃(t:Addr) (o:Obj) (aa:Array Value) (n:Nat),u=.ref t∧h.get? t=some o∧o.cls=.type "tuple" ∧o.data=.seq aa n∧IntsAre aa.toList k
theorem jq.keep {h h':Heap}{u:Value}{k:List Int}{a:Addr}(x:jq h u k) (kp:∀b o,b≠a→h.get? b=some o→h'.get? b=some o) (na:∀b o,h.get? b=some o→b≠a):jq h' u k:=by
 obtain⟨t,o,aa,n,e,g,c,d,i⟩:=x
 exact⟨t,o,aa,n,e,kp t o (na t o g) g,c,d,i⟩
theorem UC {h:Heap} :∀{us:List Value}{ks:List (List Int)},Paired (jq h) us ks→(∀k∈ks,k≠[])→∃fs,PySem.W.KatTups h us fs∧fs.length=us.length∧∀f∈fs,∃n t,f=.int n t
 |_,_,.nil,_=> ⟨[],.nil,rfl,fun f hf=>by cases hf⟩
 |_,_,.cons (a:=u) (b:=k) ⟨t,o,aa,n,e,g,c,d,i⟩ r,hk=>by
  obtain⟨fs,h1,h2,h3⟩:=UC r fun k aS=>hk k (List.mem_cons_of_mem _ aS)
  subst e
  cases k with
  |nil=>exact absurd rfl (hk _ List.mem_cons_self)
  |cons x xs=>
   have:∃tk us,aa.toList=.int x tk::us:=by
    cases hh:aa.toList with
    |nil=>rw[hh]at i;cases i
    |cons a b=>rw[hh]at i;cases i with |cons x t r=>exact⟨_,_,rfl⟩
   obtain⟨tk,us,eq⟩:=this
   refine⟨.int x tk::fs,.cons g c d (by rw[←Array.getElem?_toList,eq];rfl) h1,by rw[List.length_cons,List.length_cons,h2],fun f hf=> ?_⟩
   rcases List.mem_cons.mp hf with rfl |hf
   ·exact⟨_,_,rfl⟩
   ·exact h3 f hf
theorem Yf {α β:Type}{R:α→β→Prop} :∀{xs:List α}{ys:List β}{x:α},Paired R xs ys→x∈xs→∃y∈ys,R x y
 |_,_,_,.cons h r,m=>by
  rcases List.mem_cons.mp m with rfl |m
  ·exact⟨_,List.mem_cons_self,h⟩
  ·obtain⟨y,hy,q⟩:=Yf r m
   exact⟨y,List.mem_cons_of_mem _ hy,q⟩
theorem YR {α β:Type}{R:α→β→Prop}{f:α→β} :∀{xs:List α}{ys:List β},Paired R xs ys→(∀x y,R x y→f x=y)→xs.map f=ys
 |_,_,.nil,_=>rfl
 |_,_,.cons h r,e=>by rw[List.map_cons,e _ _ h,YR r e]
theorem YA {vs:List Value}{p:Keyed}(h:p∈(pairsOf vs).toList):p.1∈vs∧p.2=p.1:=by
 unfold pairsOf at h
 rw[Array.toList_zip,List.toList_toArray]at h
 have:∀(l:List Value),p∈l.zip l→p.1∈l∧p.2=p.1:=fun l=>by
  induction l with
  |nil=>intro h;cases h
  |cons a l ih=>
   intro h
   rw[List.zip_cons_cons]at h
   rcases List.mem_cons.mp h with rfl |h
   ·exact⟨List.mem_cons_self,rfl⟩
   ·exact⟨List.mem_cons_of_mem _ (ih h).1,(ih h).2⟩
 exact this vs h
section
variable {X:Cx}
theorem JU:dX X (.builtin "sorted") (fun xs H Q=> ∃(p:Addr) (vs:List V) (ks:List (List Int)),xs=[.ref p]∧aj X.K H p vs∧Paired (bg H) vs ks∧(∀k∈ks,k≠[])∧vs.length≤200000∧
  ∀(q:Addr) (dY:List V) (gP:List (List Int)),H q=none→gP.Perm ks→gP.Pairwise (fun a b=>ax b a=false)→Paired (bg H) dY gP→Q (.ref q) (upd H q (.lst dY))):=by
 intro pins s σ H xs us Q I r h
 obtain⟨p,vs,ks,rfl,hp,pr,cf,hz,q⟩:=h
 obtain⟨u,rfl,ru⟩:=vals1 r
 cases ru
 obtain⟨aa,rv,pl,_⟩:=I.list hp
 have hl:=rv.length
 have key:∀{vs:List V}{ks:List (List Int)}{aa:List Value},Paired (bg H) vs ks→Vals vs aa→Paired (fun u k=>jq s.heap u k∧bg H (toV u) k) aa ks:=by
  intro vs ks aa pr
  induction pr generalizing aa with
  |nil=>intro rv;cases rv;exact .nil
  |cons hh _ ih=>
   intro rv
   cases rv with
   |cons r1 r2=>
    refine .cons ?_ (ih r2)
    obtain⟨t,rfl,ht⟩:=hh
    cases r1
    obtain⟨items,ri,⟨o,go,oc,n,od⟩,_⟩:=I.tuple (ag.of ht)
    exact⟨⟨t,o,_,n,rfl,go,oc,od,by simpa using ZV ri⟩,t,rfl,ht⟩
 have tp:=key pr rv
 have tu:Paired (jq s.heap) aa ks:=Paired.ba tp fun _ _ h=>h.1
 have ek:aa.map (bo s.heap)=ks:=YR tu fun u k ⟨t,o,it,n,e,g,_,d,i⟩=>by rw[e];exact ZR g d i
 refine Nw (κ:=tuples' true) (r:=fun x y=>ax (bo s.heap x.1) (bo s.heap y.1)) (BN _) pl.isList (fun h' a kp na s6 h6=> ?_) (by omega) fun xs nQ nP=> ?_
 ·have sO:Paired (jq s6.heap) aa ks:=Paired.ba tu fun u k x=>x.keep (a:=a) (fun b o hb e=>h6 b o hb (kp b o e)) na
  refine⟨fun h2 Q' hq=> ?_,fun x y st Q' mx my hk hq=> ?_⟩
  ·obtain⟨fs,kt,kl,kf⟩:=UC sO cf
   refine PySem.W.kat_kind (T:=.type "int") kt (by omega) (fun v hv=> ?_) (by rfl) hq
   obtain⟨n,t,rfl⟩:=kf v hv
   exact PySem.W.Looks.of_pure rfl
  ·rw[lt'_eq]
   refine wpS_bind (wpS_get ?_)
   rw[hk]
   obtain⟨u9,_⟩:=YA mx
   obtain⟨u7,_⟩:=YA my
   obtain⟨kx,_,tx,ox,ix,nx,ex,gx,cx,dx,jx⟩:=Yf tu u9
   obtain⟨ky,_,ty,oy,iy,ny,ey,gy,cy,dy,jy⟩:=Yf tu u7
   have e1:bo s.heap x.1=kx:=by rw[ex];exact ZR gx dx jx
   have e2:bo s.heap y.1=ky:=by rw[ey];exact ZR gy dy jy
   dsimp only at hq
   rw[e1,e2]at hq
   rw[ex,ey]
   refine wpS_bind (wpS_lift (wpAny_attempt (PySem.W.kat_lt (h6 _ _ (na _ _ gx) (kp _ _ gx)) dx (h6 _ _ (na _ _ gy) (kp _ _ gy)) dy (WZ jx jy ?_ ⟨rfl,?_⟩))))
   ·have l1:=jx.length
    have l2:=jy.length
    rw[Array.length_toList]at l1 l2
    rw[l1,l2]
   ·exact wpS_pure hq
 ·have fj:∀pq∈xs.toList,pq.1∈aa∧pq.2=pq.1:=fun pq kF=>YA ((Array.perm_iff_toList_perm.mp nQ).mem_iff.mp kF)
  have eo:(xs.map (·.2)).toList=xs.toList.map (·.1):=by
   rw[Array.toList_map]
   exact List.map_congr_left fun pq kF=> (fj pq kF).2
  have po:(xs.toList.map (·.1)).Perm aa:=by
   refine List.Perm.trans ((Array.perm_iff_toList_perm.mp nQ).map _) ?_
   unfold pairsOf
   rw[Array.toList_zip,List.toList_toArray]
   have:∀l:List Value,(l.zip l).map (·.1)=l:=fun l=>by
    induction l with
    |nil=>rfl
    |cons a l ih=>rw[List.zip_cons_cons,List.map_cons,ih]
   rw[this]
  generalize G8:xs.map (·.2)=out at eo
  have rel:∀u∈out.toList,∃k,bg H (toV u) k∧bo s.heap u=k∧RelV (toV u) u:=fun u hu=>by
   rw[eo]at hu
   obtain⟨k,_,⟨t,o,it,n,e,g,_,d,i⟩,hT⟩:=Yf tp (po.mem_iff.mp hu)
   subst e
   exact⟨k,hT,ZR g d i,rfl⟩
  have vals:∀l:List Value,(∀u∈l,∃k,bg H (toV u) k∧bo s.heap u=k∧RelV (toV u) u)→Vals (l.map toV) l∧Paired (bg H) (l.map toV) (l.map (bo s.heap)):=fun l=>by
   induction l with
   |nil=>intro _;exact⟨.nil,.nil⟩
   |cons u l ih=>
    intro hl
    obtain⟨i1,i2⟩:=ih fun v hv=>hl v (List.mem_cons_of_mem _ hv)
    obtain⟨k,a1,a2,a3⟩:=hl u List.mem_cons_self
    exact⟨.cons a3 i1,.cons (by rw[a2];exact a1) i2⟩
  obtain⟨v1,v2⟩:=vals out.toList rel
  obtain⟨e,he⟩:=sortedAll_at s.heap aa out
  have lo:out.toList.length=aa.length:=by rw[eo];exact po.length_eq
  have hlen:(out.toList.map toV).length≤sizeLine:=by rw[List.length_map,lo,sizeLine_eq];omega
  refine⟨.ref (s.heap.objs.size+1),_,I.laid (t':=s.toks) (a:=s.heap.objs.size+1) (o:=.lst (out.toList.map toV)) (fun b o=>sortedAll_old) (Nat.le_succ _) ⟨hlen,out.toList,e,v1,by simpa using he⟩,rfl,q _ _ (out.toList.map (bo s.heap)) (I.ak.fresh (Nat.le_succ _)) ?_ ?_ v2⟩
  ·rw[←ek,eo]
   exact po.map _
  ·rw[eo,List.map_map,List.pairwise_map]
   exact nP
end
abbrev I4:=Int×Int×Int×Int
def bh (q:I4):List Int:=[q.1,q.2.1,q.2.2.1,q.2.2.2]
theorem L7 {a b:I4}(h:bh a=bh b):a=b:=by
 obtain⟨a1,a2,a3,a4⟩:=a
 obtain⟨b1,b2,b3,b4⟩:=b
 simp only[bh,List.cons.injEq,and_true]at h
 obtain⟨h1,h2,h3,h4⟩:=h
 subst h1 h2 h3 h4
 rfl
def kU (H:Hp) (v:V) (q:I4):Prop:=∃t t':Addr,v=.ref t∧H t=some (.tup [.ref t',.int q.2.2.1,.int q.2.2.2])∧H t'=some (.tup [.int q.1,.int q.2.1])
def jo (h:Heap) (u:Value) (k:I4):Prop:=∃(t:Addr) (o:Obj) (n:Nat) (t':Addr) (o':Obj) (n':Nat) (k1 k2 k3 k4:Tok),u=.ref t∧h.get? t=some o∧o.cls=.type "tuple" ∧o.data=.seq #[.ref t',.int k.2.2.1 k3,.int k.2.2.2 k4] n∧
 h.get? t'=some o'∧o'.cls=.type "tuple" ∧o'.data=.seq #[.int k.1 k1,.int k.2.1 k2] n'
theorem jo.keep {h h':Heap}{u:Value}{k:I4}{a:Addr}(x:jo h u k) (kp:∀b o,b≠a→h.get? b=some o→h'.get? b=some o) (na:∀b o,h.get? b=some o→b≠a):jo h' u k:=by
 obtain⟨t,o,n,t',o',n',k1,k2,k3,k4,e,g,c,d,g',c',d'⟩:=x
 exact⟨t,o,n,t',o',n',k1,k2,k3,k4,e,kp t o (na t o g) g,c,d,kp t' o' (na t' o' g') g',c',d'⟩
def iZ (h:Heap):Value→List Int
 | .ref t=>match h.get? t with
  |some o=>match o.data with
   | .seq aa _=>bo h (aa.toList.getD 0 .none)++(aa.toList.drop 1).map numOf
   |_=> []
  |none=> []
 |_=> []
theorem Wt {h:Heap}{u:Value}{k:I4}(x:jo h u k):iZ h u=bh k:=by
 obtain⟨t,o,n,t',o',n',k1,k2,k3,k4,rfl,g,c,d,g',c',d'⟩:=x
 have e:=ZR g' d' (k:=[k.1,k.2.1]) (.cons _ _ (.cons _ _ .nil))
 unfold iZ
 dsimp only
 rw[g]
 dsimp only
 rw[d]
 dsimp only
 show bo h (.ref t')++_=_
 rw[e]
 rfl
theorem UB {h:Heap} :∀{us:List Value}{ks:List I4},Paired (jo h) us ks→∃fs,PySem.W.KatTups h us fs∧fs.length=us.length∧∀f∈fs,∃t o,f=.ref t∧h.get? t=some o∧o.cls=.type "tuple"
 |_,_,.nil=> ⟨[],.nil,rfl,fun f hf=>by cases hf⟩
 |_,_,.cons (a:=u) (b:=k) q r=>by
  obtain⟨t,o,n,t',o',n',k1,k2,k3,k4,e,g,c,d,g',c',d'⟩:=q
  obtain⟨fs,h1,h2,h3⟩:=UB r
  subst e
  refine⟨.ref t'::fs,.cons g c d rfl h1,by rw[List.length_cons,List.length_cons,h2],fun f hf=> ?_⟩
  rcases List.mem_cons.mp hf with rfl |hf
  ·exact⟨_,_,rfl,g',c'⟩
  ·exact h3 f hf
theorem Ma (a b a' b':Int) (l m:List Int):ax (a::b::l) (a'::b'::m)=if [a,b]=[a',b'] then ax l m else HT.lexLt [a,b] [a',b']:=by
 by_cases e1:a=a'
 ·subst e1
  by_cases e2:b=b'
  ·subst e2
   simp[ax]
  ·simp[ax,e2,HT.lexLt]
 ·simp[ax,e1,HT.lexLt]
theorem LX {A:Around}{s:Shared}{t t':Addr}{o o':Obj}{n n':Nat}{a b a' b':Int}{k1 k2 k3 k4:Tok}(hu:A.units<cLine) (g:s.heap.get? t=some o) (c:o.cls=.type "tuple") (d:o.data=.seq #[.int a k1,.int b k2] n)
  (g':s.heap.get? t'=some o') (c':o'.cls=.type "tuple") (d':o'.data=.seq #[.int a' k3,.int b' k4] n'):SeqAt.EqAt A s (.ref t) (.ref t') (decide ([a,b]=[a',b'])):=by
 by_cases h:t=t'
 ·subst h
  rw[g]at g'
  cases g'
  rw[d]at d'
  have e:a=a'∧b=b':=by
   injection d' with e1 e2
   simp at e1
   exact⟨e1.1.1,e1.2.1⟩
  rw[e.1,e.2]
  have:=SeqAt.EqAt.same (A:=A) (s:=s) (.ref t)
  simpa using this
 ·refine SeqAt.EqAt.of_refs h ?_
  have z:=SeqAt.RcAt.tuples (A:=A) (s:=s) (l:=t) (b:=t') (items:= #[.int a k1,.int b k2]) (items2:= #[.int a' k3,.int b' k4]) (e:=fun j=>if j=0 then a==a' else b==b') ⟨o,g,c,n,d⟩ ⟨o',g',c',n',d'⟩ hu (fun j h1 h2=>by
   have oO:j<2:=h1
   match j,oO with
   |0,_=>exact SeqAt.EqAt.int_int _ _ _ _
   |1,_=>exact SeqAt.EqAt.int_int _ _ _ _)
  have e:((List.range (min (#[Value.int a k1,Value.int b k2]:Array Value).size (#[Value.int a' k3,Value.int b' k4]:Array Value).size)).all (fun j=>if j=0 then a==a' else b==b')&&(#[Value.int a k1,Value.int b k2]:Array Value).size==(#[Value.int a' k3,Value.int b' k4]:Array Value).size)=decide ([a,b]=[a',b']):=by
   show((List.range 2).all (fun j=>if j=0 then a==a' else b==b')&&2==2)=_
   rw[Bool.eq_iff_iff]
   simp[List.range_succ]
  rw[e]at z
  exact z
section
variable {X:Cx}
theorem Uv (hu:X.A.units+2<cLine):dX X (.builtin "sorted") (fun xs H Q=> ∃(p:Addr) (vs:List V) (ks:List I4),xs=[.ref p]∧aj X.K H p vs∧Paired (kU H) vs ks∧vs.length<64∧
  ∀(q:Addr) (dY:List V) (gP:List I4),H q=none→gP.Perm ks→(gP.map bh).Pairwise (fun a b=>ax b a=false)→Paired (kU H) dY gP→Q (.ref q) (upd H q (.lst dY))):=by
 intro pins s σ H xs us Q I r h
 obtain⟨p,vs,ks,rfl,hp,pr,hz,q⟩:=h
 obtain⟨u,rfl,ru⟩:=vals1 r
 cases ru
 obtain⟨aa,rv,pl,_⟩:=I.list hp
 have hl:=rv.length
 have key:∀{vs:List V}{ks:List I4}{aa:List Value},Paired (kU H) vs ks→Vals vs aa→Paired (fun u k=>jo s.heap u k∧kU H (toV u) k) aa ks:=by
  intro vs ks aa pr
  induction pr generalizing aa with
  |nil=>intro rv;cases rv;exact .nil
  |cons hh _ ih=>
   intro rv
   cases rv with
   |cons r1 r2=>
    refine .cons ?_ (ih r2)
    obtain⟨t,t',rfl,ht,dz⟩:=hh
    cases r1
    obtain⟨i1,ri,⟨o,go,oc,n,od⟩,_⟩:=I.tuple (ag.of ht)
    obtain⟨i2,Ez,⟨o',go',Fu,n',Ft⟩,_⟩:=I.tuple (ag.of dz)
    refine⟨?_,t,t',rfl,ht,dz⟩
    cases ri with
    |cons a1 a2=>
     cases a2 with
     |cons a3 a4=>
      cases a4 with
      |cons a5 a6=>
       cases a6
       cases Ez with
       |cons b1 b2=>
        cases b2 with
        |cons b3 b4=>
         cases b4
         cases a1
         obtain⟨k3,rfl⟩:=a3
         obtain⟨k4,rfl⟩:=a5
         obtain⟨k1,rfl⟩:=b1
         obtain⟨k2,rfl⟩:=b3
         exact⟨t,o,n,t',o',n',k1,k2,k3,k4,rfl,go,oc,od,go',Fu,Ft⟩
 have tp:=key pr rv
 have tu:Paired (jo s.heap) aa ks:=Paired.ba tp fun _ _ h=>h.1
 refine Nv (κ:=tuples' false) (r:=fun x y=>ax (iZ s.heap x.1) (iZ s.heap y.1)) (BN _) pl.isList (fun h' a kp na s6 h6=> ?_) (by omega) fun xs nQ nP=> ?_
 ·have sO:Paired (jo s6.heap) aa ks:=Paired.ba tu fun u k x=>x.keep (a:=a) (fun b o hb e=>h6 b o hb (kp b o e)) na
  refine⟨fun h2 Q' hq=> ?_,fun x y st Q' mx my hk hq=> ?_⟩
  ·obtain⟨fs,kt,kl,kf⟩:=UB sO
   refine PySem.W.kat_kind (T:=.type "tuple") kt (by omega) (fun v hv=> ?_) (by rfl) hq
   obtain⟨t,o,rfl,g,c⟩:=kf v hv
   rw[←c]
   exact(PySem.W.Looks.ld g).andThen .now
  ·rw[lt'_eq]
   refine wpS_bind (wpS_get ?_)
   rw[hk]
   obtain⟨u9,_⟩:=YA mx
   obtain⟨u7,_⟩:=YA my
   obtain⟨kx,_,nx⟩:=Yf tu u9
   obtain⟨ky,_,ny⟩:=Yf tu u7
   dsimp only at hq
   rw[Wt nx,Wt ny]at hq
   obtain⟨tx,ox,n1,Dl,Qq,FZ,c1,c2,c3,c4,ex,gx,cx,dx,AA,AY,AU⟩:=nx.keep (h':=s6.heap) (a:=a) (fun b o hb e=>h6 b o hb (kp b o e)) na
   obtain⟨ty,oy,n2,Dk,Qp,FY,d1,d2,d3,d4,ey,gy,cy,dy,Az,AX,AS⟩:=ny.keep (h':=s6.heap) (a:=a) (fun b o hb e=>h6 b o hb (kp b o e)) na
   rw[ex,ey]
   refine wpS_bind (wpS_lift (wpAny_attempt (PySem.W.kat_lt gx dx gy dy ?_)))
   show PySem.W.KatLex _ _ _ false (decide (3<3)) _ ((Value.ref Dl,Value.ref Dk)::([Value.int kx.2.2.1 c3,Value.int kx.2.2.2 c4].zip [Value.int ky.2.2.1 d3,Value.int ky.2.2.2 d4])) 0 _
   refine PySem.W.kat_cons (LX (A:=X.A.in1.in1) hu AA AY AU Az AX AS _ _ _ _ ?_)
   have vS:ax (bh kx) (bh ky)=if [kx.1,kx.2.1]=[ky.1,ky.2.1] then ax [kx.2.2.1,kx.2.2.2] [ky.2.2.1,ky.2.2.2] else HT.lexLt [kx.1,kx.2.1] [ky.1,ky.2.1]:=Ma ..
   rw[vS]at hq
   by_cases e:[kx.1,kx.2.1]=[ky.1,ky.2.1]
   ·rw[if_pos e]at hq
    rw[decide_eq_true e]
    exact PySem.W.kat_yes (WZ (xs:=[kx.2.2.1,kx.2.2.2]) (ys:=[ky.2.2.1,ky.2.2.2]) (.cons _ _ (.cons _ _ .nil)) (.cons _ _ (.cons _ _ .nil)) rfl ⟨rfl,wpS_pure hq⟩)
   ·rw[if_neg e]at hq
    rw[decide_eq_false e]
    exact PySem.W.kat_no (PySem.W.kat_one _ _ (HT.qO ⟨_,AA,AY,FZ,AU⟩ ⟨_,Az,AX,FY,AS⟩ (ns:=[kx.1,kx.2.1]) (ms:=[ky.1,ky.2.1]) (.cons _ _ (.cons _ _ .nil)) (.cons _ _ (.cons _ _ .nil)) hu ⟨rfl,wpS_pure hq⟩))
 ·have fj:∀pq∈xs.toList,pq.1∈aa∧pq.2=pq.1:=fun pq kF=>YA ((Array.perm_iff_toList_perm.mp nQ).mem_iff.mp kF)
  have eo:(xs.map (·.2)).toList=xs.toList.map (·.1):=by
   rw[Array.toList_map]
   exact List.map_congr_left fun pq kF=> (fj pq kF).2
  have po:(xs.toList.map (·.1)).Perm aa:=by
   refine List.Perm.trans ((Array.perm_iff_toList_perm.mp nQ).map _) ?_
   unfold pairsOf
   rw[Array.toList_zip,List.toList_toArray]
   have:∀l:List Value,(l.zip l).map (·.1)=l:=fun l=>by
    induction l with
    |nil=>rfl
    |cons a l ih=>rw[List.zip_cons_cons,List.map_cons,ih]
   rw[this]
  generalize G8:xs.map (·.2)=out at eo
  let kk:Value→I4:=fun u=>match iZ s.heap u with
   | [a,b,c,d]=> (a,b,c,d)
   |_=> (0,0,0,0)
  have Ab:∀u k,jo s.heap u k→kk u=k:=fun u k x=>by
   show(match iZ s.heap u with
    | [a,b,c,d]=> (a,b,c,d)
    |_=> (0,0,0,0))=k
   rw[Wt x]
   rfl
  have ek:aa.map kk=ks:=YR tu Ab
  have rel:∀u∈out.toList,kU H (toV u) (kk u)∧bh (kk u)=iZ s.heap u∧RelV (toV u) u:=fun u hu=>by
   rw[eo]at hu
   obtain⟨k,_,hT,hS⟩:=Yf tp (po.mem_iff.mp hu)
   have e:=Ab u k hT
   rw[e]
   refine⟨hS,(Wt hT).symm,?_⟩
   obtain⟨t,t',e2,_⟩:=hS
   obtain⟨t2,_,_,_,_,_,_,_,_,_,e3,_⟩:=hT
   subst e3
   rfl
  have vals:∀l:List Value,(∀u∈l,kU H (toV u) (kk u)∧bh (kk u)=iZ s.heap u∧RelV (toV u) u)→Vals (l.map toV) l∧Paired (kU H) (l.map toV) (l.map kk)∧(l.map kk).map bh=l.map (iZ s.heap):=fun l=>by
   induction l with
   |nil=>intro _;exact⟨.nil,.nil,rfl⟩
   |cons u l ih=>
    intro hl
    obtain⟨i1,i2,i3⟩:=ih fun v hv=>hl v (List.mem_cons_of_mem _ hv)
    obtain⟨a1,a2,a3⟩:=hl u List.mem_cons_self
    exact⟨.cons a3 i1,.cons a1 i2,by rw[List.map_cons,List.map_cons,List.map_cons,i3,a2]⟩
  obtain⟨v1,v2,v3⟩:=vals out.toList rel
  obtain⟨e,he⟩:=sortedAll_at s.heap aa out
  have lo:out.toList.length=aa.length:=by rw[eo];exact po.length_eq
  have hlen:(out.toList.map toV).length≤sizeLine:=by rw[List.length_map,lo,sizeLine_eq];omega
  refine⟨.ref (s.heap.objs.size+1),_,I.laid (t':=s.toks) (a:=s.heap.objs.size+1) (o:=.lst (out.toList.map toV)) (fun b o=>sortedAll_old) (Nat.le_succ _) ⟨hlen,out.toList,e,v1,by simpa using he⟩,rfl,q _ _ (out.toList.map kk) (I.ak.fresh (Nat.le_succ _)) ?_ ?_ v2⟩
  ·rw[←ek,eo]
   exact po.map _
  ·rw[v3,eo,List.map_map,List.pairwise_map]
   exact nP
end
end L2
namespace PyProof.Rows.de
open PySem
def gq (lt:Value→Value→Bool):Value→List Value→Value
 |b,[]=>b
 |b,v::r=>gq lt (if lt v b=true then v else b) r
section
variable {prog:Program}{w:World}{A:Around}{R:Result→Shared→Prop}{lt:Value→Value→Bool}{vs:List Value}{h0:Heap}{kw:List (Str×Value)}
def Kp (h0 h:Heap):Prop:=∀b o,h0.get? b=some o→h.get? b=some o
theorem Md (hh:A.in1.handled=none) {I l S:Addr}(ra:l≠I) (kL:S≠I) (rA:S≠l) (zI:h0.get? I=none) (zS:h0.get? S=none)
  (v8:∀(s':Shared) u v (Q:Value→Shared→Prop) (E:Value→Shared→Prop),Kp h0 s'.heap→u∈vs→v∈vs→Q (.bool (lt u v)) s'→wpAny (model prog w) A.in1 (richCompare .Lt u v) Q E s'):
  ∀(k j:Nat) (s:Shared) (vb:Value) (c:Nat),vs.length - j=k→j≤vs.length→s.heap.IsListIter I l j→s.heap.IsList l vs.toArray→vb∈vs→Kp h0 s.heap→
  s.heap.get? S=some {cls:=.type "list",dict:=none,data:=.seq #[vb,vb] c,slots:= #[]}→
  (∀h' tk,Kp h0 h'→R (.ok (.ret (gq lt vb (vs.drop j)))) {s with heap:=h',toks:=tk})→
  codeAny (model prog w) A (.builtin "min.loop" ⟨[.ref I,.none,.ref S],kw⟩) R s:=by
 have n9:(toString "min" ++toString ".loop" :String)= "min.loop" :=by decide
 have W:=Walks.list (prog:=prog) (w:=w) (A:=A.in1) hh I l ra vs.toArray
 have hsz:vs.toArray.size=vs.length:=List.size_toArray ..
 have ne:∀b o,h0.get? b=some o→b∉[I]∧b≠S:=fun b o e=> ⟨fun m=> (by rw[List.mem_singleton.mp m,zI]at e;cases e),fun m=> (by rw[m,zS]at e;cases e)⟩
 intro k
 induction k with
 |zero=>
  intro j s vb c hk hj hit vO hb vQ hS hR
  have jb:j=vs.toArray.size:=by omega
  refine codeAny_builtin F.entry_min_loop ?_
  rw[Around.under_plainId F.plain_min_loop _]
  show wpAny _ A.in1 (seqItems? (.ref S) >>=_) _ _ s
  refine wpAny_bind (wpAny_seqItems hS rfl ?_)
  show wpAny _ A.in1 (tryCatch (pyNext (.ref I)) _ >>=_) _ _ s
  refine wpAny_bind (wpAny_tryCatch (W.done s _ _ (jb▸⟨hit,vO⟩) fun h' tk aS=> ?_))
  have jV:=aS S _ (by simpa using kL) hS
  show wpAny _ A.in1 (updateSeq S (fun _=> #[]) >>=_) _ _ _
  refine wpAny_bind ?_
  refine wpAny_updateSeq jV rfl (wpAny_bind (wpAny_letGo (wpAny_pure ?_)))
  have e:vs.drop j=[]:=List.drop_eq_nil_of_le (by omega)
  rw[e]at hR
  exact hR _ tk fun b o q=> (Heap.get?_update_other _ _ (Ne.symm (ne b o q).2)).trans (aS b o (ne b o q).1 (vQ b o q))
 |succ k ih=>
  intro j s vb c hk hj hit vO hb vQ hS hR
  have ay:j<vs.length:=by omega
  refine codeAny_builtin F.entry_min_loop ?_
  rw[Around.under_plainId F.plain_min_loop _]
  show wpAny _ A.in1 (seqItems? (.ref S) >>=_) _ _ s
  refine wpAny_bind (wpAny_seqItems hS rfl ?_)
  show wpAny _ A.in1 (tryCatch (pyNext (.ref I)) _ >>=_) _ _ s
  refine wpAny_bind (wpAny_tryCatch (W.item j s _ _ (by omega) ⟨hit,vO⟩ fun v h' tk hP nX aS=> ?_))
  have hv:vs[j]? =some v:=by simpa using hP
  have zB:v∈vs:=List.mem_of_getElem? hv
  have jV:=aS S _ (by simpa using kL) hS
  have nM:Kp h0 h':=fun b o q=>aS b o (ne b o q).1 (vQ b o q)
  have ed:vs.drop j=v::vs.drop (j+1):=by
   have e2:vs[j]=v:=(List.getElem?_eq_some_iff.mp hv).2
   rw[List.drop_eq_getElem_cons ay,e2]
  rw[ed]at hR
  show wpAny _ A.in1 (tryCatch (holding [v,v] (richCompare .Lt v vb >>=_)) _ >>=_) _ _ _
  refine wpAny_bind (wpAny_tryCatch (wpAny_holding (wpAny_bind (v8 _ v vb _ _ nM zB hb ?_))))
  refine wpAny_bind (wpAny_holding (wpAny_truthy_bool ?_))
  refine wpAny_bind (wpAny_letGo (wpAny_pure ?_))
  cases cX:lt v vb with
  |true=>
   simp only[if_true]
   refine wpAny_bind ?_
   refine wpAny_updateSeq jV rfl (wpAny_bind (wpAny_letGo ?_))
   rw[n9]
   have fr:=W.frame (j+1) _ (h'.update S (Obj.mapSeq fun _=> #[v,v])) nX fun b oE o e=> (Heap.get?_update_other _ _ (fun h:S=b=>by
    simp only[List.mem_cons,List.not_mem_nil,or_false]at oE
    rcases oE with q |q
    ·exact kL (h.trans q)
    ·exact rA (h.trans q))).trans e
   refine wpAny_pure ⟨plainId_quiet F.plain_min_loop _,ih (j+1) _ v _ (by omega) ay fr.1 fr.2 zB (fun b o q=> (Heap.get?_update_other _ _ (Ne.symm (ne b o q).2)).trans (nM b o q)) (Heap.get?_update_self _ jV rfl) fun eX mQ fm=> ?_⟩
   have z:=hR eX mQ fm
   unfold gq at z
   rw[if_pos cX]at z
   exact z
  |false=>
   simp only[Bool.false_eq_true,if_false]
   refine wpAny_bind (wpAny_letGo ?_)
   rw[n9]
   refine wpAny_pure ⟨plainId_quiet F.plain_min_loop _,ih (j+1) _ vb c (by omega) ay nX.1 nX.2 hb nM jV fun eX mQ fm=> ?_⟩
   have z:=hR eX mQ fm
   unfold gq at z
   rw[if_neg (by rw[cX];exact Bool.false_ne_true)]at z
   exact z
theorem Wh (a v:Value):argsOk "min" ⟨[a],[(Str.ofString "default",v)]⟩:=by unfold argsOk;kernel_rfl
theorem U6 {E:Value→Shared→Prop}{s:Shared}{Q:Value→Shared→Prop}{l:Addr}(hh:A.in1.handled=none) (l9:s.heap.IsList l vs.toArray)
  (v8:∀(s':Shared) u v (Q:Value→Shared→Prop) (E:Value→Shared→Prop),Kp s.heap s'.heap→u∈vs→v∈vs→Q (.bool (lt u v)) s'→wpAny (model prog w) A.in1 (richCompare .Lt u v) Q E s')
  (h1:∀h' tk,vs=[]→Kp s.heap h'→Q .none {s with heap:=h',toks:=tk}) (h2:∀v r h' tk,vs=v::r→Kp s.heap h'→Q (gq lt v r) {s with heap:=h',toks:=tk}):
  wpAny (model prog w) A (call (.builtin "min") [.ref l] [(Str.ofString "default",.none)]) Q E s:=by
 have n9:(toString "min" ++toString ".loop" :String)= "min.loop" :=by decide
 obtain⟨ol,G9,_⟩:=id l9
 have zY:l<s.heap.objs.size:=Heap.lt_size G9
 refine kmk_tree PySem.F.kind_min PySem.F.plain_min PySem.F.entry_min (Wh _ _) ?_
 show wpAny _ A.in1 (Builtin.Builtins.bindParams "min" ["key", "default"] 0 ⟨[],[(Str.ofString "default",.none)]⟩ >>=_) _ _ s
 refine wpAny_bind (wpAny_of_eq (show Builtin.Builtins.bindParams "min" ["key", "default"] 0 ⟨[],[(Str.ofString "default",.none)]⟩=pure [none,some .none] from rfl) ?_)
 refine wpAny_bind (wpAny_pure ?_)
 refine wpAny_bind (wpAny_pyIter_list l9 ?_)
 refine wpAny_bind (wpAny_newList ?_ (Nat.zero_le _))
 rw[n9]
 have hS:(s.heap.push {cls:=.type "list_iterator",data:=.fields #[.ref l,.int 0 0]}).objs.size=s.heap.objs.size+1:=size_push' ..
 have ra:l≠s.heap.objs.size:=Nat.ne_of_lt zY
 have kL:(s.heap.push {cls:=.type "list_iterator",data:=.fields #[.ref l,.int 0 0]}).objs.size≠s.heap.objs.size:=by rw[hS];exact Nat.ne_of_gt (Nat.lt_succ_self _)
 have rA:(s.heap.push {cls:=.type "list_iterator",data:=.fields #[.ref l,.int 0 0]}).objs.size≠l:=by rw[hS];exact Nat.ne_of_gt (Nat.lt_succ_of_lt zY)
 have zI:s.heap.get? s.heap.objs.size=none:=Heap.get?_none_of_le (Nat.le_refl _)
 have zS:s.heap.get? (s.heap.push {cls:=.type "list_iterator",data:=.fields #[.ref l,.int 0 0]}).objs.size=none:=Heap.get?_none_of_le (by rw[hS];exact Nat.le_succ _)
 refine wpAny_pure ⟨plainId_quiet PySem.F.plain_min_loop _,?_⟩
 have vg:Kp s.heap ((s.heap.push {cls:=.type "list_iterator",data:=.fields #[.ref l,.int 0 0]}).push (seqObj "list" #[] 0)):=fun b o e=>Heap.get?_push_of_some _ (Heap.get?_push_of_some _ e)
 have gI:((s.heap.push {cls:=.type "list_iterator",data:=.fields #[.ref l,.int 0 0]}).push (seqObj "list" #[] 0)).get? s.heap.objs.size=some {cls:=.type "list_iterator",data:=.fields #[.ref l,.int 0 0]} :=
  Heap.get?_push_of_some _ (Heap.get?_push_size _ rfl)
 have gS:((s.heap.push {cls:=.type "list_iterator",data:=.fields #[.ref l,.int 0 0]}).push (seqObj "list" #[] 0)).get? (s.heap.push {cls:=.type "list_iterator",data:=.fields #[.ref l,.int 0 0]}).objs.size=some (seqObj "list" #[] 0):=Heap.get?_push_size _ rfl
 have lH:((s.heap.push {cls:=.type "list_iterator",data:=.fields #[.ref l,.int 0 0]}).push (seqObj "list" #[] 0)).IsList l vs.toArray:=l9.at fun o e=>vg _ _ e
 have W:=Walks.list (prog:=prog) (w:=w) (A:=A.in1) hh s.heap.objs.size l ra vs.toArray
 have hsz:vs.toArray.size=vs.length:=List.size_toArray ..
 have ne:∀b o,s.heap.get? b=some o→b∉[s.heap.objs.size]∧b≠(s.heap.push {cls:=.type "list_iterator",data:=.fields #[.ref l,.int 0 0]}).objs.size:=fun b o e=> ⟨fun m=> (by rw[List.mem_singleton.mp m,zI]at e;cases e),fun m=> (by rw[m,zS]at e;cases e)⟩
 refine codeAny_builtin PySem.F.entry_min_loop ?_
 rw[Around.under_plainId PySem.F.plain_min_loop _]
 show wpAny _ A.in1 (seqItems? (.ref _) >>=_) _ _ _
 refine wpAny_bind (wpAny_seqItems gS rfl ?_)
 show wpAny _ A.in1 (tryCatch (pyNext (.ref s.heap.objs.size)) _ >>=_) _ _ _
 cases jP:vs with
 |nil=>
  refine wpAny_bind (wpAny_tryCatch (W.done _ _ _ ⟨⟨_,gI,rfl,by rw[hsz,jP];rfl⟩,lH⟩ fun h' tk aS=> ?_))
  refine wpAny_bind (wpAny_rule ?_)
  exact wpAny_pure (h1 h' tk jP fun b o q=>aS b o (ne b o q).1 (vg b o q))
 |cons v0 r0=>
  refine wpAny_bind (wpAny_tryCatch (W.item 0 _ _ _ (by rw[hsz,jP];exact Nat.succ_pos _) ⟨⟨_,gI,rfl,rfl⟩,lH⟩ fun v h' ye hP nX aS=> ?_))
  have hv:v0=v:=by
   rw[jP]at hP
   simpa using hP
  subst hv
  have AD:=aS _ _ (by simpa using kL) gS
  have nM:Kp s.heap h':=fun b o q=>aS b o (ne b o q).1 (vg b o q)
  show wpAny _ A.in1 (updateSeq (s.heap.push {cls:=.type "list_iterator",data:=.fields #[.ref l,.int 0 0]}).objs.size (fun _=> #[v0,v0]) >>=_) _ _ _
  refine wpAny_bind ?_
  refine wpAny_updateSeq AD rfl ?_
  rw[n9]
  have fr:=W.frame (0+1) _ (h'.update (s.heap.push {cls:=.type "list_iterator",data:=.fields #[.ref l,.int 0 0]}).objs.size (Obj.mapSeq fun _=> #[v0,v0])) nX fun b oE o e=> (Heap.get?_update_other _ _ (fun h=>by
    simp only[List.mem_cons,List.not_mem_nil,or_false]at oE
    rcases oE with q |q
    ·exact kL (h.trans q)
    ·exact rA (h.trans q))).trans e
  refine wpAny_pure ⟨plainId_quiet PySem.F.plain_min_loop _,Md (lt:=lt) (vs:=vs) (h0:=s.heap) hh ra kL rA zI zS v8 _ 1 _ v0 _ rfl (by rw[jP];exact Nat.succ_le_succ (Nat.zero_le _)) fr.1 fr.2 (by rw[jP];exact List.mem_cons_self) (fun b o q=> (Heap.get?_update_other _ _ (Ne.symm (ne b o q).2)).trans (nM b o q)) (Heap.get?_update_self _ AD rfl) fun eX mQ fm=> ?_⟩
  have z:=h2 v0 r0 eX mQ jP fm
  rw[jP]
  exact z
end
theorem Ji {lt:Value→Value→Bool} :∀{r:List Value}{b:Value},gq lt b r∈b::r
 | [],b=>List.mem_cons_self
 |v::r,b=>by
  unfold gq
  rcases List.mem_cons.mp (Ji (lt:=lt) (r:=r) (b:=if lt v b=true then v else b)) with h |h
  ·rw[h]
   by_cases e:lt v b=true
   ·rw[if_pos e];exact List.mem_cons_of_mem _ List.mem_cons_self
   ·rw[if_neg e];exact List.mem_cons_self
  ·exact List.mem_cons_of_mem _ (List.mem_cons_of_mem _ h)
theorem JB (key:Value→List Int):∀{r:List Value}{b:Value},∀v∈b::r,ax (key v) (key (gq (fun a b=>ax (key a) (key b)) b r))=false
 | [],b,v,hv=>by
  rw[List.mem_singleton.mp hv]
  cases h:ax (key b) (key (gq (fun a b=>ax (key a) (key b)) b [])) with
  |false=>rfl
  |true=>
   have:=Yo _ _ h
   exact absurd (h.symm.trans this) (by decide)
 |w::r,b,v,hv=>by
  have ih:=fun v hv=>JB key (r:=r) (b:=if ax (key w) (key b)=true then w else b) v hv
  show ax (key v) (key (gq (fun a b=>ax (key a) (key b)) (if ax (key w) (key b)=true then w else b) r))=false
  have hd:=ih _ List.mem_cons_self
  by_cases e:ax (key w) (key b)=true
  ·rw[if_pos e]at hd ih ⊢
   rcases List.mem_cons.mp hv with rfl |hv
   ·exact Jg _ _ _ hd (Yo _ _ e)
   ·exact ih v hv
  ·rw[if_neg e]at hd ih ⊢
   rcases List.mem_cons.mp hv with rfl |hv
   ·exact hd
   ·rcases List.mem_cons.mp hv with rfl |hv
    ·exact Jg _ _ _ hd (by simpa using e)
    ·exact ih v (List.mem_cons_of_mem _ hv)
end PyProof.Rows.de
namespace L2
open PySem PySem.Spec PyProof.Rows PyProof.Rows.de
theorem Y5:∀a b:List Int,HT.lexLt a b=ax a b
 | [],[]=>rfl
 | [],_::_=>rfl
 |_::_,[]=>rfl
 |x::a,y::b=>by
  unfold ax
  rw[HT.zr,Y5 a b]
section
variable {X:Cx}
def yh (K:PySem.W.Frag) (te:TE):TE:=fun σ H Q=>te σ H fun v H1=> ∃(a:Addr) (vs:List V) (ks:List (List Int)),v=.ref a∧aj K H1 a vs∧Paired (bg H1) vs ks∧(vs=[]→Q .ae H1)∧
 ∀v k,v∈vs→k∈ks→bg H1 v k→(∀k'∈ks,ax k' k=false)→Q v H1
theorem MF {x:Str}{te:TE}{p px kp iY pos:Pos}(hc:X.calm=true) (hu:X.A.units+1<cLine) (hg:Gl X "min") (hm:X.mg "min" =none) (he:PE X (.Name x px) te)
  (bP:(backToKw pos (keywordEach [⟨some "default",.Constant .none 0 kp,iY⟩] X.env)).filterMap (·.1)=[Str.ofString "default"]:=by rfl):
  PE X (.Call (.Name "min" p) [.Name x px] [⟨some "default",.Constant .none 0 kp,iY⟩] pos) (yh X.K te):=by
 intro pins s σ H Q I h
 refine wpAny_Call_Name_kw (YS I hg hm PyProof.Rows.Boot.«min» ?_ (by decide) (by decide))
 have pa:PA X [.Name x px] (iU te iT):=Za he Zb
 have pk:PK X [⟨some "default",.Constant .none 0 kp,iY⟩] (iU (tC .ae) iT):=BQ ZY Bm
 refine PyProof.Rows.callWith_kw (av (pa pos pins s σ H (fun us H1=>match us with
  | [v]=> ∃(a:Addr) (vs:List V) (ks:List (List Int)),v=.ref a∧aj X.K H1 a vs∧Paired (bg H1) vs ks∧(vs=[]→Q .ae H1)∧∀v k,v∈vs→k∈ks→bg H1 v k→(∀k'∈ks,ax k' k=false)→Q v H1
  |_=>False) I h) fun us s1 ⟨sH,H1,I1,r1,q1⟩=> ?_)
 match sH,q1 with
 | [v],q1=>
  obtain⟨a,vs,ks,rfl,hq,pr,q1,q2⟩:=q1
  refine av (pk pos pins s1 σ H1 (fun zs H2=>zs=[.ae]∧H2=H1) I1 ⟨rfl,rfl⟩) fun ws s2 ⟨zs,H2,I2,rz,e1,e2⟩=> ?_
  subst e1 e2
  obtain⟨u,rfl,ru⟩:=vals1 r1
  obtain⟨z,rfl,uN⟩:=vals1 rz
  cases ru
  have ez:z=.none:=uN
  subst ez
  rw[bP]
  show wpAny _ _ (call (.builtin "min") [.ref a] [(Str.ofString "default",.none)]) _ _ _
  obtain⟨aa,rv,pl,_⟩:=I2.list hq
  have key:∀{vs:List V}{ks:List (List Int)}{aa:List Value},Paired (bg H2) vs ks→Vals vs aa→∀u∈aa,∃v∈vs,∃k∈ks,RelV v u∧bg H2 v k∧jq s2.heap u k:=by
   intro vs ks aa pr
   induction pr generalizing aa with
   |nil=>intro rv;cases rv;intro u hu;cases hu
   |cons hh _ ih=>
    intro rv
    cases rv with
    |cons r1 r2=>
     intro u hu
     rcases List.mem_cons.mp hu with rfl |hu
     ·obtain⟨t,e,ht⟩:=id hh
      obtain⟨items,ri,⟨o,go,oc,n,od⟩,_⟩:=I2.tuple (ag.of ht)
      refine⟨_,List.mem_cons_self,_,List.mem_cons_self,r1,hh,?_⟩
      subst e
      cases r1
      exact⟨t,o,_,n,rfl,go,oc,od,by simpa using ZV ri⟩
     ·obtain⟨v,hv,k,hk,w⟩:=ih r2 u hu
      exact⟨v,List.mem_cons_of_mem _ hv,k,List.mem_cons_of_mem _ hk,w⟩
  have vm:∀{vs:List V}{ks:List (List Int)}{aa:List Value},Paired (bg H2) vs ks→Vals vs aa→∀k∈ks,∃u∈aa,bo s2.heap u=k:=by
   intro vs ks aa pr
   induction pr generalizing aa with
   |nil=>intro rv k hk;cases hk
   |cons hh _ ih=>
    intro rv
    cases rv with
    |cons r1 r2=>
     intro k hk
     rcases List.mem_cons.mp hk with rfl |hk
     ·obtain⟨t,e,ht⟩:=id hh
      obtain⟨items,ri,⟨o,go,oc,n,od⟩,_⟩:=I2.tuple (ag.of ht)
      refine⟨_,List.mem_cons_self,?_⟩
      subst e
      cases r1
      exact ZR go od (by simpa using ZV ri)
     ·obtain⟨u,hu,e⟩:=ih r2 k hk
      exact⟨u,List.mem_cons_of_mem _ hu,e⟩
  refine U6 (lt:=fun u v=>ax (bo s2.heap u) (bo s2.heap v)) (I2.ok.hd hc) pl.isList (fun s' u v Q' E' kp vE vC cc=> ?_) (fun h' tk e kp=> ?_) (fun v0 r h' tk e kp=> ?_)
  ·obtain⟨_,_,ku,_,_,_,tu,ou,iu,nu,rfl,gu,cu,du,ju⟩:=key pr rv u vE
   obtain⟨_,_,kv,_,_,_,tv,ov,iv,nv,rfl,gv,cv,dv,jv⟩:=key pr rv v vC
   have e1:bo s2.heap (.ref tu)=ku:=ZR gu du ju
   have e2:bo s2.heap (.ref tv)=kv:=ZR gv dv jv
   try dsimp only at cc
   rw[e1,e2,←Y5]at cc
   exact HT.qO ⟨_,kp _ _ gu,cu,nu,du⟩ ⟨_,kp _ _ gv,cv,nv,dv⟩ ju jv hu cc
  ·subst e
   cases rv
   exact⟨.ae,H2,I2.kept kp,rfl,q1 rfl⟩
  ·have hm:=Ji (lt:=fun u v=>ax (bo s2.heap u) (bo s2.heap v)) (r:=r) (b:=v0)
   have hle:=JB (bo s2.heap) (r:=r) (b:=v0)
   generalize gq (fun u v=>ax (bo s2.heap u) (bo s2.heap v)) v0 r=m at hm hle
   rw[←e]at hm hle
   obtain⟨v,hv,k,hk,uP,nW,tu,ou,iu,nu,e3,gu,cu,du,ju⟩:=key pr rv m hm
   have e1:bo s2.heap m=k:=by rw[e3];exact ZR gu du ju
   refine⟨v,H2,I2.kept kp,uP,q2 v k hv hk nW fun k' aS=> ?_⟩
   obtain⟨u',nV,e4⟩:=vm pr rv k' aS
   have:=hle u' nV
   rw[e1,e4]at this
   exact this
end
end L2
namespace L2
open PySem PySem.Spec PyProof.Rows
def xG (K:PySem.W.Frag) (l1 l2:Addr):It:=
 ⟨fun i H=> ∃xs ys x y,aj K H l1 xs∧aj K H l2 ys∧xs[i]? =some x∧ys[i]? =some y,
  fun i H v H'=> ∃(T:Addr) (x y:V),v=.ref T∧H T=none∧H'=upd H T (.par [x,y])∧∀xs ys,aj K H l1 xs→aj K H l2 ys→xs[i]? =some x∧ys[i]? =some y,
  fun i H=> ∃xs ys,aj K H l1 xs∧aj K H l2 ys∧min xs.length ys.length=i⟩
theorem NZ {P:Program}{w:World}{K:PySem.W.Frag}{elts:List Expr}{kk:Nat}{pos:Pos}(z TI TO i1 i2 l1 l2:Addr) (D:ZipApart z TI TO i1 i2 l1 l2):
  Turn P w K (.Tuple elts kk pos) (xG K l1 l2) [z,TI,TO,i1,i2] z (fun i h=>IsZip h z TI TO .none∧IsPair h TI (.ref i1) (.ref i2)∧(∃a b,IsPair h TO a b)∧h.IsListIter i1 l1 i∧h.IsListIter i2 l2 i) where
 mem:=by simp
 obj:=fun i h st b hb=>by
  obtain⟨a1,a2,⟨u,v,a3⟩,⟨o4,h4,_,d4⟩,⟨o5,h5,_,d5⟩⟩:=st
  exact qL (P:=fun b=> ∃o,h.get? b=some o∧∀v,o.data≠.cell v) ⟨_,a1,fun v z=>by cases z⟩ ⟨_,a2,fun v z=>by cases z⟩ ⟨_,a3,fun v z=>by cases z⟩ ⟨_,h4,fun v z=>by rw[d4]at z;cases z⟩ ⟨_,h5,fun v z=>by rw[d5]at z;cases z⟩ b hb
 keep:=fun i h h' st k=>by
  obtain⟨a1,a2,⟨u,v,a3⟩,a4,a5⟩:=st
  exact⟨k z (by simp) _ a1,k TI (by simp) _ a2,⟨u,v,k TO (by simp) _ a3⟩,a4.at fun o q=>k i1 (by simp) o q,a5.at fun o q=>k i2 (by simp) o q⟩
 item:=by
  intro X hP hw hK hc i pins s σ H E I hf st hg
  subst hP hw hK
  obtain⟨xs,ys,x,y,dA,bG,hx,hy⟩:=hg
  obtain⟨dr,iA,cU,ff⟩:=I.list dA
  obtain⟨eM,eG,cw,gR⟩:=I.list bG
  obtain⟨u,hu,ru⟩:=iA.get hx
  obtain⟨v,hv,rv⟩:=eG.get hy
  have mj:i<min dr.toArray.size eM.toArray.size:=by
   have e1:=(List.getElem?_eq_some_iff.mp hu).1
   have e2:=(List.getElem?_eq_some_iff.mp hv).1
   simp only[List.size_toArray]
   omega
  have W:=WalksT.zip2 (prog:=X.prog) (w:=X.w) (A:=X.A) (I.ok.hd hc) z TI TO i1 i2 l1 l2 D dr.toArray eM.toArray
  obtain⟨a1,a2,a3,a4,a5⟩:=st
  refine W.item i s _ _ mj ⟨a1,a2,a3,a4,a5,cU.isList,cw.isList⟩ fun T vals h' tk hP cj oG jR hk=> ⟨_,rfl,W.go elts kk pos i T _ _ _ jR fun eX bY fm=> ?_⟩
  obtain⟨x2,y2,nU,cD,rfl⟩:=hP
  have nT:dr[i]? =some x2:=by simpa using nU
  have zz:eM[i]? =some y2:=by simpa using cD
  rw[hu]at nT
  rw[hv]at zz
  cases nT
  cases zz
  have both:∀b o,b∉[z,TI,TO,i1,i2]→s.heap.get? b=some o→eX.get? b=some o:=fun b o hb q=>fm b o (Jn hb) (hk b o (Jn hb) q)
  have oH:eX.IsTuple T #[u,v]:=oG.at fun o q=>fm T o (W.apart _ _ _ jR) q
  refine⟨.ref T,upd H T (.par [x,y]),W2 (s:=s) (h':=eX) (tk:=tk) I hf both cj oH ru rv,rfl,⟨T,x,y,rfl,I.ak.fresh cj,rfl,fun as bs ha hb=>by rw[I.qQ ha dA,I.qQ hb bG];exact⟨hx,hy⟩⟩,⟨bY.1,bY.2.1,bY.2.2.1,bY.2.2.2.1,bY.2.2.2.2.1⟩,CD hf cj ?_⟩
  obtain⟨u',v',wM⟩:=a3
  obtain⟨o4,h4,_,d4⟩:=a4
  obtain⟨o5,h5,_,d5⟩:=a5
  exact qL (P:=fun b=> ∃o,s.heap.get? b=some o∧∀v,o.data≠.cell v) ⟨_,a1,fun v z=>by cases z⟩ ⟨_,a2,fun v z=>by cases z⟩ ⟨_,wM,fun v z=>by cases z⟩ ⟨_,h4,fun v z=>by rw[d4]at z;cases z⟩ ⟨_,h5,fun v z=>by rw[d5]at z;cases z⟩
 done:=by
  intro X hP hw hK hc i pins s σ H E I hf st hg
  subst hP hw hK
  obtain⟨xs,ys,dA,bG,hx⟩:=hg
  obtain⟨dr,iA,cU,ff⟩:=I.list dA
  obtain⟨eM,eG,cw,gR⟩:=I.list bG
  have e1:=iA.length
  have e2:=eG.length
  have W:=WalksT.zip2 (prog:=X.prog) (w:=X.w) (A:=X.A) (I.ok.hd hc) z TI TO i1 i2 l1 l2 D dr.toArray eM.toArray
  have hn:i=min dr.toArray.size eM.toArray.size:=by simp only[List.size_toArray];omega
  obtain⟨a1,a2,a3,a4,a5⟩:=st
  rw[hn]at a4 a5
  exact W.done s _ _ ⟨a1,a2,a3,a4,a5,cU.isList,cw.isList⟩ fun h' tk hk=> ⟨rfl,xu (s:=s) (h':=h') (tk:=tk) I hf fun b o hb q=>hk b o (Jn hb) q⟩
 self:=fun A i s Q E st h=>wpAny_pyIter_zip st.1 h
section
variable {X:Cx}{elts:List Expr}{kk:Nat}{tp:Pos}
def Gk (K:PySem.W.Frag) (ta:TA):TI:=fun σ H R=>ta σ H fun vs H1=> ∃l1 l2,vs=[.ref l1,.ref l2]∧(∃xs ys,aj K H1 l1 xs∧aj K H1 l2 ys)∧R (xG K l1 l2) H1
theorem MH {a b:Expr}{ta:TA}{p pos:Pos}(hg:Gl X "zip") (hm:X.mg "zip" =none) (ha:PA X [a,b] ta) (hs:starEach [a,b] X.env=[(false,eval a X.env),(false,eval b X.env)]:=by rfl) (iH:starEach [b] X.env=[(false,eval b X.env)]:=by rfl):
  PI X (.Tuple elts kk tp) (.Call (.Name "zip" p) [a,b] [] pos) (Gk X.K ta):=by
 intro pins s σ H R I h
 refine Call_ (YS I hg hm PyProof.Rows.Boot.«zip» (PyProof.Rows.callWith_type1 (av (ha pos pins s σ H _ I h) fun us s1 ⟨vs,H1,I1,r1,q1⟩=> ?_) (by rw[hs,iH]) (by rw[iH];rfl)))
 obtain⟨l1,l2,e,⟨xs,ys,dA,bG⟩,q⟩:=q1
 subst e
 obtain⟨u,v,rfl,ru,rv⟩:=vals2 r1
 cases ru
 cases rv
 obtain⟨dr,iA,cU,ff⟩:=I1.list dA
 obtain⟨eM,eG,cw,gR⟩:=I1.list bG
 have t1:l1<s1.heap.objs.size:=by obtain⟨o,ho,_⟩:=cU.isList;exact Heap.lt_size ho
 have t2:l2<s1.heap.objs.size:=by obtain⟨o,ho,_⟩:=cw.isList;exact Heap.lt_size ho
 have D:=Uz s1.heap.objs.size l1 l2 t1 t2
 refine call_zip_2 cU.isList cw.isList fun h' b1 b2 b3 b4 b5 b6 hk=>wpAny_pyIter_zip b1 ?_
 have I2:Inv X pins σ H1 {s1 with heap:=h'} :=I1.kept (t':=s1.toks) hk
 refine⟨s1.heap.objs.size+4,[s1.heap.objs.size+4,s1.heap.objs.size+2,s1.heap.objs.size+3,s1.heap.objs.size,s1.heap.objs.size+1],_,_,H1,rfl,I2,
  NZ _ _ _ _ _ l1 l2 D,⟨b1,b2,⟨_,_,b3⟩,b4,b5⟩,fun b hb=> ?_,q⟩
 have hJ:s1.heap.objs.size≤b:=by
  simp only[List.mem_cons,List.not_mem_nil,or_false]at hb
  rcases hb with z |z |z |z |z<;>rw[z]<;>first |exact Nat.le_refl _ |exact Nat.le_add_right _ _
 exact I1.kN hJ (I1.ak.fresh hJ)
end
theorem N8 {K:PySem.W.Frag}{l1 l2:Addr}{xs zs:List V}{g:TG}{tt:TT}{ti:TC}{ys:List V}{σ:St}{H:Hp}{Q:List V→St→Hp→Prop}(Pv:Nat→List V→St→Hp→Prop) (h0:Pv 0 ys σ H)
  (hl:∀i ys σ H,i≤min xs.length zs.length→Pv i ys σ H→aj K H l1 xs∧aj K H l2 zs)
  (hs:∀i x y T ys σ H,xs[i]? =some x→zs[i]? =some y→H T=none→Pv i ys σ H→g (.ref T) σ (upd H T (.par [x,y])) fun bq H2=>tt bq H2 fun b H3=>if b=true then ti ys bq H3 (Pv (i+1)) else Pv (i+1) ys bq H3)
  (hd:∀ys σ H,Pv (min xs.length zs.length) ys σ H→Q ys σ H):eY g tt ti (xG K l1 l2) ys σ H Q:=by
 refine⟨fun i m ys σ H=>m=min xs.length zs.length - i∧i≤min xs.length zs.length∧Pv i ys σ H,⟨min xs.length zs.length,by simp,Nat.zero_le _,h0⟩,?_⟩
 rintro i m ys σ H ⟨rfl,hi,p⟩
 obtain⟨q1,q2⟩:=hl i ys σ H hi p
 by_cases ay:i<min xs.length zs.length
 ·have h1:i<xs.length:=by omega
  have h2:i<zs.length:=by omega
  refine .inr ⟨⟨xs,zs,xs[i],zs[i],q1,q2,by simp[h1],by simp[h2]⟩,Pv (i+1),fun aU af H' p'=> ⟨min xs.length zs.length - (i+1),by omega,rfl,ay,p'⟩,fun x H' y=> ?_⟩
  obtain⟨T,a,b,e1,e2,e3,e4⟩:=y
  subst e1 e3
  obtain⟨f1,f2⟩:=e4 xs zs q1 q2
  exact hs i a b T ys σ H f1 f2 e2 p
 ·have e:i=min xs.length zs.length:=by omega
  subst e
  exact .inl ⟨⟨xs,zs,q1,q2,rfl⟩,hd ys σ H p⟩
end L2
namespace L2
open PySem PySem.Spec PyProof.Rows SeqAt
section
variable {X:Cx}
theorem xl:aR X (compareOp .IsNot) (fun x y H Q=> ∃a b:Bool,x=.bl a∧y=.bl b∧Q (.bl (!(a==b))) H):=by
 intro pins s σ H x y u v Q I rx ry h
 obtain⟨a,b,rfl,rfl,q⟩:=h
 cases rx
 cases ry
 refine wpAny_isNot_plain rfl ⟨.bl _,H,I,?_,q⟩
 show Value.bool (!(Value.bool a==Value.bool b))=Value.bool (!(a==b))
 cases a<;>cases b<;>rfl
def kA:V→Bool
 | .ae=>true
 | .int _=>true
 |_=>false
theorem KY {A:Around}{s:Shared}{x y:V}{u v:Value}(hx:kA x=true) (hy:kA y=true) (ru:RelV x u) (rv:RelV y v):EqAt A s u v (decide (x=y)):=by
 cases x with
 |ae=>
  cases ru
  cases y with
  |ae=>cases rv;exact EqAt.same _
  |int j=>obtain⟨t,rfl⟩:=rv;exact EqAt.none_int j t
  |_=>cases hy
 |int i=>
  obtain⟨t,rfl⟩:=ru
  cases y with
  |ae=>cases rv;exact EqAt.int_none i t
  |int j=>
   obtain⟨t',rfl⟩:=rv
   rw[xq]
   exact EqAt.int_int i t j t'
  |_=>cases hy
 |_=>cases hx
theorem Lq {A:Around}{s:Shared}{xs ys:List V}{us vs:List Value}(hx:xs.all kA=true) (hy:ys.all kA=true) (r1:Vals xs us) (r2:Vals ys vs):
  ∀j (h1:j<us.toArray.size) (h2:j<vs.toArray.size),EqAt A s us.toArray[j] vs.toArray[j] (decide (xs.getD j .ae=ys.getD j .ae)):=fun j h1 h2=>by
 have l1:=r1.length
 have l2:=r2.length
 have k1:j<xs.length:=by simp at h1;omega
 have k2:j<ys.length:=by simp at h2;omega
 obtain⟨u,hu,ru⟩:=r1.get (List.getElem?_eq_getElem k1)
 obtain⟨v,hv,rv⟩:=r2.get (List.getElem?_eq_getElem k2)
 have e1:us.toArray[j]=u:=by simpa using (List.getElem?_eq_some_iff.mp hu).2
 have e2:vs.toArray[j]=v:=by simpa using (List.getElem?_eq_some_iff.mp hv).2
 rw[e1,e2,List.getD_eq_getElem?_getD,List.getD_eq_getElem?_getD,List.getElem?_eq_getElem k1,List.getElem?_eq_getElem k2]
 exact KY (List.all_eq_true.mp hx _ (List.getElem_mem k1)) (List.all_eq_true.mp hy _ (List.getElem_mem k2)) ru rv
theorem KZ {xs ys:List V}{us vs:List Value}(r1:Vals xs us) (r2:Vals ys vs):((List.range (min us.toArray.size vs.toArray.size)).all (fun j=>decide (xs.getD j .ae=ys.getD j .ae))&&us.toArray.size==vs.toArray.size)=decide (xs=ys):=by
 have l1:=r1.length
 have l2:=r2.length
 rw[Bool.eq_iff_iff,Bool.and_eq_true,List.all_eq_true,decide_eq_true_eq,beq_iff_eq,List.size_toArray,List.size_toArray]
 constructor
 ·rintro⟨h,hl⟩
  refine List.ext_getElem (by omega) fun i h1 h2=> ?_
  have:=h i (by rw[List.mem_range];omega)
  simpa[h1,h2] using this
 ·rintro rfl
  exact⟨fun j _=>by simp,by omega⟩
def EB (K:PySem.W.Frag) (r:Bool):R2:=fun x y H Q=> ∃(a b:Addr) (xs ys:List V),x=.ref a∧y=.ref b∧H a=some (.tup xs)∧H b=some (.tup ys)∧xs.all kA=true∧ys.all kA=true∧Q (.bl (xor r (decide (xs=ys)))) H
theorem Lj (hu:X.A.units<cLine):aR X (compareOp .NotEq) (EB X.K true):=by
 intro pins s σ H x y u v Q I rx ry h
 obtain⟨a,b,xs,ys,rfl,rfl,ha,hb,hx,hy,q⟩:=h
 cases rx
 cases ry
 obtain⟨us,r1,p1,_⟩:=I.tuple (ag.of ha)
 obtain⟨vs,r2,p2,_⟩:=I.tuple (ag.of hb)
 refine RcNeAt.tuples p1 p2 hu (Lq hx hy r1 r2) _ _ _ _ ?_
 rw[KZ r1 r2]
 exact⟨.bl _,H,I,rfl,by rw[Bool.true_xor]at q;exact q⟩
theorem BI (ns:List Int):(ns.map V.int).all kA=true:=by
 rw[List.all_map,List.all_eq_true]
 exact fun _ _=>rfl
end
end L2
namespace U
open PySem L2 PyProof.Rows
def fQ (K:PySem.W.Frag) (H:Hp) (a:Addr) (ns:List Int):Prop:=(∃o,H a=some (.cK o (.lst (ns.map V.int))))∨∃(o:Obj) (aa:Array Value) (n:Nat),K.lookup a=some o∧o.cls=.type "list" ∧o.dict=none∧o.data=.seq aa n∧aa.size≤sizeLine∧Vals (ns.map V.int) aa.toList
theorem fQ.sq {K:PySem.W.Frag}{H:Hp}{a:Addr}{ns:List Int}(h:fQ K H a ns):aj K H a (ns.map V.int):=by
 rcases h with ⟨o,h⟩ |h
 ·exact .inl (.inr ⟨o,h⟩)
 ·exact .inr h
theorem fQ.same {K:PySem.W.Frag}{H H':Hp}{a:Addr}{ns:List Int}(h:fQ K H a ns) (s:ah H H'):fQ K H' a ns:=by
 rcases h with ⟨o,h⟩ |h
 ·exact .inl ⟨o,s _ _ h⟩
 ·exact .inr h
theorem fQ.x {K:PySem.W.Frag}{H H':Hp}{a p:Addr}{ns:List Int}{o:HO}(h:fQ K H a ns) (s:aN p H H') (hp:H p=some o) (hn:∀ob u,o≠.cK ob u):fQ K H' a ns:=by
 rcases h with ⟨ob,h⟩ |h
 ·exact .inl ⟨ob,s _ _ h fun z=>by rw[z,hp]at h;cases h;exact hn _ _ rfl⟩
 ·exact .inr h
end U
namespace U
open PySem L2 PyProof.Rows PySem.Spec
def mN (mg:Str→Option Value) (h:Heap):Prop:=∃bm ob,mg "__builtins__" =some (.ref bm)∧bm≠builtinsNs∧h.get? bm=some ob∧ob.cls=.type "module" ∧ob.dict=some builtinsNs∧ob.data=.plain
theorem OE {P:Program}{w:World}{K:PySem.W.Frag}{mg mb:Str→Option Value}{k:Nat}{fa a:Addr}{Pts:List Addr}{fd:FuncData}{x:Str}{sp:Sp}{aQ:Shared}{vs:List Value}{ns:List Int}
  (KX:K.In aQ.heap) (vM:aQ.heap.Ns mainGlobals mg) (hb:aQ.heap.Ns builtinsNs mb) (HR:∀x:Str,x≠ "__name__" →mb x=bootBuiltins x) (Ho:aQ.heap.NoLimit) (hg:aQ.gens= #[])
  (ha:aQ.heap.get? a=some {cls:=.type "list",data:=.seq vs.toArray}) (hi:IntsAre vs ns) (hl:ns.length≤sizeLine) (hr:cG k callerA)
  (cj:∀Pt∈Pts,aQ.heap.get? Pt=some (PySem.W.tabObj #[])) (Ik:∀Pt∈Pts,∃c,PySem.W.CodeHd aQ.heap c Pt) (Ig:∀Pt∈Pts,K.lookup Pt=none) (HN:mN mg aQ.heap)
  (F:∀base:Heap,K.In base→base.Ns mainGlobals mg→mN mg base→aL P w K mg base aJ k fa fd [x] sp) (HQ:∀(s:Shared) (u:Value),BindsTo s fd ⟨[u],[]⟩ [(x,u)])
  (jQ:∀H:Hp,fQ K H a ns→(∀Pt∈Pts,H Pt=some (.fW #[]))→sp [.ref a] H (fun v _=>v=.bl true) fun _ _ _=>False):
  codeAny (model P w) callerA (.call (.ref fa) ⟨[.ref a],[]⟩) (fun r s'=>r=.ok (.ret (.bool true))∧OldK aQ.heap s'.heap∧s'.os=aQ.os∧AllBare s'.gens) aQ:=by
 have rv:=UA hi
 have F7:=hi.length
 have oJ:∀{Pt:Addr},Pt∈Pts→aQ.heap.get? Pt=some {cls:=.none,data:=.fields #[]} :=fun h=>cj _ h
 have Ar:a∉Pts:=fun z=>by have h:=oJ z;rw[ha]at h;cases h
 have core:∀H:Hp,(∀b,b∉Pts→H b=none∨∃o xs,H b=some (.cK o (.lst xs)))→fQ K H a ns→(∀Pt∈Pts,H Pt=some (.fW #[]))→bu P w H aQ.heap→(∀b,H b≠none→b=a∨b∈Pts)→(H a≠none→K.lookup a=none)→
   codeAny (model P w) callerA (.call (.ref fa) ⟨[.ref a],[]⟩) (fun r s'=>r=.ok (.ret (.bool true))∧OldK aQ.heap s'.heap∧s'.os=aQ.os∧AllBare s'.gens) aQ:=by
  intro H hO hS hP ak hA hK
  have wG:∀{b:Addr}{o:Obj},aQ.heap.get? b=some o→H b=none→(iL aQ.heap H).get? b=some o:=fun e n=>L4 e n
  have kz:∀{b:Addr}{o:Obj},aQ.heap.get? b=some o→(∀vs n,o.data≠.seq vs n)→(∀ps,o.data≠.fields ps)→H b=none:=fun {b o} e d1 d2=>by
   cases q:H b with
   |none=>rfl
   |some u=>
    rcases hA b (by rw[q];simp) with e' |e'
    ·subst e'
     rw[ha]at e;cases e
     exact absurd rfl (d1 _ _)
    ·rw[oJ e']at e;cases e
     exact absurd rfl (d2 _)
  have qF:∀{b:Addr}{m:Str→Option Value},aQ.heap.Ns b m→(iL aQ.heap H).Ns b m:=fun {b m} ⟨o,es,ep,e,d,r⟩=> ⟨o,es,ep,wG e (kz e (fun _ _ z=>by rw[d]at z;cases z) fun _ z=>by rw[d]at z;cases z),d,r⟩
  have Au:K.In (iL aQ.heap H):=fun b o e=>wG (KX b o e) (by
   cases q:H b with
   |none=>rfl
   |some u=>
    rcases hA b (by rw[q];simp) with e' |e'
    ·subst e'
     rw[hK (by rw[q];simp)]at e;cases e
    ·rw[Ig _ e']at e;cases e)
  have hM:Mod K mg (iL aQ.heap H):=⟨Au,qF vM,⟨mb,qF hb,HR⟩,let ⟨mc,h1,h2⟩:=Ho;⟨mc,qF h1,h2⟩⟩
  have HM:mN mg (iL aQ.heap H):=let ⟨bm,ob,b1,b2,b3,b4,b5,b6⟩:=HN;⟨bm,ob,b1,b2,wG b3 (kz b3 (fun _ _ z=>by rw[b6]at z;cases z) fun _ z=>by rw[b6]at z;cases z),b4,b5,b6⟩
  have e0:r9 P w K mg (iL aQ.heap H) callerA [] aQ H:=⟨rfl,hM,fun b o e=>Lc e,Nat.le_of_eq (MZ _ _),trivial,fun b hb=>absurd (show b∈([]:List Addr) from hb) (by simp),ak,.of_eq hg⟩
  refine codeAny_mono ((F _ Au (qF vM) HM).run callerA [] aQ H ⟨[.ref a],[]⟩ [.ref a] [.ref a] _ _ hr e0 (HQ aQ (.ref a)) (.cons rfl .nil) (jQ H hS hP)) fun r s' h=> ?_
  cases r with
  |error e=>exact False.elim h
  |ok fl=>
   cases fl with
   |next=>exact False.elim h
   |brk=>exact False.elim h
   |cont=>exact False.elim h
   |ret u=>
    obtain⟨v,H',os,bare,un,zQ,r',q⟩:=h
    have q':v=.bl true:=q
    subst q'
    obtain rfl:u=Value.bool true:=r'
    have old:∀b o,aQ.heap.get? b=some o→asItWas aQ.heap s'.heap b o:=fun b o e=>by
     cases q:H b with
     |none=>exact .inl (un.keep b o e q (by intro z;exact absurd (show b∈([]:List Addr) from z) (by simp)) (by simp))
     |some u=>
      by_cases oF:b∈Pts
      ·obtain⟨more,z⟩:=un.fV b _ (hP b oF)
       have e2:s'.heap.get? b=some {cls:=.none,data:=.fields (#[]++more)} :=zQ b _ z
       rw[oJ oF]at e
       cases e
       obtain⟨c,hC⟩:=Ik b oF
       exact .inr (.inl ⟨(hC.tab (cj b oF)).isCodeTable,rfl, #[],more,rfl,e2⟩)
      ·rcases hO b oF with z |⟨ob,xs,z⟩
       ·rw[q]at z;cases z
       ·have z2:=un.gp b ob _ z
        obtain⟨e1,_⟩:=ak b _ z
        obtain⟨e2,_⟩:=zQ b _ z2
        rw[e]at e1;cases e1
        exact .inl e2
    exact⟨rfl,⟨old,fun b o e=>un.there b o e (by simp)⟩,os,bare⟩
 cases hk:K.lookup a with
 |some o=>
  have e:=KX a o hk
  rw[ha]at e
  cases e
  refine core (fun b=>if b∈Pts then some (.fW #[]) else none) (fun b n=> .inl (if_neg n)) (.inr ⟨_,vs.toArray,_,hk,rfl,rfl,rfl,by rw[List.size_toArray,F7];exact hl,by simpa using rv⟩) (fun Pt h=>if_pos h) (fun b u z=> ?_) (fun b z=> ?_) fun z=>absurd (if_neg Ar) z
  ·by_cases hb:b∈Pts
   ·have z':=(if_pos hb).symm.trans z
    cases z'
    exact oJ hb
   ·have z':=(if_neg hb).symm.trans z
    cases z'
  ·by_cases hb:b∈Pts
   ·exact .inr hb
   ·exact absurd (if_neg hb) z
 |none=>
  refine core (fun b=>if b∈Pts then some (.fW #[]) else if b=a then some (.cK {cls:=.type "list",data:=.seq vs.toArray} (.lst (ns.map V.int))) else none) (fun b n=> ?_) (.inl ⟨{cls:=.type "list",data:=.seq vs.toArray},(if_neg Ar).trans (if_pos rfl)⟩) (fun Pt h=>if_pos h) (fun b u z=> ?_) (fun b z=> ?_) fun _=>hk
  ·by_cases hb:b=a
   ·exact .inr ⟨_,_,(if_neg n).trans (if_pos hb)⟩
   ·exact .inl ((if_neg n).trans (if_neg hb))
  ·by_cases hP:b∈Pts
   ·have z':=(if_pos hP).symm.trans z
    cases z'
    exact oJ hP
   ·by_cases hb:b=a
    ·have z':=((if_neg hP).trans (if_pos hb)).symm.trans z
     cases z'
     subst hb
     exact⟨ha,by rw[List.length_map];exact hl,vs,_,rv,ha⟩
    ·have z':=((if_neg hP).trans (if_neg hb)).symm.trans z
     cases z'
  ·by_cases hP:b∈Pts
   ·exact .inr hP
   ·by_cases hb:b=a
    ·exact .inl hb
    ·exact absurd ((if_neg hP).trans (if_neg hb)) z
theorem De {l:PySem.W.OpenLaw}{n k:Nat}{q:Program}{loose:List Str}{XP:(Str→Option Value)→Heap→Prop}{YP:World→Heap→Prop}{d:DefRec}{K:Params→PySem.W.Frag}{sp:PySem.W.Frag→Sp}{x:Str}{Pts:List Addr}
    (hn:l.most=some n) (l6:n≤sizeLine) (vZ:d.params.defaults=[]) (hr:cG k callerA)
    (hY:∀(w:World) (h:Heap),YP w h→(K w.params).In h) (HX:∀(w:World) (h:Heap),YP w h→∀Pt∈Pts,h.get? Pt=some (PySem.W.tabObj #[]))
    (hC:∀(w:World) (h:Heap),(K w.params).In h→∀Pt∈Pts,∃c,PySem.W.CodeHd h c Pt) (Ih:∀w:World,∀Pt∈Pts,(K w.params).lookup Pt=none)
    (F:∀(w:World) (mg:Str→Option Value) (fa:Addr) (h:Heap),(K w.params).In h→h.Ns mainGlobals mg→mg d.name=some (.ref fa)→
      ∃fd:FuncData,(∀(s:Shared) (u:Value),BindsTo s fd ⟨[u],[]⟩ [(x,u)])∧
       ∀base:Heap,(K w.params).In base→base.Ns mainGlobals mg→mN mg base→aL l.prog w (K w.params) mg base aJ k fa fd [x] (sp (K w.params)))
    (jQ:∀(K:PySem.W.Frag) (H:Hp) (a:Addr) (ns:List Int),ns.length≤n→fQ K H a ns→(∀Pt∈Pts,H Pt=some (.fW #[]))→sp K [.ref a] H (fun v _=>v=.bl true) fun _ _ _=>False):
    PySem.W.WalkO q loose XP YP l.row.toRowW d [] (fun f vs=>PySem.call f vs):=by
  refine C9.KI hn vZ fun w bS aQ mg mb fa o pm cd doc a vs ns G Y ho hd fL hmg vK hints hlen hg=> ?_
  have KX:=hY w _ Y
  obtain⟨fd,hb,hF⟩:=F w mg fa _ KX G.T.g hmg
  exact OE KX G.T.g G.T.b G.T.builtins G.T.nolimit hg vK hints (Nat.le_trans hlen l6) hr (HX w _ Y) (hC w _ KX) (Ih w) G.T.bmain hF hb (fun H hS hP=>jQ (K w.params) H a ns hlen hS hP)
def aV (K:PySem.W.Frag) (x:Str) (st:Stmt):Prop:=∃f fd,PySem.W.nsIn K mainGlobals x=some (some (.ref f))∧aO K x x st f fd
theorem bf {K:PySem.W.Frag}{x:Str}{st:Stmt}{f:Addr}{oc:Value}{od an:Option Addr}{gK:Array (Option Value)}{kV doc pm ar ct:Value}(e1:PySem.W.nsIn K mainGlobals x=some (some (.ref f)))
  (e2:K.lookup f=some ⟨oc,od,.func (PySem.W.fnOf x x (iP st) (ie st) (aM st) .none kV doc pm an ar ct),gK⟩) (e3:PySem.W.codeIn K ar x=true) (e4:PySem.W.keepIn K (.ref f)=true):aV K x st:=⟨f,_,e1,LU e2 e3 e4⟩
section
variable {P:Program}{w:World}{K:PySem.W.Frag}{mg:Str→Option Value}{base:Heap}
abbrev pJ (x:Str) (st:Stmt) (ps:List Str):Prop:=∀(kV doc pm:Value) (an:Option Addr) (ar ct:Value) (us:List Value),us.length=ps.length→bindArgs (PySem.W.fnOf x x (iP st) (ie st) (aM st) .none kV doc pm an ar ct) ⟨us,[]⟩=pure (ps.zip us)
theorem aV.to {h:Heap}{x:Str}{st:Stmt}{ps:List Str}{k:Nat}{sp:Sp}(d:aV K x st) (KX:K.In h) (G:h.Ns mainGlobals mg) (hb:pJ x st ps) (ok:∀f fd,aO K x x st f fd→aL P w K mg base aJ k f fd ps sp):Def P w K mg base k x ps sp:=by
 obtain⟨f,fd,e,F⟩:=d
 exact⟨f,fd,ok f fd F,PySem.W.mg_of KX G e,F.kp,F.binds hb⟩
def qH (K:PySem.W.Frag) (x:Str):Bool:=match PySem.W.nsIn K mainGlobals x with |some none=>true |_=>false
theorem Ob {h:Heap}{x:Str}(KX:K.In h) (G:h.Ns mainGlobals mg) (e:qH K x=true):mg x=none:=by
 unfold qH at e
 split at e
 ·rename_i q
  exact PySem.W.mg_none_of KX G q
 ·cases e
abbrev C8 (x a:Str) (st:Stmt):Prop:=∀(kV doc pm:Value) (an:Option Addr) (ar ct u:Value),bindArgs (PySem.W.fnOf x x (iP st) (ie st) (aM st) .none kV doc pm an ar ct) ⟨[u],[]⟩=pure [(a,u)]
theorem b1 {x a:Str}{st:Stmt}(h:C8 x a st):pJ x st [a]:=fun kV doc pm an ar ct us hl=>match us,hl with | [u],_=>h kV doc pm an ar ct u
theorem b2 {x a b:Str}{st:Stmt}(h:∀(kV doc pm:Value) (an:Option Addr) (ar ct u v:Value),bindArgs (PySem.W.fnOf x x (iP st) (ie st) (aM st) .none kV doc pm an ar ct) ⟨[u,v],[]⟩=pure [(a,u),(b,v)]):pJ x st [a,b]:=fun kV doc pm an ar ct us hl=>match us,hl with | [u,v],_=>h kV doc pm an ar ct u v
theorem b3 {x a b c:Str}{st:Stmt}(h:∀(kV doc pm:Value) (an:Option Addr) (ar ct u v w:Value),bindArgs (PySem.W.fnOf x x (iP st) (ie st) (aM st) .none kV doc pm an ar ct) ⟨[u,v,w],[]⟩=pure [(a,u),(b,v),(c,w)]):pJ x st [a,b,c]:=fun kV doc pm an ar ct us hl=>match us,hl with | [u,v,w],_=>h kV doc pm an ar ct u v w
theorem b4 {x a b c d:Str}{st:Stmt}(h:∀(kV doc pm:Value) (an:Option Addr) (ar ct u v w z:Value),bindArgs (PySem.W.fnOf x x (iP st) (ie st) (aM st) .none kV doc pm an ar ct) ⟨[u,v,w,z],[]⟩=pure [(a,u),(b,v),(c,w),(d,z)]):pJ x st [a,b,c,d]:=fun kV doc pm an ar ct us hl=>match us,hl with | [u,v,w,z],_=>h kV doc pm an ar ct u v w z
theorem K8 {h:Heap}{fa:Addr}{st:Stmt}{k:Nat}{sp:Sp}(d:aV K "law" st) (KX:K.In h) (G:h.Ns mainGlobals mg) (hmg:mg "law" =some (.ref fa)) (hb:C8 "law" "_law_script" st)
  (ok:∀(base:Heap) f fd,aO K "law" "law" st f fd→aL P w K mg base aJ k f fd ["_law_script"] sp):
  ∃fd:FuncData,(∀(s:Shared) (u:Value),BindsTo s fd ⟨[u],[]⟩ [("_law_script",u)])∧∀base:Heap,K.In base→base.Ns mainGlobals mg→mN mg base→aL P w K mg base aJ k fa fd ["_law_script"] sp:=by
 obtain⟨f,fd,e,F⟩:=d
 have e0:=hmg.symm.trans (PySem.W.mg_of KX G e)
 cases e0
 obtain⟨oc,od,kV,doc,pm,an,ar,ct,gK,rfl,lk,fL⟩:=id F.ex
 exact⟨_,fun s u=> .of_eq (hb _ _ _ _ _ _ u),fun base _ _ _=>ok base _ _ F⟩
end
end U
namespace HS
open PySem PySem.SetTable
abbrev gz (l:List Nat):Prop:=l.Pairwise (· < ·)
theorem wZ {xs:Array Nat}(hr:gz xs.toList) {i k:Nat}(hi:i<xs.size) (hk:k<xs.size) (h:i<k):xs[i]<xs[k]:=by
 have:=List.pairwise_iff_getElem.mp hr i k (by simpa using hi) (by simpa using hk) h
 simpa using this
theorem Bo {xs:Array Nat}(hr:gz xs.toList) {i k:Nat}(hi:i<xs.size) (hk:k<xs.size) (h:i≤k):xs[i]≤xs[k]:=by
 rcases Nat.lt_or_eq_of_le h with h |h
 ·exact Nat.le_of_lt (wZ hr hi hk h)
 ·subst h;exact Nat.le_refl _
theorem Uh {xs:Array Nat}{j:Nat}(hr:gz xs.toList):∀(fuel lo hi:Nat),hi≤xs.size→lo≤hi→hi - lo≤fuel→(∀i (h:i<xs.size),i<lo→xs[i]<j)→(∀i (h:i<xs.size),hi≤i→j≤xs[i])→
  below.go xs j fuel lo hi≤xs.size∧(∀i (h:i<xs.size),i<below.go xs j fuel lo hi→xs[i]<j)∧(∀i (h:i<xs.size),below.go xs j fuel lo hi≤i→j≤xs[i])
 |0,lo,hi,h1,h2,h3,h4,h5=>by
  have e:lo=hi:=by omega
  subst e
  exact⟨h1,h4,h5⟩
 |fuel+1,lo,hi,h1,h2,h3,h4,h5=>by
  unfold below.go
  by_cases ay:lo<hi
  ·rw[if_pos ay]
   dsimp only
   have hm:(lo+hi)/2<xs.size:=by omega
   have e:xs.getD ((lo+hi)/2) j=xs[(lo+hi)/2]:=by
    unfold Array.getD
    rw[dif_pos hm]
    rfl
   rw[e]
   by_cases hc:xs[(lo+hi)/2]<j
   ·rw[if_pos hc]
    refine Uh hr fuel _ hi h1 (by omega) (by omega) (fun i h aW=> ?_) h5
    exact Nat.lt_of_le_of_lt (Bo hr h hm (by omega)) hc
   ·rw[if_neg hc]
    refine Uh hr fuel lo _ (by omega) (by omega) (by omega) h4 (fun i h aW=> ?_)
    exact Nat.le_trans (Nat.le_of_not_lt hc) (Bo hr hm h aW)
  ·rw[if_neg ay]
   have e:lo=hi:=by omega
   subst e
   exact⟨h1,h4,h5⟩
theorem YJ {xs:Array Nat}{j:Nat}(hr:gz xs.toList):below xs j≤xs.size∧(∀i (h:i<xs.size),i<below xs j→xs[i]<j)∧(∀i (h:i<xs.size),below xs j≤i→j≤xs[i]):=
 Uh hr _ _ _ (Nat.le_refl _) (Nat.zero_le _) (by omega) (fun i h z=>absurd z (Nat.not_lt_zero _)) (fun i h z=>by omega)
theorem Ui {xs:Array Nat}{i j:Nat}(hr:gz xs.toList) (h:xs[i]? =some j):below xs j=i:=by
 obtain⟨hi,e⟩:=Array.getElem?_eq_some_iff.mp h
 obtain⟨h1,h2,h3⟩:=YJ (j:=j) hr
 rcases Nat.lt_trichotomy (below xs j) i with q |q |q
 ·have a:=h3 (below xs j) (by omega) (Nat.le_refl _)
  have b:=wZ hr (by omega) hi q
  omega
 ·exact q
 ·have:=h2 i hi q
  omega
theorem NT {t:SetTable}{i j:Nat}(hr:gz t.place.toList) (h:t.place[i]? =some j):t.slot j=.live i:=by
 unfold slot
 rw[Ui hr h]
 dsimp only
 rw[h,if_pos (by simp)]
theorem OO {t:SetTable}{j:Nat}(hd:t.dummies= #[]) (h:j∉t.place.toList):t.slot j=.empty:=by
 unfold slot
 dsimp only
 have h1:¬(t.place[below t.place j]? ==some j)=true:=by
  intro z
  have z':=eq_of_beq z
  obtain⟨hi,e⟩:=Array.getElem?_eq_some_iff.mp z'
  exact h (by rw[←e];simp)
 have h2:¬has t.dummies j=true:=by
  rw[hd]
  unfold has
  simp
 rw[if_neg h1,if_neg h2]
theorem Lp {xs:Array Nat}{j:Nat}(h:j∈xs.toList):∃i:Nat,xs[i]? =some j:=by
 obtain⟨i,hi,e⟩:=List.getElem_of_mem h
 exact⟨i,by rw[←Array.getElem?_toList,List.getElem?_eq_getElem hi,e]⟩
theorem UH {t:SetTable}{j:Nat} :(t.put j).1.place.toList=t.place.toList.take (below t.place j)++j::t.place.toList.drop (below t.place j):=by
 unfold put
 exact toList_insertAt _ _ _
theorem Mg {t:SetTable}{j:Nat}(hr:gz t.place.toList) (h:j∉t.place.toList):gz (t.put j).1.place.toList:=by
 rw[UH]
 obtain⟨h1,h2,h3⟩:=YJ (j:=j) hr
 generalize below t.place j=p at *
 have a:∀x∈t.place.toList.take p,x<j:=fun x hx=>by
  obtain⟨i,hi,e⟩:=List.getElem_of_mem hx
  rw[List.length_take]at hi
  rw[List.getElem_take]at e
  rw[←e]
  have:=h2 i (by simp at hi;omega) (by omega)
  simpa using this
 have b:∀x∈t.place.toList.drop p,j<x:=fun x hx=>by
  obtain⟨i,hi,e⟩:=List.getElem_of_mem hx
  rw[List.length_drop]at hi
  rw[List.getElem_drop]at e
  have:=h3 (p+i) (by simp at hi;omega) (by omega)
  have e':t.place[p+i]'(by simp at hi;omega)=x:=by simpa using e
  rw[e']at this
  rcases Nat.lt_or_eq_of_le this with q |q
  ·exact q
  ·exact absurd (List.mem_of_mem_drop hx) (by rw[←q];exact h)
 refine List.pairwise_append.mpr ?_
 refine⟨hr.sublist (List.take_sublist ..),List.pairwise_cons.mpr ⟨b,hr.sublist (List.drop_sublist ..)⟩,fun x hx y hy=> ?_⟩
 rcases List.mem_cons.mp hy with rfl |hy
 ·exact a x hx
 ·exact Nat.lt_trans (a x hx) (b y hy)
abbrev tb (m:Nat):SetTable:= {mask:=m,place:= #[],dummies:= #[],finger:=0,led:=false,moves:=0,plain:=false}
def dc (m:Nat) (p:Probe):Probe:=(tb m).advance p
theorem LR (t:SetTable) (p:Probe):t.advance p=dc t.mask p:=rfl
def it (m:Nat) (p:Probe):Nat→Probe
 |0=>p
 |k+1=>dc m (it m p k)
theorem YN (m:Nat) (p:Probe):∀k,it m p (k+1)=it m (dc m p) k
 |0=>rfl
 |k+1=>by
  show dc m (it m p (k+1))=dc m (it m (dc m p) k)
  rw[YN m p k]
theorem rO (m:Nat) (p:Probe) (a:Nat):∀b,it m p (a+b)=it m (it m p a) b
 |0=>rfl
 |b+1=>by
  show dc m (it m p (a+b))=dc m (it m (it m p a) b)
  rw[rO m p a b]
theorem MM (m:Nat) (p:Probe):(dc m p).dummy=p.dummy:=by
 unfold dc advance
 split<;>rfl
theorem Bz {t:SetTable}{hashAt:Nat→Int}{h:Int}(hr:gz t.place.toList) (hd:t.dummies= #[]):∀(n fuel:Nat) (p:Probe),p.dummy=none→n<fuel→(∀k<n,(it t.mask p k).j∈t.place.toList)→(it t.mask p n).j∉t.place.toList→
  (probe.go t hashAt h fuel p=some (.empty (it t.mask p n).j none)∧∀k<n,∀i:Nat,t.place[i]? =some (it t.mask p k).j→hashAt i≠h)∨
  ∃k i:Nat,k<n∧t.place[i]? =some (it t.mask p k).j∧hashAt i=h∧probe.go t hashAt h fuel p=some (.candidate (it t.mask p k).j i (it t.mask p (k+1)))∧∀k'<k,∀i:Nat,t.place[i]? =some (it t.mask p k').j→hashAt i≠h
 |0,0,p,_,h1,_,_=>absurd h1 (Nat.lt_irrefl _)
 |n+1,0,p,_,h1,_,_=>absurd h1 (Nat.not_lt_zero _)
 |0,fuel+1,p,hp,h1,h2,h3=>by
  refine .inl ⟨?_,fun k hk=>absurd hk (Nat.not_lt_zero _)⟩
  unfold probe.go
  have e:t.slot p.j=.empty:=OO hd h3
  rw[e]
  dsimp only
  rw[hp]
  rfl
 |n+1,fuel+1,p,hp,h1,h2,h3=>by
  obtain⟨i,hi⟩:=Lp (h2 0 (Nat.succ_pos _))
  have e:t.slot p.j=.live i:=NT hr hi
  unfold probe.go
  rw[e]
  dsimp only
  rw[LR]
  by_cases hh:hashAt i=h
  ·rw[if_pos (by simp[hh])]
   exact .inr ⟨0,i,Nat.succ_pos _,hi,hh,rfl,fun k' aS=>absurd aS (Nat.not_lt_zero _)⟩
  ·rw[if_neg (by simp[hh])]
   have uniq:∀i':Nat,t.place[i']? =some (it t.mask p 0).j→hashAt i'≠h:=fun i' aW=>by
    have q1:=Ui hr aW
    have q2:=Ui hr hi
    have:i'=i:=q1.symm.trans q2
    subst this
    exact hh
   rcases Bz (hashAt:=hashAt) (h:=h) hr hd n fuel (dc t.mask p) (by rw[MM];exact hp) (by omega) (fun k hk=>by rw[←YN];exact h2 (k+1) (by omega)) (by rw[←YN];exact h3) with ⟨g1,g2⟩ |⟨k,i2,g1,g2,g3,g4,g5⟩
   ·rw[←YN]at g1
    refine .inl ⟨g1,fun k hk=> ?_⟩
    cases k with
    |zero=>exact uniq
    |succ k=>rw[YN];exact g2 k (by omega)
   ·rw[←YN]at g2 g4
    rw[←YN]at g4
    refine .inr ⟨k+1,i2,by omega,g2,g3,g4,fun k' aS=> ?_⟩
    cases k' with
    |zero=>exact uniq
    |succ k'=>rw[YN];exact g5 k' (by omega)
abbrev fr (m i pt:Nat):Probe:= {j:=i,more:=runEnd m i - i,i,perturb:=pt,dummy:=none}
abbrev st (m:Nat) (h:Int):Probe:=fr m (bits h%(m+1)) (bits h)
def lp (m:Nat) (x:Nat×Nat):Nat×Nat:=leap m x.1 x.2
def bF (m:Nat) (x:Nat×Nat):Nat→Nat×Nat
 |0=>x
 |k+1=>lp m (bF m x k)
theorem WU (m:Nat) (x:Nat×Nat):∀k,bF m x (k+1)=bF m (lp m x) k
 |0=>rfl
 |k+1=>by
  show lp m (bF m x (k+1))=lp m (bF m (lp m x) k)
  rw[WU m x k]
theorem BH (m:Nat) (x:Nat×Nat) (a:Nat):∀b,bF m x (a+b)=bF m (bF m x a) b
 |0=>rfl
 |b+1=>by
  show lp m (bF m x (a+b))=lp m (bF m (bF m x a) b)
  rw[BH m x a b]
theorem LG (m i:Nat):runEnd m i - i≤9:=by
 unfold runEnd
 split<;>omega
theorem W0 (m i pt:Nat):∀k,k≤runEnd m i - i→it m (fr m i pt) k= {j:=i+k,more:=runEnd m i - i - k,i:=i,perturb:=pt,dummy:=none}
 |0,_=>rfl
 |k+1,h=>by
  show dc m (it m (fr m i pt) k)=_
  rw[W0 m i pt k (by omega)]
  unfold dc advance
  dsimp only
  rw[if_pos (by omega)]
  have e:runEnd m i - i - k - 1=runEnd m i - i - (k+1):=by omega
  rw[e,Nat.add_assoc]
theorem xc (m i pt:Nat):it m (fr m i pt) (runEnd m i - i+1)=fr m (lp m (i,pt)).1 (lp m (i,pt)).2:=by
 show dc m (it m (fr m i pt) (runEnd m i - i))=_
 rw[W0 m i pt _ (Nat.le_refl _)]
 unfold dc advance
 dsimp only
 rw[if_neg (by omega)]
 rfl
theorem CO (m:Nat):∀(k:Nat) (x:Nat×Nat),∃d,d≤10*k∧it m (fr m x.1 x.2) d=fr m (bF m x k).1 (bF m x k).2
 |0,x=> ⟨0,by omega,rfl⟩
 |k+1,x=>by
  obtain⟨d,h1,h2⟩:=CO m k (lp m x)
  refine⟨runEnd m x.1 - x.1+1+d,by have:=LG m x.1;omega,?_⟩
  rw[rO,xc m x.1 x.2]
  rw[WU]
  exact h2
theorem Bc (m:Nat) (x:Nat×Nat):∀k,(bF m x k).2=x.2/32^k
 |0=>by simp[bF]
 |k+1=>by
  show(bF m x k).2/32=_
  rw[Bc m x k,Nat.div_div_eq_div_mul,Nat.pow_succ]
theorem Ln (m:Nat) (x:Nat×Nat) (h:x.1<m+1):∀k,(bF m x k).1<m+1
 |0=>h
 |k+1=>Nat.mod_lt _ (Nat.succ_pos _)
def nx (m i:Nat):Nat:=(i*5+1)%(m+1)
def cS (m:Nat):Nat→Nat
 |0=>0
 |k+1=>nx m (cS m k)
def qE (m:Nat):Nat→Nat→List Nat
 |0,_=> []
 |k+1,i=>i::qE m k (nx m i)
theorem Be (m:Nat):∀(k n:Nat) (f:Nat),f∈qE m k (cS m n)→∃u,n≤u∧u<n+k∧cS m u=f
 |0,n,f,h=>by cases h
 |k+1,n,f,h=>by
  rcases List.mem_cons.mp h with rfl |h
  ·exact⟨n,Nat.le_refl _,by omega,rfl⟩
  ·obtain⟨u,h1,h2,h3⟩:=Be m k (n+1) f h
   exact⟨u,by omega,by omega,h3⟩
def gB (m:Nat):Prop:=m=7∨m=31∨m=127∨m=511
def oU (m:Nat):Bool:=(List.range (m+1)).all fun f=> (qE m (m+1) 0).contains f
theorem Ku:oU 7=true∧cS 7 8=0:=by decide+kernel
theorem Kw:oU 31=true∧cS 31 32=0:=by decide+kernel
theorem Kx:oU 127=true∧cS 127 128=0:=by decide+kernel
theorem Kv:oU 511=true∧cS 511 512=0:=by decide+kernel
theorem BX {m:Nat}(hm:gB m):oU m=true∧cS m (m+1)=0:=by
 rcases hm with rfl |rfl |rfl |rfl
 ·exact Ku
 ·exact Kw
 ·exact Kx
 ·exact Kv
theorem Bh {m f:Nat}(hm:gB m) (hf:f<m+1):∃u,u<m+1∧cS m u=f:=by
 have:=List.all_eq_true.mp (BX hm).1 f (List.mem_range.mpr hf)
 obtain⟨u,_,h2,h3⟩:=Be m (m+1) 0 f (show f∈qE m (m+1) 0 by simpa using this)
 exact⟨u,by omega,h3⟩
theorem vf (m:Nat):∀(k s:Nat),bF m (cS m s,0) k=(cS m (s+k),0)
 |0,s=>rfl
 |k+1,s=>by
  show lp m (bF m (cS m s,0) k)=_
  rw[vf m k s]
  unfold lp leap
  simp[cS,nx]
theorem CS {m a:Nat}(hm:gB m):∀k,cS m (m+1+k)=cS m k
 |0=> (BX hm).2
 |k+1=>by
  show nx m (cS m (m+1+k))=nx m (cS m k)
  rw[CS (a:=a) hm k]
theorem full {m a f:Nat}(hm:gB m) (ha:a<m+1) (hf:f<m+1):∃k,k<m+1∧(bF m (a,0) k).1=f:=by
 obtain⟨s,hs,rfl⟩:=Bh hm ha
 obtain⟨u,hu,rfl⟩:=Bh hm hf
 by_cases h:s≤u
 ·exact⟨u - s,by omega,by rw[vf];show cS m (s+(u - s))=_;congr 1;omega⟩
 ·refine⟨m+1+u - s,by omega,?_⟩
  rw[vf]
  show cS m (s+(m+1+u - s))=_
  rw[show s+(m+1+u - s)=m+1+u by omega,CS (a:=0) hm]
theorem BU (h:Int):bits h<2^64:=by
 unfold bits
 have h1:0≤h%(2^64:Int):=Int.emod_nonneg _ (by decide)
 have h2:h%(2^64:Int)<2^64:=Int.emod_lt_of_pos _ (by decide)
 omega
theorem U4 {m i pt f:Nat}(hm:gB m) (hi:i<m+1) (hp:pt<2^64) (hf:f<m+1):∃k,k<m+14∧(bF m (i,pt) k).1=f:=by
 have e:(bF m (i,pt) 13).2=0:=by
  rw[Bc]
  exact Nat.div_eq_of_lt (Nat.lt_of_lt_of_le hp (by decide))
 have l:=Ln m (i,pt) hi 13
 obtain⟨k,h1,h2⟩:=full hm l hf
 refine⟨13+k,by omega,?_⟩
 rw[BH]
 have e2:bF m (i,pt) 13=((bF m (i,pt) 13).1,0):=by rw[←e]
 rw[e2]
 exact h2
theorem cover {m f:Nat}(hm:gB m) (h:Int) (hf:f<m+1):∃n,n<10*turns m∧(it m (st m h) n).j=f:=by
 obtain⟨k,h1,h2⟩:=U4 hm (Nat.mod_lt _ (Nat.succ_pos _)) (BU h) hf (i:=bits h%(m+1))
 obtain⟨d,h3,h4⟩:=CO m k (bits h%(m+1),bits h)
 refine⟨d,by unfold turns;omega,?_⟩
 show(it m (fr m (bits h%(m+1)) (bits h)) d).j=f
 rw[h4]
 exact h2
def kY (m:Nat) (cR:Nat→Prop) (p:Probe) (j:Nat):Prop:=∃n,(it m p n).j=j∧∀k<n,cR (it m p k).j
theorem kY.mono {m:Nat}{cR y9:Nat→Prop}{p:Probe}{j:Nat}(h:kY m cR p j) (w:∀x,cR x→y9 x):kY m y9 p j:=
 let ⟨n,a,b⟩:=h;⟨n,a,fun k hk=>w _ (b k hk)⟩
theorem Oz {m f:Nat}{cR:Nat→Prop}(hm:gB m) (h:Int) (hf:f<m+1) (ho:¬cR f):∃n,n<10*turns m∧(∀k<n,cR (it m (st m h) k).j)∧¬cR (it m (st m h) n).j:=by
 obtain⟨n,h1,h2⟩:=cover hm h hf
 have key:∀n,n<10*turns m→¬cR (it m (st m h) n).j→∃n,n<10*turns m∧(∀k<n,cR (it m (st m h) k).j)∧¬cR (it m (st m h) n).j:=by
  intro n
  induction n using Nat.strongRecOn with
  |_ n ih=>
   intro g1 g2
   by_cases z:∀k<n,cR (it m (st m h) k).j
   ·exact⟨n,g1,z,g2⟩
   ·have:∃k,k<n∧¬cR (it m (st m h) k).j:=Classical.byContradiction fun c=>z fun k hk=>Classical.byContradiction fun o=>c ⟨k,hk,o⟩
    obtain⟨k,hk,o⟩:=this
    exact ih k hk (by omega) o
 exact key n h1 (by rw[h2];exact ho)
theorem UV {m:Nat}{owner:Array (Option Nat)} :∀(fuel k:Nat) (i pt:Nat),k<fuel→((owner.getD (bF m (i,pt) k).1 (some 0)).isNone=true)→
  ∃j,layClean.free m owner fuel i pt=some j∧(owner.getD j (some 0)).isNone=true∧kY m (fun x=> (owner.getD x (some 0)).isNone=false) (fr m i pt) j
 |0,k,i,pt,h,_=>absurd h (Nat.not_lt_zero _)
 |fuel+1,k,i,pt,h,ho=>by
  unfold layClean.free
  cases hq:(List.range (runEnd m i+1 - i)).find? fun k=> (owner.getD (i+k) (some 0)).isNone with
  |some d=>
   dsimp only
   have h1:=List.find?_some hq
   have fj:=List.mem_of_find?_eq_some hq
   rw[List.mem_range]at fj
   refine⟨i+d,rfl,h1,d,?_,fun k hk=> ?_⟩
   ·rw[W0 m i pt d (by unfold runEnd at *;split at fj<;>split<;>omega)]
   ·rw[W0 m i pt k (by unfold runEnd at *;split at fj<;>split<;>omega)]
    obtain⟨as,bs,e,bP⟩:=(List.find?_eq_some_iff_append.mp hq).2
    have fk:k∈as:=by
     have hp:(List.range (runEnd m i+1 - i)).Pairwise (· < ·):=List.pairwise_lt_range
     have Aa:k∈List.range (runEnd m i+1 - i):=List.mem_range.mpr (by omega)
     rw[e]at hp Aa
     rcases List.mem_append.mp Aa with q |q
     ·exact q
     ·rcases List.mem_cons.mp q with q |q
      ·omega
      ·have:=(List.pairwise_cons.mp (List.pairwise_append.mp hp).2.1).1 k q
       omega
    have:=bP k fk
    simpa using this
  |none=>
   dsimp only
   have bP:=List.find?_eq_none.mp hq
   have zR:∀d,d≤runEnd m i - i→(owner.getD (i+d) (some 0)).isNone=false:=fun d hd=>by
    have:=bP d (List.mem_range.mpr (by unfold runEnd at *;split at hd<;>split<;>omega))
    exact Bool.eq_false_iff.mpr this
   cases k with
   |zero=>
    have:=zR 0 (Nat.zero_le _)
    rw[show(bF m (i,pt) 0).1=i+0 from rfl,this]at ho
    cases ho
   |succ k=>
    rw[WU]at ho
    obtain⟨j,g1,g2,n,g3,g4⟩:=UV (m:=m) (owner:=owner) fuel k (lp m (i,pt)).1 (lp m (i,pt)).2 (by omega) ho
    refine⟨j,g1,g2,runEnd m i - i+1+n,?_,fun d hd=> ?_⟩
    ·rw[rO,xc]
     exact g3
    ·by_cases hd2:d≤runEnd m i - i
     ·rw[W0 m i pt d hd2]
      exact zR d hd2
     ·obtain⟨c,rfl⟩:∃c,d=runEnd m i - i+1+c:=⟨d - (runEnd m i - i+1),by omega⟩
      rw[rO,xc]
      exact g4 c (by omega)
theorem L3 {m:Nat}{p:Probe}(h:p.j+p.more≤m):(dc m p).j+(dc m p).more≤m:=by
 unfold dc advance
 split
 ·dsimp only;omega
 ·dsimp only[leap,runEnd]
  have:=Nat.mod_lt (p.i*5+1+p.perturb/32) (show 0<m+1 by omega)
  split<;>omega
theorem BA {m:Nat}{p:Probe}(h:p.j+p.more≤m):∀k,(it m p k).j+(it m p k).more≤m
 |0=>h
 |k+1=>L3 (BA h k)
theorem A4 {m:Nat}(h:Int) (k:Nat):(it m (st m h) k).j<m+1:=by
 have:=BA (m:=m) (p:=st m h) (by
  have:=Nat.mod_lt (bits h) (show 0<m+1 by omega)
  dsimp only[fr,runEnd]
  split<;>omega) k
 omega
structure T0 (t:SetTable) (es:Array (Int×Value)):Prop where
 sz:t.place.size=es.size
 kh:gz t.place.toList
 oT:t.dummies= #[]
 le:∀j∈t.place.toList,j<t.mask+1
 ld:∀z∈t.place.toList.zip es.toList,kY t.mask (·∈t.place.toList) (st t.mask z.2.1) z.1
def gw (m n:Nat):Prop:=(m=7∧n≤4)∨(m=31∧n≤18)∨(m=127∧n≤76)∨(m=511∧n≤306)
theorem gw.zi {m n:Nat}(h:gw m n):gB m:=by
 rcases h with ⟨h,_⟩ |⟨h,_⟩ |⟨h,_⟩ |⟨h,_⟩
 ·exact .inl h
 ·exact .inr (.inl h)
 ·exact .inr (.inr (.inl h))
 ·exact .inr (.inr (.inr h))
theorem gw.lt {m n:Nat}(h:gw m n):n+1<m:=by
 rcases h with ⟨h,_⟩ |⟨h,_⟩ |⟨h,_⟩ |⟨h,_⟩<;>omega
theorem gw.small {m n:Nat}(h:gw m n):n≤306:=by
 rcases h with ⟨h,_⟩ |⟨h,_⟩ |⟨h,_⟩ |⟨h,_⟩<;>omega
theorem UG {l:List Nat}(h:gz l):l.Nodup:=List.Pairwise.imp (fun h=>Nat.ne_of_lt h) h
theorem T0.free {t:SetTable}{es:Array (Int×Value)}(T:T0 t es) (h:es.size<t.mask+1):∃f,f<t.mask+1∧f∉t.place.toList:=by
 refine Classical.byContradiction fun c=> ?_
 have all:∀f,f<t.mask+1→f∈t.place.toList:=fun f hf=>Classical.byContradiction fun n=>c ⟨f,hf,n⟩
 have p:(t.place.toList).Perm (List.range (t.mask+1)):=(List.perm_ext_iff_of_nodup (UG T.kh) List.nodup_range).mpr fun f=> ⟨fun hf=>List.mem_range.mpr (T.le f hf),fun hf=>all f (List.mem_range.mp hf)⟩
 have:=p.length_eq
 rw[List.length_range,Array.length_toList,T.sz]at this
 omega
theorem T0.fits {t:SetTable}{es:Array (Int×Value)}(T:T0 t es) (h:es.size≤t.mask):t.fits es.size=true:=by
 unfold SetTable.fits SetTable.fill
 rw[T.oT,T.sz]
 simp[h]
theorem Mt {α β:Type}{a:List α}{b:List β}(p:Nat) (x:α) (y:β) (h:a.length=b.length):(a.take p++x::a.drop p).zip (b.take p++y::b.drop p)=(a.zip b).take p++(x,y)::(a.zip b).drop p:=by
 rw[List.zip_append (by rw[List.length_take,List.length_take,h]),List.zip_cons_cons]
 simp only[List.zip,List.take_zipWith,List.drop_zipWith]
theorem T0.put {t:SetTable}{es:Array (Int×Value)}(T:T0 t es) {h:Int}{x:Value}{n:Nat}(h1:∀k<n,(it t.mask (st t.mask h) k).j∈t.place.toList) (h2:(it t.mask (st t.mask h) n).j∉t.place.toList) (pl:Bool):
  T0 {(t.put (it t.mask (st t.mask h) n).j).1 with plain:=pl} (insertAt es (t.put (it t.mask (st t.mask h) n).j).2 (h,x)):=by
 have lt:=A4 (m:=t.mask) h n
 generalize hf:(it t.mask (st t.mask h) n).j=f at *
 have cU:=UH (t:=t) (j:=f)
 have e2:(t.put f).2=below t.place f:=rfl
 have em:(t.put f).1.mask=t.mask:=rfl
 have cR:∀y,y∈t.place.toList→y∈(t.put f).1.place.toList:=fun y hy=>by
  rw[cU]
  rw[←List.take_append_drop (below t.place f) t.place.toList]at hy
  rcases List.mem_append.mp hy with q |q
  ·exact List.mem_append_left _ q
  ·exact List.mem_append_right _ (List.mem_cons_of_mem _ q)
 have lz:t.place.toList.length=es.toList.length:=by rw[Array.length_toList,Array.length_toList,T.sz]
 refine⟨?_,Mg T.kh h2,?_,fun j hj=> ?_,fun z hz=> ?_⟩
 ·have a:(t.put f).1.place.size=t.place.size+1:=by
   rw[←Array.length_toList,cU,List.length_append,List.length_cons,List.length_take,List.length_drop,Array.length_toList]
   have:=(YJ (j:=f) T.kh).1
   omega
  have b:(insertAt es (t.put f).2 (h,x)).size=es.size+1:=by
   rw[←Array.length_toList,(insertAt_perm es _ (h,x)).length_eq,Array.length_toList,Array.size_push]
  show(t.put f).1.place.size=_
  rw[a,b,T.sz]
 ·show(if has t.dummies f then _ else t.dummies)= #[]
  rw[T.oT]
  simp[has]
 ·show j<t.mask+1
  have oz:j∈(t.put f).1.place.toList:=hj
  rw[cU]at oz
  rcases List.mem_append.mp oz with q |q
  ·exact T.le j (List.mem_of_mem_take q)
  ·rcases List.mem_cons.mp q with q |q
   ·rw[q];exact lt
   ·exact T.le j (List.mem_of_mem_drop q)
 ·have fg:z∈(t.put f).1.place.toList.zip (insertAt es (t.put f).2 (h,x)).toList:=hz
  rw[cU,toList_insertAt,e2,Mt _ _ _ lz]at fg
  have old:∀z∈t.place.toList.zip es.toList,kY t.mask (·∈(t.put f).1.place.toList) (st t.mask z.2.1) z.1:=fun z hz=> (T.ld z hz).mono cR
  rcases List.mem_append.mp fg with q |q
  ·exact old z (List.mem_of_mem_take q)
  ·rcases List.mem_cons.mp q with q |q
   ·rw[q]
    exact⟨n,hf,fun k hk=>cR _ (h1 k hk)⟩
   ·exact old z (List.mem_of_mem_drop q)
structure ik (m:Nat) (hs:List Int) (owner:Array (Option Nat)):Prop where
 sz:owner.size=m+1
 lt:∀(j k:Nat),owner[j]? =some (some k)→k<hs.length
 at_:∀(k:Nat) (h:Int),hs[k]? =some h→∃j:Nat,owner[j]? =some (some k)∧kY m (fun x=> ∃k,owner[x]? =some (some k)) (st m h) j
 inj:∀(j j' k:Nat),owner[j]? =some (some k)→owner[j']? =some (some k)→j=j'
def live (m:Nat) (owner:Array (Option Nat)):List (Nat×Nat):=(List.range (m+1)).filterMap fun j=> (owner.getD j none).map (j, ·)
theorem getD_none {owner:Array (Option Nat)}{j k:Nat} :owner.getD j none=some k↔owner[j]? =some (some k):=by
 rw[Array.getD_eq_getD_getElem?]
 cases owner[j]? with
 |none=>simp
 |some o=>cases o<;>simp
theorem Z8 {m:Nat}{owner:Array (Option Nat)}(hs:owner.size=m+1) {x:Nat×Nat} :x∈live m owner↔owner[x.1]? =some (some x.2):=by
 unfold live
 rw[List.mem_filterMap]
 constructor
 ·rintro⟨j,hj,e⟩
  obtain⟨k,hk,rfl⟩:=Option.map_eq_some_iff.mp e
  exact getD_none.mp hk
 ·intro h
  obtain⟨hl,_⟩:=Array.getElem?_eq_some_iff.mp h
  exact⟨x.1,List.mem_range.mpr (by omega),by rw[getD_none.mpr h];rfl⟩
theorem WV (m:Nat) (owner:Array (Option Nat)):gz ((live m owner).map (·.1)):=by
 refine List.pairwise_map.mpr ?_
 unfold live
 refine List.pairwise_filterMap.mpr (List.Pairwise.imp ?_ (List.pairwise_lt_range (n:=m+1)))
 intro a b iN x hx y hy
 obtain⟨_,_,rfl⟩:=Option.map_eq_some_iff.mp hx
 obtain⟨_,_,rfl⟩:=Option.map_eq_some_iff.mp hy
 exact iN
theorem Wa {m:Nat}{hs:List Int}{owner:Array (Option Nat)}(L:ik m hs owner):((live m owner).map (·.2)).Perm (List.range hs.length):=by
 refine(List.perm_ext_iff_of_nodup ?_ List.nodup_range).mpr fun k=> ?_
 ·refine List.nodup_iff_pairwise_ne.mpr (List.pairwise_map.mpr ?_)
  refine List.Pairwise.imp_of_mem ?_ (List.pairwise_map.mp (WV m owner))
  intro a b ha hb iN e
  have h1:=(Z8 L.sz).mp ha
  have h2:=(Z8 L.sz).mp hb
  rw[e]at h1
  have:=L.inj _ _ _ h1 h2
  omega
 ·rw[List.mem_range]
  constructor
  ·intro h
   obtain⟨x,hx,rfl⟩:=List.mem_map.mp h
   exact L.lt _ _ ((Z8 L.sz).mp hx)
  ·intro h
   obtain⟨j,hj,_⟩:=L.at_ k _ (List.getElem?_eq_getElem h)
   exact List.mem_map.mpr ⟨(j,k),(Z8 L.sz).mpr hj,rfl⟩
theorem CQ {m:Nat}{hs:List Int}{owner:Array (Option Nat)}(L:ik m hs owner):(live m owner).length=hs.length:=by
 have:=(Wa L).length_eq
 rw[List.length_map,List.length_range]at this
 exact this
theorem ik.free {m:Nat}{hs:List Int}{owner:Array (Option Nat)}(L:ik m hs owner) (h:hs.length<m+1):∃f,f<m+1∧owner[f]? =some none:=by
 refine Classical.byContradiction fun c=> ?_
 have all:∀f,f<m+1→∃k,owner[f]? =some (some k):=fun f hf=>by
  have Ak:f<owner.size:=by rw[L.sz];exact hf
  cases e:owner[f] with
  |none=>exact absurd ⟨f,hf,by rw[Array.getElem?_eq_getElem Ak,e]⟩ c
  |some k=>exact⟨k,by rw[Array.getElem?_eq_getElem Ak,e]⟩
 have p:((live m owner).map (·.1)).Perm (List.range (m+1)):=(List.perm_ext_iff_of_nodup (UG (WV m owner)) List.nodup_range).mpr fun f=>by
  rw[List.mem_range,List.mem_map]
  constructor
  ·rintro⟨x,hx,rfl⟩
   obtain⟨hl,_⟩:=Array.getElem?_eq_some_iff.mp ((Z8 L.sz).mp hx)
   rw[L.sz]at hl
   exact hl
  ·intro hf
   obtain⟨k,hk⟩:=all f hf
   exact⟨(f,k),(Z8 L.sz).mpr hk,rfl⟩
 have:=p.length_eq
 rw[List.length_map,CQ L,List.length_range]at this
 omega
theorem getD_some {owner:Array (Option Nat)}{j:Nat} :(owner.getD j (some 0)).isNone=true↔owner[j]? =some none:=by
 rw[Array.getD_eq_getD_getElem?]
 cases owner[j]? with
 |none=>simp
 |some o=>cases o<;>simp
theorem ik.step {m:Nat}{hs:List Int}{owner:Array (Option Nat)}(hm:gB m) (L:ik m hs owner) (hl:hs.length<m+1) (h:Int):
  ∃j,layClean.free m owner (turns m) (bits h%(m+1)) (bits h)=some j∧ik m (hs++[h]) (owner.setIfInBounds j (some hs.length)):=by
 obtain⟨f,hf,hn⟩:=L.free hl
 obtain⟨k,hk,e⟩:=U4 hm (Nat.mod_lt (bits h) (show 0<m+1 by omega)) (BU h) hf
 obtain⟨j,g1,g2,g3⟩:=UV (m:=m) (owner:=owner) (turns m) k (bits h%(m+1)) (bits h) (by unfold turns;omega) (by rw[e];exact getD_some.mpr hn)
 have AG:=getD_some.mp g2
 obtain⟨jl,_⟩:=Array.getElem?_eq_some_iff.mp AG
 have rJ:(owner.setIfInBounds j (some hs.length))[j]? =some (some hs.length):=by simp[jl]
 have kR:∀{i:Nat},i≠j→(owner.setIfInBounds j (some hs.length))[i]? =owner[i]? :=fun {i} hi=>by
  rw[Array.getElem?_setIfInBounds]
  rw[if_neg (Ne.symm hi)]
 have Ys:∀{i k:Nat},owner[i]? =some (some k)→i≠j:=fun {i k} hi z=>by rw[z,AG]at hi;cases hi
 have cR:∀x:Nat,(∃k:Nat,owner[x]? =some (some k))→∃k:Nat,(owner.setIfInBounds j (some hs.length))[x]? =some (some k):=fun x hx=>by
  obtain⟨k,hk⟩:=hx
  exact⟨k,by rw[kR (Ys hk)];exact hk⟩
 refine⟨j,g1,⟨by rw[Array.size_setIfInBounds];exact L.sz,fun i k hi=> ?_,fun k h' aS=> ?_,fun i i' k hi aW=> ?_⟩⟩
 ·rw[List.length_append]
  by_cases bV:i=j
  ·rw[bV,rJ]at hi
   cases hi
   simp
  ·rw[kR bV]at hi
   have:=L.lt _ _ hi
   simp;omega
 ·by_cases jT:k<hs.length
  ·rw[List.getElem?_append_left jT]at aS
   obtain⟨i,hi,ld⟩:=L.at_ k h' aS
   exact⟨i,by rw[kR (Ys hi)];exact hi,ld.mono cR⟩
  ·rw[List.getElem?_append_right (by omega)]at aS
   have ek:k=hs.length:=by
    have:=(List.getElem?_eq_some_iff.mp aS).1
    simp at this
    omega
   subst ek
   simp at aS
   subst aS
   obtain⟨n,en,bP⟩:=g3
   refine⟨j,rJ,n,en,fun d hd=> ?_⟩
   have hx:=bP d hd
   have ay:(it m (fr m (bits h%(m+1)) (bits h)) d).j<owner.size:=by rw[L.sz];exact A4 h d
   show ∃k:Nat,(owner.setIfInBounds j (some hs.length))[(it m (fr m (bits h%(m+1)) (bits h)) d).j]? =some (some k)
   generalize (it m (fr m (bits h%(m+1)) (bits h)) d).j=x at *
   have e:=Array.getElem?_eq_getElem ay
   cases e2:owner[x] with
   |none=>
    rw[e2]at e
    rw[getD_some.mpr e]at hx
    cases hx
   |some k=>
    rw[e2]at e
    exact cR x ⟨k,e⟩
 ·by_cases bV:i=j
  ·by_cases oA:i'=j
   ·rw[bV,oA]
   ·rw[bV,rJ]at hi
    rw[kR oA]at aW
    cases hi
    exact absurd (L.lt _ _ aW) (Nat.lt_irrefl _)
  ·by_cases oA:i'=j
   ·rw[oA,rJ]at aW
    rw[kR bV]at hi
    cases aW
    exact absurd (L.lt _ _ hi) (Nat.lt_irrefl _)
   ·rw[kR bV]at hi
    rw[kR oA]at aW
    exact L.inj _ _ _ hi aW
def lU (m:Nat) (acc:Option (Array (Option Nat)×Nat)) (h:Int):Option (Array (Option Nat)×Nat):=do
 let (owner,k) ←acc
 let j ←layClean.free m owner (turns m) (bits h%(m+1)) (bits h)
 pure (owner.setIfInBounds j (some k),k+1)
theorem Wj (m:Nat) (hs:Array Int):layClean m hs=(hs.toList.foldl (lU m) (some (Array.replicate (m+1) none,0))).map (·.1):=by
 unfold layClean
 rw[←Array.foldl_toList]
 rfl
theorem Wd {m:Nat}(hm:gB m):∀(rest hs:List Int) (owner:Array (Option Nat)),ik m hs owner→hs.length+rest.length≤m+1→
  ∃yZ,rest.foldl (lU m) (some (owner,hs.length))=some (yZ,(hs++rest).length)∧ik m (hs++rest) yZ
 | [],hs,owner,L,_=> ⟨owner,by rw[List.append_nil];rfl,by rw[List.append_nil];exact L⟩
 |h::rest,hs,owner,L,hl=>by
  rw[List.length_cons]at hl
  obtain⟨j,g1,g2⟩:=L.step hm (by omega) h
  obtain⟨o',g3,g4⟩:=Wd hm rest (hs++[h]) _ g2 (by rw[List.length_append,List.length_singleton];omega)
  refine⟨o',?_,by rw[←List.append_cons]at g4;exact g4⟩
  rw[List.foldl_cons]
  have e:lU m (some (owner,hs.length)) h=some (owner.setIfInBounds j (some hs.length),(hs++[h]).length):=by
   unfold lU
   simp[g1]
  rw[e,g3,←List.append_cons]
theorem JS {es:Array (Int×Value)} :∀{L:List (Nat×Nat)},(∀x∈L,x.2<es.size)→(L.map (·.2)).filterMap (fun k=>es[k]?)=L.map fun x=> (es[x.2]?).getD (0,.none)
 | [],_=>rfl
 |x::L,h=>by
  have hx:=h x List.mem_cons_self
  rw[List.map_cons,List.filterMap_cons,List.map_cons,Array.getElem?_eq_getElem hx]
  dsimp only
  rw[JS fun y hy=>h y (List.mem_cons_of_mem _ hy)]
  rfl
theorem Nb {m:Nat}(hm:gB m) (es:Array (Int×Value)) (hl:es.size≤m+1) (fi mo:Nat) (le pl:Bool):
  ∃t order,laid m fi mo le pl (es.map (·.1))=some (t,order)∧t.mask=m∧T0 t (order.filterMap (es[·]?))∧(order.filterMap (es[·]?)).toList.Perm es.toList:=by
 have L0:ik m [] (Array.replicate (m+1) none):=by
  refine⟨Array.size_replicate ..,fun j k h=> ?_,fun k h hk=>by simp at hk,fun j j' k h=> ?_⟩<;>
  ·rw[Array.getElem?_replicate]at h
   split at h<;>cases h
 obtain⟨owner,e1,L⟩:=Wd hm (es.map (·.1)).toList [] _ L0 (by simp;exact hl)
 rw[List.nil_append]at e1 L
 have hsz:((es.map (·.1)).toList).length=es.size:=by simp
 have e2:layClean m (es.map (·.1))=some owner:=by
  rw[Wj]
  have fv:List.foldl (lU m) (some (Array.replicate (m+1) none,0)) (es.map (·.1)).toList=_:=e1
  rw[fv]
  rfl
 have ay:∀x∈live m owner,x.2<es.size:=fun x hx=>by
  have:=L.lt _ _ ((Z8 L.sz).mp hx)
  rw[hsz]at this
  exact this
 have IH:(((live m owner).map (·.2)).toArray.filterMap (es[·]?)).toList=(live m owner).map fun x=> (es[x.2]?).getD (0,.none):=by
  rw[Array.toList_filterMap]
  exact JS ay
 have perm:(((live m owner).map (·.2)).toArray.filterMap (es[·]?)).toList.Perm es.toList:=by
  rw[Array.toList_filterMap]
  have p:=(Wa L).filterMap (fun i=>es[i]?)
  rw[hsz,filterMap_getElem?_range]at p
  exact p
 refine⟨{mask:=m,place:=((live m owner).map (·.1)).toArray,dummies:= #[],finger:=fi,led:=le,moves:=mo,plain:=pl},((live m owner).map (·.2)).toArray,?_,rfl,?_,perm⟩
 ·unfold laid
  rw[e2]
  rfl
 ·refine⟨?_,WV m owner,rfl,fun j hj=> ?_,fun z hz=> ?_⟩
  ·have:=perm.length_eq
   rw[Array.length_toList,Array.length_toList]at this
   rw[this]
   show((live m owner).map (·.1)).toArray.size=_
   rw[List.size_toArray,List.length_map,CQ L,hsz]
  ·obtain⟨x,hx,rfl⟩:=List.mem_map.mp (show j∈(live m owner).map (·.1) from hj)
   obtain⟨hq,_⟩:=Array.getElem?_eq_some_iff.mp ((Z8 L.sz).mp hx)
   rw[L.sz]at hq
   exact hq
  ·have fg:z∈((live m owner).map (·.1)).zip (((live m owner).map (·.2)).toArray.filterMap (es[·]?)).toList:=hz
   rw[IH,List.zip_map',List.mem_map]at fg
   obtain⟨x,hx,rfl⟩:=fg
   have nP:=(Z8 L.sz).mp hx
   have vt:=ay x hx
   have eh:(es.map (·.1)).toList[x.2]? =some (es[x.2].1):=by simp[vt]
   obtain⟨j,g1,g2⟩:=L.at_ _ _ eh
   have ej:=L.inj _ _ _ g1 nP
   subst ej
   dsimp only
   rw[Array.getElem?_eq_getElem vt,Option.getD_some]
   refine g2.mono fun y hy=> ?_
   obtain⟨k,hk⟩:=hy
   exact List.mem_map.mpr ⟨(y,k),(Z8 L.sz).mpr hk,rfl⟩
theorem grow {m n:Nat}(h:gw m n) (hn:n+1≤306):((n+1)*5≥m*3∧gw (sizeAbove (grown (n+1)) - 1) (n+1)∧sizeAbove (grown (n+1))≤512)∨(¬(n+1)*5≥m*3∧gw m (n+1)):=by
 rcases h with ⟨rfl,h⟩ |⟨rfl,h⟩ |⟨rfl,h⟩ |⟨rfl,h⟩
 ·by_cases q:n=4
  ·subst q
   exact .inl ⟨by decide,.inr (.inl ⟨by decide,by decide⟩),by decide⟩
  ·exact .inr ⟨by omega,.inl ⟨rfl,by omega⟩⟩
 ·by_cases q:n=18
  ·subst q
   exact .inl ⟨by decide,.inr (.inr (.inl ⟨by decide,by decide⟩)),by decide⟩
  ·exact .inr ⟨by omega,.inr (.inl ⟨rfl,by omega⟩)⟩
 ·by_cases q:n=76
  ·subst q
   exact .inl ⟨by decide,.inr (.inr (.inr ⟨by decide,by decide⟩)),by decide⟩
  ·exact .inr ⟨by omega,.inr (.inr (.inl ⟨rfl,by omega⟩))⟩
 ·exact .inr ⟨by omega,.inr (.inr (.inr ⟨rfl,by omega⟩))⟩
section
variable {prog:Program}{w:World}{K:Type} [DecidableEq K]
structure HK (knd:HeapKind prog w K):Prop where
 QN:∀{A:Around}{E:Value→Shared→Prop}{s:Shared}{k:K}{a:Addr}{Q:Bool→Shared→Prop},knd.is s.heap k a→(∀b,Q b s)→wpAny (model prog w) A (hashByValue 8 (.ref a)) Q E s
 notCls:∀{A:Around}{E:Value→Shared→Prop}{s:Shared}{k:K}{a:Addr}{Q:Bool→Shared→Prop},knd.is s.heap k a→Q false s→wpAny (model prog w) A (ofAClassStatement 8 (.ref a)) Q E s
 Qw:∀{h h':Heap}{k:K}{a d:Addr}{o:Obj}{es ep t},knd.is h k a→h.get? d=some o→o.data=.set es ep t→Heap.SameBut d h h'→knd.is h' k a
variable {knd:HeapKind prog w K}{A:Around}{E:Value→Shared→Prop}{s:Shared}
def C1 (knd:HeapKind prog w K) (h:Heap) (k:K) (e:Int×Value):Prop:=∃a,e.2=.ref a∧knd.is h k a∧e.1=knd.hash k
end
section
variable {prog:Program}{w:World}{K:Type} [DecidableEq K] {knd:HeapKind prog w K}{A:Around}{E:Value→Shared→Prop}{s:Shared}
structure QQ (knd:HeapKind prog w K) (h:Heap) (S:Addr) (ks:List K) (o:Obj) (es:Array (Int×Value)) (ep:Nat) (t:SetTable):Prop where
 ho:h.get? S=some o
 ex:o.ExactSet
 hd:o.data=.set es ep t
 T:T0 t es
 room:gw t.mask es.size
 el:∀e∈es.toList,∃k∈ks,C1 knd h k e
 all:∀k∈ks,∃e∈es.toList,C1 knd h k e
 sz:es.size=ks.length
theorem Co {h:Heap}{S:Addr}{o:Obj}{es:Array (Int×Value)}{ep:Nat}{t:SetTable}(ho:h.get? S=some o) (hd:o.data=.set es ep t) (gr:Array (Int×Value)) (t':SetTable):(h.update S (Obj.putSet gr t')).get? S=some {o with data:=.set gr (ep+1) t'} :=by
 have:=Heap.get?_update_self (Obj.putSet gr t') ho (by rw[putSet_of gr t' hd];rfl)
 rw[putSet_of gr t' hd]at this
 exact this
end
end HS
namespace HS
open PySem PySem.SetTable PySem.Spec
section
variable {K:Type} [DecidableEq K]
def met (val:Nat→K):Nat→List K
 |0=> []
 |n+1=>if val n∈met val n then met val n else met val n++[val n]
variable {prog:Program}{w:World}{kk:KeyKind prog w K}{A:Around}{E:Value→Shared→Prop}{s:Shared}{R:Result→Shared→Prop}{I:Addr}{fp wr:List Addr}{G:Array GenState→Array GenState→Prop}{n:Nat}{P:Nat→Value→Prop}{St:Nat→Shared→Prop}
end
section
variable {K:Type} [DecidableEq K] {prog:Program}{w:World}{kk:KeyKind prog w K}{A:Around}{E:Value→Shared→Prop}{s:Shared}
abbrev qI (led:Bool):Obj:= {cls:=.type "set",dict:=none,data:=.set #[] 0 (.fresh 0 0 led)}
end
end HS
namespace L2
open PySem PySem.Spec PyProof.Rows
end L2
namespace L2
open PySem PySem.Spec PyProof.Rows SeqAt
section
variable {X:Cx}
theorem LP {pins:List (Addr×Obj)}{σ:St}{H:Hp}{s:Shared}{x y:V}{u v:Value}{k:List Int}(A:Around) (hu:A.units<cLine) (I:Inv X pins σ H s) (hx:bg H x k) (hy:bg H y k) (ru:RelV x u) (rv:RelV y v):EqAt A s u v true:=by
 obtain⟨a,rfl,ha⟩:=hx
 obtain⟨b,rfl,hb⟩:=hy
 cases ru
 cases rv
 by_cases iN:a=b
 ·subst iN
  exact EqAt.same _
 ·obtain⟨us,r1,p1,_⟩:=I.tuple (ag.of ha)
  obtain⟨vs,r2,p2,_⟩:=I.tuple (ag.of hb)
  have z:=RcAt.tuples (A:=A) (s:=s) (e:=fun j=>k.getD j 0==k.getD j 0) p1 p2 hu (fun j h1 h2=>by
   obtain⟨t1,e1⟩:=YB r1 j (by simpa using h1)
   obtain⟨t2,e2⟩:=YB r2 j (by simpa using h2)
   rw[show us.toArray[j]=us[j]'(by simpa using h1) by simp,show vs.toArray[j]=vs[j]'(by simpa using h2) by simp,e1,e2]
   exact EqAt.int_int _ _ _ _)
  have l1:=r1.length
  have l2:=r2.length
  have e:((List.range (min us.toArray.size vs.toArray.size)).all (fun j=>k.getD j 0==k.getD j 0)&&us.toArray.size==vs.toArray.size)=true:=by
   simp
   omega
  rw[e]at z
  exact EqAt.of_refs iN z
def yN (K:PySem.W.Frag) (r:Bool):R2:=fun x y H Q=> ∃(a b:Addr) (xs ys:List V) (ks:List (List Int)),x=.ref a∧y=.ref b∧aj K H a xs∧aj K H b ys∧Paired (bg H) xs ks∧Paired (bg H) ys ks∧Q (.bl r) H
theorem Bq {pins:List (Addr×Obj)}{σ:St}{H:Hp}{s:Shared}{xs ys:List V}{ks:List (List Int)}{us vs:List Value}(A:Around) (hu:A.units<cLine) (I:Inv X pins σ H s) (p1:Paired (bg H) xs ks) (p2:Paired (bg H) ys ks) (r1:Vals xs us) (r2:Vals ys vs):∀j (h1:j<us.toArray.size) (h2:j<vs.toArray.size),EqAt A s us.toArray[j] vs.toArray[j] true:=fun j h1 h2=>by
 have l1:=r1.length
 have l2:=r2.length
 have k1:j<xs.length:=by simp at h1;omega
 have k2:j<ys.length:=by simp at h2;omega
 obtain⟨k,hk,e⟩:=Y8 p1 (List.getElem?_eq_getElem k1)
 obtain⟨k',aS,e'⟩:=Y8 p2 (List.getElem?_eq_getElem k2)
 rw[hk]at aS
 cases aS
 obtain⟨u,nV,ru⟩:=r1.get (List.getElem?_eq_getElem k1)
 obtain⟨v,kD,rv⟩:=r2.get (List.getElem?_eq_getElem k2)
 have e1:us.toArray[j]=u:=by simpa using (List.getElem?_eq_some_iff.mp nV).2
 have e2:vs.toArray[j]=v:=by simpa using (List.getElem?_eq_some_iff.mp kD).2
 rw[e1,e2]
 exact LP A hu I e e' ru rv
theorem BM (hu:X.A.units+1<cLine):aR X (compareOp .NotEq) (yN X.K false):=by
 intro pins s σ H x y u v Q I rx ry h
 obtain⟨a,b,xs,ys,ks,rfl,rfl,ha,hb,p1,p2,q⟩:=h
 cases rx
 cases ry
 obtain⟨us,r1,l1,_⟩:=I.list ha
 obtain⟨vs,r2,l2,_⟩:=I.list hb
 have hsz:us.toArray.size=vs.toArray.size:=by have:=r1.length;have:=r2.length;have:=Paired.length p1;have:=Paired.length p2;simp at *;omega
 refine RcNeAt.lists (e:=fun _=>true) l1.isList l2.isList hsz (Nat.lt_of_succ_lt hu) (Bq X.A.in1 hu I p1 p2 r1 r2) _ _ _ _ ?_
 have e:(List.range us.toArray.size).all (fun _=>true)=true:=by simp
 rw[e]
 exact⟨.bl false,H,I,rfl,q⟩
theorem Lh (hu:X.A.units+1<cLine):aR X (compareOp .Eq) (yN X.K true):=by
 intro pins s σ H x y u v Q I rx ry h
 obtain⟨a,b,xs,ys,ks,rfl,rfl,ha,hb,p1,p2,q⟩:=h
 cases rx
 cases ry
 obtain⟨us,r1,l1,_⟩:=I.list ha
 obtain⟨vs,r2,l2,_⟩:=I.list hb
 have hsz:us.toArray.size=vs.toArray.size:=by have:=r1.length;have:=r2.length;have:=Paired.length p1;have:=Paired.length p2;simp at *;omega
 refine eq_listAt (e:=fun _=>true) l1.isList l2.isList hsz (Nat.lt_of_succ_lt hu) (Bq X.A.in1 hu I p1 p2 r1 r2) ?_
 have e:(List.range us.toArray.size).all (fun _=>true)=true:=by simp
 rw[e]
 exact⟨.bl true,H,I,rfl,q⟩
theorem Mm {pins:List (Addr×Obj)}{σ:St}{H:Hp}{s:Shared}{x y:V}{u v:Value}{k m:List Int}(A:Around) (hu:A.units<cLine) (I:Inv X pins σ H s) (hx:bg H x k) (hy:bg H y m) (ru:RelV x u) (rv:RelV y v):EqAt A s u v (decide (k=m)):=by
 obtain⟨a,rfl,ha⟩:=hx
 obtain⟨b,rfl,hb⟩:=hy
 cases ru
 cases rv
 by_cases iN:a=b
 ·subst iN
  rw[ha]at hb
  have:k=m:=by
   have h:=Option.some.inj hb
   injection h with h
   exact List.map_inj_right (fun _ _ z=>by injection z)|>.mp h
  rw[decide_eq_true this]
  exact EqAt.same _
 ·obtain⟨us,r1,p1,_⟩:=I.tuple (ag.of ha)
  obtain⟨vs,r2,p2,_⟩:=I.tuple (ag.of hb)
  have z:=RcAt.tuples (A:=A) (s:=s) (e:=fun j=>k.getD j 0==m.getD j 0) p1 p2 hu (fun j h1 h2=>by
   obtain⟨t1,e1⟩:=YB r1 j (by simpa using h1)
   obtain⟨t2,e2⟩:=YB r2 j (by simpa using h2)
   rw[show us.toArray[j]=us[j]'(by simpa using h1) by simp,show vs.toArray[j]=vs[j]'(by simpa using h2) by simp,e1,e2]
   exact EqAt.int_int _ _ _ _)
  have l1:=r1.length
  have l2:=r2.length
  rw[List.length_map]at l1 l2
  have e:((List.range (min us.toArray.size vs.toArray.size)).all (fun j=>k.getD j 0==m.getD j 0)&&us.toArray.size==vs.toArray.size)=decide (k=m):=by
   rw[Bool.eq_iff_iff,Bool.and_eq_true,List.all_eq_true,decide_eq_true_eq,beq_iff_eq,List.size_toArray,List.size_toArray]
   constructor
   ·rintro⟨h,hl⟩
    refine List.ext_getElem (by omega) fun i h1 h2=> ?_
    have:=h i (by rw[List.mem_range];omega)
    simpa[h1,h2] using this
   ·rintro rfl
    exact⟨fun j _=>by simp,by omega⟩
  rw[e]at z
  exact EqAt.of_refs iN z
end
end L2
namespace L2
open PySem PySem.Spec PyProof.Rows
section
variable {X:Cx}
def ED (K:PySem.W.Frag):V→List V→Hp→VK→Prop:=fun v vs H Q=> ∃(a:Addr) (xs:List V) (x:V),v=.ref a∧vs=[x]∧ag K H a xs∧dR x=true∧xs.all dR=true∧Q (.int ((xs.countP fun y=>bD y x:Nat):Int)) H
theorem Nf:xD X "tuple.count" (ED X.K):=by
 intro pins s σ H v vs u us Q I rv uO h
 obtain⟨a,xs,x,rfl,rfl,hq,fx,fs,q⟩:=h
 cases rv
 obtain⟨ux,rfl,rx⟩:=vals1 uO
 obtain⟨aa,r,pl,hz⟩:=I.tuple hq
 obtain⟨o,ho,hc,n,hd⟩:=id pl
 obtain⟨cls,dd,dt,sl⟩:=o
 replace hc:cls=.type "tuple" :=hc
 replace hd:dt=.seq aa.toArray n:=hd
 subst hc hd
 refine call_meets F.slot_tuple_count ⟨_,ho,rfl⟩ F.entry_tuple_count (F.args_tuple_count_2 _ _) (SeqAt.tuple_countAt a aa.toArray n dd sl ux (dC x)) ⟨ho,fun y hy=>YY rx fx r fs y (by simpa using hy),?_⟩
 exact⟨.int _,H,I.tok _,⟨_,by rw[show aa.toArray.toList=aa by simp,U5 r fs]⟩,q⟩
end
end L2
namespace L2
open PySem PySem.Spec PyProof.Rows SeqAt
end L2
namespace L2
open PySem PySem.Spec PyProof.Rows
end L2
namespace L2
open PySem PySem.Spec PyProof.Rows PyProof.Rows.de
section
variable {X:Cx}
theorem ME {g:Str}{es:List Expr}{te:TE}{p p1 p2 kp iY pos:Pos}(hc:X.calm=true) (hu:X.A.units+1<cLine) (hg:Gl X "min") (hm:X.mg "min" =none) (he:PE X (.Call (.Name g p1) es [] p2) te)
  (bP:(backToKw pos (keywordEach [⟨some "default",.Constant .none 0 kp,iY⟩] X.env)).filterMap (·.1)=[Str.ofString "default"]:=by rfl):
  PE X (.Call (.Name "min" p) [.Call (.Name g p1) es [] p2] [⟨some "default",.Constant .none 0 kp,iY⟩] pos) (yh X.K te):=by
 intro pins s σ H Q I h
 refine wpAny_Call_Name_kw (YS I hg hm PyProof.Rows.Boot.«min» ?_ (by decide) (by decide))
 have pa:PA X [.Call (.Name g p1) es [] p2] (iU te iT):=Za he Zb
 have pk:PK X [⟨some "default",.Constant .none 0 kp,iY⟩] (iU (tC .ae) iT):=BQ ZY Bm
 refine PyProof.Rows.callWith_kw (av (pa pos pins s σ H (fun us H1=>match us with
  | [v]=> ∃(a:Addr) (vs:List V) (ks:List (List Int)),v=.ref a∧aj X.K H1 a vs∧Paired (bg H1) vs ks∧(vs=[]→Q .ae H1)∧∀v k,v∈vs→k∈ks→bg H1 v k→(∀k'∈ks,ax k' k=false)→Q v H1
  |_=>False) I h) fun us s1 ⟨sH,H1,I1,r1,q1⟩=> ?_)
 match sH,q1 with
 | [v],q1=>
  obtain⟨a,vs,ks,rfl,hq,pr,q1,q2⟩:=q1
  refine av (pk pos pins s1 σ H1 (fun zs H2=>zs=[.ae]∧H2=H1) I1 ⟨rfl,rfl⟩) fun ws s2 ⟨zs,H2,I2,rz,e1,e2⟩=> ?_
  subst e1 e2
  obtain⟨u,rfl,ru⟩:=vals1 r1
  obtain⟨z,rfl,uN⟩:=vals1 rz
  cases ru
  have ez:z=.none:=uN
  subst ez
  rw[bP]
  show wpAny _ _ (call (.builtin "min") [.ref a] [(Str.ofString "default",.none)]) _ _ _
  obtain⟨aa,rv,pl,_⟩:=I2.list hq
  have key:∀{vs:List V}{ks:List (List Int)}{aa:List Value},Paired (bg H2) vs ks→Vals vs aa→∀u∈aa,∃v∈vs,∃k∈ks,RelV v u∧bg H2 v k∧jq s2.heap u k:=by
   intro vs ks aa pr
   induction pr generalizing aa with
   |nil=>intro rv;cases rv;intro u hu;cases hu
   |cons hh _ ih=>
    intro rv
    cases rv with
    |cons r1 r2=>
     intro u hu
     rcases List.mem_cons.mp hu with rfl |hu
     ·obtain⟨t,e,ht⟩:=id hh
      obtain⟨items,ri,⟨o,go,oc,n,od⟩,_⟩:=I2.tuple (ag.of ht)
      refine⟨_,List.mem_cons_self,_,List.mem_cons_self,r1,hh,?_⟩
      subst e
      cases r1
      exact⟨t,o,_,n,rfl,go,oc,od,by simpa using ZV ri⟩
     ·obtain⟨v,hv,k,hk,w⟩:=ih r2 u hu
      exact⟨v,List.mem_cons_of_mem _ hv,k,List.mem_cons_of_mem _ hk,w⟩
  have vm:∀{vs:List V}{ks:List (List Int)}{aa:List Value},Paired (bg H2) vs ks→Vals vs aa→∀k∈ks,∃u∈aa,bo s2.heap u=k:=by
   intro vs ks aa pr
   induction pr generalizing aa with
   |nil=>intro rv k hk;cases hk
   |cons hh _ ih=>
    intro rv
    cases rv with
    |cons r1 r2=>
     intro k hk
     rcases List.mem_cons.mp hk with rfl |hk
     ·obtain⟨t,e,ht⟩:=id hh
      obtain⟨items,ri,⟨o,go,oc,n,od⟩,_⟩:=I2.tuple (ag.of ht)
      refine⟨_,List.mem_cons_self,?_⟩
      subst e
      cases r1
      exact ZR go od (by simpa using ZV ri)
     ·obtain⟨u,hu,e⟩:=ih r2 k hk
      exact⟨u,List.mem_cons_of_mem _ hu,e⟩
  refine U6 (lt:=fun u v=>ax (bo s2.heap u) (bo s2.heap v)) (I2.ok.hd hc) pl.isList (fun s' u v Q' E' kp vE vC cc=> ?_) (fun h' tk e kp=> ?_) (fun v0 r h' tk e kp=> ?_)
  ·obtain⟨_,_,ku,_,_,_,tu,ou,iu,nu,rfl,gu,cu,du,ju⟩:=key pr rv u vE
   obtain⟨_,_,kv,_,_,_,tv,ov,iv,nv,rfl,gv,cv,dv,jv⟩:=key pr rv v vC
   have e1:bo s2.heap (.ref tu)=ku:=ZR gu du ju
   have e2:bo s2.heap (.ref tv)=kv:=ZR gv dv jv
   try dsimp only at cc
   rw[e1,e2,←Y5]at cc
   exact HT.qO ⟨_,kp _ _ gu,cu,nu,du⟩ ⟨_,kp _ _ gv,cv,nv,dv⟩ ju jv hu cc
  ·subst e
   cases rv
   exact⟨.ae,H2,I2.kept kp,rfl,q1 rfl⟩
  ·have hm:=Ji (lt:=fun u v=>ax (bo s2.heap u) (bo s2.heap v)) (r:=r) (b:=v0)
   have hle:=JB (bo s2.heap) (r:=r) (b:=v0)
   generalize gq (fun u v=>ax (bo s2.heap u) (bo s2.heap v)) v0 r=m at hm hle
   rw[←e]at hm hle
   obtain⟨v,hv,k,hk,uP,nW,tu,ou,iu,nu,e3,gu,cu,du,ju⟩:=key pr rv m hm
   have e1:bo s2.heap m=k:=by rw[e3];exact ZR gu du ju
   refine⟨v,H2,I2.kept kp,uP,q2 v k hv hk nW fun k' aS=> ?_⟩
   obtain⟨u',nV,e4⟩:=vm pr rv k' aS
   have:=hle u' nV
   rw[e1,e4]at this
   exact this
end
end L2
namespace L2
open PySem PySem.Spec PyProof.Rows
end L2
namespace PyProof.Rows.de
open PySem
end PyProof.Rows.de
namespace L2
open PySem PySem.Spec PyProof.Rows PyProof.Rows.de
end L2
namespace L2
open PySem PySem.Spec PyProof.Rows
theorem jI {zc x:Str}{a c:Addr}{cl:List (Str×Addr)}(e:((zc,a)::cl).lookup x=some c):(x=zc∧c=a)∨(x≠zc∧cl.lookup x=some c):=by
 rw[List.lookup_cons]at e
 cases hx:x==zc with
 |true=>rw[hx]at e;exact .inl ⟨by simpa using hx,(Option.some.inj e).symm⟩
 |false=>rw[hx]at e;exact .inr ⟨by simpa using hx,e⟩
theorem BJ:∀(ns:List (Str×NameKind)) (n:Nat) (acc:List (Str×Addr)) (h:Heap),(ns.filter fun y=>y.2==.cell)=[]→cellsFrom n ns acc=acc∧pushCells h ns=h
 | [],_,_,_,_=> ⟨rfl,rfl⟩
 |(x,k)::r,n,acc,h,e=>by
  rw[List.filter_cons]at e
  cases hk:k==NameKind.cell with
  |true=>simp[hk]at e
  |false=>
   simp only[hk,Bool.false_eq_true,if_false]at e
   unfold cellsFrom pushCells
   simp only[hk,Bool.false_eq_true,if_false]
   exact BJ r n acc h e
theorem CA {zc:Str} :∀(ns:List (Str×NameKind)) (n:Nat) (acc:List (Str×Addr)) (h:Heap),(ns.filter fun y=>y.2==.cell)=[(zc,.cell)]→cellsFrom n ns acc=(zc,n)::acc∧pushCells h ns=h.push {cls:=.type "cell",data:=.cell none}
 | [],_,_,_,e=>by cases e
 |(x,k)::r,n,acc,h,e=>by
  rw[List.filter_cons]at e
  cases hk:k==NameKind.cell with
  |true=>
   simp only[hk,if_true,List.cons.injEq,Prod.mk.injEq]at e
   obtain⟨⟨rfl,_⟩,e⟩:=e
   unfold cellsFrom pushCells
   simp only[hk,if_true]
   obtain⟨a,b⟩:=BJ r (n+1) ((x,n)::acc) (h.push {cls:=.type "cell",data:=.cell none}) e
   exact⟨a,b⟩
  |false=>
   simp only[hk,Bool.false_eq_true,if_false]at e
   unfold cellsFrom pushCells
   simp only[hk,Bool.false_eq_true,if_false]
   exact CA r n acc h e
theorem La {M:Model}{A:Around}{E:Value→Shared→Prop}{s:Shared}{scope:Scope}{globals:Addr}{cl:List (Str×Addr)}{qual:Str}{env:Env}{zc:Str}{Q:Env→Shared→Prop}(hz:(scope.names.filter fun y=>y.2==.cell)=[(zc,.cell)]) (hk:scope.kind=.function)
  (hQ:∀h',h'.Ns s.heap.objs.size (fun _=>none)→h'.IsCell (s.heap.objs.size+1) none→(∀b o,s.heap.get? b=some o→h'.get? b=some o)→Q (newEnv scope s.heap.objs.size globals ((zc,s.heap.objs.size+1)::cl) qual none .none (some env) builtinsNs) {s with heap:=h'}):
  wpAny M A (newFunctionEnv scope globals cl [] qual none .none (some env)) Q E s:=by
 simp only[newFunctionEnv,Option.isSome_some,if_true]
 refine wpAny_bind (wpAny_alloc ?_)
 refine wpAny_bind (wpAny_layCells _ (fun name kind cells=>by cases Hu:kind==NameKind.cell<;>simp[Hu]) _ _ _ _ ?_)
 have z1:(s.heap.push {cls:=.type "dict",data:=.dict #[]}).objs.size=s.heap.objs.size+1:=Heap.size_push ..
 obtain⟨a,b⟩:=CA (zc:=zc) scope.names (s.heap.push {cls:=.type "dict",data:=.dict #[]}).objs.size cl (s.heap.push {cls:=.type "dict",data:=.dict #[]}) hz
 dsimp only
 rw[a,b,z1]
 refine wpAny_bind (wpAny_pure (wpAny_pure ?_))
 refine hQ _ ((Heap.Ns.new s.heap (.type "dict")).keeps fun b o e=>Heap.get?_push_of_some _ e) ?_ (fun b o e=>Heap.get?_push_of_some _ (Heap.get?_push_of_some _ e))
 rw[←z1]
 exact⟨_,Heap.get?_push_size _ rfl,rfl⟩
theorem Ur {zc:Str}{scope:Scope}{env:Env}{x:Str}(hc:(scope.names.filter fun y=>y.2==.cell)=[(zc,.cell)]) (h:(relabel scope env).names.lookup x=some .cell∨(relabel scope env).names.lookup x=some .free):x=zc∨(x,NameKind.free)∈scope.names:=by
 have br:∀y∈scope.names,y.2=.cell→y.1=zc:=fun y hy e=>by
  have m:y∈scope.names.filter fun y=>y.2==.cell:=List.mem_filter.mpr ⟨hy,by simp[e]⟩
  rw[hc]at m
  rw[List.mem_singleton.mp m]
 rw[YO]at h
 have key:∀(l:List (Str×NameKind)),(∀y∈l,y.2=.cell→y.1=zc)→(∃k,(k=NameKind.cell∨k=.free)∧(l.map (rl env)).lookup x=some k)→x=zc∨(x,NameKind.free)∈l:=by
  intro l
  induction l with
  |nil=>rintro _ ⟨k,_,h⟩;simp at h
  |cons y l ih=>
   rintro hl ⟨k',aS,h⟩
   obtain⟨n,k⟩:=y
   have e1:(rl env (n,k))=(n,(rl env (n,k)).2):=Prod.ext (w9 env _) rfl
   rw[List.map_cons,e1,List.lookup_cons]at h
   cases hx:x==n with
   |true=>
    have e:x=n:=by simpa using hx
    subst e
    by_cases hk:k=.free
    ·subst hk;exact .inr List.mem_cons_self
    ·rw[hx]at h
     rw[Bp (env:=env) (y:=(x,k)) hk]at h
     have e:k=k':=Option.some.inj h
     subst e
     rcases aS with z |z
     ·exact .inl (hl _ List.mem_cons_self z)
     ·exact absurd z hk
   |false=>
    rw[hx]at h
    rcases ih (fun y hy=>hl y (List.mem_cons_of_mem _ hy)) ⟨k',aS,h⟩ with z |z
    ·exact .inl z
    ·exact .inr (List.mem_cons_of_mem _ z)
 refine key _ br ?_
 rcases h with h |h
 ·exact⟨_,.inl rfl,h⟩
 ·exact⟨_,.inr rfl,h⟩
def dE (X:Cx) (N':List Str) (scope:Scope) (zc:Str) (C:Addr) (s2:Shared) (H2:Hp) (fp:List Addr):Cx:=
 {X with N:=N',bS:=s2,mJ:=H2,env:=compEnvC scope ((zc,C+1)::dS scope X.env) C X.env,outer:=X.stack,stack:=X.stack,ex:=fp,fn:=fun x=>x==zc,pn:=[],xe:=fun _ _=>False}
def wz (zc:Str) (so si:Scope) (N N':List Str) (ts:Nat) (aF:List Nat):Bool:=
 decide (si.kind=.function)&&decide ((si.names.filter fun y=>y.2==.cell)=[(zc,.cell)])&&(si.names.lookup zc==some .cell)&&si.names.all (fun y=>y.2 !=.local||si.names.lookup y.1==some .local)
 &&si.names.all (fun y=>y.2 !=.free||so.names.lookup y.1==some .cell||so.names.lookup y.1==some .free)
 &&decide N'.Nodup&&decide (N'.length=ts+aF.length)
 &&(List.range aF.length).all (fun k=> (N'[ts+k]? ==(aF[k]?.bind fun j=>N[j]?))&&(N'[ts+k]?.isSome)&&(N'[ts+k]?.all fun x=>so.names.lookup x !=some .local&&si.names.lookup x==some .free))
structure xU (X:Cx) (N':List Str) (ts:Nat) (aF:List Nat) (scope:Scope) (zc:Str):Prop where
 kind:scope.kind=.function
 one:(scope.names.filter fun y=>y.2==.cell)=[(zc,.cell)]
 own:scope.names.lookup zc=some .cell
 names:∀y∈scope.names,y.2=.local→scope.names.lookup y.1=some .local
 free:∀y∈scope.names,y.2=.free→X.env.kindOf y.1=some .cell∨X.env.kindOf y.1=some .free
 nd:N'.Nodup
 len:N'.length=ts+aF.length
 wA:∀k j,aF[k]? =some j→∃x,N'[ts+k]? =some x∧X.N[j]? =some x∧X.env.kindOf x≠some .local∧scope.names.lookup x=some .free
theorem MR {X:Cx}{N':List Str}{ts:Nat}{aF:List Nat}{scope:Scope}{zc:Str}(h:wz zc X.env.scope scope X.N N' ts aF=true):xU X N' ts aF scope zc:=by
 unfold wz at h
 simp only[Bool.and_eq_true]at h
 obtain⟨⟨⟨⟨⟨⟨⟨h1,h2⟩,Iq⟩,h3⟩,h4⟩,h5⟩,h6⟩,h7⟩:=h
 refine⟨of_decide_eq_true h1,of_decide_eq_true h2,by simpa using Iq,fun y hy z=> ?_,fun y hy z=> ?_,of_decide_eq_true h5,of_decide_eq_true h6,fun k j hk=> ?_⟩
 ·have q:=List.all_eq_true.mp h3 y hy
  rw[z]at q
  simpa using q
 ·have q:=List.all_eq_true.mp h4 y hy
  rw[z]at q
  simpa[Env.kindOf] using q
 ·have ay:k<aF.length:=(List.getElem?_eq_some_iff.mp hk).1
  have q:=List.all_eq_true.mp h7 k (List.mem_range.mpr ay)
  simp only[Bool.and_eq_true]at q
  obtain⟨⟨q1,q2⟩,q3⟩:=q
  obtain⟨x,hx⟩:=Option.isSome_iff_exists.mp q2
  rw[hx]at q1 q3
  rw[hk]at q1
  have e1:some x=X.N[j]? :=by simpa using q1
  have kj:(X.env.scope.names.lookup x !=some .local&&scope.names.lookup x==some .free)=true:=q3
  simp only[Bool.and_eq_true]at kj
  refine⟨x,hx,e1.symm,?_,by simpa using kj.2⟩
  have z:=kj.1
  intro e
  have e':X.env.scope.names.lookup x=some .local:=e
  rw[e']at z
  exact absurd z (by decide)
section
variable {X:Cx}{pins:List (Addr×Obj)}{σ:St}{H H':Hp}{s s':Shared}
theorem L5 {N':List Str}{ts:Nat}{aF:List Nat}{scope:Scope}{zc:Str}{fp:List Addr}{h':Heap}{t':Nat}{m:Str→Option Value}{C:Addr}(S:xU X N' ts aF scope zc) (I:Inv X pins σ H s) (hf:∀b∈fp,aP X pins H b)
  (ho:∀b∈fp,∃o,s.heap.get? b=some o) (hC:s.heap.objs.size≤C) (hn:h'.Ns C m) (k:∀b o,s.heap.get? b=some o→h'.get? b=some o) (hz:h'.IsCell (C+1) none):
  Inv (dE X N' scope zc C s H fp) [] (cZ ts aF σ) H {s with heap:=h',toks:=t'} :=by
 have sub:∀x c,(dS scope X.env).lookup x=some c→X.env.cells.lookup x=some c:=fun x c e=>by
  obtain⟨e1,e2⟩:=Jl e
  obtain⟨c',br⟩:=I.ok.has x (S.free _ e2 rfl)
  rw[br]at e1
  rw[br,e1];rfl
 have old:∀x c,(dS scope X.env).lookup x=some c→c<s.heap.objs.size:=fun x c e=>by
  obtain⟨v,o,e',_⟩:=I.cell x c (sub x c e)
  exact Heap.lt_size e'
 have bO:∀b o,s.heap.get? b=some o→b≠C:=fun b o e=>Nat.ne_of_lt (Nat.lt_of_lt_of_le (Heap.lt_size e) hC)
 refine⟨⟨I.ok.mod,?_,I.ok.glob,I.ok.blt,hC,fun x y c e1 e2=> ?_,fun x hx=> ?_,fun x c hx e=> ?_,I.ok.hd,I.ok.frames,.inl rfl,fun b hb=> ?_,fun b o e=>I.bs b o e,Nat.le_trans I.ok.j4 I.sz,fun b o e hb=> ?_,fun b hb=> ?_,I.stack,I.tj⟩,
  rfl,I.bare,Un.kept k,⟨m,hn,fun i x v e1 e2 e3=> ?_⟩,fun x c e=> ?_,I.ak.fresh hC,fun x c e=> ?_,fun p hp=>absurd (show p∈([]:List (Addr×Obj)) from hp) (by simp),I.ak.kept k,?_⟩
 ·show(relabel scope X.env).kind=.function
  exact S.kind
 ·rcases jI e1 with ⟨rfl,rfl⟩ |⟨_,f1⟩
  ·rcases jI e2 with ⟨rfl,_⟩ |⟨_,f2⟩
   ·rfl
   ·exact absurd (Nat.lt_of_lt_of_le (old _ _ f2) hC) (Nat.not_lt.mpr (Nat.le_succ C))
  ·rcases jI e2 with ⟨rfl,rfl⟩ |⟨_,f2⟩
   ·exact absurd (Nat.lt_of_lt_of_le (old _ _ f1) hC) (Nat.not_lt.mpr (Nat.le_succ C))
   ·exact I.ok.inj x y c (sub x c f1) (sub y c f2)
 ·show ∃c,((zc,C+1)::dS scope X.env).lookup x=some c
  rcases Ur S.one hx with rfl |h
  ·exact⟨C+1,by rw[List.lookup_cons];simp⟩
  ·obtain⟨c,hc⟩:=JT (env:=X.env) h
   rw[List.lookup_cons]
   cases x==zc with
   |true=>exact⟨_,rfl⟩
   |false=>exact⟨c,hc⟩
 ·have eU:(x==zc)=true:=hx
  rcases jI e with ⟨_,rfl⟩ |⟨n,_⟩
  ·show s.heap.objs.size≤C+1
   omega
  ·exact absurd (by simpa using eU) n
 ·obtain⟨o,e⟩:=ho b hb
  refine⟨bO b o e,fun x c ec=> ?_⟩
  rcases jI ec with ⟨_,rfl⟩ |⟨_,ec⟩
  ·exact fun q=>absurd (Nat.lt_of_lt_of_le (Heap.lt_size e) hC) (by rw[←q];exact Nat.not_lt.mpr (Nat.le_succ C))
  ·exact(hf b hb).2.2.2.2.1 x c (sub x c ec)
 ·obtain⟨e1,e2⟩:=I.bs b o e
  obtain⟨f0,f1,f2,f3,f4,f5⟩:=hf b hb
  rcases f3 with z |z
  ·exact I.ok.lP b o e z
  ·exact absurd (Nat.lt_of_lt_of_le (Heap.lt_size (I.ok.bs b o e).1) z) (Nat.lt_irrefl _)
 ·intro z
  obtain⟨f0,f1,f2,f3,f4,f5⟩:=hf b hb
  rcases List.mem_cons.mp (I.pT b z) with q |q
  ·exact f1 q
  ·exact f2 q
 ·-- Dn FI values
  have hlen:¬i<ts:=fun ay=>by
   unfold cZ at e2
   rw[List.getElem?_append_left (by simpa using ay),List.getElem?_replicate]at e2
   split at e2<;>cases e2
  have ic:(aF.map fun j=> (σ[j]?).join)[i - ts]? =some (some v):=by
   unfold cZ at e2
   rw[List.getElem?_append_right (by simpa using hlen),List.length_replicate]at e2
   exact e2
  rw[List.getElem?_map]at ic
  cases hc:aF[i - ts]? with
  |none=>rw[hc]at ic;cases ic
  |some j=>
   rw[hc]at ic
   have ji:(σ[j]?).join=some v:=Option.some.inj ic
   have e4:σ[j]? =some (some v):=by
    cases q:σ[j]? with
    |none=>rw[q]at ji;cases ji
    |some o=>rw[q]at ji;exact congrArg some ji
   obtain⟨x',n1,n2,n3,n4⟩:=S.wA _ _ hc
   have ei:ts+(i - ts)=i:=by omega
   rw[ei]at n1
   have ex:x=x':=by
    have fv:N'[i]? =some x:=e1
    rw[n1]at fv;exact(Option.some.inj fv).symm
   subst ex
   obtain⟨mX,Hd,hl⟩:=I.loc
   have sI:ph X.env.scope x:=by
    rcases S.free _ (YH n4) rfl with z |z
    ·exact .inr (.inl z)
    ·exact .inr (.inr z)
   obtain⟨u,ru,lk⟩:=hl j x v n2 e4 sI
   refine⟨u,ru,?_⟩
   rcases lk with ⟨z,_⟩ |⟨z,c,ec,mC⟩
   ·exact absurd z n3
   ·obtain⟨c',br⟩:=JT (env:=X.env) (YH n4)
    have:=sub x c' br
    rw[ec]at this
    cases this
    refine .inr ⟨?_,c,?_,mC.keeps k⟩
    rotate_left
    ·show((zc,C+1)::dS scope X.env).lookup x=some c
     have nz:(x==zc)=false:=by
      cases q:x==zc with
      |false=>rfl
      |true=>
       have:x=zc:=by simpa using q
       rw[this,S.own]at n4
       cases n4
     rw[List.lookup_cons,nz]
     exact br
    exact Yr n4
 ·rcases jI e with ⟨_,rfl⟩ |⟨_,e⟩
  ·exact⟨none,hz⟩
  ·obtain⟨v,z⟩:=I.cell x c (sub x c e)
   exact⟨v,z.keeps k⟩
 ·rcases jI e with ⟨_,rfl⟩ |⟨_,e⟩
  ·exact I.ak.fresh (by omega)
  ·exact I.h9 x c (sub x c e)
 ·show(cZ ts aF σ).length=N'.length
  unfold cZ
  rw[List.length_append,List.length_replicate,List.length_map,S.len]
theorem MQ {N':List Str}{scope:Scope}{zc:Str}{C D:Addr}{fp:List Addr}{af:St}{ys:List V}{pl:List (Addr×Obj)}{h':Heap}(I:Inv X pins σ H s) (hf:∀b∈fp,aP X pins H b) (hC:s.heap.objs.size≤C) (hD:s.heap.objs.size≤D) (ck:D≠C)
  (J:Inv (dE X N' scope zc C s H fp) pl af H' s') (n:H' D=none) (a:AccAt s'.heap D ys) (sb:Heap.SameBut C s'.heap h'):Inv X pins σ (upd H' D (.lst ys)) {s' with heap:=h'} :=by
 have bO:∀b o,s.heap.get? b=some o→b≠C:=fun b o e=>Nat.ne_of_lt (Nat.lt_of_lt_of_le (Heap.lt_size e) hC)
 have qJ:∀b o,s.heap.get? b=some o→b≠D:=fun b o e=>Nat.ne_of_lt (Nat.lt_of_lt_of_le (Heap.lt_size e) hD)
 have jJ:∀b o,H b=some o→b≠D:=fun b o e=>Nat.ne_of_lt (Nat.lt_of_lt_of_le (I.ak.lt e) hD)
 have fC:H' C=none:=J.free
 have u:Un (dQ X.stack) fp H H' s.heap s'.heap:=J.base
 refine I.wB (s':= {s' with heap:=h'}) (ch:=fp) J.os ⟨fun b o e nb hb hx=> (sb.2 b (bO b o e)).trans (u.keep b o e nb hb hx),fun b o e nb hb hx=> ?_,fun b o e nb hx=>by rw[Zg (qJ b o e)];exact u.free b o e nb hx,fun b o e hx=> ?_,
  fun b xs e=>by rw[Zg (jJ b _ e)];exact u.gE b xs e,fun b o xs e=>by rw[Zg (jJ b _ e)];exact u.gp b o xs e,fun b ps e=>by rw[Zg (jJ b _ e)];exact u.fV b ps e⟩ (fun b v e=> ?_) J.bare fun b hb=> ?_
 ·obtain⟨sl,q⟩:=u.slot b o e nb hb hx
  exact⟨sl,(sb.2 b (bO b o e)).trans q⟩
 ·obtain⟨o',q⟩:=u.there b o e hx
  exact⟨o',(sb.2 b (bO b o e)).trans q⟩
 ·by_cases hb:b=D
  ·subst hb
   rw[Zc]at e
   cases e
   obtain⟨z,aa,k,r,q⟩:=a
   exact⟨z,aa,k,r,(sb.2 b ck).trans q⟩
  ·rw[Zg hb]at e
   refine(J.ak b v e).bT (fun c w hc q=> (sb.2 c ?_).trans q) (fun c q=>by rw[Zg (Zd q n)];exact q) fun c xs q=>by rw[Zg (Zd q n)];exact q
   rcases hc with z |z
   ·rw[z];exact Zd e fC
   ·exact Zd z fC
 ·obtain⟨f0,f1,f2,f3,f4,f5⟩:=hf b hb
  exact⟨f3,f1,f4,f5⟩
theorem Oo {elt tg iter:Expr}{ifs:List Expr}{rest:List Comprehension}{scope:Scope}{zc:Str}{pos:Pos}{N':List Str}{ts:Nat}{aF:List Nat}{it:Addr}{fp:List Addr}{tn:Nat→Heap→Prop}{J:It}{g:TG}{tt:TT}{ti:TC}{Q:List V→Hp→Prop}{E:Value→Shared→Prop}{RR:Value→Addr→Result→Shared→Prop}
  (S:xU X N' ts aF scope zc) (hc:X.calm=true) (I:Inv X pins σ H s) (T:Turn X.prog X.w X.K tg J fp it tn) (st:tn 0 s.heap) (hf:∀b∈fp,aP X pins H b)
  (h2:∀g',(Comprehension.mk tg iter ifs 0::rest)[0+1]? =some g'→g'.is_async=0)
  (pg:∀C,PG (dE X N' scope zc C s H fp) tg g) (pt:∀C,gA (dE X N' scope zc C s H fp) ifs tt)
  (pi:∀C D,fE (dE X N' scope zc C s H fp) D (inner elt (⟨tg,iter,ifs,0⟩::rest) scope pos 0 (.ref D) (dE X N' scope zc C s H fp).env) ti)
  (h:eY g tt ti J [] (cZ ts aF σ) H fun ys _ H2=>Q ys H2)
  (oK:∀C D s' af H' ys fl,s.heap.objs.size≤C→s.heap.objs.size≤D→D≠C→Inv (dE X N' scope zc C s H fp) [] af H' s'→H' D=none→AccAt s'.heap D ys→Q ys H'→RR (.ref D) C (.ok fl) s'):
  wpAny (model X.prog X.w) X.A (newList []) (fun acc mT=>wpAny (model X.prog X.w) X.A (newFunctionEnv scope X.env.globals (dS scope X.env) [] X.env.qual none .none (some X.env)) (fun j0 mS=>
   codeAny (model X.prog X.w) X.A (.compStart (.ListComp elt (⟨tg,iter,ifs,0⟩::rest) scope pos) 0 (.ref it) acc {j0 with scope:=relabel scope X.env}) (RR acc j0.locals) mS) E mT) E s:=by
 refine wpAny_newObj_type (La S.one S.kind (fun dw g8 vq fh=> ?_))
 dsimp only at g8 vq fh ⊢
 generalize fq:s.heap.push {cls:=.type "list",dict:=none,data:=.seq ([]:List Value).toArray} =h0 at g8 vq fh ⊢
 have hC:h0.objs.size=s.heap.objs.size+1:=by rw[←fq,Heap.size_push]
 have ck:s.heap.objs.size≠h0.objs.size:=by rw[hC];exact Nat.ne_of_lt (Nat.lt_succ_self _)
 have hX:s.heap.objs.size≤h0.objs.size:=by rw[hC];exact Nat.le_succ _
 have bO:∀b o,s.heap.get? b=some o→b≠h0.objs.size:=fun b o e=>Nat.ne_of_lt (Nat.lt_of_lt_of_le (Heap.lt_size e) hX)
 have old:∀b o,s.heap.get? b=some o→dw.get? b=some o:=fun b o e=>fh b o (fq▸Heap.get?_push_of_some _ e)
 have je:dw.get? s.heap.objs.size=some {cls:=.type "list",data:=.seq ([]:List Value).toArray 0} :=fh _ _ (fq▸Heap.get?_push_size _ rfl)
 have ho:∀b∈fp,∃o,s.heap.get? b=some o:=fun b hb=>let ⟨o,e,_⟩:=T.obj _ _ st b hb;⟨o,e⟩
 have I1:Inv (dE X N' scope zc h0.objs.size s H fp) [] (cZ ts aF σ) H {s with heap:=dw,toks:=s.toks} :=L5 S I hf ho hX g8 old vq
 have fresh:=I.ak.fresh (a:=s.heap.objs.size) (Nat.le_refl _)
 have oQ:∀b∈fp,aP (dE X N' scope zc h0.objs.size s H fp) [] H b:=fun b hb=>by
  obtain⟨f0,f1,f2,f3,f4,f5⟩:=hf b hb
  refine⟨f0,(I1.ok.jW b hb).1,I1.ok.kP b hb,.inl hb,(I1.ok.jW b hb).2,fun p hp=>absurd (show p∈([]:List (Addr×Obj)) from hp) (by simp)⟩
 have fD:aP (dE X N' scope zc h0.objs.size s H fp) [] H s.heap.objs.size:=by
  refine⟨fresh,ck,fun z=> ?_,.inr (Nat.le_refl _),fun x c e z=> ?_,fun p hp=>absurd (show p∈([]:List (Addr×Obj)) from hp) (by simp)⟩
  ·obtain⟨_,o,eW,_⟩:=I.stack.mem z
   exact absurd (Heap.lt_size eW) (Nat.lt_irrefl _)
  ·rcases jI e with ⟨_,rfl⟩ |⟨_,e⟩
   ·exact absurd (show h0.objs.size+1=s.heap.objs.size from z) (by rw[hC];omega)
   obtain⟨e1,e2⟩:=Jl e
   obtain⟨c',br⟩:=I.ok.has x (S.free _ e2 rfl)
   obtain⟨v,q⟩:=I.cell x c' br
   rw[br]at e1
   have e3:c=c':=e1
   have l:=q.lt
   rw[←e3,z]at l
   exact absurd l (Nat.lt_irrefl _)
 have aD:AccAt dw s.heap.objs.size []:=⟨Nat.zero_le _,[],0,.nil,je⟩
 have oN:s.heap.objs.size∉fp:=fun z=>by obtain⟨o,e⟩:=ho _ z;exact absurd (Heap.lt_size e) (Nat.lt_irrefl _)
 have aw:tn 0 dw:=T.keep _ _ _ st fun b _ o e=>old b o e
 have run:=oV (elt:=elt) (gens:=⟨tg,iter,ifs,0⟩::rest) (scope:=scope) (pos:=pos) (d:=0) rfl T aw
  (oW (Y:=dE X N' scope zc h0.objs.size s H fp) (D:=s.heap.objs.size) (Q:=fun ys _ H2=>Q ys H2) (elt:=elt) (gens:=⟨tg,iter,ifs,0⟩::rest) (scope:=scope) (pos:=pos) (d:=0) rfl hc rfl T oQ aw oN h2 (pg _) (pt _) (pi _ _) I1 fD aD h)
 refine codeAny_mono run fun r s' hr=> ?_
 cases r with
 |error e=>exact hr.elim
 |ok fl=>
  obtain⟨aU,af,H',q1,q2,q3,q4⟩:=hr
  exact oK _ _ s' af H' aU fl hX (Nat.le_refl _) ck q1 q2.1 q3 q4
end
section
variable {X:Cx}{elt tg iter:Expr}{ifs:List Expr}{rest:List Comprehension}{scope:Scope}{pos:Pos}{wi:TI}{g:TG}{tt:TT}{ti:TC}
theorem Nk (zc:Str) (N':List Str) (ts:Nat) (aF:List Nat) (hi:PI X tg iter wi) (pg:∀C s H fp,PG (dE X N' scope zc C s H fp) tg g) (pt:∀C s H fp,gA (dE X N' scope zc C s H fp) ifs tt)
  (pi:∀C s H fp D,fE (dE X N' scope zc C s H fp) D (inner elt (⟨tg,iter,ifs,0⟩::rest) scope pos 0 (.ref D) (dE X N' scope zc C s H fp).env) ti)
  (ok:wz zc X.env.scope scope X.N N' ts aF=true:=by rfl) (hc:X.calm=true:=by rfl) (h2:∀g',(Comprehension.mk tg iter ifs 0::rest)[0+1]? =some g'→g'.is_async=0:=by(intro g' h;cases h<;>rfl))
  (hs:∀x,foldedSetIterable iter X.env x=pure x:=by intro _;rfl):
  PE X (.ListComp elt (⟨tg,iter,ifs,0⟩::rest) scope pos) (sY wi ts aF g tt ti):=by
 intro pins s σ H Q I h
 have S:=MR ok
 rw[eval_ListComp]
 refine wpAny_comprehension_free (use:=none) rfl hs (Yn fun y hy e=>I.ok.has _ (S.free y hy e)) S.kind S.names (av (hi pins s σ H _ I h) fun v s1 h1=>av h1 fun gQ s2 kM=> ?_)
 obtain⟨it,fp,tn,J,H2,e,I2,T,au,f2,q2⟩:=kM
 subst e
 refine Oo (RR:=fun acc C=>compPost (model X.prog X.w) X.A X.xe none _ acc C) S hc I2 T au f2 h2 (fun C=>pg C _ _ _) (fun C=>pt C _ _ _) (fun C D=>pi C _ _ _ D) q2 ?_
 intro C D s' af H' ys fl hC hD ck J' n a q
 obtain⟨m,hn,_⟩:=J'.loc
 exact⟨m,hn,fun h' sb=> ⟨.ref D,_,MQ I2 f2 hC hD ck J' n a sb,rfl,q D n⟩⟩
end
end L2
namespace L2
open PySem PySem.Spec PyProof.Rows SeqAt
def cH (A:Around) (s:Shared) (y x:Value) (b:Bool):Prop:=
 ∀(prog:Program) (w:World) (E:Value→Shared→Prop) (Q:Value→Shared→Prop),Q (.bool b) s→wpAny (model prog w) A (richCompare .Lt y x) Q E s
inductive mM (A:Around) (s:Shared):List Value→List Value→Bool→Prop where
 |nn:mM A s [] [] false
 |nc {y:Value}{ys:List Value} :mM A s [] (y::ys) true
 |cn {x:Value}{xs:List Value} :mM A s (x::xs) [] false
 |eq {x y:Value}{xs ys:List Value}{r:Bool} :EqAt A s x y true→mM A s xs ys r→mM A s (x::xs) (y::ys) r
 |lt {x y:Value}{xs ys:List Value}{r:Bool} :EqAt A s x y false→cH A s x y r→mM A s (x::xs) (y::ys) r
section
open PySem.AutoSeq1 (wpAny_loadPart')
open PySem.MeetsSeq PySem.MeetsSeq2 PySem.MeetsSeq3 PySem.SeqRoads2
end
end L2
namespace L2
open PySem PySem.Spec PyProof.Rows
theorem src_list (prog:Program) (w:World) {i l:Addr}(aa:Array Value) (cf:l≠i):Src prog w i l aa.size (fun k=>aa.getD k .none) (fun k h=>h.IsListIter i l k∧h.IsList l aa) where
 here:=fun k h ⟨⟨o,ho,_⟩,_⟩=> ⟨o,ho⟩
 bT:=fun k h h' ⟨a,b⟩ st=> ⟨a.at fun o q=>st i (.inl rfl) o q,b.at fun o q=>st l (.inr rfl) o q⟩
 item:=fun A k s Q E hk ⟨hi,ht⟩ q=>wpAny_nextOf_list_item hi ht (show aa[k]? =some (aa.getD k .none) by simp[hk]) fun h' a b=>q h' ⟨a,ht.extBut b.extBut cf⟩ b
 stop:=fun A s Q E hh ⟨hi,ht⟩ q=>wpAny_nextOf_list_end hh hi ht (by simp) fun h' e a b=>q h' e a b
end L2
namespace L2
open PySem PySem.Spec PyProof.Rows PyProof.Rows.de SeqAt
end L2
namespace HS
open PySem PySem.SetTable PySem.Spec
theorem L9 {t:SetTable}{es:Array (Int×Value)}{h:Int}{x:Value}(T:T0 t es) (R:gw t.mask es.size):
  ∃cY t1,layNew t es h x=(cY,t1,false,false)∧T0 t1 cY∧t1.mask=t.mask∧t1.plain=t.plain∧t1.led=t.led∧cY.size=es.size+1:=by
 have ay:=R.lt
 obtain⟨f,hf,nf⟩:=T.free (by omega)
 obtain⟨n,hn,h1,h2⟩:=Oz R.zi h hf nf
 have fs:t.freeSlot h=some ((it t.mask (st t.mask h) n).j,false):=by
  unfold SetTable.freeSlot
  rcases Bz (t:=t) (hashAt:=fun _=>h+1) (h:=h) T.kh T.oT n (10*turns t.mask) (st t.mask h) rfl hn h1 h2 with ⟨g1,_⟩ |⟨k,i,_,_,g3,_⟩
  ·have g:t.probe (fun _=>h+1) h (t.probeStart h)=some (.empty (it t.mask (st t.mask h) n).j none):=g1
   rw[g]
   rfl
  ·exact absurd g3 (by omega)
 have T1:=T.put (x:=x) h1 h2 t.plain
 have e1:({(t.put (it t.mask (st t.mask h) n).j).1 with plain:=t.plain} :SetTable)=(t.put (it t.mask (st t.mask h) n).j).1:=rfl
 rw[e1]at T1
 have hz:(insertAt es (t.put (it t.mask (st t.mask h) n).j).2 (h,x)).size=es.size+1:=by
  rw[←Array.length_toList,(insertAt_perm es _ (h,x)).length_eq,Array.length_toList,Array.size_push]
 have fits:=T1.fits (by rw[hz];show es.size+1≤t.mask;omega)
 refine⟨_,_,?_,T1,rfl,rfl,rfl,hz⟩
 unfold layNew
 rw[fs]
 dsimp only
 unfold SetTable.orStandIn
 rw[if_pos fits,fits]
 rfl
theorem Mh {t:SetTable}{es:Array (Int×Value)}{wanted:Nat}(hm:gB (sizeAbove wanted - 1)) (hl:es.size≤sizeAbove wanted - 1):
  ∃cY t1,relayAll t es wanted=(cY,t1,false)∧T0 t1 cY∧t1.mask=sizeAbove wanted - 1∧t1.plain=t.plain∧t1.led=t.led∧cY.size=es.size:=by
 generalize hM:sizeAbove wanted - 1=m at hm hl
 obtain⟨t1,order,e,e2,T,perm⟩:=Nb hm es (Nat.le_succ_of_le hl) t.finger (t.movedTo m) t.led t.plain
 have L0:ik m [] (Array.replicate (m+1) none):=by
  refine⟨Array.size_replicate ..,fun j k h=> ?_,fun k h hk=>by simp at hk,fun j j' k h=> ?_⟩<;>
  ·rw[Array.getElem?_replicate]at h
   split at h<;>cases h
 obtain⟨owner,f1,L⟩:=Wd hm (es.map (·.1)).toList [] _ L0 (by simp;omega)
 rw[List.nil_append]at f1 L
 have f2:layClean m (es.map (·.1))=some owner:=by
  rw[Wj]
  have fv:List.foldl (lU m) (some (Array.replicate (m+1) none,0)) (es.map (·.1)).toList=_:=f1
  rw[fv]
  rfl
 have e':=e
 unfold laid at e'
 rw[f2]at e'
 injection e' with e'
 injection e' with g1 g2
 have hp:order.toList.Perm (List.range es.size):=by
  rw[←g2]
  have:=Wa L
  rw[show((es.map (·.1)).toList).length=es.size by simp]at this
  exact this
 have hz:(order.filterMap (es[·]?)).size=es.size:=by
  have:=perm.length_eq
  rw[Array.length_toList,Array.length_toList]at this
  exact this
 have fits:t1.fits (order.filterMap (es[·]?)).size=true:=T.fits (by rw[hz,e2];exact hl)
 refine⟨order.filterMap (es[·]?),t1,?_,T,e2,by rw[←g1],by rw[←g1],hz⟩
 unfold relayAll SetTable.relaid
 rw[hM,e]
 dsimp only
 have cv:coversAll order es.size=true:=by
  unfold coversAll
  exact List.isPerm_iff.mpr hp
 rw[cv,fits]
 rfl
structure fP (prog:Program) (w:World) (h:Heap) (S:Addr) (ns:List Int) (o:Obj) (es:Array (Int×Value)) (ep:Nat) (t:SetTable):Prop where
 ho:h.get? S=some o
 ex:o.ExactSet
 hd:o.data=.set es ep t
 T:T0 t es
 R:gw t.mask es.size
 pl:t.plain=true
 ld:t.led= !(w.params.followText "set-order")
 el:ElemsOf (intKind prog w) es.toList
 vs:PyProof.Rows.IntsAre (es.toList.map (·.2)) ns
def fS (prog:Program) (w:World) (h:Heap) (S:Addr) (m:Int→Prop) (c:Nat):Prop:=∃ns o es ep t,fP prog w h S ns o es ep t∧ns.Nodup∧ns.length≤c∧∀k,k∈ns↔m k
theorem Wb {us yc:List Value}(p:yc.Perm us):∀{ns:List Int},PyProof.Rows.IntsAre us ns→∃bE,PyProof.Rows.IntsAre yc bE∧bE.Perm ns:=by
 have p':=p.symm
 clear p
 induction p' with
 |nil=>intro ns h;exact⟨ns,h,.refl _⟩
 |cons x _ ih=>
  intro ns h
  cases h with
  |cons a t h=>
   obtain⟨bE,h1,h2⟩:=ih h
   exact⟨a::bE,.cons a t h1,h2.cons a⟩
 |swap x y l=>
  intro ns h
  cases h with
  |cons a t h=>
   cases h with
   |cons b u h=>exact⟨b::a::_,.cons b u (.cons a t h),.swap _ _ _⟩
 |trans _ _ Gg Gf=>
  intro ns h
  obtain⟨n1,a1,a2⟩:=Gg h
  obtain⟨n2,b1,b2⟩:=Gf a1
  exact⟨n2,b1,b2.trans a2⟩
theorem UT:∀{us:List Value}{ns:List Int}{k:Int}{t:Tok},PyProof.Rows.IntsAre us ns→PyProof.Rows.IntsAre (us++[.int k t]) (ns++[k])
 |_,_,k,t,.nil=> .cons k t .nil
 |_,_,k,t,.cons a u h=> .cons a u (UT h)
theorem Ua:∀{us:List Value}{ns:List Int}{k:Int},PyProof.Rows.IntsAre us ns→(k∈ns↔∃u∈us,Value.isInt k u=true)
 |_,_,k,.nil=>by simp
 |_,_,k,.cons a t h=>by
  rw[List.mem_cons,Ua h]
  simp only[List.mem_cons,exists_eq_or_imp]
  refine or_congr ?_ Iff.rfl
  show k=a↔(a==k)=true
  rw[beq_iff_eq]
  exact eq_comm
section
variable {prog:Program}{w:World}{A:Around}{E:Value→Shared→Prop}{s:Shared}
theorem Ms {S:Addr}{k:Int}{tk:Tok}{m:Int→Prop}{c:Nat}{Q:Bool→Shared→Prop}(H:fS prog w s.heap S m c) (hc:c+1≤305)
  (h:∀h' b,Heap.SameBut S s.heap h'→fS prog w h' S (fun j=>m j∨j=k) (c+1)→Q b {s with heap:=h'}):
  wpAny (model prog w) A (setAddHashed S (.int k tk) (hashInt k)) Q E s:=by
 obtain⟨ns,o,es,ep,t,X,nd,hl,hm⟩:=H
 have hsz:es.size=ns.length:=by
  have:=X.vs.length
  rw[List.length_map,Array.length_toList]at this
  exact this
 have rb:(intKind prog w).is k (.int k tk)=true:=by show Value.isInt k (.int k tk)=true;simp[Value.isInt]
 have hb:es.size<scanBound:=by have:scanBound=4096:=rfl;omega
 have hf:t.fits es.size=true:=X.T.fits (by have:=X.R.lt;omega)
 unfold setAddHashed setAddHashedIn
 refine wpAny_holding (wpAny_bind (wpAny_setState_of X.ho X.hd hf ?_))
 dsimp only
 rw[byScan_of rfl hb X.el]
 simp only[↓reduceIte]
 unfold setAddByScan
 refine wpAny_bind ?_
 refine wpAny_bind (wpAny_rule ?_)
 refine wpAny_bind (wpAny_setScan_of rb X.ho X.hd hf X.el ?_)
 have zo:∀{l:List (Int×Value)}{j:Int},(∃u∈l.map (·.2),Value.isInt j u=true)↔∃e∈l,(intKind prog w).is j e.2=true:=fun {l j} =>by
  simp only[List.mem_map]
  constructor
  ·rintro⟨u,⟨e,he,rfl⟩,q⟩;exact⟨e,he,q⟩
  ·rintro⟨e,he,q⟩;exact⟨_,⟨e,he,rfl⟩,q⟩
 cases hr:List.findIdx? (fun e=> (intKind prog w).is k e.2) es.toList with
 |some j=>
  dsimp only
  obtain⟨hj,G4,_⟩:=List.findIdx?_eq_some_iff_getElem.mp hr
  have hk:k∈ns:=(Ua X.vs).mpr (zo.mpr ⟨es.toList[j],List.getElem_mem hj,G4⟩)
  refine wpAny_pure (wpAny_pure ?_)
  have e:s= {s with heap:=s.heap} :=by cases s;rfl
  rw[e]
  refine h s.heap _ (Heap.SameBut.refl S s.heap) ⟨ns,o,es,ep,t,X,nd,by omega,fun i=> ?_⟩
  rw[hm i]
  exact⟨.inl,fun z=>z.elim id fun e=>by rw[e];exact(hm k).mp hk⟩
 |none=>
  dsimp only
  have hk:k∉ns:=fun hk=>by
   obtain⟨e,he,hp⟩:=zo.mp ((Ua X.vs).mp hk)
   have:=List.findIdx?_eq_none_iff.mp hr e he
   rw[hp]at this
   exact Bool.noConfusion this
  have l3:=layNew_perm t es (hashInt k) (.int k tk)
  obtain⟨cY,t1,eL,T1,m1,p1,l1,z1⟩:=L9 (h:=hashInt k) (x:=.int k tk) X.T X.R
  rw[eL]
  rw[eL,Array.toList_push]at l3
  dsimp only at l3 ⊢
  refine wpAny_bind (show wpAny _ _ (match false with |true=>rule "set.scan.the-table-gave-way" |false=>pure ()) _ _ _ from wpAny_pure ?_)
  rw[if_pos (p1.trans X.pl),hashByValue_scannable 8 rfl]
  refine wpAny_bind (wpAny_pure ?_)
  have ek:plainKind (Value.int k tk)=true:=rfl
  simp only[ek,if_true]
  show wpAny _ _ (storeSet S cY t1 >>=_) _ _ _
  obtain⟨qG,i1,q1⟩:=Wb (l3.map (·.2)) (by rw[List.map_append];exact UT X.vs)
  have AL:ElemsOf (intKind prog w) cY.toList:=(X.el.push rb rfl).perm l3
  have b1:cY.size<scanBound:=by have:scanBound=4096:=rfl;omega
  have zh:qG.Nodup:=q1.nodup_iff.mpr (by rw[List.nodup_append];exact⟨nd,by simp,fun a ha b hb=>by rw[List.mem_singleton.mp hb];exact fun z=>hk (z▸ha)⟩)
  have cg:qG.length≤c+1:=by rw[q1.length_eq,List.length_append];simp;omega
  have q0:∀j,j∈qG↔(m j∨j=k):=fun j=>by rw[q1.mem_iff,List.mem_append,hm j,List.mem_singleton]
  refine wpAny_bind (wpAny_storeSet_of X.ho X.hd ?_ (fits_of_scanBound b1))
  have i9:=Co X.ho X.hd cY t1
  have yF:=Heap.SameBut.update s.heap S (Obj.putSet cY t1)
  rcases grow X.R (by omega) with ⟨g1,g2,g3⟩ |⟨g1,g2⟩
  ·have tf:t1.tooFull=true:=by
    unfold SetTable.tooFull SetTable.fill
    rw[T1.oT,T1.sz,z1,m1]
    simpa using g1
   show wpAny _ _ (if (!false&&t1.tooFull)=true then _ else _) _ _ _
   rw[tf]
   simp only[Bool.not_false,Bool.and_self,if_true]
   have QD:=g2.lt
   obtain⟨wq,t2,eR,T2,m2,p2,l2,z2⟩:=Mh (t:=t1) (es:=cY) (wanted:=SetTable.grown cY.size) (by rw[z1];exact g2.zi) (by rw[z1];omega)
   have qZ:=relayAll_perm t1 cY (SetTable.grown cY.size)
   rw[eR]at qZ
   rw[eR]
   dsimp only at qZ ⊢
   refine wpAny_bind (show wpAny _ _ (match false with |true=>rule "set.scan.the-table-gave-way" |false=>pure ()) _ _ _ from wpAny_pure ?_)
   have b2:wq.size<scanBound:=by rw[z2];exact b1
   refine wpAny_bind (wpAny_storeSet_of i9 rfl ?_ (fits_of_scanBound b2))
   obtain⟨uX,i2,q2⟩:=Wb (qZ.map (·.2)) i1
   refine wpAny_pure (wpAny_pure (h _ _ (yF.trans (Heap.SameBut.update _ S _)) ⟨uX,_,wq,_,t2,⟨Co i9 rfl wq t2,X.ex,rfl,T2,by rw[m2,z2,z1];exact g2,p2.trans (p1.trans X.pl),l2.trans (l1.trans X.ld),AL.perm qZ,i2⟩,q2.nodup_iff.mpr zh,by rw[q2.length_eq];exact cg,fun j=>by rw[q2.mem_iff,q0 j]⟩))
  ·have tf:t1.tooFull=false:=by
    unfold SetTable.tooFull SetTable.fill
    rw[T1.oT,T1.sz,z1,m1]
    simpa using g1
   show wpAny _ _ (if (!false&&t1.tooFull)=true then _ else _) _ _ _
   rw[tf]
   simp only[Bool.not_false,Bool.and_false,Bool.false_eq_true,if_false]
   exact wpAny_pure (wpAny_pure (h _ _ yF ⟨qG,_,cY,_,t1,⟨i9,X.ex,rfl,T1,by rw[m1,z1];exact g2,p1.trans X.pl,l1.trans X.ld,AL,i1⟩,zh,cg,q0⟩))
end
theorem fS.iff {prog:Program}{w:World}{h:Heap}{S:Addr}{m m':Int→Prop}{c:Nat}(x:fS prog w h S m c) (e:∀k,m k↔m' k):fS prog w h S m' c:=by
 obtain⟨ns,o,es,ep,t,X,nd,hl,hm⟩:=x
 exact⟨ns,o,es,ep,t,X,nd,hl,fun k=> (hm k).trans (e k)⟩
section
variable {prog:Program}{w:World}{A:Around}{E:Value→Shared→Prop}{s:Shared}
theorem IA {h:Heap}{S:Addr}{led:Bool}(hl:(!(w.params.followText "set-order"))=led) (g:h.get? S=some (qI led)):fS prog w h S (fun k=> ∃j<0,k=(fun _:Nat=> (0:Int)) j) 0:=by
 refine⟨[],_, #[],0,_,⟨g,⟨rfl,rfl,rfl⟩,rfl,⟨rfl,.nil,rfl,fun j hj=> ?_,fun z hz=> ?_⟩,.inl ⟨rfl,Nat.zero_le _⟩,rfl,hl.symm,fun e he=> ?_,.nil⟩,.nil,Nat.le_refl _,fun k=> ?_⟩
 ·exact absurd hj (by simp[SetTable.fresh])
 ·exact absurd hz (by simp[SetTable.fresh])
 ·exact absurd he (by simp)
 ·simp
end
theorem BP {α:Type}(nx:Nat→Nat):∀(fuel k:Nat) (left:List α) (out:Array α),left.length≤fuel→(pickOrder.go nx fuel k left out).toList.Perm (out.toList++left)
 |0,k,left,out,h=>by
  have:left=[]:=List.eq_nil_of_length_eq_zero (Nat.le_zero.mp h)
  subst this
  show out.toList.Perm (out.toList++[])
  rw[List.append_nil]
 |fuel+1,k,left,out,h=>by
  unfold pickOrder.go
  cases left with
  |nil=>simp
  |cons y ys=>
   have ay:nx k%(y::ys).length< (y::ys).length:=Nat.mod_lt _ (by simp)
   rw[List.getElem?_eq_getElem ay]
   dsimp only
   refine(BP nx fuel (k+1) _ _ (by rw[List.length_eraseIdx_of_lt ay];omega)).trans ?_
   rw[Array.toList_push,List.append_assoc]
   refine List.Perm.append_left _ ?_
   generalize nx k%(y::ys).length=j at ay
   generalize (y::ys)=l at ay
   clear h
   induction l generalizing j with
   |nil=>simp at ay
   |cons a l ih=>
    cases j with
    |zero=>simp
    |succ j=>
     simp only[List.getElem_cons_succ,List.eraseIdx_cons_succ]
     exact(List.Perm.swap _ _ _).trans (List.Perm.cons a (ih j (by simpa using ay)))
theorem NN {α:Type}(nx:Nat→Nat) (xs:Array α):(pickOrder nx xs).toList.Perm xs.toList:=by
 have:=BP nx xs.size 0 xs.toList #[] (by simp)
 rw[List.nil_append]at this
 exact this
def gM (w:World) (S:Addr) (es:Array (Int×Value)) (ep:Nat):Array (Int×Value):=if w.params.followText "set-order" =true then pickOrder (w.params.setOrder S ep) es else es
theorem CC (w:World) (S:Addr) (es:Array (Int×Value)) (ep:Nat):(gM w S es ep).toList.Perm es.toList:=by
 unfold gM
 split
 ·exact NN _ _
 ·exact .refl _
def iW (w:World) (t:SetTable):Nat→Nat
 |0=>0
 |i+1=>if w.params.followText "set-order" =true then 0 else t.place.getD i 0+1
abbrev gf (w:World) (S:Addr) (t:SetTable) (n ep i:Nat):Obj:= {cls:=.type "set_iterator",data:=.fields #[rawInt (iW w t i),rawInt i,.ref S,rawInt n,rawInt ep]}
theorem ZN:Slot "set_iterator" "__next__" "set_iterator.__next__" :=
 .of (owner:= "set_iterator") (n:= "__next__") (by rw[typeLookup_type,builtinLookup_eq_fast];kernel_rfl) (by decide+kernel) (by decide+kernel) (by decide+kernel)
  (by first |exact .inl (by decide+kernel) |exact .inr (by decide+kernel)) (by rw[isSubtype_type];kernel_rfl)
theorem Y1:entryFor table "set_iterator.__next__" =some Builtin.«set_iterator.__next__» :=entryFor_of_tree (by kernel_rfl)
theorem Y9 (a:Value):argsOk "set_iterator.__next__" ⟨[a],[]⟩:=by unfold argsOk;kernel_rfl
theorem Wo:entryFor table "set.__iter__" =some Builtin.«frozenset.__iter__» :=
 entryFor_alias (id':= "frozenset.__iter__") (by kernel_rfl) rfl (by decide+kernel) (by kernel_rfl)
section
variable {prog:Program}{w:World}{A:Around}{E:Value→Shared→Prop}{s:Shared}{S it:Addr}{ns:List Int}{o:Obj}{es:Array (Int×Value)}{ep:Nat}{t:SetTable}
theorem fP.fits (X:fP prog w s.heap S ns o es ep t):t.fits es.size=true:=X.T.fits (by have:=X.R.lt;omega)
theorem CJ (hb:w.params.followText "set-order" =true) (t:SetTable):∀i,iW w t i=0
 |0=>rfl
 |i+1=>if_pos hb
theorem CK (hb:¬w.params.followText "set-order" =true) (t:SetTable) (i:Nat):iW w t (i+1)=t.place.getD i 0+1:=if_neg hb
theorem O3 {i:Nat}(hb:¬w.params.followText "set-order" =true) (X:fP prog w s.heap S ns o es ep t) (hi:i≤es.size):below t.place (iW w t i)=i:=by
 have hz:=X.T.sz
 cases i with
 |zero=>
  show below t.place 0=0
  obtain⟨b1,b2,b3⟩:=YJ (xs:=t.place) (j:=0) X.T.kh
  rcases Nat.eq_zero_or_pos (below t.place 0) with z |z
  ·exact z
  ·have:=b2 0 (by omega) z
   omega
 |succ i=>
  rw[CK hb]
  have aW:i<t.place.size:=by omega
  have e:t.place.getD i 0=t.place[i]:=by simp[aW]
  rw[e]
  obtain⟨b1,b2,b3⟩:=YJ (xs:=t.place) (j:=t.place[i]+1) X.T.kh
  have k1:i<below t.place (t.place[i]+1):=by
   rcases Nat.lt_or_ge i (below t.place (t.place[i]+1)) with z |z
   ·exact z
   ·have:=b3 i aW z;omega
  have k2:below t.place (t.place[i]+1)≤i+1:=by
   rcases Nat.lt_or_ge (i+1) (below t.place (t.place[i]+1)) with z |z
   ·have Ay:i+1<t.place.size:=by omega
    have h1:=b2 (i+1) Ay z
    have h2:=wZ X.T.kh aW Ay (Nat.lt_succ_self i)
    omega
   ·exact z
  omega
theorem Oj {i:Nat}{Q:Option (Value×Nat)→Shared→Prop}(X:fP prog w s.heap S ns o es ep t) (hi:i≤es.size)
  (h1:∀e,(gM w S es ep)[i]? =some e→Q (some (e.2,iW w t (i+1))) s) (h2:(gM w S es ep)[i]? =none→Q none s):
  wpAny (model prog w) A (setNext S (iW w t i) i ep) Q E s:=by
 unfold setNext setsByText
 refine wpAny_bind (wpAny_setState_of X.ho X.hd X.fits ?_)
 dsimp only
 refine wpAny_bind (wpAny_bind (wpAny_askSetting (wpAny_pure ?_)))
 show wpAny _ _ (if w.params.followText "set-order" =true then _ else _) _ _ _
 unfold gM at h1 h2
 by_cases hb:w.params.followText "set-order" =true
 ·rw[if_pos hb]at h1 h2 ⊢
  rw[CJ hb]
  rw[CJ hb]at h1
  simp only[bne_self_eq_false,Bool.false_eq_true,if_false]
  unfold setWalk setsByText
  refine wpAny_bind (wpAny_bind (wpAny_setState_of X.ho X.hd X.fits ?_))
  dsimp only
  refine wpAny_bind (wpAny_bind (wpAny_askSetting (wpAny_pure ?_)))
  show wpAny _ _ (if w.params.followText "set-order" =true then _ else _) _ _ _
  rw[if_pos hb]
  refine wpAny_bind (wpAny_askSetting (wpAny_pure ?_))
  refine wpAny_pure ?_
  show Q (((pickOrder (w.params.setOrder S ep) es)[i]?).map fun e=> (e.2,0)) s
  cases hx:(pickOrder (w.params.setOrder S ep) es)[i]? with
  |none=>exact h2 hx
  |some e=>exact h1 e hx
 ·rw[if_neg hb]at h1 h2 ⊢
  have Hq:t.led=true:=by rw[X.ld];simpa using hb
  refine wpAny_ite_split (fun hc=>absurd hc ?_) (fun _=> ?_)
  ·show ¬((!t.plain&&decide (es.size>1))=true)
   rw[X.pl];simp
  refine wpAny_bind ?_
  show wpAny _ _ (if (!t.led&& !es.isEmpty)=true then _ else _) _ _ _
  rw[Hq]
  simp only[Bool.not_true,Bool.false_and,Bool.false_eq_true,if_false]
  refine wpAny_pure ?_
  refine wpAny_pure ?_
  rw[O3 hb X hi]
  rw[CK hb]at h1
  have hz:=X.T.sz
  cases hx:es[i]? with
  |none=>exact h2 hx
  |some e=>
   have ay:i<es.size:=(Array.getElem?_eq_some_iff.mp hx).1
   have hp:t.place[i]? =some (t.place.getD i 0):=by simp[hz,ay]
   rw[hp]
   exact h1 e hx
theorem M4 {Q:Value→Shared→Prop}(X:fP prog w s.heap S ns o es ep t) (h:Q (.ref s.heap.objs.size) {s with heap:=s.heap.push (gf w S t es.size ep 0)}):wpAny (model prog w) A (pyIter (.ref S)) Q E s:=by
 have hT:s.TypeIs (.ref S) "set" :=⟨o,X.ho,X.ex.1⟩
 refine wpAny_pyIter_slot hT F.slot_set_iter (wpAny_call_entry F.slot_set_iter hT Wo ?_ (F.args_set_iter_1 _))
 unfold Builtin.«frozenset.__iter__» Builtin.Frozenset.slot0 slotArgs
 simp only[List.isEmpty_nil,Bool.not_true,Bool.false_eq_true, ↓reduceIte,bind_assoc,List.length_nil,bne_self_eq_false]
 unfold Builtin.Frozenset.addrOf Builtin.Frozenset.sizeOf
 refine wpAny_bind (wpAny_pure ?_)
 try dsimp only
 refine wpAny_bind (wpAny_pure ?_)
 refine wpAny_bind (wpAny_bind (wpAny_setEntries_of X.ho X.hd X.fits (wpAny_pure ?_)))
 unfold setDrawn setsByText
 refine wpAny_bind (wpAny_bind (wpAny_setState_of X.ho X.hd X.fits ?_))
 dsimp only
 refine wpAny_bind (wpAny_bind (wpAny_askSetting (wpAny_pure ?_)))
 refine wpAny_pure ?_
 refine wpAny_ite_split (fun hc=>absurd hc ?_) (fun _=> ?_)
 ·show ¬((!(w.params.followText "set-order")&&(!t.plain&&decide (es.size>1)))=true)
  rw[X.pl]
  simp
 refine wpAny_bind (wpAny_pure ?_)
 unfold setEpoch
 refine wpAny_bind (wpAny_bind (wpAny_setState_of X.ho X.hd X.fits (wpAny_pure ?_)))
 exact wpAny_bind (wpAny_newObj_type (wpAny_pure ⟨_,rfl, "set_iterator",_,⟨_,Heap.get?_push_size _ rfl,rfl⟩,ZN.lookup,h⟩))
def rV (prog:Program) (w:World) (S it:Addr) (ns:List Int) (o:Obj) (es:Array (Int×Value)) (ep:Nat) (t:SetTable) (i:Nat) (s:Shared):Prop:=fP prog w s.heap S ns o es ep t∧s.heap.get? it=some (gf w S t es.size ep i)
theorem fP.keep {h h':Heap}(X:fP prog w h S ns o es ep t) (k:∀o,h.get? S=some o→h'.get? S=some o):fP prog w h' S ns o es ep t:=⟨k _ X.ho,X.ex,X.hd,X.T,X.R,X.pl,X.ld,X.el,X.vs⟩
theorem WM (w:World) (S:Addr) (es:Array (Int×Value)) (ep:Nat):(gM w S es ep).size=es.size:=by
 have:=(CC w S es ep).length_eq
 rw[Array.length_toList,Array.length_toList]at this
 exact this
theorem WQ {i:Nat}{Q:PySem.Fin→Shared→Prop}(hi:i≤es.size) (h:rV prog w S it ns o es ep t i s) (ne:S≠it)
  (h1:∀e h',(gM w S es ep)[i]? =some e→Heap.SameBut it s.heap h'→rV prog w S it ns o es ep t (i+1) {s with heap:=h'}→Q (.done (.ret e.2)) {s with heap:=h'})
  (h2:∀h',(gM w S es ep)[i]? =none→Heap.SameBut it s.heap h'→wpAny (model prog w) A (do raiseNew (←newExc (.type "StopIteration") [])) Q E {s with heap:=h'}):
  wpAny (model prog w) A (Builtin.«set_iterator.__next__» ⟨[.ref it],[]⟩) Q E s:=by
 obtain⟨X,hit⟩:=h
 unfold Builtin.«set_iterator.__next__» slotArgs
 simp only[List.isEmpty_nil,Bool.not_true,Bool.false_eq_true, ↓reduceIte,bind_assoc,List.length_nil,bne_self_eq_false]
 refine wpAny_bind (wpAny_pure ?_)
 refine wpAny_bind (wpAny_fieldsOf hit rfl ?_)
 dsimp only
 refine wpAny_bind (wpAny_setEntries_of X.ho X.hd X.fits ?_)
 show wpAny _ _ (if (((es.size:Nat):Int) !=((es.size:Nat):Int))=true then _ else _) _ _ _
 rw[bne_self_eq_false,if_neg Bool.false_ne_true]
 show wpAny _ _ (setNext S ((iW w t i:Nat):Int).toNat ((i:Nat):Int).toNat ((ep:Nat):Int).toNat >>=_) _ _ _
 rw[Int.toNat_natCast,Int.toNat_natCast,Int.toNat_natCast]
 refine wpAny_bind (Oj X hi (fun e he=> ?_) (fun he=> ?_))
 ·dsimp only
  refine wpAny_bind (wpAny_setField hit rfl (by simp) ?_)
  have g1:(s.heap.update it (Obj.mapFields (·.setIfInBounds 0 (rawInt (iW w t (i+1)))))).get? it=some _:=Heap.get?_update_self _ hit (Obj.isFreed_of_fields (Obj.data_mapFields rfl _))
  refine wpAny_bind (wpAny_setField g1 (Obj.data_mapFields rfl _) (by simp) ?_)
  have g2:=Heap.get?_update_self (Obj.mapFields (·.setIfInBounds 1 (rawInt ((i:Int)+1)))) g1 (Obj.isFreed_of_fields (Obj.data_mapFields (Obj.data_mapFields rfl _) _))
  have sb:=(Heap.SameBut.update s.heap it (Obj.mapFields (·.setIfInBounds 0 (rawInt (iW w t (i+1)))))).trans (Heap.SameBut.update _ it (Obj.mapFields (·.setIfInBounds 1 (rawInt ((i:Int)+1)))))
  refine wpAny_pure (h1 e _ he sb ⟨X.keep fun o' e'=> (sb.2 S ne).trans e',?_⟩)
  exact g2
 ·dsimp only
  refine wpAny_bind (wpAny_setField hit rfl (by simp) ?_)
  exact h2 _ he (Heap.SameBut.update ..)
end
end HS
namespace HS
open PySem PySem.SetTable PySem.Spec L2
theorem Y7:Slot "set_iterator" "__iter__" "set_iterator.__iter__" :=
 .of (owner:= "set_iterator") (n:= "__iter__") (by rw[typeLookup_type,builtinLookup_eq_fast];kernel_rfl) (by decide+kernel) (by decide+kernel) (by decide+kernel)
  (by first |exact .inl (by decide+kernel) |exact .inr (by decide+kernel)) (by rw[isSubtype_type];kernel_rfl)
theorem Wf:entryFor table "set_iterator.__iter__" =some Builtin.«dict_keyiterator.__iter__» :=
 entryFor_alias (id':= "dict_keyiterator.__iter__") (by kernel_rfl) rfl (by decide+kernel) (by kernel_rfl)
theorem Wp (a:Value):argsOk "set_iterator.__iter__" ⟨[a],[]⟩:=by unfold argsOk;kernel_rfl
theorem OY:typeLookup (.type "set") "__len__" =pure (some (.builtin "set.__len__")):=by rw[typeLookup_type,builtinLookup_eq_fast];kernel_rfl
section
variable {prog:Program}{w:World}{A:Around}{E:Value→Shared→Prop}{s:Shared}{S it:Addr}{ns:List Int}{o:Obj}{es:Array (Int×Value)}{ep:Nat}{t:SetTable}
theorem OM {Q:PySem.Fin→Shared→Prop}(hh:A.handled=none) (q:∀h' e,(∀b o,s.heap.get? b=some o→h'.get? b=some o)→(∃o,h'.get? e=some o∧o.cls=.type "StopIteration")→E (.ref e) {s with heap:=h'}):
  wpAny (model prog w) A (do raiseNew (←newExc (.type "StopIteration") [])) Q E s:=by
 refine wpAny_bind ?_
 simp only[newExc,newTuple]
 refine wpAny_bind (wpAny_newObj_type ?_ (by size_fits))
 refine wpAny_bind (m:=firstArgMember _ _) (wpAny_of_eq (a:=Value.none) (by first |rfl |(simp only[firstArgMember];rfl)) ?_)
 refine wpAny_newObj_type ?_ (by size_fits)
 simp only[raiseNew]
 refine wpAny_bind (wpAny_handled ?_)
 rw[hh]
 refine wpAny_bind (wpAny_pure (wpAny_throw ?_))
 exact q _ _ (fun b o e=>Heap.get?_push_of_some _ (Heap.get?_push_of_some _ e)) ⟨_,Heap.get?_push_size _ rfl,rfl⟩
theorem Df (hh:A.handled=none) (ne:S≠it):WalksS prog w A it [it,S] [it] (fun a b=>b=a) es.size (fun i v=> ∃e,(gM w S es ep)[i]? =some e∧v=e.2) (rV prog w S it ns o es ep t) where
 sub:=fun b hb=>by rw[List.mem_singleton.mp hb];simp
 grefl:=fun _=>rfl
 gtrans:=fun _ _ _ h1 h2=>h2.trans h1
 frame:=fun i s h' tk st _ k=> ⟨st.1.keep fun o e=>k S (by simp) o e,k it (by simp) _ st.2⟩
 item:=fun i s Q E hi st q=>by
  have hT:s.TypeIs (.ref it) "set_iterator" :=⟨_,st.2,rfl⟩
  unfold pyNext
  refine wpAny_bind (wpAny_attempt (wpAny_callSpecial?_slot (name:=Str.ofString "__next__") hT ZN (wpAny_call_entry ZN hT Y1 (WQ (A:=A.in1) (Nat.le_of_lt hi) st ne (fun e h' he sb ab=> ⟨_,rfl,wpAny_pure ?_⟩) (fun h' he _=> ?_)) (Y9 _))))
  ·exact q e.2 _ ⟨e,he,rfl⟩ ab ⟨fun b o hb eb=> (sb.2 b (fun z=>hb (by rw[z];exact List.mem_singleton.mpr rfl))).trans eb,rfl,rfl,rfl,Nat.le_refl _⟩
  ·rw[Array.getElem?_eq_none_iff,WM]at he
   omega
 done:=fun s Q E st q=>by
  have hT:s.TypeIs (.ref it) "set_iterator" :=⟨_,st.2,rfl⟩
  unfold pyNext
  refine wpAny_bind (wpAny_attempt (wpAny_callSpecial?_slot (name:=Str.ofString "__next__") hT ZN (wpAny_call_entry ZN hT Y1 (WQ (A:=A.in1) (Nat.le_refl _) st ne (fun e h' he sb ab=> ?_) (fun h' he sb=>OM (show A.in1.handled=none from hh) fun h2 e k ⟨oe,ge,ce⟩=> ?_)) (Y9 _))))
  ·have:=(Array.getElem?_eq_some_iff.mp he).1
   rw[WM]at this
   omega
  ·refine wpAny_bind (wpAny_isInstance (T:= "StopIteration") (b:=true) ⟨oe,ge,ce⟩ isSubtype_stop (wpAny_pure (q _ ⟨fun b o hb eb=>k b o ((sb.2 b (fun z=>hb (by rw[z];exact List.mem_singleton.mpr rfl))).trans eb),rfl,rfl,rfl,Nat.le_refl _⟩)))
 self:=fun i s Q E st q=>by
  have hT:s.TypeIs (.ref it) "set_iterator" :=⟨_,st.2,rfl⟩
  refine wpAny_pyIter_slot hT Y7 (wpAny_call_entry Y7 hT Wf ?_ (Wp _))
  exact(show wpAny _ _ (ret (.ref it)) _ _ s from wpAny_pure ⟨_,rfl, "set_iterator",_,hT,ZN.lookup,q⟩)
theorem KA {Q:List Value→Shared→Prop}(hh:A.handled=none) (X:fP prog w s.heap S ns o es ep t)
  (h:∀h' tk acc,(∀b o,s.heap.get? b=some o→h'.get? b=some o)→s.heap.objs.size≤h'.objs.size→ItemsOf (fun i v=> ∃e,(gM w S es ep)[i]? =some e∧v=e.2) acc es.size→Q acc.toList {s with heap:=h',toks:=tk}):wpAny (model prog w) A (collect (.ref S)) Q E s:=by
 have ay:S<s.heap.objs.size:=Heap.lt_size X.ho
 unfold collect
 refine wpAny_bind (wpAny_runValue (codeAny_builtin F.entry_proto_collect ?_))
 rw[Around.under_plainId F.plain_proto_collect _]
 refine(show wpAny _ A.in1 (newList [] >>=fun l=>again (.builtin "list.__iadd__" ⟨[l,.ref S],[]⟩)) _ _ s from wpAny_bind (wpAny_newObj_type ?_))
 refine wpAny_pure ⟨plainId_quiet F.plain_list_iadd _,codeAny_builtin F.entry_list_iadd ?_⟩
 rw[Around.under_plainId F.plain_list_iadd _]
 generalize hL:s.heap.objs.size=L
 rw[hL]at ay
 have gL:(s.heap.push {cls:=.type "list",data:=.seq ([]:List Value).toArray}).get? L=some {cls:=.type "list",dict:=none,data:=.seq #[] 0,slots:= #[]} :=by rw[←hL];exact Heap.get?_push_size _ rfl
 have X1:fP prog w (s.heap.push {cls:=.type "list",data:=.seq ([]:List Value).toArray}) S ns o es ep t:=X.keep fun o e=>Heap.get?_push_of_some _ e
 have oI:Shared.TypeIs {s with heap:=s.heap.push {cls:=.type "list",data:=.seq ([]:List Value).toArray} } (.ref S) "set" :=⟨o,X1.ho,X.ex.1⟩
 show wpAny _ A.in1 (Builtin.List.listExtendWith (.ref L) (.ref S) (.ref L)) _ _ _
 unfold Builtin.List.listExtendWith
 refine wpAny_bind (wpAny_typeOf oI ?_)
 have nS:Builtin.List.listSameRef (.ref L) (.ref S)=false:=by show(L==S)=false;rw[beq_eq_false_iff_ne];exact Nat.ne_of_gt ay
 rw[if_neg (by rw[nS];decide)]
 refine wpAny_bind (M4 X1 ?_)
 have hsz:(s.heap.push {cls:=.type "list",data:=.seq ([]:List Value).toArray}).objs.size=L+1:=by rw[Heap.size_push,hL]
 dsimp only
 rw[hsz]
 refine wpAny_bind (wpAny_holding ?_)
 unfold Builtin.List.listLengthHint
 have wc:Shared.TypeIs {s with heap:=(s.heap.push {cls:=.type "list",data:=.seq ([]:List Value).toArray}).push (gf w S t es.size ep 0)} (.ref S) "set" :=⟨o,Heap.get?_push_of_some _ X1.ho,X.ex.1⟩
 refine wpAny_bind (wpAny_specialOf wc OY ?_)
 dsimp only
 rw[show splitId "set.__len__" =some ("set", "__len__") from by decide+kernel]
 dsimp only
 refine wpAny_bind (wpAny_isInstance (b:=true) wc sub_set_self ?_)
 simp only[Bool.not_true,Bool.false_eq_true,if_false]
 refine wpAny_ite_split (fun _=> ?_) (fun hc=>absurd (by rfl) hc)
 refine wpAny_bind (wpAny_typeOf wc ?_)
 refine wpAny_pure ?_
 refine wpAny_ite_split (fun _=> ?_) (fun hc=>absurd (by rfl) hc)
 refine wpAny_bind (wpAny_rule ?_)
 have AE:((s.heap.push {cls:=.type "list",data:=.seq ([]:List Value).toArray}).push (gf w S t es.size ep 0)).get? L=some {cls:=.type "list",dict:=none,data:=.seq #[] 0,slots:= #[]} :=Heap.get?_push_of_some _ gL
 have Iw:((s.heap.push {cls:=.type "list",data:=.seq ([]:List Value).toArray}).push (gf w S t es.size ep 0)).get? (L+1)=some (gf w S t es.size ep 0):=by rw[←hsz];exact Heap.get?_push_size _ rfl
 have X2:fP prog w ((s.heap.push {cls:=.type "list",data:=.seq ([]:List Value).toArray}).push (gf w S t es.size ep 0)) S ns o es ep t:=X1.keep fun o e=>Heap.get?_push_of_some _ e
 unfold Builtin.List.listTouch
 refine wpAny_bind (wpAny_bind (PyProof.Rows.listUpdate_at AE rfl ?_ (by decide)))
 obtain⟨n3,g3⟩:∃n3,(((s.heap.push {cls:=.type "list",data:=.seq ([]:List Value).toArray}).push (gf w S t es.size ep 0)).update L (Obj.mapSeq (·.push .none))).get? L=some (PyProof.Rows.seqObj "list" #[.none] n3):=⟨_,PyProof.Rows.get?_update_seq AE (·.push .none)⟩
 refine PyProof.Rows.listUpdate_at g3 rfl ?_ (by decide)
 obtain⟨n4,g4⟩:∃n4,((((s.heap.push {cls:=.type "list",data:=.seq ([]:List Value).toArray}).push (gf w S t es.size ep 0)).update L (Obj.mapSeq (·.push .none))).update L (Obj.mapSeq (·.pop))).get? L=some (PyProof.Rows.seqObj "list" #[] n4):=⟨_,PyProof.Rows.get?_update_seq g3 (·.pop)⟩
 have qB:∀b o,b≠L→((s.heap.push {cls:=.type "list",data:=.seq ([]:List Value).toArray}).push (gf w S t es.size ep 0)).get? b=some o→((((s.heap.push {cls:=.type "list",data:=.seq ([]:List Value).toArray}).push (gf w S t es.size ep 0)).update L (Obj.mapSeq (·.push .none))).update L (Obj.mapSeq (·.pop))).get? b=some o:=fun b o hb e=>by
  rw[Heap.get?_update_ne _ _ _ _ hb,Heap.get?_update_ne _ _ _ _ hb]
  exact e
 generalize (((s.heap.push {cls:=.type "list",data:=.seq ([]:List Value).toArray}).push (gf w S t es.size ep 0)).update L (Obj.mapSeq (·.push .none))).update L (Obj.mapSeq (·.pop))=h4 at g4 qB
 have cT:rV prog w S (L+1) ns o es ep t 0 {s with heap:=h4} :=⟨X2.keep fun o e=>qB S o (Nat.ne_of_lt ay) e,qB _ _ (Nat.succ_ne_self L) Iw⟩
 have W:=Df (prog:=prog) (w:=w) (A:=A.in1) (S:=S) (it:=L+1) (ns:=ns) (o:=o) (es:=es) (ep:=ep) (t:=t) (show A.in1.handled=none from hh) (Nat.ne_of_lt (Nat.lt_succ_of_lt ay))
 have He:L∉[L+1,S]:=by
  simp only[List.mem_cons,List.not_mem_nil,or_false,not_or]
  exact⟨(Nat.succ_ne_self L).symm,Nat.ne_of_gt ay⟩
 have Hf:es.size≤sizeLine:=by
  have:=X.R.small
  rw[sizeLine_eq]
  omega
 refine wpAny_pure ⟨plainId_quiet F.plain_extend_loop _,codeAny_extend_loopS W Hf L He _ es.size 0 _ _ _ rfl (Nat.zero_le _) cT g4 (ItemsOf.nil _) fun s' KL c' hm jV je=> ?_⟩
 show wpAny _ A (load L >>=_) _ _ s'
 refine wpAny_bind (wpAny_load jV ?_)
 obtain⟨h',g',d',ye,uT⟩:=s'
 obtain rfl:g'=s.gens:=hm.gens
 obtain rfl:d'=s.drawn:=hm.drawn
 obtain rfl:uT=s.os:=hm.os
 refine wpAny_pure (h h' ye KL (fun b ob eb=> ?_) (by rw[hL];exact Nat.le_of_lt (Heap.lt_size jV)) je)
 have hb:b<L:=by rw[←hL];exact Heap.lt_size eb
 refine hm.heap b ob ?_ (qB b ob (Nat.ne_of_lt hb) (Heap.get?_push_of_some _ (Heap.get?_push_of_some _ eb)))
 simp only[List.mem_cons,List.not_mem_nil,or_false,not_or]
 exact⟨Nat.ne_of_lt hb,Nat.ne_of_lt (Nat.lt_succ_of_lt hb)⟩
end
section
variable {prog:Program}{w:World}{A:Around}{E:Value→Shared→Prop}{s:Shared}{S:Addr}
theorem DS {m:Int→Prop}{c:Nat}{Q:Value→Shared→Prop}(hh:A.handled=none) (H:fS prog w s.heap S m c) (hc:c<64)
  (h:∀h' tk a out bE e,(∀b o,s.heap.get? b=some o→h'.get? b=some o)→s.heap.objs.size≤a→h'.get? a=some (PyProof.Rows.seqObj "list" out e)→PyProof.Rows.IntsAre out.toList bE→bE.length<64→bE.Pairwise (·≤ ·)→bE.Nodup→(∀k,k∈bE↔m k)→Q (.ref a) {s with heap:=h',toks:=tk}):
  wpAny (model prog w) A (call (.builtin "sorted") [.ref S]) Q E s:=by
 obtain⟨ns,o,es,ep,t,X,nd,ln,mm⟩:=H
 refine Calls.call_function_entry PyProof.Rows.kind_sorted PyProof.Rows.plain_sorted PyProof.Rows.entry_sorted (PyProof.Rows.args_sorted1 _) ?_
 unfold Builtin.«sorted»
 refine wpAny_bind (m:=checkCount "sorted" 1 1 _) (wpAny_pure ?_)
 refine wpAny_bind (KA (show A.in1.handled=none from hh) X fun h1 tk acc k1 hle ia=> ?_)
 have ea:acc.toList=(gM w S es ep).toList.map (·.2):=by
  refine List.ext_getElem? fun j=> ?_
  rw[List.getElem?_map,Array.getElem?_toList,Array.getElem?_toList]
  by_cases hj:j<acc.size
  ·obtain⟨e,q1,q2⟩:=ia.2 j _ (Array.getElem?_eq_getElem hj)
   rw[q1,Array.getElem?_eq_getElem hj,q2]
   rfl
  ·rw[Array.getElem?_eq_none (by omega),Array.getElem?_eq_none (by rw[WM,←ia.1];omega)]
   rfl
 obtain⟨uX,i2,p2⟩:=Wb ((CC w S es ep).map (·.2)) X.vs
 rw[←ea]at i2
 have l2:uX.length<64:=by rw[p2.length_eq];omega
 have la:acc.toList.length<64:=by
  have:=i2.length
  omega
 refine wpAny_bind (wpAny_newList ?_ (by rw[sizeLine_eq];omega))
 have gZ:(h1.push (PyProof.Rows.seqObj "list" acc.toList.toArray 0)).get? h1.objs.size=some (PyProof.Rows.seqObj "list" acc.toList.toArray 0):=Heap.get?_push_size _ rfl
 refine wpAny_bind (wpAny_holding (wpAny_call_entry PyProof.Rows.slot_list_sort ⟨_,gZ,rfl⟩ PyProof.Rows.entry_list_sort (PyProof.Rows.list_sort_tree gZ i2 la fun out bE a1 a2 a3=> ⟨_,rfl,?_⟩) (PyProof.Rows.args_list_sort _)))
 obtain⟨e,he⟩:=PyProof.Rows.sortedHeap_at (out:=out) gZ
 refine wpAny_pure ⟨_,rfl,h _ tk _ out bE e (fun b ob eb=> ?_) hle he a1 (by rw[a2.length_eq];exact l2) a3 (a2.nodup_iff.mpr (p2.nodup_iff.mpr nd)) fun k=> (a2.mem_iff.trans p2.mem_iff).trans (mm k)⟩
 have hb:=Heap.lt_size (k1 b ob eb)
 rw[PyProof.Rows.sortedHeap_old (Nat.ne_of_lt hb) (by rw[Heap.size_push];exact Nat.lt_succ_of_lt hb)]
 exact Heap.get?_push_of_some _ (k1 b ob eb)
end
end HS
namespace L2
open PySem PySem.Spec PyProof.Rows
theorem Cp:∀{l m:List Int},l.Pairwise (· < ·)→m.Pairwise (·≤ ·)→m.Nodup→(∀k,k∈m↔k∈l)→m=l
 | [],[],_,_,_,_=>rfl
 | [],b::m,_,_,_,h=>absurd ((h b).mp (List.mem_cons_self ..)) (by simp)
 |a::l,[],_,_,_,h=>absurd ((h a).mpr (List.mem_cons_self ..)) (by simp)
 |a::l,b::m,p,q,n,h=>by
  have p1:=List.pairwise_cons.mp p
  have q1:=List.pairwise_cons.mp q
  have n1:=List.nodup_cons.mp n
  have e:b=a:=by
   rcases List.mem_cons.mp ((h b).mp (List.mem_cons_self ..)) with z |z
   ·exact z
   ·rcases List.mem_cons.mp ((h a).mpr (List.mem_cons_self ..)) with y |y
    ·exact y.symm
    ·have:=p1.1 b z
     have:=q1.1 a y
     omega
  subst e
  rw[Cp p1.2 q1.2 n1.2 fun k=> ?_]
  refine⟨fun hk=> ?_,fun hk=> ?_⟩
  ·rcases List.mem_cons.mp ((h k).mp (List.mem_cons_of_mem _ hk)) with z |z
   ·exact absurd (z▸hk) n1.1
   ·exact z
  ·rcases List.mem_cons.mp ((h k).mpr (List.mem_cons_of_mem _ hk)) with z |z
   ·exact absurd (p1.1 k hk) (by rw[z];exact Int.lt_irrefl _)
   ·exact z
end L2
namespace HS
open PySem PySem.SetTable PySem.Spec
theorem UQ:∀(n:Nat) {ns:List Int},ns.Nodup→(∀k∈ns,0≤k∧k<n)→ns.length≤n
 |0,ns,_,h=>by
  cases ns with
  |nil=>exact Nat.le_refl _
  |cons a l=>have:=h a (List.mem_cons_self ..);omega
 |n+1,ns,nd,h=>by
  have:=UQ n (ns:=ns.erase (n:Int)) (nd.erase _) fun k hk=>by
   obtain⟨h1,h2⟩:=nd.mem_erase_iff.mp hk
   have:=h k h2
   omega
  rw[List.length_erase]at this
  split at this<;>omega
theorem fS.fu {prog:Program}{w:World}{h:Heap}{S:Addr}{m:Int→Prop}{c:Nat}(x:fS prog w h S m c) (b:∀k,m k→0≤k∧k<63):fS prog w h S m 63:=by
 obtain⟨ns,o,es,ep,t,X,nd,hl,hm⟩:=x
 exact⟨ns,o,es,ep,t,X,nd,UQ 63 nd fun k hk=>b k ((hm k).mp hk),hm⟩
section
variable {prog:Program}{w:World}{A:Around}{E:Value→Shared→Prop}{s:Shared}
theorem KD {S:Addr}{k:Int}{tk:Tok}{m:Int→Prop}{c:Nat}{Q:Value→Shared→Prop}(H:fS prog w s.heap S m c) (hc:c+1≤305)
  (h:∀h',Heap.SameBut S s.heap h'→fS prog w h' S (fun j=>m j∨j=k) (c+1)→Q .none {s with heap:=h',toks:=s.toks+1}):
  wpAny (model prog w) A (call (.builtin "set.add") [.ref S,.int k tk]) Q E s:=by
 have hT:s.TypeIs (.ref S) "set" :=let ⟨ns,o,es,ep,t,X,_⟩:=H;⟨o,X.ho,X.ex.1⟩
 refine wpAny_call_entry F.slot_set_add hT F.entry_set_add ?_ (F.args_set_add_2 _ _)
 unfold Builtin.«set.add» Builtin.Frozenset.oneOther
 simp only[List.isEmpty_nil,bind_assoc]
 unfold Builtin.Frozenset.addrOf setAdd
 refine wpAny_bind (wpAny_pure ?_)
 try dsimp only
 refine wpAny_bind (wpAny_pure ?_)
 try dsimp only
 refine wpAny_bind ?_
 refine wpAny_holding ?_
 refine wpAny_bind (wpAny_pyHash_int ?_)
 refine Ms (s:= {s with toks:=s.toks+1}) H hc fun h' b sb we=> ?_
 show wpAny _ _ (ret Value.none) _ _ _
 exact wpAny_pure ⟨_,rfl,h h' sb we⟩
theorem FF {Q:Value→Shared→Prop}(h:Q (.ref s.heap.objs.size) {s with heap:=s.heap.push (qI (!(w.params.followText "set-order")))}):wpAny (model prog w) A (newSet (.type "set")) Q E s:=by
 unfold newSet setsByText
 refine wpAny_bind (wpAny_bind (wpAny_askSetting (wpAny_pure ?_)))
 dsimp only
 simp only[newObj]
 exact wpAny_bind (wpAny_alloc (wpAny_pure h))
end
end HS
namespace L2.SC
open PySem PySem.Spec PyProof.Rows
def AccAt (P:Program) (w:World) (h:Heap) (D:Addr) (ys:List V):Prop:=∃ks:List Int,ys=ks.map V.int∧(∀k∈ks,0≤k∧k<63)∧HS.fS P w h D (·∈ks) 63
theorem AccAt.obj {P:Program}{w:World}{h:Heap}{D:Addr}{ys:List V}(a:AccAt P w h D ys):∃o,h.get? D=some o∧(∀v,o.data≠.cell v)∧∀h':Heap,h'.get? D=some o→AccAt P w h' D ys:=by
 obtain⟨ks,e,b,ns,o,es,ep,t,X,nd,hl,hm⟩:=a
 refine⟨o,X.ho,fun v z=> ?_,fun h' q=> ⟨ks,e,b,ns,o,es,ep,t,⟨q,X.ex,X.hd,X.T,X.R,X.pl,X.ld,X.el,X.vs⟩,nd,hl,hm⟩⟩
 rw[X.hd]at z
 cases z
theorem AccAt.keep {P:Program}{w:World}{h h':Heap}{D:Addr}{ys:List V}(a:AccAt P w h D ys) (k:∀o,h.get? D=some o→h'.get? D=some o):AccAt P w h' D ys:=by
 obtain⟨o,e,_,kp⟩:=a.obj
 exact kp _ (k _ e)
def fE (Y:Cx) (D:Addr) (m:Sem PySem.Fin→Sem PySem.Fin) (t:TC):Prop:=
 ∀(pins:List (Addr×Obj)) (s:Shared) (σ:St) (H:Hp) (ys:List V) (Q:List V→St→Hp→Prop) (k:Sem PySem.Fin) (R:PySem.Fin→Shared→Prop),Inv Y pins σ H s→aP Y pins H D→AccAt Y.prog Y.w s.heap D ys→t ys σ H Q→
  (∀s' aU af H',Inv Y pins af H' s'→aP Y pins H' D→AccAt Y.prog Y.w s'.heap D aU→Q aU af H'→wpAny (model Y.prog Y.w) Y.A k R (fun _ _=>False) s')→wpAny (model Y.prog Y.w) Y.A (m k) R (fun _ _=>False) s
section
variable {Y:Cx}{D:Addr}
def sW (te:TE):TC:=fun ys σ H Q=>te σ H fun v H1=> ∃k:Int,v=.int k∧0≤k∧k<63∧Q (ys++[v]) σ H1
theorem AccAt.fY {P:Program}{w:World}{h:Heap}{ys:List V}(a:AccAt P w h D ys):∀b∈[D],∃o,h.get? b=some o∧∀v,o.data≠.cell v:=fun b hb=>by
 have e:b=D:=by simpa using hb
 subst e
 obtain⟨o,e,nc,_⟩:=a.obj
 exact⟨o,e,nc⟩
theorem AccAt.through {P:Program}{w:World}{h:Heap}{pins:List (Addr×Obj)}{af:St}{H':Hp}{s':Shared}{ys:List V}(a:AccAt P w h D ys) (I:Inv Y (pins++fc [D] h) af H' s'):AccAt P w s'.heap D ys∧H' D=none:=by
 obtain⟨o,e,_,kp⟩:=a.obj
 have q:=I.pin (D,_) (List.mem_append_right _ (List.mem_append_right _ (ZA (List.mem_singleton.mpr rfl) e)))
 exact⟨kp _ q.1,q.2.1⟩
theorem cz {elt:Expr}{te:TE}(hx:Y.xe=fun _ _=>False) (he:PE Y elt te):
    fE Y D (fun k=> (do let v ←eval elt Y.env;standAt elt.pos;let _ ←call (.builtin "set.add") [.ref D,v]) >>=fun _=>k) (sW te):=by
  intro pins s σ H ys Q k R I f a h hk
  refine wpAny_bind (wpAny_mono (Q:=fun _ s'=> ∃aU af H',Inv Y pins af H' s'∧aP Y pins H' D∧AccAt Y.prog Y.w s'.heap D aU∧Q aU af H') ?_ (fun _ s' ⟨aU,af,H',q1,q2,q3,q4⟩=>hk s' aU af H' q1 q2 q3 q4) fun _ _ z=>z)
  have I':=I.pinned (fp:=[D]) (fun b hb=>by have e:b=D:=by simpa using hb
                                            subst e;exact f) a.fY
  refine wpAny_bind (wpAny_mono (he _ s σ H _ I' h) (fun u s1 ⟨v,H1,I1,ru,i,ev,i0,i1,q⟩=> ?_) fun e s1 z=>by rw[hx]at z;exact z)
  subst ev
  obtain⟨tk,rfl⟩:=ru
  obtain⟨⟨ks,e,b,hS⟩,n1⟩:=a.through I1
  have f1:aP Y pins H1 D:=⟨n1,f.2⟩
  refine wpAny_bind (wpAny_standAt (wpAny_bind (HS.KD hS (by decide) fun h' sb we=>wpAny_pure ?_)))
  obtain⟨f0,g1,g2,g3,g4,g5⟩:=f1
  have I2:Inv Y pins σ H1 {s1 with heap:=h',toks:=s1.toks+1} :=I1.dI.turned (t':=s1.toks+1) (it:=D) (fun b o hb eb=> (sb.2 b hb).trans eb) f0 g1 g3 g4 g5
  have b2:∀k∈ks++[i],0≤k∧k<63:=fun k hk=>by
    rcases List.mem_append.mp hk with z |z
    · exact b k z
    · rw[List.mem_singleton.mp z];exact⟨i0,i1⟩
  refine⟨ys++[.int i],σ,H1,I2,⟨f0,g1,g2,g3,g4,g5⟩,⟨ks++[i],by rw[e,List.map_append];rfl,b2,(we.iff (m':=fun k=>k∈ks++[i]) fun k=>by simp).fu b2⟩,q⟩
def inner (elt:Expr) (gens:List Comprehension) (scope:Scope) (pos:Pos) (d:Nat) (acc:Value) (env:Env) (k:Sem PySem.Fin):Sem PySem.Fin:=
 match gens[d+1]? with
 |some g'=>eval g'.iter env >>=fun x=>standAt g'.iter.pos >>=fun _=>foldedSetIterable g'.iter env x >>=fun x=>holding [x] (pyIter x) >>=fun gQ=>
  runOwn (.compStart (.SetComp elt gens scope pos) (d+1) gQ acc env) env >>=fun _=>k
 |none=> (do let v ←eval elt env;standAt elt.pos;let _ ←call (.builtin "set.add") [acc,v]) >>=fun _=>k
set_option maxHeartbeats 400000 in
theorem wx (elt tg iter:Expr) (ifs:List Expr) (gens:List Comprehension) (scope:Scope) (pos:Pos) (d:Nat) (it acc:Value) (env:Env) (hg:gens[d]? =some ⟨tg,iter,ifs,0⟩) (h2:∀g',gens[d+1]? =some g'→g'.is_async=0):
  compTurn (.SetComp elt gens scope pos) d it acc env=(standAt iter.pos >>=fun _=>pyNext it >>=fun r=>match r with
   |none=>pure (.done .next)
   |some v=>letOwnedTupleGo tg it v >>=fun _=>assign tg env v >>=fun _=>sP ifs env >>=fun ok=>
    if ok=true then inner elt gens scope pos d acc env (again (.compLoop (.SetComp elt gens scope pos) d it acc env)) else again (.compLoop (.SetComp elt gens scope pos) d it acc env)):=by
 unfold compTurn inner
 dsimp only
 rw[hg]
 generalize hn:gens[d+1]? =o
 cases o with
 |none=>rfl
 |some g'=>
  have e:=h2 g' hn
  obtain⟨t',i',f',a'⟩:=g'
  have e':a'=0:=e
  subst e'
  rfl
theorem oW {elt tg iter:Expr}{ifs:List Expr}{gens:List Comprehension}{scope:Scope}{pos:Pos}{d:Nat}{it:Addr}{fp:List Addr}{tn:Nat→Heap→Prop}{J:It}{g:TG}{tt:TT}{ti:TC}{pins:List (Addr×Obj)}{s:Shared}{σ:St}{H:Hp}{ys:List V}{Q:List V→St→Hp→Prop}
    (hx:Y.xe=fun _ _=>False) (hc:Y.calm=true) (hg:gens[d]? =some ⟨tg,iter,ifs,0⟩) (T:Turn Y.prog Y.w Y.K tg J fp it tn) (hf:∀b∈fp,aP Y pins H b) (st:tn 0 s.heap) (hD:D∉fp)
    (h2:∀g',gens[d+1]? =some g'→g'.is_async=0) (pg:PG Y tg g) (pt:gA Y ifs tt) (pi:fE Y D (inner elt gens scope pos d (.ref D) Y.env) ti)
    (I:Inv Y pins σ H s) (f:aP Y pins H D) (a:AccAt Y.prog Y.w s.heap D ys) (h:eY g tt ti J ys σ H Q):
    codeAny (model Y.prog Y.w) Y.A (.compLoop (.SetComp elt gens scope pos) d (.ref it) (.ref D) Y.env) (fun r s'=>match r with
      | .ok _=> ∃aU af H',Inv Y pins af H' s'∧aP Y pins H' D∧AccAt Y.prog Y.w s'.heap D aU∧Q aU af H'
      | .error _=>False) s:=by
  obtain⟨W,⟨m0,w0⟩,turn⟩:=h
  have stat:∀{H':Hp},(∀b∈fp,H' b=none)→∀b∈fp,aP Y pins H' b:=fun hn b hb=> ⟨hn b hb,(hf b hb).2⟩
  refine codeAny_loop rfl (fun n s'=> ∃i aU af H',Inv Y pins af H' s'∧aP Y pins H' D∧AccAt Y.prog Y.w s'.heap D aU∧tn i s'.heap∧(∀b∈fp,H' b=none)∧W i n aU af H') (fun n s3 hI=> ?_) m0 ⟨0,ys,σ,H,I,f,a,st,fun b hb=> (hf b hb).1,w0⟩
  obtain⟨i,gD,df,H3,I3,f3,a3,bt,mE,w3⟩:=hI
  show wpAny _ Y.A ((compTurn (.SetComp elt gens scope pos) d (.ref it) (.ref D) Y.env).onRaise (fun x=>do noteFrame x Y.env;theTreesLotGoes x)) _ _ s3
  refine wpAny_noted (wpAny_mono (E:=fun _ _=>False) ?_ (fun _ _ q=>q) fun _ _ z=>z.elim)
  rw[wx elt tg iter ifs gens scope pos d (.ref it) (.ref D) Y.env hg h2]
  refine wpAny_bind (wpAny_standAt (wpAny_bind ?_))
  have aD:∀{h h':Heap},(∀b o,b∉fp→h.get? b=some o→h'.get? b=some o)→∀{zs},AccAt Y.prog Y.w h D zs→AccAt Y.prog Y.w h' D zs:=fun k _ q=>q.keep fun o e=>k D o hD e
  have pE:=I3.pinned (fp:=[D]) (fun b hb=>by have e:b=D:=by simpa using hb
                                             subst e;exact f3) a3.fY
  have mU:∀b∈fp,aP Y (pins++fc [D] s3.heap) H3 b:=fun b hb=>by
    obtain⟨g0,g1,g2,g3,g4,g5⟩:=stat mE b hb
    refine⟨g0,g1,g2,g3,g4,fun p hp=> ?_⟩
    rcases List.mem_append.mp hp with z |z
    · exact g5 p (List.mem_append_left _ z)
    · rcases List.mem_append.mp z with z |z
      · exact g5 p (List.mem_append_right _ z)
      · intro q
        have e:p.1=D:=by simpa using (YW z).1
        exact hD (by rw[←e,q];exact hb)
  rcases turn i n gD df H3 w3 with ⟨stop,qn⟩ |⟨go,N,hN,step⟩
  · refine wpAny_mono (T.done Y rfl rfl rfl hc i _ s3 df H3 (fun _ _=>False) pE mU bt stop) (fun r s4 ⟨hr,I4⟩=> ?_) fun _ _ z=>z
    subst hr
    obtain⟨a4,n4⟩:=a3.through I4
    exact wpAny_pure ⟨gD,df,H3,I4.dI,f3,a4,qn⟩
  · refine wpAny_mono (T.item Y rfl rfl rfl hc i _ s3 df H3 (fun _ _=>False) pE mU bt go) (fun r s4 ⟨u,hr,h4⟩=> ?_) fun _ _ z=>z
    subst hr
    refine wpAny_bind (wpAny_mono h4 (fun _ s5 ⟨x,H5,I5,r5,y5,cP,oP⟩=> ?_) fun _ _ z=>z)
    obtain⟨a5,n5⟩:=a3.through I5
    have f5:aP Y pins H5 D:=⟨n5,f3.2⟩
    have vL:∀b∈D::fp,∃o,s5.heap.get? b=some o∧∀v,o.data≠.cell v:=fun b hb=>by
      rcases List.mem_cons.mp hb with e |hb
      · exact a5.fY b (by simp[e])
      · exact T.obj _ _ cP b hb
    have pD:=I5.dI.pinned (fp:=D::fp) (fun b hb=>by
      rcases List.mem_cons.mp hb with e |hb
      · rw[e];exact f5
      · exact stat oP b hb) vL
    refine wpAny_bind (wpAny_mono (pg _ s5 df H5 x u _ pD r5 (step x H5 y5)) (fun _ s6 ⟨iS,H6,I6,q6⟩=> ?_) fun _ _ z=>by rw[hx]at z;exact z)
    refine wpAny_bind (wpAny_mono (pt _ s6 iS H6 _ I6 q6) (fun b s7 ⟨H7,I7,q7⟩=> ?_) fun _ _ z=>by rw[hx]at z;exact z)
    have nG:∀{bW:St}{H7:Hp}{s7:Shared},Inv Y (pins++fc (D::fp) s5.heap) bW H7 s7→AccAt Y.prog Y.w s7.heap D gD∧H7 D=none:=fun {bW H7 s7} J=>by
      obtain⟨o,e,_,kp⟩:=a5.obj
      have q:=J.pin (D,_) (List.mem_append_right _ (List.mem_append_right _ (ZA List.mem_cons_self e)))
      exact⟨kp _ q.1,q.2.1⟩
    have nF:∀{bW:St}{H7:Hp}{s7:Shared},Inv Y (pins++fc (D::fp) s5.heap) bW H7 s7→tn (i+1) s7.heap∧∀b∈fp,H7 b=none:=fun {bW H7 s7} J=>by
      refine⟨T.keep _ _ _ cP fun b hb o e=> (J.pin (b,o) (List.mem_append_right _ (List.mem_append_right _ (ZA (List.mem_cons_of_mem _ hb) e)))).1,fun b hb=> ?_⟩
      obtain⟨o,e,dd⟩:=T.obj _ _ cP b hb
      exact(J.pin (b,o) (List.mem_append_right _ (List.mem_append_right _ (ZA (List.mem_cons_of_mem _ hb) e)))).2.1
    cases b with
    |false=>
     simp only[Bool.false_eq_true,if_false]at q7 ⊢
     obtain⟨m',hm,w7⟩:=hN _ _ _ q7
     obtain⟨a7,n7⟩:=nG I7
     obtain⟨t7,r7⟩:=nF I7
     exact wpAny_pure ⟨rfl,m',hm,i+1,gD,iS,H7,I7.dI,⟨n7,f3.2⟩,a7,t7,r7,w7⟩
    |true=>
     simp only[if_true]at q7 ⊢
     obtain⟨a7,n7⟩:=nG I7
     obtain⟨t7,r7⟩:=nF I7
     have xK:=I7.dI.pinned (fp:=fp) (stat r7) (T.obj _ _ t7)
     have f7:aP Y (pins++fc fp s7.heap) H7 D:=by
       obtain⟨g0,g1,g2,g3,g4,g5⟩:=f3
       refine⟨n7,g1,g2,g3,g4,fun p hp=> ?_⟩
       rcases List.mem_append.mp hp with z |z
       · exact g5 p (List.mem_append_left _ z)
       · rcases List.mem_append.mp z with z |z
         · exact g5 p (List.mem_append_right _ z)
         · intro q
           exact hD (by rw[←q];exact(YW z).1)
     refine pi _ s7 iS H7 gD N _ _ xK f7 a7 q7 fun s8 sG sF H8 I8 f8 a8 q8=> ?_
     obtain⟨m',hm,w8⟩:=hN _ _ _ q8
     refine wpAny_pure ⟨rfl,m',hm,i+1,sG,sF,H8,I8.dI,⟨f8.1,f3.2⟩,a8,T.keep _ _ _ t7 fun b hb o e=> (I8.pin (b,o) (List.mem_append_right _ (List.mem_append_right _ (ZA hb e)))).1,fun b hb=> ?_,w8⟩
     obtain⟨o,e,dd⟩:=T.obj _ _ t7 b hb
     exact(I8.pin (b,o) (List.mem_append_right _ (List.mem_append_right _ (ZA hb e)))).2.1
theorem oV {elt tg iter:Expr}{ifs:List Expr}{gens:List Comprehension}{scope:Scope}{pos:Pos}{d:Nat}{it:Addr}{R:Result→Shared→Prop}{s:Shared}{A:Around}{prog:Program}{w:World}{env:Env}{acc:Value}{fp:List Addr}{tn:Nat→Heap→Prop}{J:It}{K:PySem.W.Frag}
  (hg:gens[d]? =some ⟨tg,iter,ifs,0⟩) (T:Turn prog w K tg J fp it tn) {i:Nat} (st:tn i s.heap) (h:codeAny (model prog w) A (.compLoop (.SetComp elt gens scope pos) d (.ref it) acc env) R s):
  codeAny (model prog w) A (.compStart (.SetComp elt gens scope pos) d (.ref it) acc env) R s:=by
 refine codeAny_of_tree ?_
 show wpAny _ _ ((compStart (.SetComp elt gens scope pos) d (.ref it) acc env).onRaise (fun x=>do noteFrame x env;standAt theWindowsPlace)) _ _ s
 refine wpAny_notedAt ?_
 have vX:(clausesOf (.SetComp elt gens scope pos))[d]? =some ⟨tg,iter,ifs,0⟩:=hg
 unfold compStart
 rw[vX]
 show wpAny _ _ (ask >>=_) _ _ s
 refine wpAny_bind (wpAny_askSetting (wpAny_ite ?_))
 split
 ·first
   |exact wpAny_bind (wpAny_pure (wpAny_pure (And.intro rfl h)))
   |exact wpAny_pure (And.intro rfl h)
 ·refine wpAny_bind (wpAny_rule ?_)
  show wpAny _ _ (standAt iter.pos >>=_) _ _ s
  exact wpAny_bind (wpAny_standAt (wpAny_bind (T.self A i s _ _ st (wpAny_pure (And.intro rfl h)))))
end
section
variable {X:Cx}{pins:List (Addr×Obj)}{σ:St}{H H':Hp}{s s':Shared}
theorem rG {N':List Str}{scope:Scope}{C D:Addr}{fp:List Addr}{af:St}{ys:List V}{pl:List (Addr×Obj)}{h':Heap}(I:Inv X pins σ H s) (hf:∀b∈fp,aP X pins H b) (hC:s.heap.objs.size≤C) (hD:s.heap.objs.size≤D) (ck:D≠C)
  (J:Inv (aI X N' scope C s H fp) pl af H' s') (n:H' D=none) (a:AccAt X.prog X.w s'.heap D ys) (sb:Heap.SameBut C s'.heap h'):Inv X pins σ H' {s' with heap:=h'} :=by
 have bO:∀b o,s.heap.get? b=some o→b≠C:=fun b o e=>Nat.ne_of_lt (Nat.lt_of_lt_of_le (Heap.lt_size e) hC)
 have qJ:∀b o,s.heap.get? b=some o→b≠D:=fun b o e=>Nat.ne_of_lt (Nat.lt_of_lt_of_le (Heap.lt_size e) hD)
 have jJ:∀b o,H b=some o→b≠D:=fun b o e=>Nat.ne_of_lt (Nat.lt_of_lt_of_le (I.ak.lt e) hD)
 have fC:H' C=none:=J.free
 have u:Un (dQ X.stack) fp H H' s.heap s'.heap:=J.base
 refine I.wB (s':= {s' with heap:=h'}) (ch:=fp) J.os ⟨fun b o e nb hb hx=> (sb.2 b (bO b o e)).trans (u.keep b o e nb hb hx),fun b o e nb hb hx=> ?_,fun b o e nb hx=>u.free b o e nb hx,fun b o e hx=> ?_,
  u.gE,u.gp,u.fV⟩ (fun b v e=> ?_) J.bare fun b hb=> ?_
 ·obtain⟨sl,q⟩:=u.slot b o e nb hb hx
  exact⟨sl,(sb.2 b (bO b o e)).trans q⟩
 ·obtain⟨o',q⟩:=u.there b o e hx
  exact⟨o',(sb.2 b (bO b o e)).trans q⟩
 ·refine(J.ak b v e).bT (fun c w hc q=> (sb.2 c ?_).trans q) (fun c q=>q) fun c xs q=>q
  rcases hc with z |z
  ·rw[z];exact Zd e fC
  ·exact Zd z fC
 ·obtain⟨f0,f1,f2,f3,f4,f5⟩:=hf b hb
  exact⟨f3,f1,f4,f5⟩
theorem rF {elt tg iter:Expr}{ifs:List Expr}{rest:List Comprehension}{scope:Scope}{pos:Pos}{N':List Str}{ts:Nat}{aF:List Nat}{it:Addr}{fp:List Addr}{tn:Nat→Heap→Prop}{J:It}{g:TG}{tt:TT}{ti:TC}{Q:List V→Hp→Prop}{E:Value→Shared→Prop}{RR:Value→Addr→Result→Shared→Prop}
  (S:sy X N' ts aF scope) (hc:X.calm=true) (I:Inv X pins σ H s) (T:Turn X.prog X.w X.K tg J fp it tn) (st:tn 0 s.heap) (hf:∀b∈fp,aP X pins H b)
  (h2:∀g',(Comprehension.mk tg iter ifs 0::rest)[0+1]? =some g'→g'.is_async=0)
  (pg:∀C,PG (aI X N' scope C s H fp) tg g) (pt:∀C,gA (aI X N' scope C s H fp) ifs tt)
  (pi:∀C D,fE (aI X N' scope C s H fp) D (inner elt (⟨tg,iter,ifs,0⟩::rest) scope pos 0 (.ref D) (aI X N' scope C s H fp).env) ti)
  (h:eY g tt ti J [] (cZ ts aF σ) H fun ys _ H2=>Q ys H2)
  (oK:∀C D s' af H' ys fl,s.heap.objs.size≤C→s.heap.objs.size≤D→D≠C→Inv (aI X N' scope C s H fp) [] af H' s'→H' D=none→AccAt X.prog X.w s'.heap D ys→Q ys H'→RR (.ref D) C (.ok fl) s'):
  wpAny (model X.prog X.w) X.A (newSet (.type "set")) (fun acc mT=>wpAny (model X.prog X.w) X.A (newFunctionEnv scope X.env.globals (dS scope X.env) [] X.env.qual none .none (some X.env)) (fun j0 mS=>
   codeAny (model X.prog X.w) X.A (.compStart (.SetComp elt (⟨tg,iter,ifs,0⟩::rest) scope pos) 0 (.ref it) acc {j0 with scope:=relabel scope X.env}) (RR acc j0.locals) mS) E mT) E s:=by
 refine HS.FF (wpAny_newFunctionEnv S.fY (by intro y hy;simp at hy) (fun dw g8 fh=> ?_) S.kind)
 dsimp only at g8 fh ⊢
 generalize fq:s.heap.push (HS.qI (!(X.w.params.followText "set-order")))=h0 at g8 fh ⊢
 have hC:h0.objs.size=s.heap.objs.size+1:=by rw[←fq,Heap.size_push]
 have ck:s.heap.objs.size≠h0.objs.size:=by rw[hC];exact Nat.ne_of_lt (Nat.lt_succ_self _)
 have hX:s.heap.objs.size≤h0.objs.size:=by rw[hC];exact Nat.le_succ _
 have bO:∀b o,s.heap.get? b=some o→b≠h0.objs.size:=fun b o e=>Nat.ne_of_lt (Nat.lt_of_lt_of_le (Heap.lt_size e) hX)
 have old:∀b o,s.heap.get? b=some o→dw.get? b=some o:=fun b o e=>fh.extBut b o (bO b o e) (Heap.get?_push_of_some _ (fq▸Heap.get?_push_of_some _ e))
 have je:dw.get? s.heap.objs.size=some (HS.qI (!(X.w.params.followText "set-order"))):=fh.extBut _ _ ck (Heap.get?_push_of_some _ (fq▸Heap.get?_push_size _ rfl))
 have ho:∀b∈fp,∃o,s.heap.get? b=some o:=fun b hb=>let ⟨o,e,_⟩:=T.obj _ _ st b hb;⟨o,e⟩
 have I1:Inv (aI X N' scope h0.objs.size s H fp) [] (cZ ts aF σ) H {s with heap:=dw,toks:=s.toks+([]:List (Str×Value)).length} :=BC S I hf ho hX g8 old
 have fresh:=I.ak.fresh (a:=s.heap.objs.size) (Nat.le_refl _)
 have oQ:∀b∈fp,aP (aI X N' scope h0.objs.size s H fp) [] H b:=fun b hb=>by
  obtain⟨f0,f1,f2,f3,f4,f5⟩:=hf b hb
  refine⟨f0,(I1.ok.jW b hb).1,I1.ok.kP b hb,.inl hb,(I1.ok.jW b hb).2,fun p hp=>absurd (show p∈([]:List (Addr×Obj)) from hp) (by simp)⟩
 have fD:aP (aI X N' scope h0.objs.size s H fp) [] H s.heap.objs.size:=by
  refine⟨fresh,ck,fun z=> ?_,.inr (Nat.le_refl _),fun x c e z=> ?_,fun p hp=>absurd (show p∈([]:List (Addr×Obj)) from hp) (by simp)⟩
  ·obtain⟨_,o,eW,_⟩:=I.stack.mem z
   exact absurd (Heap.lt_size eW) (Nat.lt_irrefl _)
  ·obtain⟨e1,e2⟩:=Jl e
   obtain⟨c',br⟩:=I.ok.has x (S.free _ e2 rfl)
   obtain⟨v,q⟩:=I.cell x c' br
   rw[br]at e1
   have e3:c=c':=e1
   have l:=q.lt
   rw[←e3,z]at l
   exact absurd l (Nat.lt_irrefl _)
 have aD:AccAt X.prog X.w dw s.heap.objs.size []:=⟨[],rfl,(fun k hk=>by cases hk),((HS.IA rfl je).iff fun k=>by simp).fu fun k hk=>by cases hk⟩
 have oN:s.heap.objs.size∉fp:=fun z=>by obtain⟨o,e⟩:=ho _ z;exact absurd (Heap.lt_size e) (Nat.lt_irrefl _)
 have aw:tn 0 dw:=T.keep _ _ _ st fun b _ o e=>old b o e
 have run:=oV (elt:=elt) (gens:=⟨tg,iter,ifs,0⟩::rest) (scope:=scope) (pos:=pos) (d:=0) rfl T aw
  (oW (Y:=aI X N' scope h0.objs.size s H fp) (D:=s.heap.objs.size) (Q:=fun ys _ H2=>Q ys H2) (elt:=elt) (gens:=⟨tg,iter,ifs,0⟩::rest) (scope:=scope) (pos:=pos) (d:=0) rfl hc rfl T oQ aw oN h2 (pg _) (pt _) (pi _ _) I1 fD aD h)
 refine codeAny_mono run fun r s' hr=> ?_
 cases r with
 |error e=>exact hr.elim
 |ok fl=>
  obtain⟨aU,af,H',q1,q2,q3,q4⟩:=hr
  exact oK _ _ s' af H' aU fl hX (Nat.le_refl _) ck q1 q2.1 q3 q4
end
def Du (wi:TI) (ts:Nat) (aF:List Nat) (g:TG) (tt:TT) (ti:TC):TE:=fun σ H Q=>wi σ H fun J H1=>eY g tt ti J [] (cZ ts aF σ) H1 fun ys _ H2=> ∀ks:List Int,ys=ks.map V.int→∀(q:Addr) (bE:List Int),H2 q=none→bE.Pairwise (·≤ ·)→bE.Nodup→(∀k,k∈bE↔k∈ks)→Q (.ref q) (upd H2 q (.lst (bE.map V.int)))
section
variable {X:Cx}{elt tg iter:Expr}{ifs:List Expr}{rest:List Comprehension}{scope:Scope}{pos:Pos}{wi:TI}{g:TG}{tt:TT}{ti:TC}
theorem EZ {p yU:Pos}(N':List Str) (ts:Nat) (aF:List Nat) (hg:Gl X "sorted") (hm:X.mg "sorted" =none) (hi:PI X tg iter wi) (pg:∀C s H fp,PG (aI X N' scope C s H fp) tg g) (pt:∀C s H fp,gA (aI X N' scope C s H fp) ifs tt)
  (pi:∀C s H fp D,fE (aI X N' scope C s H fp) D (inner elt (⟨tg,iter,ifs,0⟩::rest) scope pos 0 (.ref D) (aI X N' scope C s H fp).env) ti)
  (nY:starEach [.SetComp elt (⟨tg,iter,ifs,0⟩::rest) scope pos] X.env=[(false,eval (.SetComp elt (⟨tg,iter,ifs,0⟩::rest) scope pos) X.env)]:=by rfl)
  (ok:oX X.env.scope scope X.N N' ts aF=true:=by rfl) (hc:X.calm=true:=by rfl) (h2:∀g',(Comprehension.mk tg iter ifs 0::rest)[0+1]? =some g'→g'.is_async=0:=by(intro g' h;cases h<;>rfl))
  (hs:∀x,foldedSetIterable iter X.env x=pure x:=by intro _;rfl):
  PE X (.Call (.Name "sorted" p) [.SetComp elt (⟨tg,iter,ifs,0⟩::rest) scope pos] [] yU) (Du wi ts aF g tt ti):=by
 intro pins s σ H Q I h
 refine wpAny_Call_Name_kw (YS I hg hm boot_sorted ?_)
 refine PyProof.Rows.callWith_builtin1 ?_ nY rfl
 rw[nY]
 show wpAny _ _ (spliced ((false,eval (.SetComp elt (⟨tg,iter,ifs,0⟩::rest) scope pos) X.env)::backTo yU (starEach [] X.env))) _ _ s
 refine Calls.spliced_cons ?_
 have S:=Ug ok
 rw[arm_eval_SetComp]
 refine(show wpAny _ X.A (comprehension (.SetComp elt (⟨tg,iter,ifs,0⟩::rest) scope pos) scope X.env _ (newSet (.type "set")) false (eval iter X.env)) _ _ s from ?_)
 refine wpAny_comprehension_free (use:=none) rfl hs (Yn fun y hy e=>I.ok.has _ (S.free y hy e)) S.kind S.names (av (hi pins s σ H _ I h) fun v s1 h1=>av h1 fun gQ s2 kM=> ?_)
 obtain⟨it,fp,tn,J,H2,e,I2,T,au,f2,q2⟩:=kM
 subst e
 refine rF (RR:=fun acc C=>compPost (model X.prog X.w) X.A X.xe none _ acc C) S hc I2 T au f2 h2 (fun C=>pg C _ _ _) (fun C=>pt C _ _ _) (fun C D=>pi C _ _ _ D) q2 ?_
 intro C D s' af H' ys fl hC hD ck J' n a q
 obtain⟨m,hn,_⟩:=J'.loc
 refine⟨m,hn,fun h' sb=> ?_⟩
 have I3:Inv X pins σ H' {s' with heap:=h'} :=rG I2 f2 hC hD ck J' n a sb
 obtain⟨ks,ey,b,hS⟩:=a.keep fun o e=> (sb.2 D ck).trans e
 refine Calls.spliced_nil ?_
 refine HS.DS (I3.ok.hd hc) hS (by decide) fun h2 pP a out bE ee k2 hle he a1 a2 a3 a4 a5=> ?_
 have hlen:(bE.map V.int).length≤sizeLine:=by rw[List.length_map,sizeLine_eq];omega
 exact⟨.ref a,_,I3.laid (t':=pP) (a:=a) (o:=.lst (bE.map V.int)) k2 hle ⟨hlen,out.toList,ee,JE a1,by simpa using he⟩,rfl,q ks ey _ _ (I3.ak.fresh hle) a3 a4 a5⟩
end
end L2.SC
namespace L2
open PySem PySem.Spec PyProof.Rows
section
variable {X:Cx}
def EN (K:PySem.W.Frag):R2:=fun x y H Q=> ∃(p:Addr) (ts:List V) (k:List Int) (ks:List (List Int)),bg H x k∧y=.ref p∧ag K H p ts∧Paired (bg H) ts ks∧Q (.bl (decide (k∈ks))) H
theorem Li (hu:X.A.units+1<cLine):aR X (compareOp .In) (EN X.K):=by
 intro pins s σ H x y v u Q I rx ry h
 obtain⟨p,ts,k,ks,hx,rfl,hp,pr,q⟩:=h
 cases ry
 obtain⟨aa,r,pl,_⟩:=I.tuple hp
 have at':∀{vs:List V}{ks:List (List Int)}{aa:List Value},Paired (bg H) vs ks→Vals vs aa→(∀u∈aa,∃v m,bg H v m∧RelV v u∧bo s.heap u=m)∧(aa.any fun u=>decide (bo s.heap u=k))=decide (k∈ks):=by
  intro vs ks aa pr
  induction pr generalizing aa with
  |nil=>intro rv;cases rv;exact⟨fun u hu=> (by cases hu),by simp⟩
  |cons hh _ ih=>
   intro rv
   cases rv with
   |cons r1 r2=>
    obtain⟨g1,g2⟩:=ih r2
    obtain⟨t,e,ht⟩:=id hh
    obtain⟨items,ri,⟨o,go,oc,n,od⟩,_⟩:=I.tuple (ag.of ht)
    subst e
    have EU:=r1
    cases r1
    have ek:=ZR go od (by simpa using ZV ri)
    refine⟨fun u hu=> ?_,?_⟩
    ·rcases List.mem_cons.mp hu with rfl |hu
     ·exact⟨_,_,hh,EU,ek⟩
     ·exact g1 u hu
    ·rw[List.any_cons,g2,ek,Bool.eq_iff_iff]
     simp only[Bool.or_eq_true,decide_eq_true_eq,List.mem_cons, @eq_comm _ k]
 obtain⟨a1,a2⟩:=at' pr r
 refine SeqAt.in_tupleAt (fun w=>decide (bo s.heap w=k)) pl (fun w hw=> ?_) ⟨.bl _,H,I,?_,q⟩
 ·obtain⟨z,m,h1,h2,h3⟩:=a1 w (by simpa using hw)
  rw[h3]
  exact Mm X.A.in1 hu I h1 hx h2 rx
 ·show Value.bool _=Value.bool _
  rw[←a2]
  simp
end
abbrev pN (h:Heap) (l1:Addr):Heap:=h.push {cls:=.type "list_iterator",data:=.fields #[.ref l1,.int 0 0]}
abbrev pM (h:Heap) (l1 l2:Addr):Heap:=(pN h l1).push {cls:=.type "tuple_iterator",data:=.fields #[.ref l2,.int 0 0]}
abbrev pL (h:Heap) (l1 l2:Addr):Heap:=(pM h l1 l2).push {cls:=.type "tuple",data:=.seq #[.ref h.objs.size,.ref (pN h l1).objs.size]}
abbrev pK (h:Heap) (l1 l2:Addr):Heap:=(pL h l1 l2).push {cls:=.type "tuple",data:=.seq #[.none,.none]}
abbrev lg (h:Heap) (l1 l2:Addr):Heap:=(pK h l1 l2).push {cls:=.type "zip",data:=.fields #[.none,.bool false,.bool false,.ref (pM h l1 l2).objs.size,.ref (pL h l1 l2).objs.size]}
theorem K1 (l1 l2:Addr) (xs ys:Array Value):Meets (Builtin.«zip.__new__» ⟨[.type "zip",.ref l1,.ref l2],[]⟩) (fun _ R s=>s.heap.IsList l1 xs∧IsTup s.heap l2 ys∧R (.ok (.ret (.ref (pK s.heap l1 l2).objs.size))) {s with heap:=lg s.heap l1 l2}):=
 .of_wp fun prog w A R s h=>by
  obtain⟨hp,gg,d,tk,os⟩:=s
  obtain⟨t1,t2,h⟩:=h
  have GQ:=sub_zip
  have T1:(Shared.heap ⟨hp,gg,d,tk,os⟩).IsList l1 xs:=t1
  have T2:IsTup (Shared.heap ⟨hp.push {cls:=.type "list_iterator",data:=.fields #[.ref l1,.int 0 0]},gg,d,tk,os⟩) l2 ys:=OD t2 _
  wp_walk using wpAny_pyIter_list T1,iter_tuple T2
  exact⟨_,rfl,h⟩
theorem K3 {prog:Program}{w:World}{A:Around}{E:Value→Shared→Prop}{s:Shared}{l1 l2:Addr}{xs ys:Array Value}{Q:Value→Shared→Prop}(t1:s.heap.IsList l1 xs) (t2:IsTup s.heap l2 ys)
    (q:∀h',IsZip h' (s.heap.objs.size+4) (s.heap.objs.size+2) (s.heap.objs.size+3) .none→IsPair h' (s.heap.objs.size+2) (.ref s.heap.objs.size) (.ref (s.heap.objs.size+1))→IsPair h' (s.heap.objs.size+3) .none .none→
      h'.IsListIter s.heap.objs.size l1 0→IsTupIter h' (s.heap.objs.size+1) l2 0→(∀c o,s.heap.get? c=some o→h'.get? c=some o)→Q (.ref (s.heap.objs.size+4)) {s with heap:=h'}):
    wpAny (model prog w) A (call (.type "zip") [.ref l1,.ref l2]) Q E s:=by
  refine callType_new F.called_zip (by decide) (F.typeCall_zip_2 _ _) (F.newCall_zip_2 _ _) (fun obj=>F.args_object_init_3 obj _ _) F.entry_zip_new (K1 l1 l2 xs ys) ⟨t1,t2,?_⟩
  have y1:(pN s.heap l1).objs.size=s.heap.objs.size+1:=Heap.size_push ..
  have y2:(pM s.heap l1 l2).objs.size=s.heap.objs.size+2:=by rw[Heap.size_push,y1]
  have y3:(pL s.heap l1 l2).objs.size=s.heap.objs.size+3:=by rw[Heap.size_push,y2]
  have y4:(pK s.heap l1 l2).objs.size=s.heap.objs.size+4:=by rw[Heap.size_push,y3]
  have p:∀{h:Heap}{c:Addr}{o u:Obj},h.get? c=some o→(h.push u).get? c=some o:=fun e=>Heap.get?_push_of_some _ e
  have x5:(lg s.heap l1 l2).get? (pK s.heap l1 l2).objs.size=some _:=Heap.get?_push_size _ rfl
  have x4:(lg s.heap l1 l2).get? (pL s.heap l1 l2).objs.size=some _:=p (Heap.get?_push_size _ rfl)
  have x3:(lg s.heap l1 l2).get? (pM s.heap l1 l2).objs.size=some _:=p (p (Heap.get?_push_size _ rfl))
  have x2:(lg s.heap l1 l2).get? (pN s.heap l1).objs.size=some _:=p (p (p (Heap.get?_push_size _ rfl)))
  have x1:(lg s.heap l1 l2).get? s.heap.objs.size=some _:=p (p (p (p (Heap.get?_push_size _ rfl))))
  show _∧_
  rw[y2,y3,y4]at x5
  rw[y1,y2]at x3
  rw[y3]at x4
  rw[y1]at x2
  rw[y4]
  exact⟨⟨_,x5,rfl⟩,q _ x5 x3 x4 ⟨_,x1,rfl,rfl⟩ ⟨_,x2,rfl,rfl⟩ fun c o x=>p (p (p (p (p x))))⟩
def xF (K:PySem.W.Frag) (l1 l2:Addr):It:=
 ⟨fun i H=> ∃xs ys x y,aj K H l1 xs∧ag K H l2 ys∧xs.length=ys.length∧xs[i]? =some x∧ys[i]? =some y,
  fun i H v H'=> ∃(T:Addr) (x y:V),v=.ref T∧H T=none∧H'=upd H T (.par [x,y])∧∀xs ys,aj K H l1 xs→ag K H l2 ys→xs[i]? =some x∧ys[i]? =some y,
  fun i H=> ∃xs ys,aj K H l1 xs∧ag K H l2 ys∧xs.length=i∧ys.length=i⟩
theorem N0 {P:Program}{w:World}{K:PySem.W.Frag}{elts:List Expr}{kk:Nat}{pos:Pos}(z TI TO i1 i2 l1 l2:Addr) (D:ZipApart z TI TO i1 i2 l1 l2):
  Turn P w K (.Tuple elts kk pos) (xF K l1 l2) [z,TI,TO,i1,i2] z (fun i h=>IsZip h z TI TO .none∧IsPair h TI (.ref i1) (.ref i2)∧(∃a b,IsPair h TO a b)∧h.IsListIter i1 l1 i∧IsTupIter h i2 l2 i) where
 mem:=by simp
 obj:=fun i h st b hb=>by
  obtain⟨a1,a2,⟨u,v,a3⟩,⟨o4,h4,_,d4⟩,⟨o5,h5,_,d5⟩⟩:=st
  exact qL (P:=fun b=> ∃o,h.get? b=some o∧∀v,o.data≠.cell v) ⟨_,a1,fun v z=>by cases z⟩ ⟨_,a2,fun v z=>by cases z⟩ ⟨_,a3,fun v z=>by cases z⟩ ⟨_,h4,fun v z=>by rw[d4]at z;cases z⟩ ⟨_,h5,fun v z=>by rw[d5]at z;cases z⟩ b hb
 keep:=fun i h h' st k=>by
  obtain⟨a1,a2,⟨u,v,a3⟩,a4,a5⟩:=st
  exact⟨k z (by simp) _ a1,k TI (by simp) _ a2,⟨u,v,k TO (by simp) _ a3⟩,a4.at fun o q=>k i1 (by simp) o q,let ⟨o,ho,r⟩:=a5;⟨o,k i2 (by simp) o ho,r⟩⟩
 item:=by
  intro X hP hw hK hc i pins s σ H E I hf st hg
  subst hP hw hK
  obtain⟨xs,ys,x,y,dA,bG,QF,hx,hy⟩:=hg
  obtain⟨dr,iA,cU,ff⟩:=I.list dA
  obtain⟨eM,eG,cw,gR⟩:=I.tuple bG
  obtain⟨u,hu,ru⟩:=iA.get hx
  obtain⟨v,hv,rv⟩:=eG.get hy
  have vH:eM.toArray.size=dr.toArray.size:=by
   have e1:=iA.length
   have e2:=eG.length
   simp only[List.size_toArray]
   omega
  have mj:i<dr.toArray.size:=by
   have e1:=(List.getElem?_eq_some_iff.mp hu).1
   simp only[List.size_toArray]
   omega
  have U2:=UE X.prog X.w eM.toArray D.l2i2
  rw[vH]at U2
  have W:=CN (A:=X.A) (I.ok.hd hc) (L2.src_list X.prog X.w dr.toArray D.l1i1) U2 D
  obtain⟨a1,a2,a3,a4,a5⟩:=st
  refine W.item i s _ _ mj ⟨a1,a2,a3,⟨a4,cU.isList⟩,⟨a5,cw⟩⟩ fun T vals h' tk hP cj oG jR hk=> ⟨_,rfl,W.go elts kk pos i T _ _ _ jR fun eX bY fm=> ?_⟩
  have nU:dr.toArray.getD i .none=u:=by simp[List.getD_eq_getElem?_getD,hu]
  have cD:eM.toArray.getD i .none=v:=by simp[List.getD_eq_getElem?_getD,hv]
  rw[nU,cD]at hP
  subst hP
  have both:∀b o,b∉[z,TI,TO,i1,i2]→s.heap.get? b=some o→eX.get? b=some o:=fun b o hb q=>fm b o (Jn hb) (hk b o (Jn hb) q)
  have oH:eX.IsTuple T #[u,v]:=oG.at fun o q=>fm T o (W.apart _ _ _ jR) q
  refine⟨.ref T,upd H T (.par [x,y]),W2 (s:=s) (h':=eX) (tk:=tk) I hf both cj oH ru rv,rfl,⟨T,x,y,rfl,I.ak.fresh cj,rfl,fun as bs ha hb=>by rw[I.qQ ha dA,I.sJ hb bG];exact⟨hx,hy⟩⟩,⟨bY.1,bY.2.1,bY.2.2.1,bY.2.2.2.1.1,bY.2.2.2.2.1⟩,CD hf cj ?_⟩
  obtain⟨u',v',wM⟩:=a3
  obtain⟨o4,h4,_,d4⟩:=a4
  obtain⟨o5,h5,_,d5⟩:=a5
  exact qL (P:=fun b=> ∃o,s.heap.get? b=some o∧∀v,o.data≠.cell v) ⟨_,a1,fun v z=>by cases z⟩ ⟨_,a2,fun v z=>by cases z⟩ ⟨_,wM,fun v z=>by cases z⟩ ⟨_,h4,fun v z=>by rw[d4]at z;cases z⟩ ⟨_,h5,fun v z=>by rw[d5]at z;cases z⟩
 done:=by
  intro X hP hw hK hc i pins s σ H E I hf st hg
  subst hP hw hK
  obtain⟨xs,ys,dA,bG,hx,hy⟩:=hg
  obtain⟨dr,iA,cU,ff⟩:=I.list dA
  obtain⟨eM,eG,cw,gR⟩:=I.tuple bG
  have e1:=iA.length
  have e2:=eG.length
  have vH:eM.toArray.size=dr.toArray.size:=by simp only[List.size_toArray];omega
  have U2:=UE X.prog X.w eM.toArray D.l2i2
  rw[vH]at U2
  have W:=CN (A:=X.A) (I.ok.hd hc) (L2.src_list X.prog X.w dr.toArray D.l1i1) U2 D
  have hn:i=dr.toArray.size:=by simp only[List.size_toArray];omega
  obtain⟨a1,a2,a3,a4,a5⟩:=st
  rw[hn]at a4 a5
  exact W.done s _ _ ⟨a1,a2,a3,⟨a4,cU.isList⟩,⟨a5,cw⟩⟩ fun h' tk hk=> ⟨rfl,xu (s:=s) (h':=h') (tk:=tk) I hf fun b o hb q=>hk b o (Jn hb) q⟩
 self:=fun A i s Q E st h=>wpAny_pyIter_zip st.1 h
section
variable {X:Cx}{elts:List Expr}{kk:Nat}{tp:Pos}
def Gj (K:PySem.W.Frag) (ta:TA):TI:=fun σ H R=>ta σ H fun vs H1=> ∃l1 l2,vs=[.ref l1,.ref l2]∧(∃xs ys,aj K H1 l1 xs∧ag K H1 l2 ys)∧R (xF K l1 l2) H1
theorem MI {a b:Expr}{ta:TA}{p pos:Pos}(hg:Gl X "zip") (hm:X.mg "zip" =none) (ha:PA X [a,b] ta) (hs:starEach [a,b] X.env=[(false,eval a X.env),(false,eval b X.env)]:=by rfl) (iH:starEach [b] X.env=[(false,eval b X.env)]:=by rfl):
  PI X (.Tuple elts kk tp) (.Call (.Name "zip" p) [a,b] [] pos) (Gj X.K ta):=by
 intro pins s σ H R I h
 refine Call_ (YS I hg hm PyProof.Rows.Boot.«zip» (PyProof.Rows.callWith_type1 (av (ha pos pins s σ H _ I h) fun us s1 ⟨vs,H1,I1,r1,q1⟩=> ?_) (by rw[hs,iH]) (by rw[iH];rfl)))
 obtain⟨l1,l2,e,⟨xs,ys,dA,bG⟩,q⟩:=q1
 subst e
 obtain⟨u,v,rfl,ru,rv⟩:=vals2 r1
 cases ru
 cases rv
 obtain⟨dr,iA,cU,ff⟩:=I1.list dA
 obtain⟨eM,eG,cw,gR⟩:=I1.tuple bG
 have t1:l1<s1.heap.objs.size:=by obtain⟨o,ho,_⟩:=cU.isList;exact Heap.lt_size ho
 have t2:l2<s1.heap.objs.size:=by obtain⟨o,ho,_⟩:=id cw;exact Heap.lt_size ho
 have D:=Uz s1.heap.objs.size l1 l2 t1 t2
 refine K3 cU.isList cw fun h' b1 b2 b3 b4 b5 hk=>wpAny_pyIter_zip b1 ?_
 have I2:Inv X pins σ H1 {s1 with heap:=h'} :=I1.kept (t':=s1.toks) hk
 refine⟨s1.heap.objs.size+4,[s1.heap.objs.size+4,s1.heap.objs.size+2,s1.heap.objs.size+3,s1.heap.objs.size,s1.heap.objs.size+1],_,_,H1,rfl,I2,
  N0 _ _ _ _ _ l1 l2 D,⟨b1,b2,⟨_,_,b3⟩,b4,b5⟩,fun b hb=> ?_,q⟩
 have hJ:s1.heap.objs.size≤b:=by
  simp only[List.mem_cons,List.not_mem_nil,or_false]at hb
  rcases hb with z |z |z |z |z<;>rw[z]<;>first |exact Nat.le_refl _ |exact Nat.le_add_right _ _
 exact I1.kN hJ (I1.ak.fresh hJ)
end
theorem N9 {K:PySem.W.Frag}{l1 l2:Addr}{xs zs:List V}{g:TG}{tt:TT}{ti:TC}{ys:List V}{σ:St}{H:Hp}{Q:List V→St→Hp→Prop}(hlen:xs.length=zs.length) (Pv:Nat→List V→St→Hp→Prop) (h0:Pv 0 ys σ H)
  (hl:∀i ys σ H,i≤xs.length→Pv i ys σ H→aj K H l1 xs∧ag K H l2 zs)
  (hs:∀i x y T ys σ H,xs[i]? =some x→zs[i]? =some y→H T=none→Pv i ys σ H→g (.ref T) σ (upd H T (.par [x,y])) fun bq H2=>tt bq H2 fun b H3=>if b=true then ti ys bq H3 (Pv (i+1)) else Pv (i+1) ys bq H3)
  (hd:∀ys σ H,Pv xs.length ys σ H→Q ys σ H):eY g tt ti (xF K l1 l2) ys σ H Q:=by
 refine⟨fun i m ys σ H=>m=xs.length - i∧i≤xs.length∧Pv i ys σ H,⟨xs.length,by simp,Nat.zero_le _,h0⟩,?_⟩
 rintro i m ys σ H ⟨rfl,hi,p⟩
 obtain⟨q1,q2⟩:=hl i ys σ H hi p
 by_cases ay:i<xs.length
 ·refine .inr ⟨⟨xs,zs,xs[i],zs[i]'(by omega),q1,q2,hlen,by simp[ay],by simp[hlen▸ay]⟩,Pv (i+1),fun aU af H' p'=> ⟨xs.length - (i+1),by omega,rfl,ay,p'⟩,fun x H' y=> ?_⟩
  obtain⟨T,a,b,e1,e2,e3,e4⟩:=y
  subst e1 e3
  obtain⟨f1,f2⟩:=e4 xs zs q1 q2
  exact hs i a b T ys σ H f1 f2 e2 p
 ·have e:i=xs.length:=by omega
  subst e
  exact .inl ⟨⟨xs,zs,q1,q2,rfl,hlen.symm⟩,hd ys σ H p⟩
end L2
namespace U
open PySem L2 PyProof.Rows
def top (i:Nat):Stmt:=PySem.Challenge.pw_unlikesteps_k23_whole_fits.main.body.getD i (.Pass ⟨0,0,0,0⟩)
structure Gs (mg:Str→Option Value):Prop where
 isinstance:mg "isinstance" =none
 int:mg "int" =none
 bool:mg "bool" =none
 tuple:mg "tuple" =none
 list:mg "list" =none
 len:mg "len" =none
 all:mg "all" =none
 set:mg "set" =none
 range:mg "range" =none
 max:mg "max" =none
 min:mg "min" =none
 enumerate:mg "enumerate" =none
 zip:mg "zip" =none
 sorted:mg "sorted" =none
 longest:∃t,mg "LONGEST_SIDE" =some (.int 12 t)
 F0:∃t,mg "MOST_WIDE" =some (.int 6 t)
 F1:∃t,mg "MOST_HIGH" =some (.int 7 t)
section
variable {P:Program}{w:World}{K:PySem.W.Frag}{mg:Str→Option Value}{base:Heap}
abbrev tX:Stmt:=top 7
def tq (K:PySem.W.Frag):Sp:=fun vs H Q _=> ∃x,vs=[x]∧j7 K H x∧Q (.bl (whole x)) H
theorem DW:aX ["thing"] ["thing"] (aM tX):=⟨rfl,rfl,rfl,by decide+kernel,rfl,by decide+kernel,by decide+kernel⟩
theorem NL {f:Addr}{fd:FuncData}(F:aO K "is_whole" "is_whole" tX f fd) (G:Gs mg):aL P w K mg base aJ 1 f fd ["thing"] (tq K):=by
 refine F.ok DW (fun vs H Q E h=> ?_) (fun ar A outer s H vs Q E hr h=> ?_)
 ·obtain⟨x,rfl,_⟩:=h
  rfl
 ·obtain⟨x,rfl,⟨T,t⟩,q⟩:=h
  refine⟨_,Zi (Zm (Yk (Zq (Jm (c:= "int")) rfl G.isinstance boot_isinstance (Za (pv 0) (Za (xm (v:=.ty "int") rfl G.int boot_int rfl) Zb)))
   (Yq (LB (Zq (Jm (c:= "bool")) rfl G.isinstance boot_isinstance (Za (pv 0) (Za (xm (v:=.ty "bool") rfl G.bool boot_bool rfl) Zb))))))),?_⟩
  refine⟨x,rfl,x,_,_,rfl,t,K7 t,_,rfl,?_⟩
  rw[Ow]at q
  cases e:vo x with
  |false=>rw[e]at q;exact aq q
  |true=>rw[e]at q;exact az ⟨x,rfl,x,_,_,rfl,t,L8 t,_,rfl,q⟩
abbrev tW:Stmt:=top 8
def mV (K:PySem.W.Frag):Sp:=fun vs H Q _=> ∃x a b,vs=[x,.int a,.int b]∧j7 K H x∧Q (.bl (bA x a b)) H
theorem DV:aX ["thing", "least", "most"] ["thing", "least", "most"] (aM tW):=⟨rfl,rfl,rfl,by decide+kernel,rfl,by decide+kernel,by decide+kernel⟩
theorem Oe {f:Addr}{fd:FuncData}(F:aO K "is_whole_within" "is_whole_within" tW f fd) (D1:Def P w K mg base 1 "is_whole" ["thing"] (tq K)):aL P w K mg base aJ 2 f fd ["thing", "least", "most"] (mV K):=by
 refine F.ok DV (fun vs H Q E h=> ?_) (fun ar A outer s H vs Q E hr h=> ?_)
 ·obtain⟨x,a,b,rfl,_⟩:=h
  rfl
 ·obtain⟨x,a,b,rfl,t,q⟩:=h
  refine⟨_,Zi (Zm (Yk (Zf D1 hr (Za (pv 0) Zb)) (Yq (Nj A5 A5 (pv 1) (pv 0) (pv 2))))),?_⟩
  refine⟨x,rfl,x,rfl,t,_,rfl,?_⟩
  cases x with
  |int i=>
   refine az ⟨_,rfl,_,rfl,_,_,rfl,rfl,_,rfl,?_⟩
   have e:bA (.int i) a b=(decide (a≤i)&&decide (i≤b)):=rfl
   rw[e]at q
   cases e1:decide (a≤i) with
   |false=>rw[e1]at q;exact aq q
   |true=>rw[e1]at q;exact az ⟨_,rfl,_,_,rfl,rfl,q⟩
  |_=>exact aq q
abbrev t9:Stmt:=top 9
def kb (K:PySem.W.Frag):Sp:=fun vs H Q _=> ∃x n,vs=[x,.int n]∧j7 K H x∧Q (.bl (match cm H x with |some xs=>decide ((xs.length:Int)=n) |none=>false)) H
theorem DZ:aX ["thing", "many"] ["thing", "many"] (aM t9):=⟨rfl,rfl,rfl,by decide+kernel,rfl,by decide+kernel,by decide+kernel⟩
theorem NK {f:Addr}{fd:FuncData}(F:aO K "is_tuple_of" "is_tuple_of" t9 f fd) (G:Gs mg):aL P w K mg base aJ 1 f fd ["thing", "many"] (kb K):=by
 refine F.ok DZ (fun vs H Q E h=> ?_) (fun ar A outer s H vs Q E hr h=> ?_)
 ·obtain⟨x,n,rfl,_⟩:=h
  rfl
 ·obtain⟨x,n,rfl,⟨T,t⟩,q⟩:=h
  refine⟨_,Zi (Zm (Yk (Zq (Jm (c:= "tuple")) rfl G.isinstance boot_isinstance (Za (pv 0) (Za (xm (v:=.ty "tuple") rfl G.tuple boot_tuple rfl) Zb)))
   (Yq (Z2 UN (Zq Zy rfl G.len boot_len (Za (pv 0) Zb)) (pv 1) (aY _))))),?_⟩
  refine⟨x,rfl,x,_,_,rfl,t,Na t,_,rfl,?_⟩
  cases e:cm H x with
  |none=>rw[e]at q;exact aq q
  |some xs=>
   rw[e]at q
   obtain⟨a,rfl,ha⟩:=Zv e
   refine az ⟨_,rfl,a,xs,rfl,.inr (ag.of ha),_,rfl,rfl,?_⟩
   have z:decide (V.int (xs.length:Int)=V.int n)=decide ((xs.length:Int)=n):=by simp
   rw[z]
   exact q
abbrev uL:Stmt:=top 10
def nO:Option (List V)→Bool
 |some [a,b]=>bA a 1 12&&bA b 1 12
 |_=>false
def rX (K:PySem.W.Frag) (H:Hp) (x:V):Prop:=j7 K H x∧∀xs,cm H x=some xs→∀y∈xs,j7 K H y
def tU (K:PySem.W.Frag):Sp:=fun vs H Q _=> ∃x,vs=[x]∧rX K H x∧∀H',ah H H'→Q (.bl (nO (cm H x))) H'
theorem Eh:aX ["thing"] ["thing"] (aM uL):=⟨rfl,rfl,rfl,by decide+kernel,rfl,by decide+kernel,by decide+kernel⟩
theorem NB {f:Addr}{fd:FuncData}(F:aO K "is_board" "is_board" uL f fd) (G:Gs mg) (D1:Def P w K mg base 1 "is_tuple_of" ["thing", "many"] (kb K)) (D2:Def P w K mg base 2 "is_whole_within" ["thing", "least", "most"] (mV K)):
  aL P w K mg base aJ 3 f fd ["thing"] (tU K):=by
 obtain⟨tk,hL⟩:=G.longest
 refine F.ok Eh (fun vs H Q E h=> ?_) (fun ar A outer s H vs Q E hr h=> ?_)
 ·obtain⟨x,rfl,_⟩:=h
  rfl
 ·obtain⟨x,rfl,⟨t,hi⟩,q⟩:=h
  refine⟨_,Zi (Zm (Yk (Zf D1 (hr.mono (by decide)) (Za (pv 0) (Za Zh Zb)))
   (Yq (Zq JV rfl G.all boot_all (Za (Yb ["side"] 1 [] (WI (pv 0)) (fun C s H fp=>pb 0) (fun C s H fp=>Z1)
    (fun C s H fp D=>cz rfl (Zf D2 (hr.mono (by decide)) (Za (pv 0) (Za Zh (Za (xn (v:=.int 12) rfl hL ⟨_,rfl⟩) Zb)))))) Zb))))),?_⟩
  refine⟨x,rfl,x,2,rfl,t,_,rfl,?_⟩
  cases e:cm H x with
  |none=>rw[e]at q;exact aq (q H (ah.refl H))
  |some xs=>
   rw[e]at q
   obtain⟨a,rfl,ha⟩:=Zv e
   show if decide ((xs.length:Int)=2)=true then _ else _
   by_cases h2:xs.length=2
   ·rw[decide_eq_true (show(xs.length:Int)=2 by omega)]
    refine az ⟨_,rfl,a,rfl,⟨xs,ag.of ha⟩,?_⟩
    refine Jf (xs:=xs) (fun i ys σ H2=>ys=(xs.take i).map (fun y=>V.bl (bA y 1 12))∧H2=H∧∃v,σ=[v]) ⟨rfl,rfl,none,rfl⟩ (fun i ys σ H2 _ ⟨_,e2,_⟩=>by rw[e2];exact ag.of ha) ?_ ?_
    ·rintro i y ys σ H2 hy ⟨rfl,rfl,v,rfl⟩
     have my:y∈xs:=List.mem_of_getElem? hy
     refine⟨y,rfl,y,1,12,rfl,hi xs e y my,?_,?_⟩
     ·rw[List.length_map,sizeLine_eq,List.length_take];omega
     ·refine⟨?_,rfl,_,rfl⟩
      rw[List.take_add_one,hy,List.map_append]
      rfl
    ·rintro ys σ H2 ⟨rfl,rfl,v,rfl⟩ p hp
     rw[List.take_length]
     refine⟨p,xs.map (fun y=>bA y 1 12),rfl,?_,?_⟩
     ·rw[List.map_map];exact aj.of Zc
     ·have e3:nO (some xs)=(xs.map (fun y=>bA y 1 12)).all id:=by
       match xs,h2 with
       | [a,b],_=>simp[nO]
      rw[←e3]
      exact q _ fun b o hb=>by rw[Zg (Zd hb hp)];exact hb
   ·rw[decide_eq_false (show ¬(xs.length:Int)=2 by omega)]
    have e3:nO (some xs)=false:=by
     match xs,h2 with
     | [],_=>rfl
     | [a],_=>rfl
     | [a,b],h=>exact absurd rfl h
     |a::b::c::r,_=>rfl
    rw[e3]at q
    exact aq (q H (ah.refl H))
end
section
theorem Jk (val:Nat→Int):∀n,((PyProof.Rows.firstMet val n).length=n↔((List.range n).map val).Nodup)
 |0=>by simp[PyProof.Rows.firstMet_zero]
 |n+1=>by
  have ih:=Jk val n
  have le:=PyProof.Rows.firstMet_length_le val n
  rw[PyProof.Rows.firstMet_succ,PyProof.Rows.step_length,PyProof.Rows.firstMet_any,List.range_succ,List.map_append]
  have e:(((List.range n).map val).any (· ==val n))=true↔val n∈(List.range n).map val:=by
   rw[List.any_eq_true]
   constructor
   ·rintro⟨x,hx,q⟩
    have:x=val n:=by simpa using q
    rw[←this];exact hx
   ·intro h;exact⟨_,h,by simp⟩
  have nd:((List.range n).map val++List.map val [n]).Nodup↔((List.range n).map val).Nodup∧¬val n∈(List.range n).map val:=by
   rw[List.nodup_append]
   constructor
   ·rintro⟨h1,_,h3⟩
    exact⟨h1,fun m=>h3 _ m (val n) (by simp) rfl⟩
   ·rintro⟨h1,h2⟩
    refine⟨h1,by simp,fun a ha b hb q=>h2 ?_⟩
    have cX:b=val n:=by simpa using hb
    rw[←cX,←q];exact ha
  rw[nd,←ih]
  by_cases m:val n∈(List.range n).map val
  ·rw[if_pos (e.mpr m)]
   constructor
   ·intro h;omega
   ·rintro⟨_,h⟩;exact absurd m h
  ·rw[if_neg (fun z=>m (e.mp z))]
   constructor
   ·intro h;exact⟨by omega,m⟩
   ·rintro⟨h,_⟩;omega
theorem ON (ns:List Int):lJ ns=ns.length↔ns.Nodup:=by
 unfold lJ
 rw[Jk]
 have e:(List.range ns.length).map (fun i=>ns.getD i 0)=ns:=by
  refine List.ext_getElem (by simp) fun i h1 h2=> ?_
  rw[List.getElem_map,List.getElem_range,List.getD_eq_getElem?_getD,List.getElem?_eq_getElem h2,Option.getD_some]
 rw[e]
def rowsOf (xs:List V):List V:=xs.filter fun x=> !decide (x=.ae)
def nN (wd hg:Int):Option (List V)→Bool
 |some xs=>decide ((xs.length:Int)=wd)&&((rowsOf xs).all fun r=>bA r 0 (hg - 1))&&decide (rowsOf xs).Nodup
 |none=>false
def bI (H:Hp) (x:V) (wd hg:Int):Prop:=cm H x=some [.int wd,.int hg]∧1≤wd∧wd≤12∧1≤hg∧hg≤12
theorem bI.same {H H':Hp}{x:V}{wd hg:Int}(b:bI H x wd hg) (s:ah H H'):bI H' x wd hg:=⟨s.cm b.1,b.2⟩
theorem bI.is {H:Hp}{x:V}{wd hg:Int}(b:bI H x wd hg):nO (cm H x)=true:=by
 obtain⟨h,h1,h2,h3,h4⟩:=b
 rw[h]
 show(decide (1≤wd)&&decide (wd≤12)&&(decide (1≤hg)&&decide (hg≤12)))=true
 simp[h1,h2,h3,h4]
theorem bI.pl {K:PySem.W.Frag}{H:Hp}{x:V}{wd hg:Int}(b:bI H x wd hg):rX K H x:=by
 obtain⟨a,rfl,ha⟩:=Zv b.1
 refine⟨⟨_,.tup ha⟩,fun xs e y hy=> ?_⟩
 rw[b.1]at e
 cases e
 rcases List.mem_cons.mp hy with z |hy
 ·rw[z];exact⟨_,.int wd⟩
 ·rw[List.mem_singleton.mp hy];exact⟨_,.int hg⟩
theorem Ov {xs:List V}{lo hi:Int}(h:(xs.all fun r=>bA r lo hi)=true):∃ns:List Int,xs=ns.map V.int:=by
 induction xs with
 |nil=>exact⟨[],rfl⟩
 |cons x xs ih=>
  rw[List.all_cons,Bool.and_eq_true]at h
  obtain⟨ns,e⟩:=ih h.2
  cases x with
  |int i=>exact⟨i::ns,by rw[e];rfl⟩
  |_=>cases h.1
theorem UP (ns:List Int):(ns.map V.int).Nodup↔ns.Nodup:=by
 induction ns with
 |nil=>simp
 |cons n ns ih=>rw[List.map_cons,List.nodup_cons,List.nodup_cons,ih];simp
end
section
variable {P:Program}{w:World}{K:PySem.W.Frag}{mg:Str→Option Value}{base:Heap}
abbrev um:Stmt:=top 11
def tK (K:PySem.W.Frag):Sp:=fun vs H Q _=> ∃x wd hg,vs=[x]∧bI H x wd hg∧∀H',ah H H'→Q .ae H'
theorem D7:aX ["board"] ["board"] (aM um):=⟨rfl,rfl,rfl,by decide+kernel,rfl,by decide+kernel,by decide+kernel⟩
theorem OT {f:Addr}{fd:FuncData}(F:aO K "need_board" "need_board" um f fd) (D1:Def P w K mg base 3 "is_board" ["thing"] (tU K)):aL P w K mg base aJ 4 f fd ["board"] (tK K):=by
 refine F.ok D7 (fun vs H Q E h=> ?_) (fun ar A outer s H vs Q E hr h=> ?_)
 ·obtain⟨x,wd,hg,rfl,_⟩:=h
  rfl
 ·obtain⟨x,wd,hg,rfl,b,q⟩:=h
  refine⟨_,Zi (ZK (Y2 (Yp (Zf D1 hr (Za (pv 0) Zb)))) ZO Zr),?_⟩
  refine⟨x,rfl,x,rfl,b.pl,fun H' sm=> ⟨_,rfl,?_⟩⟩
  rw[b.is]
  exact aq (q H' sm)
abbrev ur:Stmt:=top 13
def p7 (K:PySem.W.Frag):Sp:=fun vs H Q _=> ∃x y wd hg,vs=[x,y]∧bI H x wd hg∧rX K H y∧∀H',ah H H'→Q (.bl (nN wd hg (cm H y))) H'
theorem qp:aX ["board", "thing", "wide", "high", "rows"] ["board", "thing"] (aM ur):=⟨rfl,rfl,rfl,by decide+kernel,rfl,by decide+kernel,by decide+kernel⟩
theorem Lr {f:Addr}{fd:FuncData}(F:aO K "is_lay" "is_lay" ur f fd) (G:Gs mg) (D1:Def P w K mg base 4 "need_board" ["board"] (tK K)) (D2:Def P w K mg base 1 "is_tuple_of" ["thing", "many"] (kb K))
  (D3:Def P w K mg base 2 "is_whole_within" ["thing", "least", "most"] (mV K)):aL P w K mg base aJ 5 f fd ["board", "thing"] (p7 K):=by
 refine F.ok qp (fun vs H Q E h=> ?_) (fun ar A outer s H vs Q E hr h=> ?_)
 ·obtain⟨x,y,wd,hg,rfl,_⟩:=h
  rfl
 ·obtain⟨x,y,wd,hg,rfl,b,⟨ty,hy⟩,q⟩:=h
  refine⟨_,Ze (Yh (Zf D1 hr (Za (pv 0) Zb)))
   (Ze (Je (pv 0) (Yd rfl (Zk (Zs (i:=2) qp.nd rfl (Or.inl rfl)) (Zk (Zs (i:=3) qp.nd rfl (Or.inr rfl)) ZU))))
   (Ze (ZK (Y2 (Yp (Zf D2 (hr.mono (by decide)) (Za (pv 1) (Za (pv 2) Zb))))) (Zi (Zm YV)) Zr)
   (Ze (Jq ["row"] 1 [] (i:=4) qp.nd rfl (Or.inl rfl) (WI (pv 1)) (fun C s H fp=>pb 0) (fun C s H fp=>Yu (YD (YK (pv 0)))) (fun C s H fp D=>cz rfl (pv 0)))
   (Zi (Zm (Yk (Zq JV rfl G.all boot_all (Za (Yb ["row", "high"] 1 [3] (Ya (pv 4)) (fun C s H fp=>pb 0) (fun C s H fp=>Z1)
     (fun C s H fp D=>cz rfl (Zf D3 (hr.mono (by decide)) (Za (pv 0) (Za Zh (Za (Zt YE (pv 1) Zh) Zb)))))) Zb))
    (Yq (Z2 UN (Zq Uy rfl G.len boot_len (Za (Z3 Uw rfl G.set boot_set (Za (pv 4) Zb)) Zb)) (Zq Zy rfl G.len boot_len (Za (pv 4) Zb)) (aY _))))))))),?_⟩
  refine⟨x,rfl,x,wd,hg,rfl,b,fun H1 s1=> ?_⟩
  have b1:=b.same s1
  obtain⟨a,rfl,ha⟩:=Zv b1.1
  refine⟨_,rfl,a,_,rfl,ag.of ha,rfl,_,_,rfl,_,_,rfl,rfl,?_⟩
  refine⟨y,rfl,_,rfl,y,wd,rfl,s1.yV ty,_,rfl,?_⟩
  cases e:cm H y with
  |none=>
   have e1:cm H1 y=none:=by
    obtain⟨T,t⟩:=ty
    cases t with
    |tup e2=>rw[ZB e2]at e;cases e
    |lst e2=>rw[Yt,s1 _ _ e2];rfl
    |cK e2=>rw[Yt,s1 _ _ e2];rfl
    |dK e2=>rw[Yt,s1 _ _ e2];rfl
    |dT e2=>rw[Yt,s1 _ _ e2];rfl
    |_=>rfl
   rw[e1]
   rw[e]at q
   exact az (q H1 s1)
  |some xs=>
   have e1:=s1.cm e
   rw[e1]
   rw[e]at q
   obtain⟨l,rfl,hl⟩:=Zv e1
   by_cases hw:(xs.length:Int)=wd
   ·refine(show if (!decide ((xs.length:Int)=wd))=true then _ else _ from ?_)
    rw[decide_eq_true hw]
    refine aq ?_
    have Gv:=b.2.2.1
    have hlen:xs.length≤12:=by omega
    refine⟨_,rfl,l,rfl,⟨xs,ag.of hl⟩,?_⟩
    refine Jf (xs:=xs) (fun i ys σ H2=>ys=rowsOf (xs.take i)∧H2=H1∧∃v,σ=[v]) ⟨rfl,rfl,none,rfl⟩ (fun i ys σ H2 _ ⟨_,e2,_⟩=>by rw[e2];exact ag.of hl) ?_ ?_
    ·rintro i r ys σ H2 aZ ⟨rfl,rfl,v,rfl⟩
     have et:rowsOf (xs.take (i+1))=rowsOf (xs.take i)++(if (!decide (r=V.ae))=true then [r] else []):=by
      unfold rowsOf
      rw[List.take_add_one,aZ,List.filter_append]
      cases hh:(!decide (r=V.ae)) with
      |true=>simp[hh]
      |false=>simp[hh]
     refine⟨r,rfl,_,rfl,?_⟩
     cases hh:(!decide (r=V.ae)) with
     |true=>
      rw[hh]at et
      refine az ?_
      refine⟨r,rfl,?_,?_⟩
      ·have:=List.length_filter_le (fun x=> !decide (x=V.ae)) (xs.take i)
       unfold rowsOf
       rw[sizeLine_eq]
       rw[List.length_take]at this
       omega
      ·exact⟨by rw[et,if_pos rfl],rfl,_,rfl⟩
     |false=>
      rw[hh]at et
      exact aq ⟨by rw[et,if_neg Bool.false_ne_true,List.append_nil],rfl,_,rfl⟩
    ·rintro ys σ H2 ⟨rfl,rfl,v,rfl⟩ p hp
     rw[List.take_length]
     have Qy:(rowsOf xs).length≤12:=Nat.le_trans (List.length_filter_le _ _) hlen
     have s2:ah H2 (upd H2 p (.lst (rowsOf xs))):=fun b o hb=>by rw[Zg (Zd hb hp)];exact hb
     refine⟨_,rfl,p,rfl,⟨rowsOf xs,aj.of Zc⟩,?_⟩
     generalize Aw:upd H2 p (HO.lst (rowsOf xs))=H3 at s2
     have n8:H3 p=some (.lst (rowsOf xs)):=by rw[←Aw];exact Zc
     refine Z5 (xs:=rowsOf xs) (fun i ys σ H4=>ys=((rowsOf xs).take i).map (fun r=>V.bl (bA r 0 (hg - 1)))∧H4=H3∧∃v,σ=[v,some (.int hg)]) ⟨rfl,rfl,none,rfl⟩ (fun i ys σ H4 _ ⟨_,e2,_⟩=>by rw[e2];exact aj.of n8) ?_ ?_
     ·rintro i r ys σ H4 aZ ⟨rfl,rfl,v,rfl⟩
      have mr:r∈xs:=(List.mem_filter.mp (List.mem_of_getElem? aZ)).1
      refine⟨r,rfl,_,rfl,_,_,rfl,rfl,r,0,hg - 1,rfl,(s1.trans s2).yV (hy xs e r mr),?_,?_⟩
      ·rw[List.length_map,sizeLine_eq,List.length_take];omega
      ·refine⟨?_,rfl,_,rfl⟩
       rw[List.take_add_one,aZ,List.map_append]
       rfl
     ·rintro ys σ H4 ⟨rfl,rfl,v,rfl⟩ p' vJ
      rw[List.take_length]
      have s3:∀o,ah H4 (upd H4 p' o):=fun o b u hb=>by rw[Zg (Zd hb vJ)];exact hb
      refine⟨p',(rowsOf xs).map (fun r=>bA r 0 (hg - 1)),rfl,?_,?_⟩
      ·rw[List.map_map];exact aj.of Zc
      ·have II:((rowsOf xs).map (fun r=>bA r 0 (hg - 1))).all id=(rowsOf xs).all fun r=>bA r 0 (hg - 1):=by rw[List.all_map];rfl
       rw[II]
       have IF:nN wd hg (some xs)=(((rowsOf xs).all fun r=>bA r 0 (hg - 1))&&decide (rowsOf xs).Nodup):=by
        show(decide ((xs.length:Int)=wd)&&_&&_)=_
        rw[decide_eq_true hw,Bool.true_and]
       rw[IF]at q
       refine⟨_,rfl,?_⟩
       cases bP:((rowsOf xs).all fun r=>bA r 0 (hg - 1)) with
       |false=>
        rw[bP]at q
        exact aq (q _ (s1.trans (s2.trans (s3 _))))
       |true=>
        rw[bP,Bool.true_and]at q
        obtain⟨ns,en⟩:=Ov bP
        have bC:(upd H4 p' (.lst (((rowsOf xs).map (fun r=>V.bl (bA r 0 (hg - 1))))))) p=some (.lst (rowsOf xs)):=s3 _ _ _ n8
        refine az ?_
        have QB:ns.length=(rowsOf xs).length:=by rw[en,List.length_map]
        refine⟨_,rfl,p,ns,rfl,by rw[←en];exact aj.of bC,by omega,fun q2 S bG=> ⟨q2,S,lJ ns,rfl,Zc,_,rfl,p,rowsOf xs,rfl,.inl (aj.of ?_),rfl,?_⟩⟩
        ·rw[Zg (Zd bC bG)];exact bC
        ·have ed:decide (V.int (lJ ns:Int)=V.int ((rowsOf xs).length:Int))=decide (rowsOf xs).Nodup:=by
          rw[decide_eq_decide]
          rw[en,UP,←ON,List.length_map]
          constructor
          ·intro h;injection h with h;omega
          ·intro h;rw[h]
         rw[ed]
         exact q _ (s1.trans (s2.trans ((s3 _).trans fun b o hb=>by rw[Zg (Zd hb bG)];exact hb)))
   ·refine(show if (!decide ((xs.length:Int)=wd))=true then _ else _ from ?_)
    rw[decide_eq_false hw]
    have e3:nN wd hg (some xs)=false:=by
     show(decide ((xs.length:Int)=wd)&&_&&_)=false
     rw[decide_eq_false hw,Bool.false_and,Bool.false_and]
    rw[e3]at q
    exact az (q H1 s1)
abbrev uK:Stmt:=top 43
def tT (K:PySem.W.Frag):Sp:=fun vs H Q _=> ∃(a:Addr) (ns:List Int) (k:Nat),vs=[.ref a,.int k]∧aj K H a (ns.map V.int)∧∀n:Int,Q (.int n) H
theorem Eg:aX ["_law_script", "_law_k"] ["_law_script", "_law_k"] (aM uK):=⟨rfl,rfl,rfl,by decide+kernel,rfl,by decide+kernel,by decide+kernel⟩
theorem Ld {f:Addr}{fd:FuncData}(F:aO K "_law_cell_at" "_law_cell_at" uK f fd) (G:Gs mg):aL P w K mg base aJ 1 f fd ["_law_script", "_law_k"] (tT K):=by
 refine F.ok Eg (fun vs H Q E h=> ?_) (fun ar A outer s H vs Q E hr h=> ?_)
 ·obtain⟨a,ns,k,rfl,_⟩:=h
  rfl
 ·obtain⟨a,ns,k,rfl,hs,q⟩:=h
  refine⟨_,Ze (ZK (Zn rL (pv 1) (Zq Zy rfl G.len boot_len (Za (pv 0) Zb)) (aY _)) (Zi (Zm (Zw Z6 (pv 0) (pv 1) (fun _ _=>rfl)))) Zr) (Zi (Zm Zh)),?_⟩
  refine⟨_,rfl,_,rfl,a,ns.map V.int,rfl,.inl hs,_,_,rfl,rfl,_,rfl,?_⟩
  by_cases hk:k<ns.length
  ·rw[decide_eq_true (by rw[List.length_map];omega)]
   refine az ⟨_,rfl,_,rfl,a,ns.map V.int,k,V.int ns[k],rfl,rfl,hs,ZL ?_,q _⟩
   rw[List.getElem?_map,List.getElem?_eq_getElem hk]
   rfl
  ·rw[decide_eq_false (by rw[List.length_map];omega)]
   exact aq (q 0)
def bM (H:Hp) (p:Addr):Prop:=∃u v:Int,H p=some (.lst [.int u,.int v])∧0≤u∧0≤v∧v<2147483647
abbrev uc:Stmt:=top 44
def tD (K:PySem.W.Frag):Sp:=fun vs H Q _=> ∃(a:Addr) (ns:List Int) (k:Nat),vs=[.ref a,.int k]∧aj K H a (ns.map V.int)∧∀p H',H p=none→ah H H'→bM H' p→Q (.ref p) H'
theorem yv:aX ["_law_script", "_law_k", "_law_cell"] ["_law_script", "_law_k"] (aM uc):=⟨rfl,rfl,rfl,by decide+kernel,rfl,by decide+kernel,by decide+kernel⟩
theorem NH {f:Addr}{fd:FuncData}(F:aO K "_law_state" "_law_state" uc f fd) (G:Gs mg) (D1:Def P w K mg base 1 "_law_cell_at" ["_law_script", "_law_k"] (tT K)):aL P w K mg base aJ 2 f fd ["_law_script", "_law_k"] (tD K):=by
 refine F.ok yv (fun vs H Q E h=> ?_) (fun ar A outer s H vs Q E hr h=> ?_)
 ·obtain⟨a,ns,k,rfl,_⟩:=h
  rfl
 ·obtain⟨a,ns,k,rfl,hs,q⟩:=h
  refine⟨_,Ze (Zx (i:=2) yv.nd rfl (Or.inl rfl) (Zf D1 hr (Za (pv 0) (Za (pv 1) Zb))))
   (Zi (Zm (ZT (Za (Zq (U8 rfl) rfl G.max boot_max (Za Zh (Za (Zt YE (pv 2) (Zt Lz Zh Zh)) Zb))) (Za (Zt Y3 (pv 2) Zh) Zb))))),?_⟩
  refine⟨_,rfl,_,rfl,a,ns,k,rfl,hs,fun n=> ?_⟩
  refine⟨_,rfl,_,_,rfl,rfl,⟨by decide,by decide,by decide⟩,_,_,rfl,rfl,_,_,rfl,?_⟩
  refine⟨_,rfl,_,_,rfl,rfl,(by show(0:Int)<2147483647;decide),(by show 2≤sizeLine;decide),fun p hp=>q p _ hp (fun b o hb=>by rw[Zg (Zd hb hp)];exact hb) ?_⟩
  refine⟨_,_,Zc,?_,Int.emod_nonneg _ (by decide),Int.emod_lt_of_pos _ (by decide)⟩
  split<;>omega
abbrev ua:Stmt:=top 45
def lD:Sp:=fun vs H Q _=> ∃(p:Addr) (m:Int),vs=[.ref p,.int m]∧bM H p∧0<m∧m<1000∧∀r o,0≤r→r<m→bM (upd H p o) p→Q (.int r) (upd H p o)
theorem qo:aX ["_law_state_here", "_law_many", "_law_found", "_law_stirred"] ["_law_state_here", "_law_many"] (aM ua):=⟨rfl,rfl,rfl,by decide+kernel,rfl,by decide+kernel,by decide+kernel⟩
theorem jn {x y:V} :da [x,y] 0=some x:=rfl
theorem jm {x y:V} :da [x,y] 1=some y:=rfl
theorem Le {f:Addr}{fd:FuncData}(F:aO K "_law_take" "_law_take" ua f fd):aL P w K mg base aJ 1 f fd ["_law_state_here", "_law_many"] lD:=by
 refine F.ok qo (fun vs H Q E h=> ?_) (fun ar A outer s H vs Q E hr h=> ?_)
 ·obtain⟨p,m,rfl,_⟩:=h
  rfl
 ·obtain⟨p,m,rfl,⟨u,v,hp,hu,hv,GC⟩,hm,fI,q⟩:=h
  refine⟨_,Ze (ZK (Zn UM (Zw Z6 (pv 0) Zh (fun _ _=>rfl)) Zh (aY _))
    (Ze (Zx (i:=2) qo.nd rfl (Or.inl rfl) (Zt Y3 (Zw Z6 (pv 0) Zh (fun _ _=>rfl)) (pv 1)))
    (Ze (Je (Zt BL (Zw Z6 (pv 0) Zh (fun _ _=>rfl)) (pv 1)) (Bl (pv 0) Zh CH)) (Zi (Zm (pv 2))))) Zr)
   (Ze (Je (Zt Y3 (Zt Y4 (Zt WN (Zw Z6 (pv 0) Zh (fun _ _=>rfl)) Zh) Zh) Zh) (Bl (pv 0) Zh CH))
   (Ze (Zx (i:=3) qo.nd rfl (Or.inl rfl) (Zt Y3 (Zt Y4 (Zt Y4 (Zt WN (Zw Z6 (pv 0) Zh (fun _ _=>rfl)) (Zw Z6 (pv 0) Zh (fun _ _=>rfl))) (Zt WN Zh (Zw Z6 (pv 0) Zh (fun _ _=>rfl)))) Zh) Zh))
   (Ze (Zx (i:=3) qo.nd rfl (Or.inl rfl) (Zt Y3 (Zt Y4 (Zt WN (pv 3) (pv 3)) (Zt WN Zh (pv 3))) Zh))
   (Zi (Zm (Zt Y3 (Zt BL (pv 3) Zh) (pv 1))))))),?_⟩
  have s0:=aj.of (K:=K) hp
  refine⟨_,rfl,p,_,_,_,rfl,rfl,s0,jn,_,_,rfl,rfl,_,rfl,?_⟩
  by_cases h0:0<u
  ·rw[decide_eq_true h0]
   refine az ?_
   refine⟨_,rfl,p,_,_,_,rfl,rfl,s0,jn,_,rfl,_,_,rfl,rfl,hm,?_⟩
   refine⟨_,rfl,p,_,_,_,rfl,rfl,s0,jn,_,rfl,_,_,rfl,rfl,⟨hm,by omega⟩,?_⟩
   refine⟨_,rfl,p,_,0,0,rfl,rfl,hp,rfl,?_⟩
   refine⟨_,rfl,q _ _ (Int.emod_nonneg _ (by omega)) (Int.emod_lt_of_pos _ hm) ?_⟩
   exact⟨u/m,v,Zc,Int.ediv_nonneg hu (by omega),hv,GC⟩
  ·rw[decide_eq_false h0]
   refine aq ?_
   refine⟨_,rfl,p,_,_,_,rfl,rfl,s0,jm,_,_,rfl,rfl,.inr ⟨by decide,by decide⟩,_,_,rfl,rfl,_,_,rfl,rfl,(by show(0:Int)<2147483647;decide),?_⟩
   refine⟨_,rfl,p,_,1,1,rfl,rfl,hp,rfl,?_⟩
   have b1:0≤((v*48271+29)%2147483647):=Int.emod_nonneg _ (by decide)
   have b2:((v*48271+29)%2147483647)<2147483647:=Int.emod_lt_of_pos _ (by decide)
   have s1:aj K (upd H p (.lst (([V.int u,V.int v]:List V).set 1 (V.int ((v*48271+29)%2147483647))))) p [.int u,.int ((v*48271+29)%2147483647)]:=aj.of Zc
   have lo:∀{t:Int},0≤t→ -(2^64)<t:=fun h=>Int.lt_of_lt_of_le (by decide) h
   have hi:∀{t:Int},t<2147483647→t<2^64:=fun h=>Int.lt_trans h (by decide)
   refine⟨_,rfl,p,_,_,_,rfl,rfl,s1,jm,_,rfl,p,_,_,_,rfl,rfl,s1,jm,_,_,rfl,rfl,.inl ⟨lo b1,hi b2⟩,?_⟩
   refine⟨_,rfl,p,_,_,_,rfl,rfl,s1,jm,_,_,rfl,rfl,.inl ⟨by decide,by decide⟩,_,_,rfl,rfl,_,_,rfl,rfl,_,_,rfl,rfl,(by show(0:Int)<2147483629;decide),?_⟩
   have c1:0≤((((v*48271+29)%2147483647)*((v*48271+29)%2147483647)+39373*((v*48271+29)%2147483647)+7)%2147483629):=Int.emod_nonneg _ (by decide)
   have c2:((((v*48271+29)%2147483647)*((v*48271+29)%2147483647)+39373*((v*48271+29)%2147483647)+7)%2147483629)<2147483647:=Int.lt_trans (Int.emod_lt_of_pos _ (by decide)) (by decide)
   refine⟨_,rfl,_,rfl,_,_,rfl,rfl,.inl ⟨lo c1,hi c2⟩,_,rfl,_,_,rfl,rfl,.inl ⟨by decide,by decide⟩,_,_,rfl,rfl,_,_,rfl,rfl,(by show(0:Int)<2147483587;decide),?_⟩
   refine⟨_,rfl,_,_,rfl,rfl,⟨by decide,by decide⟩,_,rfl,_,_,rfl,rfl,hm,?_⟩
   refine q _ _ (Int.emod_nonneg _ (by omega)) (Int.emod_lt_of_pos _ hm) ?_
   exact⟨u,_,Zc,hu,b1,b2⟩
structure aK (wd hg:Int) (xs:List V):Prop where
 len:(xs.length:Int)=wd
 row:∀r∈rowsOf xs,bA r 0 (hg - 1)=true
 nd:(rowsOf xs).Nodup
theorem aK.is {wd hg:Int}{xs:List V}(h:aK wd hg xs):nN wd hg (some xs)=true:=by
 show(decide ((xs.length:Int)=wd)&&((rowsOf xs).all fun r=>bA r 0 (hg - 1))&&decide (rowsOf xs).Nodup)=true
 rw[decide_eq_true h.len,decide_eq_true h.nd,List.all_eq_true.mpr h.row]
 rfl
abbrev uJ:Stmt:=top 46
def tS (K:PySem.W.Frag):Sp:=fun vs H Q _=> ∃(p b:Addr) (wd hg:Int),vs=[.ref p,.ref b]∧bM H p∧bI H (.ref b) wd hg∧
 ∀(l:Addr) (H':Hp) (xs:List V),aN p H H'→bM H' p→H' l=some (.tup xs)→l≠p→aK wd hg xs→Q (.ref l) H'
theorem qu:aX ["_law_state_here", "_law_board", "_law_way", "_law_left", "_law_found", "_law_line", "_law_share", "_law_spot"] ["_law_state_here", "_law_board"] (aM uJ):=⟨rfl,rfl,rfl,by decide+kernel,rfl,by decide+kernel,by decide+kernel⟩
theorem IB {v:Int}(h:0≤v) (h':v<5):∃c:Int,da ([V.int 4,.int 4,.int 3,.int 1,.int 0]:List V) v=some (.int c):=by
 have:v=0∨v=1∨v=2∨v=3∨v=4:=by omega
 rcases this with rfl |rfl |rfl |rfl |rfl<;>exact⟨_,rfl⟩
theorem KS {n:Nat}{i:Int}(h:0≤i) (h':i<n):seqIndex? i n=some i.toNat:=by
 have e:i5 n i=some i.toNat:=by unfold i5;rw[if_pos h,if_pos h']
 exact(xf e).1
theorem Yg (xs:List V) (y:V):rowsOf (xs++[y])=rowsOf xs++(if (!decide (y=V.ae))=true then [y] else []):=by
 unfold rowsOf
 rw[List.filter_append]
 cases hh:(!decide (y=V.ae))<;>simp[hh]
theorem WJ:∀(l:List V) (k:Nat) (h:k<l.length),(l[k]::l.eraseIdx k).Perm l
 |x::l,0,_=> .refl _
 |x::l,k+1,h=>by
  have h':k<l.length:=by simpa using h
  show(l[k]::x::l.eraseIdx k).Perm (x::l)
  exact(List.Perm.swap x l[k] _).trans (List.Perm.cons x (WJ l k h'))
theorem NC {f:Addr}{fd:FuncData}(F:aO K "_law_lay" "_law_lay" uJ f fd) (G:Gs mg) (D1:Def P w K mg base 1 "_law_take" ["_law_state_here", "_law_many"] lD):aL P w K mg base aJ 2 f fd ["_law_state_here", "_law_board"] (tS K):=by
 refine F.ok qu (fun vs H Q E h=> ?_) (fun ar A outer s H vs Q E hr h=> ?_)
 ·obtain⟨p,b,wd,hg,rfl,_⟩:=h
  rfl
 ·obtain⟨p,b,wd,hg,rfl,st,bd,q⟩:=h
  refine⟨_,Ze (MK (i:=2) (j:=3) (k:=4) rfl qu.nd rfl rfl rfl rfl rfl rfl
    (Za (Zf D1 hr (Za (pv 0) (Za Zh Zb))) (Za (Z3 Ux rfl G.list boot_list (Za (Z3 Om rfl G.range boot_range (Za (Zw Zz (pv 1) Zh (fun _ _=>rfl)) Zb)) Zb)) (Za (ZT Zb) Zb))))
   (Ze (YQ PassesOwn.never rfl (ZP rfl G.range (Za (Zw Zz (pv 1) Zh (fun _ _=>rfl)) Zb)) (Zs (i:=5) qu.nd rfl (Or.inl rfl))
    (Ze (wY (i:=6) (j:=7) rfl qu.nd rfl rfl (by decide) rfl rfl (Za (Zf D1 hr (Za (pv 0) (Za Zh Zb))) (Za (Zf D1 hr (Za (pv 0) (Za Zh Zb))) Zb)) rfl)
    (Zi (ZK (PW.pt (JJ (Zn (WO hr.lh) (pv 3) (ZT Zb) (aY _)) (Jd (Zn wR (pv 6) (Zw Z6 (ZT (Za Zh (Za Zh (Za Zh (Za Zh (Za Zh Zb)))))) (pv 2) (fun _ _=>rfl)) (aY _)))))
     (Zi (Yh (WL PySem.F.plainAttrs_list PySem.F.slot_list_append PySem.F.type_list_append Jr (pv 4) (Za ZY Zb))))
     (Zi (Yh (WL PySem.F.plainAttrs_list PySem.F.slot_list_append PySem.F.type_list_append Jr (pv 4)
      (Za (WL PySem.F.plainAttrs_list PySem.F.slot_list_pop PySem.F.type_list_pop Me (pv 3) (Za (Zt Y3 (pv 7) (Zq Zy rfl G.len boot_len (Za (pv 3) Zb))) Zb)) Zb))))))))
   (Zi (Zm (Z3 ZX rfl G.tuple boot_tuple (Za (pv 4) Zb))))),?_⟩
  obtain⟨a,e,hb⟩:=Zv bd.1
  cases e
  obtain⟨_,w1,w2,g1,g2⟩:=id bd
  obtain⟨u0,v0,e0,_⟩:=id st
  have rm:b≠p:=Ys hb e0 (by intro z;cases z)
  refine⟨_,rfl,p,5,rfl,st,by decide,by decide,fun way o1 h1 oO aw=> ?_⟩
  have x1:aN p H (upd H p o1):=aN.upd
  have rp:=x1 _ _ hb rm
  refine⟨_,rfl,b,_,_,_,rfl,rfl,ag.of rp,jm,hg,rfl,fun q1 dA=> ⟨q1,hg,rfl,Zc,by omega,by omega,fun L hL=> ⟨Nat.zero_le _,fun M hM=> ⟨_,_,_,rfl,?_⟩⟩⟩⟩
  generalize wj:upd (upd (upd (upd H p o1) q1 (.fX 0 hg)) L (.lst (L2.upTo hg.toNat))) M (.lst [])=H0
  have sA:ah (upd H p o1) (upd (upd H p o1) q1 (.fX 0 hg)):=fun c o hc=>by rw[Zg (Zd hc dA)];exact hc
  have sB:ah (upd (upd H p o1) q1 (.fX 0 hg)) (upd (upd (upd H p o1) q1 (.fX 0 hg)) L (.lst (L2.upTo hg.toNat))):=fun c o hc=>by rw[Zg (Zd hc hL)];exact hc
  have sC:ah (upd (upd (upd H p o1) q1 (.fX 0 hg)) L (.lst (L2.upTo hg.toNat))) H0:=fun c o hc=>by rw[←wj,Zg (Zd hc hM)];exact hc
  have s0:ah (upd H p o1) H0:=sA.trans (sB.trans sC)
  have Ib:H0 M=some (.lst []):=by rw[←wj];exact Zc
  have Ie:H0 L=some (.lst (L2.upTo hg.toNat)):=sC _ _ Zc
  obtain⟨u1,v1,e1,y1,y2,y3⟩:=id aw
  have cQ:bM H0 p:=⟨u1,v1,s0 _ _ e1,y1,y2,y3⟩
  have fv:=s0 _ _ e1
  have wg:L≠M:=Zd (by exact Zc) hM
  have zN:p≠L:=Zd (sA _ _ e1) hL
  have vI:p≠M:=Zd (sB _ _ (sA _ _ e1)) hM
  have wb:H0 b=some (.tup [.int wd,.int hg]):=s0 _ _ rp
  have xt:∀H2,(∀c o,H0 c=some o→c≠p→c≠L→c≠M→H2 c=some o)→aN p H H2:=fun H2 k c o hc hn=>by
   have c1:=x1 c o hc hn
   exact k c o (s0 _ _ c1) hn (Zd (sA _ _ c1) hL) (Zd (sB _ _ (sA _ _ c1)) hM)
  refine⟨_,rfl,b,_,_,_,rfl,rfl,ag.of wb,jn,wd,rfl,by omega,by omega,?_⟩
  refine Yl (n:=wd.toNat) (fun i σ H2=> ∃(ls fs:List V) (x5 x6 x7:Option V),σ=[some (.ref p),some (.ref b),some (.int way),some (.ref L),some (.ref M),x5,x6,x7]∧
    (∀c o,H0 c=some o→c≠p→c≠L→c≠M→H2 c=some o)∧bM H2 p∧H2 L=some (.lst ls)∧H2 M=some (.lst fs)∧fs.length=i∧(∀r∈rowsOf fs++ls,bA r 0 (hg - 1)=true)∧(rowsOf fs++ls).Nodup)
   ⟨L2.upTo hg.toNat,[],none,none,none,rfl,fun c o hc _ _ _=>hc,cQ,Ie,Ib,rfl,?_,?_⟩ ?_ ?_
  ·intro r aZ
   have gh:r∈L2.upTo hg.toNat:=aZ
   unfold L2.upTo at gh
   obtain⟨j,hj,rfl⟩:=List.mem_map.mp gh
   have:=List.mem_range.mp hj
   show(decide ((0:Int)≤(j:Int))&&decide ((j:Int)≤hg - 1))=true
   rw[decide_eq_true (by omega),decide_eq_true (by omega)]
   rfl
  ·show(L2.upTo hg.toNat).Nodup
   unfold L2.upTo
   have e:((List.range hg.toNat).map fun(i:Nat)=>V.int (i:Int))=(((List.range hg.toNat).map fun(i:Nat)=> (i:Int))).map V.int:=by rw[List.map_map];rfl
   rw[e,UP]
   exact List.Pairwise.map _ (fun x y h z=>h (by omega)) List.nodup_range
  ·rintro i σ H2 hi ⟨ls,fs,x5,x6,x7,rfl,k2,au,dB,fI,mq,dN,gm⟩
   refine⟨_,rfl,p,4,rfl,au,by decide,by decide,fun sh o3 _ _ bt=> ?_⟩
   refine⟨_,rfl,p,12,rfl,bt,by decide,by decide,fun sp o4 nY iH cT=> ⟨_,_,rfl,?_⟩⟩
   generalize iO:upd (upd H2 p o3) p o4=H4 at cT
   have x4:aN p H2 H4:=by rw[←iO];exact aN.upd.trans aN.upd
   have gn:=x4 _ _ dB zN.symm
   have zW:=x4 _ _ fI vI.symm
   have k4:∀c o,H0 c=some o→c≠p→c≠L→c≠M→H4 c=some o:=fun c o hc a1 a2 a3=>x4 c o (k2 c o hc a1 a2 a3) a1
   have hlen:fs.length<sizeLine:=by rw[sizeLine_eq];omega
   refine⟨_,rfl,Nat.zero_le _,fun q2 bG=> ⟨L,q2,ls,rfl,rfl,?_,aj.of Zc,_,rfl,?_⟩⟩
   ·exact aj.of (by rw[Zg (Zd gn bG)];exact gn)
   have sD:ah H4 (upd H4 q2 (.lst [])):=fun c o hc=>by rw[Zg (Zd hc bG)];exact hc
   generalize hW:upd H4 q2 (HO.lst [])=H5 at sD
   obtain⟨u4,v4,e4,z1,z2,z3⟩:=id cT
   have keep:∀H6,ah H4 H6→(∀c o,H0 c=some o→c≠p→c≠L→c≠M→H6 c=some o)∧bM H6 p:=fun H6 s6=> ⟨fun c o hc a1 a2 a3=>s6 _ _ (k4 c o hc a1 a2 a3),u4,v4,s6 _ _ e4,z1,z2,z3⟩
   have A1:∀H6,ah H4 H6→ym K "list" yP (jz 4) (iU (tC .ae) iT) [some (.ref p),some (.ref b),some (.int way),some (.ref L),some (.ref M),some (.int (0+(i:Int))),some (.int sh),some (.int sp)] H6 (fun _ H7=> ∃(ls fs:List V) (x5 x6 x7:Option V),([some (.ref p),some (.ref b),some (.int way),some (.ref L),some (.ref M),some (.int (0+(i:Int))),some (.int sh),some (.int sp)]:L2.St)=[some (.ref p),some (.ref b),some (.int way),some (.ref L),some (.ref M),x5,x6,x7]∧
     (∀c o,H0 c=some o→c≠p→c≠L→c≠M→H7 c=some o)∧bM H7 p∧H7 L=some (.lst ls)∧H7 M=some (.lst fs)∧fs.length=i+1∧(∀r∈rowsOf fs++ls,bA r 0 (hg - 1)=true)∧(rowsOf fs++ls).Nodup):=fun H6 s6=>by
    obtain⟨k6,t6⟩:=keep H6 s6
    have oj:=s6 _ _ zW
    have g9:=s6 _ _ gn
    refine⟨_,rfl,.inl ⟨rfl,_,aj.of oj⟩,M,fs,.ae,rfl,rfl,oj,hlen,ls,fs++[.ae],_,_,_,rfl,fun c o hc a1 a2 a3=>by rw[Zg a3];exact k6 c o hc a1 a2 a3,?_,by rw[Zg wg];exact g9,Zc,by rw[List.length_append,mq];rfl,?_,?_⟩
    ·obtain⟨u,v,e,r⟩:=t6
     exact⟨u,v,by rw[Zg vI];exact e,r⟩
    ·rw[Yg];simpa using dN
    ·rw[Yg];simpa using gm
   cases oC:ls.isEmpty with
   |true=>exact az (az (A1 H5 sD))
   |false=>
    refine aq ?_
    have cf:ls≠[]:=fun z=>by rw[z]at oC;cases oC
    have G2:0<ls.length:=List.length_pos_iff.mpr cf
    refine⟨_,rfl,(by show 5≤sizeLine;decide),fun q3 iI=> ?_⟩
    obtain⟨c5,HJ⟩:=IB h1 oO
    have sE:ah H5 (upd H5 q3 (.lst [.int 4,.int 4,.int 3,.int 1,.int 0])):=fun c o hc=>by rw[Zg (Zd hc iI)];exact hc
    refine⟨_,rfl,q3,_,_,_,rfl,rfl,aj.of Zc,HJ,_,_,rfl,rfl,_,rfl,?_⟩
    generalize Av:upd H5 q3 (HO.lst [V.int 4,.int 4,.int 3,.int 1,.int 0])=H6 at sE
    have s6:=sD.trans sE
    refine zw (fun _=>A1 H6 s6) (fun _=> ?_)
    obtain⟨k6,t6⟩:=keep H6 s6
    have oj:=s6 _ _ zW
    have g9:=s6 _ _ gn
    have m1:0≤sp%(ls.length:Int):=Int.emod_nonneg _ (by omega)
    have m2:sp%(ls.length:Int)<ls.length:=Int.emod_lt_of_pos _ (by omega)
    have m3:(sp%(ls.length:Int)).toNat<ls.length:=by omega
    have m4:sp%(ls.length:Int)<2^63:=by
     by_cases hh:sp< (ls.length:Int)
     ·rw[Int.emod_eq_of_lt nY hh];omega
     ·omega
    refine⟨_,rfl,.inl ⟨rfl,_,aj.of oj⟩,_,rfl,.inl ⟨rfl,_,aj.of g9⟩,_,rfl,_,rfl,L,ls,rfl,.inl (aj.of g9),_,_,rfl,rfl,(by show(0:Int)< (ls.length:Int);omega),L,ls,_,_,_,rfl,rfl,g9,by omega,m4,KS m1 m2,List.getElem?_eq_getElem m3,?_⟩
    generalize hk:(sp%(ls.length:Int)).toNat=k at m3
    have Hk:upd H6 L (.lst (ls.eraseIdx k)) M=some (.lst fs):=by rw[Zg wg.symm];exact oj
    have my:ls[k]∈ls:=List.getElem_mem m3
    have wy:bA ls[k] 0 (hg - 1)=true:=dN _ (List.mem_append_right _ my)
    have ny:(!decide (ls[k]=V.ae))=true:=by
     cases e:ls[k] with
     |ae=>rw[e]at wy;cases wy
     |_=>rfl
    have pm:(rowsOf fs++[ls[k]]++ls.eraseIdx k).Perm (rowsOf fs++ls):=by
     rw[List.append_assoc]
     exact List.Perm.append_left _ (WJ ls k m3)
    refine⟨M,fs,_,rfl,rfl,Hk,hlen,ls.eraseIdx k,fs++[ls[k]],_,_,_,rfl,fun c o hc a1 a2 a3=>by rw[Zg a3,Zg a2];exact k6 c o hc a1 a2 a3,?_,by rw[Zg wg,Zc],Zc,by rw[List.length_append,mq];rfl,?_,?_⟩
    ·obtain⟨u,v,e,r⟩:=t6
     exact⟨u,v,by rw[Zg vI,Zg zN];exact e,r⟩
    ·rw[Yg,if_pos ny]
     intro r aZ
     exact dN r (pm.mem_iff.mp aZ)
    ·rw[Yg,if_pos ny]
     exact pm.nodup_iff.mpr gm
  ·rintro σ H2 ⟨ls,fs,x5,x6,x7,rfl,k2,au,dB,fI,mq,dN,gm⟩
   refine⟨_,rfl,M,fs,rfl,.inl ⟨aj.of fI,fun l hl=> ?_⟩⟩
   obtain⟨u,v,e,r⟩:=id au
   have bC:p≠l:=Zd e hl
   refine q l _ fs (fun c o hc hn=> ?_) ⟨u,v,by rw[Zg bC];exact e,r⟩ Zc bC.symm ⟨by omega,fun r aZ=>dN r (List.mem_append_left _ aZ),(List.nodup_append.mp gm).1⟩
   have:=xt H2 k2 c o hc hn
   rw[Zg (Zd this hl)]
   exact this
end
section
def nB:V→Option Int
 | .int r=>some r
 |_=>none
def rowAt (xs:List V) (i:Nat):Option Int:=xs[i]?.bind nB
abbrev aG:=Int×Int×Int×Int
def eZ (xs:List V) (o l:Nat):Option aG:=(rowAt xs l).bind fun a=> (rowAt xs o).map fun b=> ((o:Int) - l,b - a,(l:Int),(o:Int))
def eF (xs:List V) (o j:Nat):List aG:=(List.range j).filterMap (eZ xs o)
def bL (xs:List V) (n:Nat):List aG:=(List.range n).flatMap fun o=>eF xs o o
theorem JF (xs:List V) (o j:Nat):eF xs o (j+1)=eF xs o j++(eZ xs o j).toList:=by
 unfold eF
 rw[List.range_succ,List.filterMap_append]
 cases h:eZ xs o j<;>simp[h]
theorem Z9 (xs:List V) (n:Nat):bL xs (n+1)=bL xs n++eF xs n n:=by
 unfold bL
 rw[List.range_succ,List.flatMap_append]
 simp
def fO (H:Hp) (v:V) (q:aG):Prop:=∃t t':Addr,v=.ref t∧H t=some (.tup [.ref t',.int q.2.2.1,.int q.2.2.2])∧H t'=some (.tup [.int q.1,.int q.2.1])
theorem fO.x {M:Addr}{H H':Hp}{v:V}{q:aG}(h:fO H v q) {ms:List V}(hM:H M=some (.lst ms)) (s:aN M H H'):fO H' v q:=by
 obtain⟨t,t',e,h1,h2⟩:=h
 exact⟨t,t',e,s _ _ h1 (Ys h1 hM (by intro z;cases z)),s _ _ h2 (Ys h2 hM (by intro z;cases z))⟩
def dU (xs:List V):Prop:=∀x∈xs,x=.ae∨∃i,x=.int i
theorem aK.ok {wd hg:Int}{xs:List V}(h:aK wd hg xs):dU xs:=fun x hx=>by
 by_cases e:x=.ae
 ·exact .inl e
 ·have m:x∈rowsOf xs:=List.mem_filter.mpr ⟨hx,by simp[e]⟩
  have q:=h.row x m
  cases x with
  |int i=>exact .inr ⟨i,rfl⟩
  |_=>cases q
end
section
variable {P:Program}{w:World}{K:PySem.W.Frag}{mg:Str→Option Value}{base:Heap}
abbrev uw:Stmt:=top 47
def tO (K:PySem.W.Frag):Sp:=fun vs H Q _=> ∃(a:Addr) (xs:List V),vs=[.ref a]∧ag K H a xs∧H a=some (.tup xs)∧dU xs∧xs.length≤12∧
 ∀(l:Addr) (H':Hp) (rs:List V),ah H H'→H l=none→H' l=some (.lst rs)→Paired (fO H') rs (bL xs xs.length)→Q (.ref l) H'
theorem qr:aX ["_law_lay_here", "_law_found", "_law_other", "_law_line"] ["_law_lay_here"] (aM uw):=⟨rfl,rfl,rfl,by decide+kernel,rfl,by decide+kernel,by decide+kernel⟩
theorem Oc {f:Addr}{fd:FuncData}(F:aO K "_law_steps" "_law_steps" uw f fd) (G:Gs mg):aL P w K mg base aJ 1 f fd ["_law_lay_here"] (tO K):=by
 refine F.ok qr (fun vs H Q E h=> ?_) (fun ar A outer s H vs Q E hr h=> ?_)
 ·obtain⟨a,xs,rfl,_⟩:=h
  rfl
 ·obtain⟨a,xs,rfl,_,ha,dN,hlen,q⟩:=h
  refine⟨_,Ze (Zx (i:=1) qr.nd rfl (Or.inl rfl) (ZT Zb))
   (Ze (YQ PassesOwn.never rfl (ZP rfl G.range (Za (Zq Zy rfl G.len boot_len (Za (pv 0) Zb)) Zb)) (Zs (i:=2) qr.nd rfl (Or.inl rfl))
    (Zi (YQ PassesOwn.never rfl (ZP rfl G.range (Za (pv 2) Zb)) (Zs (i:=3) qr.nd rfl (Or.inl rfl))
     (Zi (ZK (PW.pt (JZ (YD (YK (Zw Zz (pv 0) (pv 3) (fun _ _=>rfl)))) (Jp (YD (YK (Zw Zz (pv 0) (pv 2) (fun _ _=>rfl)))))))
      (Zi (Yh (WL PySem.F.plainAttrs_list PySem.F.slot_list_append PySem.F.type_list_append Jr (pv 1)
       (Za (ZF (Za (ZF (Za (Zt YE (pv 2) (pv 3)) (Za (Zt YE (Zw Zz (pv 0) (pv 2) (fun _ _=>rfl)) (Zw Zz (pv 0) (pv 3) (fun _ _=>rfl))) Zb))) (Za (pv 3) (Za (pv 2) Zb)))) Zb)))) Zr)))))
   (Zi (Zm (pv 1)))),?_⟩
  refine⟨Nat.zero_le _,fun M hM=> ?_⟩
  have s0:ah H (upd H M (.lst [])):=fun c o hc=>by rw[Zg (Zd hc hM)];exact hc
  refine⟨_,rfl,a,xs,rfl,.inr (ag.of (s0 _ _ ha)),(xs.length:Int),rfl,by omega,by omega,?_⟩
  refine Yl (n:=((xs.length:Int)).toNat) (fun i σ H2=> ∃(rs:List V) (x2 x3:Option V),σ=[some (.ref a),some (.ref M),x2,x3]∧ah H H2∧H2 M=some (.lst rs)∧Paired (fO H2) rs (bL xs i)∧rs.length≤i*12)
   ⟨[],none,none,rfl,s0,Zc,.nil,Nat.zero_le _⟩ ?_ ?_
  ·rintro i σ H2 hi ⟨rs,x2,x3,rfl,s2,fI,bU,dB⟩
   have aW:i<xs.length:=by omega
   refine⟨_,rfl,(0+(i:Int)),rfl,by omega,by omega,?_⟩
   refine Yl (n:=((0:Int)+(i:Int)).toNat) (fun j σ H3=> ∃(rs:List V) (x3:Option V),σ=[some (.ref a),some (.ref M),some (.int (i:Int)),x3]∧ah H H3∧H3 M=some (.lst rs)∧Paired (fO H3) rs (bL xs i++eF xs i j)∧rs.length≤i*12+j)
    ⟨rs,x3,by rw[Int.zero_add];rfl,s2,fI,by simpa[eF] using bU,dB⟩ ?_ ?_
   ·rintro j σ H3 hj ⟨rs,x3,rfl,s3,l8,bw,jS⟩
    have oz:j<i:=by omega
    have rq:=s3 _ _ ha
    have mh:j<xs.length:=by omega
    have ej:da xs (0+(j:Int))=some xs[j]:=by rw[Int.zero_add];exact ZL (List.getElem?_eq_getElem mh)
    have ei:da xs (i:Int)=some xs[i]:=ZL (List.getElem?_eq_getElem aW)
    have rj:rowAt xs j=nB xs[j]:=by unfold rowAt;rw[List.getElem?_eq_getElem mh];rfl
    have ri:rowAt xs i=nB xs[i]:=by unfold rowAt;rw[List.getElem?_eq_getElem aW];rfl
    refine⟨_,rfl,_,rfl,a,xs,_,_,rfl,rfl,ag.of rq,ej,_,rfl,?_⟩
    have skip:eZ xs i j=none→∃(uQ:List V) (x3:Option V),([some (.ref a),some (.ref M),some (.int (i:Int)),some (.int (0+(j:Int)))]:L2.St)=[some (.ref a),some (.ref M),some (.int (i:Int)),x3]∧ah H H3∧H3 M=some (.lst uQ)∧Paired (fO H3) uQ (bL xs i++eF xs i (j+1))∧uQ.length≤i*12+(j+1):=fun e=>by
     refine⟨rs,_,rfl,s3,l8,?_,by omega⟩
     rw[JF,e]
     simpa using bw
    rcases dN xs[j] (List.getElem_mem mh) with nj |⟨vj,nj⟩
    ·rw[nj]
     exact aq (aq (skip (by unfold eZ;rw[rj,nj];rfl)))
    ·rw[nj]
     refine az ?_
     refine⟨_,rfl,_,rfl,a,xs,_,_,rfl,rfl,ag.of rq,ei,_,rfl,?_⟩
     rcases dN xs[i] (List.getElem_mem aW) with ni |⟨vi,ni⟩
     ·rw[ni]
      exact aq (skip (by unfold eZ;rw[rj,ri,nj,ni];rfl))
     ·rw[ni]
      refine az ?_
      refine⟨_,rfl,.inl ⟨rfl,_,aj.of l8⟩,_,rfl,_,rfl,_,_,rfl,rfl,_,rfl,_,rfl,a,xs,_,_,rfl,rfl,ag.of rq,ei,_,rfl,_,rfl,a,xs,_,_,rfl,rfl,ag.of rq,ej,vi,vj,by rw[ni],by rw[nj],(by show 2≤sizeLine;decide),fun t' dz=> ?_⟩
      refine⟨_,rfl,_,rfl,(by show 3≤sizeLine;decide),fun t ht=> ?_⟩
      generalize iO:upd H3 t' (HO.tup [V.int ((i:Int) - (0+(j:Int))),V.int (vi - vj)])=H4 at ht
      have s4:ah H3 H4:=fun c o hc=>by rw[←iO,Zg (Zd hc dz)];exact hc
      have iG:H4 t'=some (.tup [V.int ((i:Int) - (0+(j:Int))),V.int (vi - vj)]):=by rw[←iO];exact Zc
      generalize hW:upd H4 t (HO.tup [V.ref t',V.int (0+(j:Int)),V.int (i:Int)])=H5
      have s5:ah H4 H5:=fun c o hc=>by rw[←hW,Zg (Zd hc ht)];exact hc
      have qV:H5 t=some (.tup [V.ref t',V.int (0+(j:Int)),V.int (i:Int)]):=by rw[←hW];exact Zc
      have vN:=s5 _ _ (s4 _ _ l8)
      have sX:aN M H3 (upd H5 M (.lst (rs++[.ref t]))):=(s4.trans s5).x.trans aN.upd
      have Hl:rs.length<sizeLine:=by rw[sizeLine_eq];omega
      refine⟨M,rs,_,rfl,rfl,vN,Hl,rs++[.ref t],_,rfl,?_,Zc,?_,by rw[List.length_append];simp;omega⟩
      ·intro c o hc
       have h3:=s3 _ _ hc
       exact sX c o h3 (Zd hc hM)
      ·rw[JF,←List.append_assoc]
       have es:eZ xs i j=some ((i:Int) - j,vi - vj,(j:Int),(i:Int)):=by unfold eZ;rw[rj,ri,nj,ni];rfl
       rw[es]
       refine Paired.snoc (Paired.ba bw fun v q' hq=>hq.x l8 sX) ⟨t,t',rfl,?_,?_⟩
       ·rw[Zg (Ys qV vN (by intro z;cases z)),qV,Int.zero_add]
       ·have:=s5 _ _ iG
        rw[Zg (Ys this vN (by intro z;cases z)),this,Int.zero_add]
   ·rintro σ H3 ⟨rs,x3,rfl,s3,l8,bw,jS⟩
    have ei:((0:Int)+(i:Int)).toNat=i:=by omega
    rw[ei]at bw jS
    refine⟨rs,_,_,rfl,s3,l8,?_,by omega⟩
    rw[Z9]
    exact bw
  ·rintro σ H2 ⟨rs,x2,x3,rfl,s2,fI,bU,dB⟩
   have e:((xs.length:Int)).toNat=xs.length:=by omega
   rw[e]at bU
   exact⟨_,rfl,q M H2 rs s2 hM fI bU⟩
end
section
def keyOf (q:aG):List Key:=[Sum.inl q.1,Sum.inl q.2.1]
def dg (xs:List V):Bool:=decide ((bL xs xs.length).map keyOf).Nodup
theorem JO (xs:List V):∀n,(bL xs n).length≤n*n
 |0=>Nat.zero_le _
 |n+1=>by
  have ih:=JO xs n
  have h2:(eF xs n n).length≤n:=by
   have:=List.length_filterMap_le (eZ xs n) (List.range n)
   rw[List.length_range]at this
   exact this
  rw[Z9,List.length_append,Nat.add_mul,Nat.mul_add]
  omega
theorem WY (xs:List V) (h:xs.length≤12):(bL xs xs.length).length≤144:=Nat.le_trans (JO xs _) (Nat.mul_le_mul h h)
end
section
variable {P:Program}{w:World}{K:PySem.W.Frag}{mg:Str→Option Value}{base:Heap}
abbrev uv:Stmt:=top 48
def tN:Sp:=fun vs H Q _=> ∃(a:Addr) (xs:List V),vs=[.ref a]∧H a=some (.tup xs)∧dU xs∧xs.length≤12∧∀H',ah H H'→Q (.bl (dg xs)) H'
theorem m6:aX ["_law_lay_here", "_law_met", "_law_step", "_law_line", "_law_other"] ["_law_lay_here"] (aM uv):=⟨rfl,rfl,rfl,by decide+kernel,rfl,by decide+kernel,by decide+kernel⟩
theorem Paired.at {α β:Type}{F:α→β→Prop} :∀{jL:List α}{jK:List β}{i:Nat}{a:α},Paired F jL jK→jL[i]? =some a→∃b,jK[i]? =some b∧F a b
 |_,_,_,_,.nil,e=>by simp at e
 |_,_,0,_,.cons r _,e=>by simp at e;subst e;exact⟨_,rfl,r⟩
 |_,_,i+1,a,.cons _ t,e=>by
  obtain⟨u,h1,h2⟩:=Paired.at (i:=i) (a:=a) t (by simpa using e)
  exact⟨u,by simpa using h1,h2⟩
theorem OI {f:Addr}{fd:FuncData}(F:aO K "_law_unlike" "_law_unlike" uv f fd) (D1:Def P w K mg base 1 "_law_steps" ["_law_lay_here"] (tO K)):aL P w K mg base aJ 2 f fd ["_law_lay_here"] tN:=by
 refine F.ok m6 (fun vs H Q E h=> ?_) (fun ar A outer s H vs Q E hr h=> ?_)
 ·obtain⟨a,xs,rfl,_⟩:=h
  rfl
 ·obtain⟨a,xs,rfl,ha,dN,hlen,q⟩:=h
  have hu:=UU hr
  refine⟨_,Ze (Zx (i:=1) m6.nd rfl (Or.inl rfl) Nl)
   (Ze (YQ PassesOwn.never rfl (Ya (Zf D1 hr (Za (pv 0) Zb))) (Yd rfl (Zk (Zs (i:=2) m6.nd rfl (Or.inl rfl)) (Zk (Zs (i:=3) m6.nd rfl (Or.inl rfl)) (Zk (Zs (i:=4) m6.nd rfl (Or.inl rfl)) ZU))))
    (Ze (ZK (YD (LA hu (pv 2) (pv 1))) (Zi (Zm YV)) Zr) (Zi (MJ hu (pv 1) (pv 2) YV rfl))))
   (Zi (Zm YV))),?_⟩
  intro d hd
  have s0:ah H (upd H d (.dT [])):=fun c o hc=>by rw[Zg (Zd hc hd)];exact hc
  have An:=s0 _ _ ha
  refine⟨_,rfl,a,xs,rfl,ag.of An,An,dN,hlen,fun l H1 rs s1 QH hl pr=> ⟨l,rfl,⟨rs,aj.of hl⟩,?_⟩⟩
  have fK:H1 d=some (.dT []):=s1 _ _ Zc
  have Hr:l≠d:=Ys hl fK (by intro z;cases z)
  generalize nZ:bL xs xs.length=qs at pr
  have GF:dg xs=decide (qs.map keyOf).Nodup:=by unfold dg;rw[nZ]
  rw[GF]at q
  have md:rs.length=qs.length:=Paired.length pr
  refine Ud (K:=K) (a:=l) (xs:=rs) (fun i σ H2=> ∃(ai:List (List Key×V)) (x2 x3 x4:Option V),σ=[some (.ref a),some (.ref d),x2,x3,x4]∧aN d H1 H2∧H2 d=some (.dT ai)∧ai.map (·.1)=(qs.take i).map keyOf∧((qs.take i).map keyOf).Nodup)
   ⟨[],none,none,none,rfl,aN.refl _ _,fK,rfl,List.nodup_nil⟩ (fun i σ H2 _ ⟨_,_,_,_,_,k,_⟩=>aj.of (k _ _ hl Hr)) ?_ ?_
  ·rintro i v σ H2 hv ⟨ai,x2,x3,x4,rfl,k2,hd2,fk,l6⟩
   obtain⟨qq,hq,t,t',rfl,ht,dz⟩:=Paired.at pr hv
   have qW:=k2 _ _ ht (Ys ht fK (by intro z;cases z))
   have GN:=k2 _ _ dz (Ys dz fK (by intro z;cases z))
   have wo:(qs.take (i+1)).map keyOf=(qs.take i).map keyOf++[keyOf qq]:=by rw[List.take_add_one,hq,List.map_append];rfl
   have zZ:H2 t'=some (.tup ((keyOf qq).map kV)):=GN
   refine⟨t,_,rfl,ag.of qW,rfl,_,_,rfl,_,_,rfl,_,_,rfl,rfl,?_⟩
   refine⟨_,rfl,_,rfl,d,_,rfl,pI.t hd2 zZ,_,rfl,?_⟩
   have hsz:ai.length<sizeLine:=by
    have e1:ai.length=((qs.take i).map keyOf).length:=by rw[←fk,List.length_map]
    rw[List.length_map,List.length_take]at e1
    have:i<rs.length:=(List.getElem?_eq_some_iff.mp hv).1
    rw[sizeLine_eq]
    have GZ:=WY xs hlen
    rw[nZ]at GZ
    omega
   cases e:dZ ai (keyOf qq) with
   |some z=>
    refine az ?_
    have m:keyOf qq∈(qs.take i).map keyOf:=by rw[←fk];exact Mp e
    have Hc:¬(qs.map keyOf).Nodup:=fun nd=>by
     have e2:qs.map keyOf=(qs.take (i+1)).map keyOf++(qs.drop (i+1)).map keyOf:=by rw[←List.map_append,List.take_append_drop]
     rw[e2,wo]at nd
     have:=(List.nodup_append.mp nd).1
     exact(List.nodup_append.mp this).2.2 _ m _ (List.mem_singleton.mpr rfl) rfl
    rw[decide_eq_false Hc]at q
    exact q _ fun c o hc=>k2 c o (s1 _ _ (s0 _ _ hc)) (Zd hc hd)
   |none=>
    refine aq ?_
    refine⟨_,rfl,_,rfl,d,_,rfl,pH.t hd2 zZ hsz,putK ai (keyOf qq) (.bl true),_,_,_,rfl,k2.trans aN.upd,Zc,?_,?_⟩
    ·rw[Nq _ e,List.map_append,fk,wo];rfl
    ·rw[wo]
     exact xk l6 (by rw[←fk];exact NA e)
  ·rintro σ H2 ⟨ai,x2,x3,x4,rfl,k2,hd2,fk,l6⟩
   rw[md,List.take_length]at l6
   rw[decide_eq_true l6]at q
   exact q _ fun c o hc=>k2 c o (s1 _ _ (s0 _ _ hc)) (Zd hc hd)
end
section
def ER (K:PySem.W.Frag):R2:=fun x y H Q=> ∃a b ys,x=.ref a∧y=.ref b∧ag K H a []∧ag K H b ys∧Q (.ref b) H
def nD (K:PySem.W.Frag):R2:=fun x y H Q=>ER K x y H Q∨yO K x y H Q
theorem YL {X:Cx} :aR X (binaryOp .Add) (nD X.K):=Nh.or Lg
theorem BV {K:PySem.W.Frag}{fa:Addr}{fs:List V}{y:V}{H:Hp}{Q:VK}{σ:L2.St}{i j:Nat}(hf:H fa=some (.tup fs)) (hl:fs.length≤100) (h1:σ[i]? =some (some (.ref fa))) (h2:σ[j]? =some (some y))
  (q:∀(a':Addr) (H':Hp),ah H H'→H' a'=some (.tup (fs++[y]))→Q (.ref a') H'):lr (nD K) (jz i) (sR (iU (jz j) iT)) σ H Q:=by
 refine⟨_,h1,_,h2,(by show 1≤sizeLine;decide),fun t ht=> ?_⟩
 have s1:ah H (upd H t (.tup [y])):=fun c o hc=>by rw[Zg (Zd hc ht)];exact hc
 have Aj:=s1 _ _ hf
 cases fs with
 |nil=>exact .inl ⟨fa,t,[y],rfl,rfl,ag.of Aj,ag.of Zc,q t _ s1 Zc⟩
 |cons x r=>
  refine .inr ⟨fa,t,x::r,[y],rfl,rfl,ag.of Aj,ag.of Zc,(by simp),(by rw[sizeLine_eq];simp at hl ⊢;omega),(fun e=>by cases e),fun _ p hp=> ?_⟩
  exact q p _ (s1.trans fun c o hc=>by rw[Zg (Zd hc hp)];exact hc) Zc
theorem N5 (n:Nat):L2.upTo (n+1)=L2.upTo n++[.int (n:Int)]:=by
 unfold L2.upTo
 rw[List.range_succ,List.map_append]
 rfl
theorem Mc {n:Nat}{x:V}(h:x∈L2.upTo n):∃j:Nat,j<n∧x=.int (j:Int):=by
 unfold L2.upTo at h
 obtain⟨j,hj,e⟩:=List.mem_map.mp h
 exact⟨j,List.mem_range.mp hj,e.symm⟩
theorem WD {fs:List V}{y:V}{i:Nat}(h:i<fs.length):rowAt (fs++[y]) i=rowAt fs i:=by
 unfold rowAt
 rw[List.getElem?_append_left h]
theorem Ci {α β:Type}{f g:α→Option β} :∀{l:List α},(∀x∈l,f x=g x)→l.filterMap f=l.filterMap g
 | [],_=>rfl
 |a::l,h=>by
  rw[List.filterMap_cons,List.filterMap_cons,h a List.mem_cons_self,Ci fun x hx=>h x (List.mem_cons_of_mem _ hx)]
theorem Jw {fs:List V}{y:V} :∀n,n≤fs.length→bL (fs++[y]) n=bL fs n
 |0,_=>rfl
 |n+1,h=>by
  rw[Z9,Z9,Jw n (by omega)]
  congr 1
  unfold eF
  refine Ci fun j hj=> ?_
  have:=List.mem_range.mp hj
  unfold eZ
  rw[WD (by omega),WD (by omega)]
theorem O4 {fs:List V}(h:dg fs=true):dg (fs++[.ae])=true:=by
 unfold dg at h ⊢
 have e:(fs++[V.ae]).length=fs.length+1:=by simp
 rw[e,Z9,Jw _ (Nat.le_refl _)]
 have e2:eF (fs++[V.ae]) fs.length fs.length=[]:=by
  unfold eF
  rw[List.filterMap_eq_nil_iff]
  intro j _
  unfold eZ
  have e3:rowAt (fs++[V.ae]) fs.length=none:=by unfold rowAt;simp;rfl
  rw[e3]
  cases rowAt (fs++[V.ae]) j<;>rfl
 rw[e2,List.append_nil]
 exact h
theorem Mf {j:Int}{fs:List V}(h:(!aE (.int j) fs)=true):V.int j∉fs:=fun m=>by
 have:aE (.int j) fs=true:=List.any_eq_true.mpr ⟨_,m,by show(j==j)=true;simp⟩
 rw[this]at h
 cases h
theorem three {v:Int}(h:0≤v) (h':v<3):∃c:Int,da ([V.int 0,.int 1,.int 3]:List V) v=some (.int c):=by
 have:v=0∨v=1∨v=2:=by omega
 rcases this with rfl |rfl |rfl<;>exact⟨_,rfl⟩
end
section
variable {P:Program}{w:World}{K:PySem.W.Frag}{mg:Str→Option Value}{base:Heap}
abbrev uE:Stmt:=top 49
def tP (K:PySem.W.Frag):Sp:=fun vs H Q _=> ∃(p b:Addr) (wd hg:Int),vs=[.ref p,.ref b]∧bM H p∧bI H (.ref b) wd hg∧
 ∀(l:Addr) (H':Hp) (xs:List V),aN p H H'→bM H' p→H' l=some (.tup xs)→l≠p→aK wd hg xs→dg xs=true→Q (.ref l) H'
theorem iz:aX ["_law_state_here", "_law_board", "_law_way", "_law_found", "_law_line", "_law_share", "_law_spot", "_law_left", "_law_some", "_law_row"] ["_law_state_here", "_law_board"] (aM uE):=⟨rfl,rfl,rfl,by decide+kernel,rfl,by decide+kernel,by decide+kernel⟩
theorem NF {f:Addr}{fd:FuncData}(F:aO K "_law_grown" "_law_grown" uE f fd) (G:Gs mg) (D1:Def P w K mg base 1 "_law_take" ["_law_state_here", "_law_many"] lD) (D2:Def P w K mg base 2 "_law_unlike" ["_law_lay_here"] tN):
  aL P w K mg base aJ 3 f fd ["_law_state_here", "_law_board"] (tP K):=by
 refine F.ok iz (fun vs H Q E h=> ?_) (fun ar A outer s H vs Q E hr h=> ?_)
 ·obtain⟨p,b,wd,hg,rfl,_⟩:=h
  rfl
 ·obtain⟨p,b,wd,hg,rfl,st,bd,q⟩:=h
  have cW:=hr.mono (show 1≤2 by decide)
  refine⟨_,Ze (Je (ZF (Za (Zf D1 cW (Za (pv 0) (Za Zh Zb))) (Za (ZF Zb) Zb))) (Yd rfl (Zk (Zs (i:=2) iz.nd rfl (Or.inl rfl)) (Zk (Zs (i:=3) iz.nd rfl (Or.inr rfl)) ZU))))
   (Ze (YQ PassesOwn.never rfl (ZP rfl G.range (Za (Zw Zz (pv 1) Zh (fun _ _=>rfl)) Zb)) (Zs (i:=4) iz.nd rfl (Or.inl rfl))
    (Ze (wY (i:=5) (j:=6) rfl iz.nd rfl rfl (by decide) rfl rfl (Za (Zf D1 cW (Za (pv 0) (Za Zh Zb))) (Za (Zf D1 cW (Za (pv 0) (Za Zh Zb))) Zb)) rfl)
    (Ze (Jq ["_law_row", "_law_found"] 1 [3] (i:=7) iz.nd rfl (Or.inl rfl) (ZP rfl G.range (Za (Zw Zz (pv 1) Zh (fun _ _=>rfl)) Zb)) (fun C s H fp=>pb 0) (fun C s H fp=>Yu (Zn (show aR (aI _ _ _ C s H fp) (compareOp .NotIn) (nC K true) from Z4) (pv 0) (pv 1) rfl)) (fun C s H fp D=>cz rfl (pv 0)))
    (Ze (Jq ["_law_row", "_law_found"] 1 [3] (i:=8) iz.nd rfl (Or.inl rfl) (Ya (pv 7)) (fun C s H fp=>pb 0) (fun C s H fp=>Yu (Yp (Zf D2 hr (Za (Zt (show aR (aI _ _ _ C s H fp) (binaryOp .Add) (nD K) from YL) (pv 1) (ZF (Za (pv 0) Zb))) Zb)))) (fun C s H fp D=>cz rfl (pv 0)))
    (Ze (Zx (i:=9) iz.nd rfl (Or.inl rfl) ZY)
    (Ze (ZK (PW.pt (JZ (Zn (rP hr.lh) (pv 8) (ZT Zb) (aY _)) (Jp (Zn wR (pv 5) (Zw Z6 (ZT (Za Zh (Za Zh (Za Zh Zb)))) (pv 2) (fun _ _=>rfl)) (aY _)))))
     (Zi (Zx (i:=9) iz.nd rfl (Or.inl rfl) (Zw Z6 (pv 8) (Zt Y3 (pv 6) (Zq Zy rfl G.len boot_len (Za (pv 8) Zb))) (fun _ _=>rfl)))) Zr)
    (Zi (Zx (i:=3) iz.nd rfl (Or.inr rfl) (Zt YL (pv 3) (ZF (Za (pv 9) Zb)))))))))))
   (Zi (Zm (pv 3)))),?_⟩
  obtain⟨a,e,hb⟩:=Zv bd.1
  cases e
  obtain⟨_,w1,w2,g1,g2⟩:=id bd
  obtain⟨u0,v0,e0,_⟩:=id st
  have rm:b≠p:=Ys hb e0 (by intro z;cases z)
  refine⟨_,rfl,p,3,rfl,st,by decide,by decide,fun way o1 h1 oO aw=> ⟨Nat.zero_le _,fun f0 HE=> ⟨(by show 2≤sizeLine;decide),fun tt qU=> ⟨tt,_,rfl,ag.of Zc,rfl,_,_,rfl,_,_,rfl,rfl,?_⟩⟩⟩⟩
  have x1:aN p H (upd H p o1):=aN.upd
  have sA:ah (upd H p o1) (upd (upd H p o1) f0 (.tup [])):=fun c o hc=>by rw[Zg (Zd hc HE)];exact hc
  have sB:ah (upd (upd H p o1) f0 (.tup [])) (upd (upd (upd H p o1) f0 (.tup [])) tt (.tup [.int way,.ref f0])):=fun c o hc=>by rw[Zg (Zd hc qU)];exact hc
  generalize wj:upd (upd (upd H p o1) f0 (HO.tup [])) tt (HO.tup [V.int way,V.ref f0])=H0 at sB
  have x0:aN p H H0:=x1.trans (sA.trans sB).x
  obtain⟨u1,v1,e1,y1,y2,y3⟩:=id aw
  have cQ:bM H0 p:=⟨u1,v1,(sA.trans sB) _ _ e1,y1,y2,y3⟩
  have wb:=x0 _ _ hb rm
  refine⟨_,rfl,b,_,_,_,rfl,rfl,ag.of wb,jn,wd,rfl,by omega,by omega,?_⟩
  refine Yl (n:=wd.toNat) (fun i σ H2=> ∃(fa:Addr) (fs:List V) (x4 x5 x6 x7 x8 x9:Option V),σ=[some (.ref p),some (.ref b),some (.int way),some (.ref fa),x4,x5,x6,x7,x8,x9]∧aN p H H2∧bM H2 p∧H2 fa=some (.tup fs)∧fs.length=i∧
    (∀r∈rowsOf fs,bA r 0 (hg - 1)=true)∧(rowsOf fs).Nodup∧dg fs=true)
   ⟨f0,[],none,none,none,none,none,none,rfl,x0,cQ,sB _ _ Zc,rfl,(fun r aZ=>nomatch (show r∈([]:List V) from aZ)),List.nodup_nil,rfl⟩ ?_ ?_
  ·rintro i σ H2 hi ⟨fa,fs,x4,x5,x6,x7,x8,x9,rfl,k2,au,jU,Ai,dN,gm,vD⟩
   have aW:i<wd.toNat:=hi
   refine⟨_,rfl,p,4,rfl,au,by decide,by decide,fun sh o3 _ _ bt=> ?_⟩
   refine⟨_,rfl,p,12,rfl,bt,by decide,by decide,fun sp o4 nY iH cT=> ⟨_,_,rfl,?_⟩⟩
   generalize iO:upd (upd H2 p o3) p o4=H4 at cT
   have xY:aN p H2 H4:=by rw[←iO];exact aN.upd.trans aN.upd
   obtain⟨uz,vz,ez,_⟩:=id au
   have HB:fa≠p:=Ys jU ez (by intro z;cases z)
   have vY:=xY _ _ jU HB
   have k4:aN p H H4:=k2.trans xY
   have HW:=k4 _ _ hb rm
   have yM:dU fs:=fun x hx=>by
    by_cases e:x=.ae
    ·exact .inl e
    ·have m:x∈rowsOf fs:=List.mem_filter.mpr ⟨hx,by simp[e]⟩
     have q':=dN x m
     cases x with
     |int i=>exact .inr ⟨i,rfl⟩
     |_=>cases q'
   have flat:fs.all dR=true:=List.all_eq_true.mpr fun x hx=>by
    rcases yM x hx with z |⟨j,z⟩<;>rw[z]<;>rfl
   refine⟨_,rfl,b,_,_,_,rfl,rfl,ag.of HW,jm,hg,rfl,by omega,by omega,?_⟩
   refine YF (n:=hg.toNat) (fun j ys af H'=>ys=(L2.upTo j).filter (fun r=> !aE r fs)∧H'=H4∧∃v,af=[v,some (.ref fa)]) ⟨rfl,rfl,none,rfl⟩ ?_ ?_
   ·rintro j ys af H' hj ⟨rfl,rfl,v,rfl⟩
    have eu:(L2.upTo (j+1)).filter (fun r=> !aE r fs)=(L2.upTo j).filter (fun r=> !aE r fs)++(if (!aE (.int (0+(j:Int))) fs)=true then [V.int (0+(j:Int))] else []):=by
     rw[N5,List.filter_append,Int.zero_add]
     cases hh:(!aE (.int (j:Int)) fs)<;>simp[hh]
    refine⟨_,rfl,_,rfl,fa,fs,rfl,.inr (ag.of vY),rfl,flat,_,rfl,?_⟩
    show if (!aE (.int (0+(j:Int))) fs)=true then _ else _
    cases hh:(!aE (.int (0+(j:Int))) fs) with
    |true=>
     rw[hh]at eu
     refine az ?_
     refine⟨_,rfl,?_,?_⟩
     ·have:=List.length_filter_le (fun r=> !aE r fs) (L2.upTo j)
      have e2:(L2.upTo j).length=j:=by unfold L2.upTo;simp
      rw[sizeLine_eq]
      omega
     ·exact⟨by rw[eu,if_pos rfl],rfl,_,rfl⟩
    |false=>
     rw[hh]at eu
     exact aq ⟨by rw[eu,if_neg Bool.false_ne_true,List.append_nil],rfl,_,rfl⟩
   ·rintro ys af H' ⟨rfl,rfl,v,rfl⟩ L hL
    generalize l9:(L2.upTo hg.toNat).filter (fun r=> !aE r fs)=ls
    have sL:ah H' (upd H' L (.lst ls)):=fun c o hc=>by rw[Zg (Zd hc hL)];exact hc
    generalize hW:upd H' L (HO.lst ls)=H5 at sL
    have As:H5 L=some (.lst ls):=by rw[←hW];exact Zc
    have QC:ls.length≤12:=by
     have:=List.length_filter_le (fun r=> !aE r fs) (L2.upTo hg.toNat)
     have e2:(L2.upTo hg.toNat).length=hg.toNat:=by unfold L2.upTo;simp
     rw[l9]at this
     omega
    have good:∀y∈ls,∃j:Int,y=.int j∧0≤j∧j<hg∧V.int j∉fs:=fun y hy=>by
     rw[←l9]at hy
     obtain⟨m1,m2⟩:=List.mem_filter.mp hy
     obtain⟨j,hj,rfl⟩:=Mc m1
     exact⟨j,rfl,by omega,by omega,Mf m2⟩
    refine⟨_,rfl,L,rfl,⟨ls,aj.of As⟩,?_⟩
    refine Z5 (xs:=ls) (fun j ys af k8=>ys=(ls.take j).filter (fun r=>dg (fs++[r]))∧ah H5 k8∧∃v,af=[v,some (.ref fa)]) ⟨rfl,ah.refl _,none,rfl⟩ (fun j ys af k8 _ ⟨_,s',_⟩=>aj.of (s' _ _ As)) ?_ ?_
    ·rintro j y ys af k8 hy ⟨rfl,s',v,rfl⟩
     obtain⟨jj,ey,_,_,_⟩:=good y (List.mem_of_getElem? hy)
     have eu:(ls.take (j+1)).filter (fun r=>dg (fs++[r]))=(ls.take j).filter (fun r=>dg (fs++[r]))++(if dg (fs++[y])=true then [y] else []):=by
      rw[List.take_add_one,hy,List.filter_append]
      cases hh:dg (fs++[y])<;>simp[hh]
     have HD:=s' _ _ (sL _ _ vY)
     refine BV (i:=1) (j:=0) HD (by omega) rfl rfl fun a' H7 s7 hV=> ?_
     refine⟨a',fs++[y],rfl,hV,fun x hx=> ?_,by rw[List.length_append];simp;omega,fun H8 s8=> ⟨_,rfl,?_⟩⟩
     ·rcases List.mem_append.mp hx with z |z
      ·exact yM x z
      ·exact .inr ⟨jj,by rw[List.mem_singleton.mp z,ey]⟩
     cases hh:dg (fs++[y]) with
     |true=>
      rw[hh]at eu
      refine az ?_
      refine⟨_,rfl,?_,?_⟩
      ·have:=List.length_filter_le (fun r=>dg (fs++[r])) (ls.take j)
       rw[List.length_take]at this
       rw[sizeLine_eq]
       omega
      ·exact⟨by rw[eu,if_pos rfl],s'.trans (s7.trans s8),_,rfl⟩
     |false=>
      rw[hh]at eu
      exact aq ⟨by rw[eu,if_neg Bool.false_ne_true,List.append_nil],s'.trans (s7.trans s8),_,rfl⟩
    ·rintro ys af k8 ⟨rfl,s',v,rfl⟩ S hS
     rw[List.take_length]
     generalize Hy:ls.filter (fun r=>dg (fs++[r]))=gs
     have sS:ah k8 (upd k8 S (.lst gs)):=fun c o hc=>by rw[Zg (Zd hc hS)];exact hc
     generalize Av:upd k8 S (HO.lst gs)=H6 at sS
     have Aq:H6 S=some (.lst gs):=by rw[←Av];exact Zc
     have ke:ah H' H6:=sL.trans (s'.trans sS)
     obtain⟨u4,v4,e4,z1,z2,z3⟩:=id cT
     have fin:∀(y:V) (H7:Hp) (b5 b6 b7 b8:Option V) (D:Ends),(D.nx=fun σ H2=> ∃(fa:Addr) (fs:List V) (x4 x5 x6 x7 x8 x9:Option V),σ=[some (.ref p),some (.ref b),some (.int way),some (.ref fa),x4,x5,x6,x7,x8,x9]∧aN p H H2∧bM H2 p∧H2 fa=some (.tup fs)∧fs.length=i+1∧
       (∀r∈rowsOf fs,bA r 0 (hg - 1)=true)∧(rowsOf fs).Nodup∧dg fs=true)→ah H6 H7→(y=.ae∨y∈gs)→
       mR (lr (nD K) (jz 3) (sR (iU (jz 9) iT))) (bR 3) D [some (.ref p),some (.ref b),some (.int way),some (.ref fa),some (.int (0+(i:Int))),b5,b6,b7,b8,some y] H7:=fun y H7 b5 b6 b7 b8 D eD s7 hy=>by
      have HC:=s7 _ _ (ke _ _ vY)
      refine BV (i:=3) (j:=9) HC (by omega) rfl rfl fun a' H8 s8 hV=> ?_
      show D.nx _ _
      rw[eD]
      have yI:ah H' H8:=ke.trans (s7.trans s8)
      refine⟨a',fs++[y],_,_,_,_,_,_,rfl,k4.trans yI.x,⟨u4,v4,yI _ _ e4,z1,z2,z3⟩,hV,by rw[List.length_append,Ai];rfl,?_⟩
      rcases hy with rfl |hy
      ·have e9:rowsOf (fs++[.ae])=rowsOf fs:=by rw[Yg];simp
       rw[e9]
       exact⟨dN,gm,O4 vD⟩
      ·rw[←Hy]at hy
       obtain⟨m1,m2⟩:=List.mem_filter.mp hy
       obtain⟨jj,rfl,j1,j2,j3⟩:=good y m1
       have e9:rowsOf (fs++[.int jj])=rowsOf fs++[.int jj]:=by rw[Yg];rfl
       rw[e9]
       refine⟨fun r aZ=> ?_,?_,m2⟩
       ·rcases List.mem_append.mp aZ with z |z
        ·exact dN r z
        ·rw[List.mem_singleton.mp z]
         show(decide ((0:Int)≤jj)&&decide (jj≤hg - 1))=true
         rw[decide_eq_true j1,decide_eq_true (by omega)]
         rfl
       ·exact xk gm fun m=>j3 (List.mem_filter.mp m).1
     refine⟨_,rfl,Nat.zero_le _,fun q2 bG=> ?_⟩
     have sD:ah H6 (upd H6 q2 (.lst [])):=fun c o hc=>by rw[Zg (Zd hc bG)];exact hc
     refine⟨S,q2,gs,rfl,rfl,aj.of (sD _ _ Aq),aj.of Zc,_,rfl,?_⟩
     generalize QJ:upd H6 q2 (HO.lst [])=H7 at sD
     cases oC:gs.isEmpty with
     |true=>exact aq (aq (fin .ae H7 _ _ _ _ _ rfl sD (.inl rfl)))
     |false=>
      refine az ?_
      have cf:gs≠[]:=fun z=>by rw[z]at oC;cases oC
      have G2:0<gs.length:=List.length_pos_iff.mpr cf
      refine⟨_,rfl,(by show 3≤sizeLine;decide),fun q3 iI=> ?_⟩
      obtain⟨c3,HL⟩:=three h1 oO
      have sE:ah H7 (upd H7 q3 (.lst [.int 0,.int 1,.int 3])):=fun c o hc=>by rw[Zg (Zd hc iI)];exact hc
      refine⟨_,rfl,q3,_,_,_,rfl,rfl,aj.of Zc,HL,_,_,rfl,rfl,_,rfl,?_⟩
      generalize QI:upd H7 q3 (HO.lst [V.int 0,.int 1,.int 3])=H8 at sE
      have Ap:=sE _ _ (sD _ _ Aq)
      have m1:0≤sp%(gs.length:Int):=Int.emod_nonneg _ (by omega)
      have m2:sp%(gs.length:Int)<gs.length:=Int.emod_lt_of_pos _ (by omega)
      have m3:(sp%(gs.length:Int)).toNat<gs.length:=by omega
      have m5:da gs (sp%(gs.length:Int))=some gs[(sp%(gs.length:Int)).toNat]:=by
       have:=ZL (xs:=gs) (List.getElem?_eq_getElem m3)
       rw[Int.toNat_of_nonneg m1]at this
       exact this
      refine zw (fun _=> ?_) (fun _=>fin .ae H8 _ _ _ _ _ rfl (sD.trans sE) (.inl rfl))
      refine⟨_,rfl,_,rfl,_,rfl,S,gs,rfl,.inl (aj.of Ap),_,_,rfl,rfl,(by show(0:Int)< (gs.length:Int);omega),S,gs,_,_,rfl,rfl,aj.of Ap,m5,?_⟩
      exact fin _ H8 _ _ _ _ _ rfl (sD.trans sE) (.inr (List.getElem_mem m3))
  ·rintro σ H2 ⟨fa,fs,x4,x5,x6,x7,x8,x9,rfl,k2,au,jU,Ai,dN,gm,vD⟩
   obtain⟨uz,vz,ez,_⟩:=id au
   exact⟨_,rfl,q fa H2 fs k2 au jU (Ys jU ez (by intro z;cases z)) ⟨by omega,dN,gm⟩ vD⟩
end
section
def bj (xs:List V):List (Int×Int):=(List.range xs.length).filterMap fun l=> (rowAt xs l).map fun r=> ((l:Int),r)
def pA (H:Hp) (v:V) (q:Int×Int):Prop:=∃t:Addr,v=.ref t∧H t=some (.tup [.int q.1,.int q.2])
def ij (H:Hp) (v:V) (q:aG):Prop:=∃t:Addr,v=.ref t∧H t=some (.tup [.int q.1,.int q.2.1,.int q.2.2.1,.int q.2.2.2])
theorem pA.same {H H':Hp}{v:V}{q:Int×Int}(h:pA H v q) (s:ah H H'):pA H' v q:=by
 obtain⟨t,e,h1⟩:=h
 exact⟨t,e,s _ _ h1⟩
theorem ij.same {H H':Hp}{v:V}{q:aG}(h:ij H v q) (s:ah H H'):ij H' v q:=by
 obtain⟨t,e,h1⟩:=h
 exact⟨t,e,s _ _ h1⟩
def pairsOf (ps:List (Int×Int)) (a:Int×Int) (j:Nat):List aG:=((ps.take j).filter fun b=>decide (a.1<b.1)).map fun b=> (a.1,a.2,b.1,b.2)
def iB (ps:List (Int×Int)) (i:Nat):List aG:=(ps.take i).flatMap fun a=>pairsOf ps a ps.length
def bN (ps:List (Int×Int)):List aG:=iB ps ps.length
theorem OU {ps:List (Int×Int)}{a b:Int×Int}{j:Nat}(h:ps[j]? =some b):pairsOf ps a (j+1)=pairsOf ps a j++(if decide (a.1<b.1)=true then [(a.1,a.2,b.1,b.2)] else []):=by
 unfold pairsOf
 rw[List.take_add_one,h,List.filter_append,List.map_append]
 cases hh:decide (a.1<b.1)<;>simp_all
theorem OV {ps:List (Int×Int)}{a:Int×Int}{i:Nat}(h:ps[i]? =some a):iB ps (i+1)=iB ps i++pairsOf ps a ps.length:=by
 unfold iB
 rw[List.take_add_one,h,List.flatMap_append]
 simp
end
section
variable {P:Program}{w:World}{K:PySem.W.Frag}{mg:Str→Option Value}{base:Heap}
abbrev uk:Stmt:=top 14
def dW (H:Hp) (x y:V) (wd hg:Int) (xs:List V):Prop:=bI H x wd hg∧cm H y=some xs∧aK wd hg xs
theorem dW.same {H H':Hp}{x y:V}{wd hg:Int}{xs:List V}(h:dW H x y wd hg xs) (s:ah H H'):dW H' x y wd hg xs:=⟨h.1.same s,s.cm h.2.1,h.2.2⟩
theorem dW.pl {H:Hp}{x y:V}{wd hg:Int}{xs:List V}(h:dW H x y wd hg xs):rX K H y:=by
 obtain⟨a,rfl,ha⟩:=Zv h.2.1
 refine⟨⟨_,.tup ha⟩,fun zs e z hz=> ?_⟩
 rw[h.2.1]at e
 cases e
 rcases h.2.2.ok z hz with rfl |⟨i,rfl⟩
 ·exact⟨_,.ae⟩
 ·exact⟨_,.int i⟩
def lG:Sp:=fun vs H Q _=> ∃x y wd hg xs,vs=[x,y]∧dW H x y wd hg xs∧∀H',ah H H'→Q .ae H'
theorem D6:aX ["board", "lay"] ["board", "lay"] (aM uk):=⟨rfl,rfl,rfl,by decide+kernel,rfl,by decide+kernel,by decide+kernel⟩
theorem OJ {f:Addr}{fd:FuncData}(F:aO K "need_lay" "need_lay" uk f fd) (D1:Def P w K mg base 5 "is_lay" ["board", "thing"] (p7 K)):aL P w K mg base aJ 6 f fd ["board", "lay"] lG:=by
 refine F.ok D6 (fun vs H Q E h=> ?_) (fun ar A outer s H vs Q E hr h=> ?_)
 ·obtain⟨x,y,wd,hg,xs,rfl,_⟩:=h
  rfl
 ·obtain⟨x,y,wd,hg,xs,rfl,l,q⟩:=h
  refine⟨_,Zi (ZK (Y2 (Yp (Zf D1 hr (Za (pv 0) (Za (pv 1) Zb))))) ZO Zr),?_⟩
  refine⟨x,rfl,y,rfl,x,y,wd,hg,rfl,l.1,l.pl,fun H' sm=> ⟨_,rfl,?_⟩⟩
  rw[l.2.1,l.2.2.is]
  exact aq (q H' sm)
def tG:Sp:=fun vs H Q _=> ∃x y wd hg xs,vs=[x,y]∧dW H x y wd hg xs∧∀(l:Addr) (H':Hp) (ps:List V),ah H H'→H l=none→H' l=some (.lst ps)→Paired (pA H') ps (bj xs)→Q (.ref l) H'
abbrev uh:Stmt:=top 20
def tH:Sp:=fun vs H Q _=> ∃x y wd hg xs,vs=[x,y]∧dW H x y wd hg xs∧∀(l:Addr) (H':Hp) (ps:List V),ah H H'→H l=none→H' l=some (.lst ps)→Paired (ij H') ps (bN (bj xs))→Q (.ref l) H'
theorem yy:aX ["board", "lay", "found"] ["board", "lay"] (aM uh):=⟨rfl,rfl,rfl,by decide+kernel,rfl,by decide+kernel,by decide+kernel⟩
theorem NG {f:Addr}{fd:FuncData}(F:aO K "point_pairs" "point_pairs" uh f fd) (D1:Def P w K mg base 7 "points" ["board", "lay"] tG):aL P w K mg base aJ 8 f fd ["board", "lay"] tH:=by
 refine F.ok yy (fun vs H Q E h=> ?_) (fun ar A outer s H vs Q E hr h=> ?_)
 ·obtain⟨x,y,wd,hg,xs,rfl,_⟩:=h
  rfl
 ·obtain⟨x,y,wd,hg,xs,rfl,l,q⟩:=h
  refine⟨_,Ze (Zx (i:=2) yy.nd rfl (Or.inr rfl) (Zf D1 hr (Za (pv 0) (Za (pv 1) Zb))))
   (Zi (Zm (Yb ["line", "row", "other", "there", "found"] 4 [2] (Ya (pv 2))
    (fun C s H fp=>show PG (aI _ _ _ C s H fp) _ (jf K 2 (cE (bR 0) (cE (bR 1) jg))) from Yd rfl (Zk (pb 0) (Zk (pb 1) ZU))) (fun C s H fp=>Z1)
    (fun C s H fp D=>CF rfl rfl rfl (show PI (aI _ _ _ C s H fp) _ _ (qR K (jz 4)) from Ya (pv 4))
     (show PG (aI _ _ _ C s H fp) _ (jf K 2 (cE (bR 2) (cE (bR 3) jg))) from Yd rfl (Zk (pb 2) (Zk (pb 3) ZU)))
     (Yu (Zn rL (pv 0) (pv 2) (aY _))) (cz rfl (ZF (Za (pv 0) (Za (pv 1) (Za (pv 2) (Za (pv 3) Zb)))))) (by intro _;rfl) (by intro g' h;cases h))))),?_⟩
  refine⟨x,rfl,y,rfl,x,y,wd,hg,xs,rfl,l,fun fa H1 ps s1 hG hf pr=> ?_⟩
  generalize nZ:bj xs=qs at pr q
  have md:ps.length=qs.length:=Paired.length pr
  have QA:qs.length≤12:=by
   rw[←nZ]
   unfold bj
   have:=List.length_filterMap_le (fun l:Nat=> (rowAt xs l).map fun r=> ((l:Int),r)) (List.range xs.length)
   rw[List.length_range]at this
   have h1:=l.2.2.len
   have h2:=l.1.2.2.1
   omega
  refine⟨_,rfl,fa,rfl,⟨ps,aj.of hf⟩,?_⟩
  refine Z5 (xs:=ps) (fun i ys σ H2=> ∃v0 v1 v2 v3,σ=[v0,v1,v2,v3,some (.ref fa)]∧ah H1 H2∧Paired (ij H2) ys (iB qs i)∧ys.length≤i*12) ⟨_,_,_,_,rfl,ah.refl _,.nil,Nat.zero_le _⟩ (fun i ys σ H2 _ ⟨_,_,_,_,_,s2,_⟩=>aj.of (s2 _ _ hf)) ?_ ?_
  ·rintro i v ys σ H2 hv ⟨v0,v1,v2,v3,rfl,s2,bU,dB⟩
   obtain⟨a,GY,t,rfl,ht⟩:=Paired.at pr hv
   have hi:i<ps.length:=(List.getElem?_eq_some_iff.mp hv).1
   refine⟨t,_,rfl,ag.of (s2 _ _ ht),rfl,_,_,rfl,_,_,rfl,rfl,?_⟩
   refine⟨_,rfl,fa,rfl,⟨ps,aj.of (s2 _ _ hf)⟩,?_⟩
   refine Z5 (xs:=ps) (fun j ys σ H3=> ∃v2 v3,σ=[some (.int a.1),some (.int a.2),v2,v3,some (.ref fa)]∧ah H1 H3∧Paired (ij H3) ys (iB qs i++pairsOf qs a j)∧ys.length≤i*12+j) ⟨_,_,rfl,s2,by simpa[pairsOf] using bU,dB⟩ (fun i ys σ H2 _ ⟨_,_,_,s2,_⟩=>aj.of (s2 _ _ hf)) ?_ ?_
   ·rintro j v ys σ H3 kD ⟨v2,v3,rfl,s3,bw,jS⟩
    obtain⟨b,GX,t',rfl,dz⟩:=Paired.at pr kD
    have hj:j<ps.length:=(List.getElem?_eq_some_iff.mp kD).1
    have es:=OU (a:=a) GX
    refine⟨t',_,rfl,ag.of (s3 _ _ dz),rfl,_,_,rfl,_,_,rfl,rfl,?_⟩
    refine⟨_,rfl,_,rfl,_,_,rfl,rfl,_,rfl,?_⟩
    cases hh:decide (a.1<b.1) with
    |true=>
     rw[hh]at es
     refine az ?_
     refine⟨_,rfl,_,rfl,_,rfl,_,rfl,(by show 4≤sizeLine;decide),fun t4 iG=> ⟨by rw[sizeLine_eq];omega,?_⟩⟩
     have s4:ah H3 (upd H3 t4 (.tup [.int a.1,.int a.2,.int b.1,.int b.2])):=fun c o hc=>by rw[Zg (Zd hc iG)];exact hc
     refine⟨_,_,rfl,s3.trans s4,?_,by rw[List.length_append];simp;omega⟩
     rw[es,if_pos rfl,←List.append_assoc]
     exact Paired.snoc (Paired.ba bw fun v q' hq=>hq.same s4) ⟨t4,rfl,Zc⟩
    |false=>
     rw[hh]at es
     refine aq ⟨_,_,rfl,s3,?_,by omega⟩
     rw[es,if_neg Bool.false_ne_true,List.append_nil]
     exact bw
   ·rintro ys σ H3 ⟨v2,v3,rfl,s3,bw,jS⟩
    refine⟨_,_,_,_,rfl,s3,?_,by omega⟩
    rw[OV GY,←md]
    exact bw
  ·rintro ys σ H2 ⟨v0,v1,v2,v3,rfl,s2,bU,dB⟩ p hp
   have s4:ah H2 (upd H2 p (.lst ys)):=fun c o hc=>by rw[Zg (Zd hc hp)];exact hc
   refine q p _ ys (s1.trans (s2.trans s4)) ((s1.trans s2).free hp) Zc ?_
   rw[md]at bU
   exact Paired.ba bU fun v q' hq=>hq.same s4
end
section
def qz (xs:List V) (n:Nat):List (Int×Int):=(List.range n).filterMap fun l=> (rowAt xs l).map fun r=> ((l:Int),r)
theorem WH (xs:List V) (n:Nat):qz xs (n+1)=qz xs n++((rowAt xs n).map fun r=> ((n:Int),r)).toList:=by
 unfold qz
 rw[List.range_succ,List.filterMap_append]
 cases h:rowAt xs n<;>simp[h]
end
section
variable {P:Program}{w:World}{K:PySem.W.Frag}{mg:Str→Option Value}{base:Heap}
abbrev ug:Stmt:=top 18
theorem D5:aX ["board", "lay"] ["board", "lay"] (aM ug):=⟨rfl,rfl,rfl,by decide+kernel,rfl,by decide+kernel,by decide+kernel⟩
theorem Od {f:Addr}{fd:FuncData}(F:aO K "points" "points" ug f fd) (G:Gs mg) (D1:Def P w K mg base 6 "need_lay" ["board", "lay"] lG):aL P w K mg base aJ 7 f fd ["board", "lay"] tG:=by
 refine F.ok D5 (fun vs H Q E h=> ?_) (fun ar A outer s H vs Q E hr h=> ?_)
 ·obtain⟨x,y,wd,hg,xs,rfl,_⟩:=h
  rfl
 ·obtain⟨x,y,wd,hg,xs,rfl,l,q⟩:=h
  refine⟨_,Ze (Yh (Zf D1 hr (Za (pv 0) (Za (pv 1) Zb))))
   (Zi (Zm (Yb ["line", "row"] 2 [] (MG rfl G.enumerate (Za (pv 1) Zb))
    (fun C s H fp=>show PG (aI _ _ _ C s H fp) _ (jf K 2 (cE (bR 0) (cE (bR 1) jg))) from Yd rfl (Zk (pb 0) (Zk (pb 1) ZU)))
    (fun C s H fp=>Yu (YD (YK (pv 1)))) (fun C s H fp D=>cz rfl (ZF (Za (pv 0) (Za (pv 1) Zb))))))),?_⟩
  refine⟨x,rfl,y,rfl,x,y,wd,hg,xs,rfl,l,fun H1 s1=> ?_⟩
  obtain⟨a,rfl,ha⟩:=Zv (l.same s1).2.1
  have hlen:xs.length≤12:=by
   have h1:=l.2.2.len
   have h2:=l.1.2.2.1
   omega
  refine⟨_,rfl,a,rfl,⟨xs,ag.of ha⟩,?_⟩
  refine N7 (xs:=xs) (fun i ys σ H2=> ∃v0 v1,σ=[v0,v1]∧ah H1 H2∧Paired (pA H2) ys (qz xs i)∧ys.length≤i) ⟨_,_,rfl,ah.refl _,.nil,Nat.zero_le _⟩ (fun i ys σ H2 _ ⟨_,_,_,s2,_⟩=>ag.of (s2 _ _ ha)) ?_ ?_
  ·rintro i v T ys σ H2 hv hT ⟨v0,v1,rfl,s2,bU,dB⟩
   have hi:i<xs.length:=(List.getElem?_eq_some_iff.mp hv).1
   have sT:ah H2 (upd H2 T (.par [.int (i:Int),v])):=fun c o hc=>by rw[Zg (Zd hc hT)];exact hc
   have er:rowAt xs i=nB v:=by unfold rowAt;rw[hv];rfl
   refine⟨T,_,rfl,ag.uW Zc,rfl,_,_,rfl,_,_,rfl,rfl,?_⟩
   refine⟨_,rfl,_,rfl,?_⟩
   generalize Aw:upd H2 T (HO.par [V.int (i:Int),v])=H3 at sT
   rcases l.2.2.ok v (List.mem_of_getElem? hv) with rfl |⟨r,rfl⟩
   ·refine aq ⟨_,_,rfl,s2.trans sT,?_,by omega⟩
    rw[WH,er]
    exact(by simpa[nB] using Paired.ba bU fun v q' hq=>hq.same sT)
   ·refine az ?_
    refine⟨_,rfl,_,rfl,(by show 2≤sizeLine;decide),fun t ht=> ⟨by rw[sizeLine_eq];omega,?_⟩⟩
    have s4:ah H3 (upd H3 t (.tup [.int (i:Int),.int r])):=fun c o hc=>by rw[Zg (Zd hc ht)];exact hc
    refine⟨_,_,rfl,s2.trans (sT.trans s4),?_,by rw[List.length_append];simp;omega⟩
    rw[WH,er]
    exact Paired.snoc (Paired.ba bU fun v q' hq=>hq.same (sT.trans s4)) ⟨t,rfl,Zc⟩
  ·rintro ys σ H2 ⟨v0,v1,rfl,s2,bU,dB⟩ p hp
   have s4:ah H2 (upd H2 p (.lst ys)):=fun c o hc=>by rw[Zg (Zd hc hp)];exact hc
   exact q p _ ys (s1.trans (s2.trans s4)) ((s1.trans s2).free hp) Zc (Paired.ba bU fun v q' hq=>hq.same s4)
end
end U
namespace U
open PySem L2 PyProof.Rows PyProof.Rows.de
section
def dh (p:aG):aG:=(p.2.2.1 - p.1,p.2.2.2 - p.2.1,p.1,p.2.2.1)
def kW (ks:List aG):Prop:=(ks.map bh).Pairwise fun a b=>ax b a=false
theorem fO.same {H H':Hp}{v:V}{q:aG}(h:fO H v q) (s:ah H H'):fO H' v q:=by
 obtain⟨t,t',e,h1,h2⟩:=h
 exact⟨t,t',e,s _ _ h1,s _ _ h2⟩
theorem BR (xs:List V):(bj xs).length≤xs.length:=by
 unfold bj
 have:=List.length_filterMap_le (fun l:Nat=> (rowAt xs l).map fun r=> ((l:Int),r)) (List.range xs.length)
 rw[List.length_range]at this
 exact this
theorem Cg {α β:Type}(f:α→List β) (n:Nat):∀l:List α,(∀a∈l,(f a).length≤n)→(l.flatMap f).length≤l.length*n
 | [],_=>by simp
 |a::l,h=>by
  have h1:=h a List.mem_cons_self
  have h2:=Cg f n l fun b hb=>h b (List.mem_cons_of_mem _ hb)
  rw[List.flatMap_cons,List.length_append,List.length_cons,Nat.succ_mul]
  omega
theorem UI (ps:List (Int×Int)):(bN ps).length≤ps.length*ps.length:=by
 unfold bN iB
 rw[List.take_length]
 refine Cg _ _ _ fun a _=> ?_
 unfold pairsOf
 rw[List.length_map]
 refine Nat.le_trans (List.length_filter_le ..) ?_
 rw[List.length_take]
 exact Nat.min_le_right ..
theorem F8 {H:Hp}{x y:V}{wd hg:Int}{xs:List V}(l:dW H x y wd hg xs):xs.length≤12:=by
 have h1:=l.2.2.len
 have h2:=l.1.2.2.1
 omega
theorem E4 {H:Hp}{x y:V}{wd hg:Int}{xs:List V}(l:dW H x y wd hg xs):(bN (bj xs)).length≤144:=by
 have h1:=UI (bj xs)
 have h2:=BR xs
 have h3:=F8 l
 have h4:(bj xs).length≤12:=by omega
 have h5:=Nat.mul_le_mul h4 h4
 omega
end
section
variable {P:Program}{w:World}{K:PySem.W.Frag}{mg:Str→Option Value}{base:Heap}
abbrev ub:Stmt:=top 21
theorem E3 {H:Hp}{x y:V}{wd hg:Int}{xs:List V}(l:dW H x y wd hg xs) (w7:wd≤7):(bN (bj xs)).length≤49:=by
 have h1:=UI (bj xs)
 have h2:=BR xs
 have h3:=l.2.2.len
 have h4:(bj xs).length≤7:=by omega
 have h5:=Nat.mul_le_mul h4 h4
 omega
def tw:Sp:=fun vs H Q _=> ∃x y wd hg xs,vs=[x,y]∧dW H x y wd hg xs∧wd≤7∧∀(l:Addr) (H':Hp) (rs:List V) (ks:List aG),ah H H'→H l=none→H' l=some (.lst rs)→Paired (fO H') rs ks→ks.Perm ((bN (bj xs)).map dh)→kW ks→Q (.ref l) H'
theorem D0:aX ["board", "lay"] ["board", "lay"] (aM ub):=⟨rfl,rfl,rfl,by decide+kernel,rfl,by decide+kernel,by decide+kernel⟩
theorem NJ {f:Addr}{fd:FuncData}(F:aO K "steps" "steps" ub f fd) (G:Gs mg) (D1:Def P w K mg base 8 "point_pairs" ["board", "lay"] tH):aL P w K mg base aJ 9 f fd ["board", "lay"] tw:=by
 refine F.ok D0 (fun vs H Q E h=> ?_) (fun ar A outer s H vs Q E hr h=> ?_)
 ·obtain⟨x,y,wd,hg,xs,rfl,_⟩:=h
  rfl
 ·obtain⟨x,y,wd,hg,xs,rfl,l,w7,q⟩:=h
  have hu:=hr.units
  refine⟨_,Zi (Zm (Zq (Uv (Nat.lt_of_le_of_lt (Nat.add_le_add_left (by decide:2≤64) _) hu)) rfl G.sorted PyProof.Rows.Boot.«sorted» (Za (Yb ["line", "row", "other", "there"] 4 [] (Ya (Zf D1 hr (Za (pv 0) (Za (pv 1) Zb))))
    (fun C s H fp=>show PG (aI _ _ _ C s H fp) _ (jf K 4 (cE (bR 0) (cE (bR 1) (cE (bR 2) (cE (bR 3) jg))))) from Yd rfl (Zk (pb 0) (Zk (pb 1) (Zk (pb 2) (Zk (pb 3) ZU))))) (fun C s H fp=>Z1)
    (fun C s H fp D=>cz rfl (ZF (Za (ZF (Za (Zt YE (pv 2) (pv 0)) (Za (Zt YE (pv 3) (pv 1)) Zb))) (Za (pv 0) (Za (pv 2) Zb)))))) Zb))),?_⟩
  refine⟨x,rfl,y,rfl,x,y,wd,hg,xs,rfl,l,fun fa H1 ps s1 hG hf pr=> ?_⟩
  have hlen:=E3 l w7
  generalize nZ:bN (bj xs)=qs at pr q hlen
  have md:ps.length=qs.length:=Paired.length pr
  refine⟨fa,rfl,⟨ps,aj.of hf⟩,?_⟩
  refine Z5 (xs:=ps) (fun i ys σ H2=> ∃v0 v1 v2 v3,σ=[v0,v1,v2,v3]∧ah H1 H2∧Paired (fO H2) ys ((qs.take i).map dh)∧ys.length≤i) ⟨_,_,_,_,rfl,ah.refl _,.nil,Nat.zero_le _⟩ (fun i ys σ H2 _ ⟨_,_,_,_,_,s2,_⟩=>aj.of (s2 _ _ hf)) ?_ ?_
  ·rintro i v ys σ H2 hv ⟨v0,v1,v2,v3,rfl,s2,bU,dB⟩
   obtain⟨⟨a,b,c,d⟩,hq,tt,rfl,GO⟩:=Y8 pr hv
   have hi:i<ps.length:=(List.getElem?_eq_some_iff.mp hv).1
   refine⟨tt,_,rfl,ag.of (s2 _ _ GO),rfl,_,_,rfl,_,_,rfl,_,_,rfl,_,_,rfl,rfl,?_⟩
   refine⟨_,rfl,_,rfl,c,a,rfl,rfl,_,rfl,_,rfl,d,b,rfl,rfl,(by show 2≤sizeLine;decide),fun t' dz=> ?_⟩
   refine⟨_,rfl,_,rfl,(by show 3≤sizeLine;decide),fun t ht=> ⟨by rw[sizeLine_eq];omega,?_⟩⟩
   generalize iO:upd H2 t' (HO.tup [V.int (c - a),V.int (d - b)])=H4 at ht
   have s4:ah H2 H4:=fun e o hc=>by rw[←iO,Zg (Zd hc dz)];exact hc
   have iG:H4 t'=some (.tup [V.int (c - a),V.int (d - b)]):=by rw[←iO];exact Zc
   generalize hW:upd H4 t (HO.tup [V.ref t',V.int a,V.int c])=H5
   have s5:ah H4 H5:=fun e o hc=>by rw[←hW,Zg (Zd hc ht)];exact hc
   have qV:H5 t=some (.tup [V.ref t',V.int a,V.int c]):=by rw[←hW];exact Zc
   refine⟨_,_,_,_,rfl,s2.trans (s4.trans s5),?_,by rw[List.length_append];simp;omega⟩
   rw[List.take_add_one,hq,List.map_append]
   exact Paired.snoc (Paired.ba bU fun v q' hq=>hq.same (s4.trans s5)) ⟨t,t',rfl,qV,s5 _ _ iG⟩
  ·rintro ys σ H2 ⟨v0,v1,v2,v3,rfl,s2,bU,dB⟩ p hp
   have s4:ah H2 (upd H2 p (.lst ys)):=fun c o hc=>by rw[Zg (Zd hc hp)];exact hc
   rw[md,List.take_length]at bU
   refine⟨p,ys,qs.map dh,rfl,aj.of Zc,Paired.ba bU fun v q' hq=>hq.same s4,by omega,fun r dY gP zG l3 G0 bw=> ?_⟩
   have s5:ah (upd H2 p (.lst ys)) (upd (upd H2 p (.lst ys)) r (.lst dY)):=fun c o hc=>by rw[Zg (Zd hc zG)];exact hc
   exact q r _ dY gP (s1.trans (s2.trans (s4.trans s5))) ((s1.trans (s2.trans s4)).free zG) Zc (Paired.ba bw fun v q' hq=>fO.same hq s5) l3 G0
end
section
theorem Js (a b:Int) (l m:List Int):ax (a::l) (b::m)=true↔a<b∨(a=b∧ax l m=true):=by
 have z:ax (a::l) (b::m)=if a=b then ax l m else decide (a<b):=rfl
 rw[z]
 by_cases e:a=b
 ·rw[if_pos e]
  constructor
  ·exact fun h=> .inr ⟨e,h⟩
  ·rintro(h |h)
   ·omega
   ·exact h.2
 ·rw[if_neg e,decide_eq_true_eq]
  constructor
  ·exact fun h=> .inl h
  ·rintro(h |h)
   ·exact h
   ·exact absurd h.1 e
theorem JN:ax [] []=true↔False:=by simp[ax]
def cF (a b:aG):Prop:=a.1=b.1∧a.2.1=b.2.1
instance (a b:aG):Decidable (cF a b):=inferInstanceAs (Decidable (_∧_))
def four (a b:aG):aG:=(a.2.2.1,a.2.2.2,b.2.2.1,b.2.2.2)
def f9 (a b:aG):Bool:=ax [a.2.2.1,a.2.2.2] [b.2.2.1,b.2.2.2]
def js (S:List aG):Option aG→Prop
 |none=> ∀a∈S,∀b∈S,cF a b→f9 a b=false
 |some k=> (∃a∈S,∃b∈S,cF a b∧f9 a b=true∧k=four a b)∧∀a∈S,∀b∈S,cF a b→f9 a b=true→ax (bh (four a b)) (bh k)=false
def iQ (ks:List aG):List (aG×aG):=ks.zip (ks.drop 1)
def gO (ks:List aG):List aG:=((iQ ks).filter fun p=>decide (cF p.1 p.2)).map fun p=>four p.1 p.2
theorem nf {b:Bool} :b=false↔¬b=true:=by cases b<;>simp
theorem mid {h d b:aG}(h1:ax (bh d) (bh h)=false) (h2:ax (bh b) (bh d)=false) (s:cF h b):cF h d∧ax (bh (four h b)) (bh (four h d))=false:=by
 unfold bh at *
 unfold cF at *
 unfold four
 rw[nf]at *
 simp only[Js,JN,and_false,or_false,false_or]at *
 omega
theorem Bb {a b:aG}(s:cF a b):ax (bh a) (bh b)=true↔f9 a b=true:=by
 unfold bh f9 cF at *
 simp only[Js,JN,and_false,or_false]at *
 omega
theorem Bf {ks:List aG}(hr:kW ks):∀a∈ks,∀b∈ks,cF a b→f9 a b=true→∃p∈iQ ks,cF p.1 p.2∧ax (bh (four a b)) (bh (four p.1 p.2))=false:=by
 induction ks with
 |nil=>intro a ha;cases ha
 |cons h r ih=>
  have aZ:kW r:=(List.pairwise_cons.mp hr).2
  have hh:∀d∈r,ax (bh d) (bh h)=false:=fun d hd=> (List.pairwise_cons.mp hr).1 _ (List.mem_map_of_mem hd)
  intro a ha b hb s l
  have kl:=(Bb s).mpr l
  rcases List.mem_cons.mp ha with rfl |hV
  ·have cX:b∈r:=by
    rcases List.mem_cons.mp hb with rfl |hb
    ·have:=Yo _ _ kl
     rw[kl]at this;cases this
    ·exact hb
   cases r with
   |nil=>cases cX
   |cons d r'=>
    have jd:ax (bh b) (bh d)=false:=by
     rcases List.mem_cons.mp cX with rfl |wa
     ·cases hx:ax (bh b) (bh b) with
      |false=>rfl
      |true=>
       have:=Yo _ _ hx
       rw[hx]at this;cases this
     ·exact(List.pairwise_cons.mp aZ).1 _ (List.mem_map_of_mem wa)
    obtain⟨m1,m2⟩:=mid (hh d List.mem_cons_self) jd s
    exact⟨(a,d),List.mem_cons_self,m1,m2⟩
  ·have cX:b∈r:=by
    rcases List.mem_cons.mp hb with rfl |hb
    ·have:=hh a hV
     rw[kl]at this;cases this
    ·exact hb
   obtain⟨p,hp,q1,q2⟩:=ih aZ a hV b cX s l
   refine⟨p,?_,q1,q2⟩
   cases r with
   |nil=>cases hV
   |cons d r'=>exact List.mem_cons_of_mem _ hp
theorem LQ {ks:List aG}(hr:kW ks) (hn:ks.Nodup):∀p∈iQ ks,cF p.1 p.2→p.1∈ks∧p.2∈ks∧f9 p.1 p.2=true:=by
 induction ks with
 |nil=>intro p hp;cases hp
 |cons h r ih=>
  have aZ:kW r:=(List.pairwise_cons.mp hr).2
  have hh:∀d∈r,ax (bh d) (bh h)=false:=fun d hd=> (List.pairwise_cons.mp hr).1 _ (List.mem_map_of_mem hd)
  have og:=(List.nodup_cons.mp hn)
  intro p hp s
  cases r with
  |nil=>cases hp
  |cons d r'=>
   rcases List.mem_cons.mp (show p∈(h,d)::iQ (d::r') from hp) with rfl |hp
   ·refine⟨List.mem_cons_self,List.mem_cons_of_mem _ List.mem_cons_self,(Bb s).mp ?_⟩
    cases hx:ax (bh h) (bh d) with
    |true=>rfl
    |false=>
     have e:=L7 (xg _ _ hx (hh d List.mem_cons_self))
     rw[e]at og
     exact absurd List.mem_cons_self og.1
   ·obtain⟨q1,q2,q3⟩:=ih aZ og.2 p hp s
    exact⟨List.mem_cons_of_mem _ q1,List.mem_cons_of_mem _ q2,q3⟩
theorem J9 {ks:List aG}{k:aG} :k∈gO ks↔∃p∈iQ ks,cF p.1 p.2∧four p.1 p.2=k:=by
 unfold gO
 rw[List.mem_map]
 constructor
 ·rintro⟨p,hp,e⟩
  rw[List.mem_filter,decide_eq_true_eq]at hp
  exact⟨p,hp.1,hp.2,e⟩
 ·rintro⟨p,hp,s,e⟩
  exact⟨p,List.mem_filter.mpr ⟨hp,decide_eq_true s⟩,e⟩
theorem OA {ks:List aG}(hr:kW ks) (h:gO ks=[]):js ks none:=fun a ha b hb s=>by
 cases hl:f9 a b with
 |false=>rfl
 |true=>
  obtain⟨p,hp,q,_⟩:=Bf hr a ha b hb s hl
  have:four p.1 p.2∈gO ks:=J9.mpr ⟨p,hp,q,rfl⟩
  rw[h]at this;cases this
theorem OB {ks:List aG}(hr:kW ks) (hn:ks.Nodup) {k:aG}(hk:k∈gO ks) (hm:∀k'∈gO ks,ax (bh k') (bh k)=false):js ks (some k):=by
 obtain⟨p,hp,s,e⟩:=J9.mp hk
 obtain⟨m1,m2,m3⟩:=LQ hr hn p hp s
 refine⟨⟨p.1,m1,p.2,m2,s,m3,e.symm⟩,fun a ha b hb s' l=> ?_⟩
 obtain⟨p',vJ,q1,q2⟩:=Bf hr a ha b hb s' l
 exact Jg _ _ _ (hm _ (J9.mpr ⟨p',vJ,q1,rfl⟩)) q2
def xJ (xs:List V) (q:aG):Prop:=∃l o:Nat,l<o∧o<xs.length∧eZ xs o l=some q
theorem YM {xs:List V}{p:Int×Int} :p∈bj xs↔∃l:Nat,l<xs.length∧rowAt xs l=some p.2∧p.1=(l:Int):=by
 unfold bj
 rw[List.mem_filterMap]
 constructor
 ·rintro⟨l,hl,e⟩
  rw[Option.map_eq_some_iff]at e
  obtain⟨r,hr,rfl⟩:=e
  exact⟨l,List.mem_range.mp hl,hr,rfl⟩
 ·rintro⟨l,hl,hr,e⟩
  refine⟨l,List.mem_range.mpr hl,?_⟩
  rw[hr,Option.map_some,←e]
theorem K9 {xs:List V}{q:aG} :q∈bL xs xs.length↔xJ xs q:=by
 unfold bL eF xJ
 simp only[List.mem_flatMap,List.mem_filterMap,List.mem_range]
 constructor
 ·rintro⟨o,ho,l,hl,e⟩
  exact⟨l,o,hl,ho,e⟩
 ·rintro⟨l,o,hl,ho,e⟩
  exact⟨o,ho,l,hl,e⟩
theorem Yx {xs:List V}{o l:Nat}{q:aG} :eZ xs o l=some q↔∃a b,rowAt xs l=some a∧rowAt xs o=some b∧q=((o:Int) - l,b - a,(l:Int),(o:Int)):=by
 unfold eZ
 cases h1:rowAt xs l with
 |none=>simp
 |some a=>
  cases h2:rowAt xs o with
  |none=>simp
  |some b=>
   simp only[Option.bind_some,Option.map_some,Option.some.injEq]
   constructor
   ·rintro rfl
    exact⟨a,b,rfl,rfl,rfl⟩
   ·rintro⟨_,_,rfl,rfl,rfl⟩
    rfl
theorem Mb {xs:List V}{q:aG} :q∈(bN (bj xs)).map dh↔xJ xs q:=by
 unfold bN iB
 rw[List.take_length]
 simp only[List.mem_map,List.mem_flatMap,pairsOf,List.take_length,List.mem_filter,decide_eq_true_eq]
 constructor
 ·rintro⟨_,⟨a,ha,b,⟨hb,ay⟩,rfl⟩,rfl⟩
  obtain⟨l,hl,hr,e⟩:=YM.mp ha
  obtain⟨o,ho,aZ,e'⟩:=YM.mp hb
  refine⟨l,o,by omega,ho,Yx.mpr ⟨a.2,b.2,hr,aZ,?_⟩⟩
  unfold dh
  rw[e,e']
 ·rintro⟨l,o,hl,ho,e⟩
  obtain⟨a,b,h1,h2,rfl⟩:=Yx.mp e
  exact⟨((l:Int),a,(o:Int),b),⟨((l:Int),a),YM.mpr ⟨l,by omega,h1,rfl⟩,((o:Int),b),⟨YM.mpr ⟨o,ho,h2,rfl⟩,by show(l:Int)< (o:Int);omega⟩,rfl⟩,rfl⟩
theorem UO (xs:List V) (n:Nat):(bL xs n).Nodup:=by
 unfold bL
 rw[List.nodup_iff_pairwise_ne,List.pairwise_flatMap]
 refine⟨fun o _=> ?_,?_⟩
 ·unfold eF
  rw[List.pairwise_filterMap]
  refine List.Pairwise.imp ?_ (List.nodup_iff_pairwise_ne.mp List.nodup_range)
  intro l l' cf q hq q' cc e
  obtain⟨_,_,_,_,rfl⟩:=Yx.mp hq
  obtain⟨_,_,_,_,rfl⟩:=Yx.mp cc
  simp only[Prod.mk.injEq]at e
  omega
 ·refine List.Pairwise.imp ?_ (List.nodup_iff_pairwise_ne.mp List.nodup_range)
  intro o o' cf q hq q' cc e
  unfold eF at hq cc
  rw[List.mem_filterMap]at hq cc
  obtain⟨l,_,hq⟩:=hq
  obtain⟨l',_,cc⟩:=cc
  obtain⟨_,_,_,_,rfl⟩:=Yx.mp hq
  obtain⟨_,_,_,_,rfl⟩:=Yx.mp cc
  simp only[Prod.mk.injEq]at e
  omega
theorem Bn (xs:List V):(bj xs).Pairwise fun a b=>a.1≠b.1:=by
 unfold bj
 rw[List.pairwise_filterMap]
 refine List.Pairwise.imp ?_ (List.nodup_iff_pairwise_ne.mp List.nodup_range)
 intro l l' cf q hq q' cc
 rw[Option.map_eq_some_iff]at hq cc
 obtain⟨_,_,rfl⟩:=hq
 obtain⟨_,_,rfl⟩:=cc
 show(l:Int)≠(l':Int)
 omega
theorem WP (xs:List V):((bN (bj xs)).map dh).Nodup:=by
 unfold bN iB
 rw[List.take_length,List.nodup_iff_pairwise_ne,List.pairwise_map,List.pairwise_flatMap]
 refine⟨fun a _=> ?_,?_⟩
 ·unfold pairsOf
  rw[List.take_length,List.pairwise_map]
  refine List.Pairwise.imp ?_ ((Bn xs).filter _)
  intro b b' cf e
  unfold dh at e
  simp only[Prod.mk.injEq]at e
  exact cf e.2.2.2
 ·refine List.Pairwise.imp ?_ (Bn xs)
  intro a a' cf q hq q' cc e
  unfold pairsOf at hq cc
  rw[List.mem_map]at hq cc
  obtain⟨b,_,rfl⟩:=hq
  obtain⟨b',_,rfl⟩:=cc
  unfold dh at e
  simp only[Prod.mk.injEq]at e
  exact cf e.2.2.1
theorem Ye (xs:List V):((bN (bj xs)).map dh).Perm (bL xs xs.length):=
 (List.perm_ext_iff_of_nodup (WP xs) (UO xs _)).mpr fun q=>Mb.trans K9.symm
theorem Kz (vs:List V):bH vs (some 1) none=vs.drop 1:=by
 unfold bH HT.aH
 cases vs with
 |nil=>rfl
 |cons a r=>simp
def lT (ks:List aG) (i:Nat):List aG:=(((iQ ks).take i).filter fun p=>decide (cF p.1 p.2)).map fun p=>four p.1 p.2
theorem OS {ks:List aG}{i:Nat}{a b:aG}(h1:ks[i]? =some a) (h2:(ks.drop 1)[i]? =some b):lT ks (i+1)=lT ks i++(if decide (cF a b)=true then [four a b] else []):=by
 have e:(iQ ks)[i]? =some (a,b):=List.getElem?_zip_eq_some.mpr ⟨h1,h2⟩
 unfold lT
 rw[List.take_add_one,e,List.filter_append,List.map_append]
 by_cases h:cF a b<;>simp[h]
def Pf (H:Hp) (v:V):Option aG→Prop
 |none=>v=.ae
 |some k=>ij H v k
end
section
variable {P:Program}{w:World}{K:PySem.W.Frag}{mg:Str→Option Value}{base:Heap}
abbrev uF:Stmt:=top 22
def ql:Sp:=fun vs H Q _=> ∃x y wd hg xs,vs=[x,y]∧dW H x y wd hg xs∧wd≤7∧∀(H':Hp) (v:V) (r:Option aG),ah H H'→js (bL xs xs.length) r→Pf H' v r→Q v H'
theorem tV:aX ["board", "lay", "told", "likes"] ["board", "lay"] (aM uF):=⟨rfl,rfl,rfl,by decide+kernel,rfl,by decide+kernel,by decide+kernel⟩
theorem ND {f:Addr}{fd:FuncData}(F:aO K "first_like" "first_like" uF f fd) (G:Gs mg) (D1:Def P w K mg base 9 "steps" ["board", "lay"] tw):aL P w K mg base aJ 10 f fd ["board", "lay"] ql:=by
 refine F.ok tV (fun vs H Q E h=> ?_) (fun ar A outer s H vs Q E hr h=> ?_)
 ·obtain⟨x,y,wd,hg,xs,rfl,_⟩:=h
  rfl
 ·obtain⟨x,y,wd,hg,xs,rfl,l,w7,q⟩:=h
  have hu:=UU hr
  refine⟨_,Ze (Zx (i:=2) tV.nd rfl (Or.inl rfl) (Zf D1 hr (Za (pv 0) (Za (pv 1) Zb))))
   (Ze (Jq ["step", "line", "other", "beside", "here", "there"] 6 [] (i:=3) tV.nd rfl (Or.inl rfl) (MH rfl G.zip (Za (pv 2) (Za (Yi Ct (pv 2) (Yv Zh) Yw) Zb)))
    (fun C s H fp=>show PG (aI _ _ _ C s H fp) _ (jf K 2 (cE (jf K 3 (cE (bR 0) (cE (bR 1) (cE (bR 2) jg)))) (cE (jf K 3 (cE (bR 3) (cE (bR 4) (cE (bR 5) jg)))) jg))) from
     Yd rfl (Zk (Yd rfl (Zk (pb 0) (Zk (pb 1) (Zk (pb 2) ZU)))) (Zk (Yd rfl (Zk (pb 3) (Zk (pb 4) (Zk (pb 5) ZU)))) ZU)))
    (fun C s H fp=>Yu (Zn (show aR (aI _ _ _ C s H fp) (compareOp .Eq) (fun x y H Q=> ∃(a b:Addr) (ns ms:List Int),x=.ref a∧y=.ref b∧ag K H a (ns.map V.int)∧ag K H b (ms.map V.int)∧Q (.bl (decide (ns=ms))) H) from BK hr.lh) (pv 0) (pv 3) (aY _)))
    (fun C s H fp D=>cz rfl (ZF (Za (pv 1) (Za (pv 2) (Za (pv 4) (Za (pv 5) Zb)))))))
   (Zi (Zm (MF rfl hu rfl G.min (pv 3))))),?_⟩
  refine⟨x,rfl,y,rfl,x,y,wd,hg,xs,rfl,l,w7,fun fa H1 ps ks s1 hG hf pr perm rise=> ?_⟩
  have Hm:ps.length=ks.length:=Paired.length pr
  have hlen:ks.length≤144:=by
   rw[perm.length_eq,List.length_map]
   exact E4 l
  refine⟨_,rfl,_,rfl,_,rfl,fa,ps,rfl,aj.of hf,fun c hc=> ?_⟩
  generalize fq:upd H1 c (HO.lst (bH ps (some 1) none))=H2
  have s2:ah H1 H2:=fun b o hb=>by rw[←fq,Zg (Zd hb hc)];exact hb
  have fM:H2 c=some (.lst (ps.drop 1)):=by rw[←fq,Kz];exact Zc
  have jU:=s2 _ _ hf
  refine⟨fa,c,rfl,⟨_,_,aj.of jU,aj.of fM⟩,?_⟩
  refine N8 (xs:=ps) (zs:=ps.drop 1) (fun i ys σ H3=> ∃v0 v1 v2 v3 v4 v5,σ=[v0,v1,v2,v3,v4,v5]∧ah H2 H3∧Paired (ij H3) ys (lT ks i)∧ys.length≤i) ⟨_,_,_,_,_,_,rfl,ah.refl _,.nil,Nat.zero_le _⟩
   (fun i ys σ H3 _ ⟨_,_,_,_,_,_,_,s3,_⟩=> ⟨aj.of (s3 _ _ jU),aj.of (s3 _ _ fM)⟩) ?_ ?_
  ·rintro i va vb T ys σ H3 zC Gz hT ⟨v0,v1,v2,v3,v4,v5,rfl,s3,bw,jS⟩
   have hi:i<ps.length:=(List.getElem?_eq_some_iff.mp zC).1
   obtain⟨a,Hx,ta,Dr,rfl,GL,GK⟩:=Y8 pr zC
   have Gy:ps[1+i]? =some vb:=by rw[←List.getElem?_drop];exact Gz
   obtain⟨b,Hw,tb,Dq,rfl,GJ,GI⟩:=Y8 pr Gy
   have Hv:(ks.drop 1)[i]? =some b:=by rw[List.getElem?_drop];exact Hw
   have es:=OS Hx Hv
   have sT:ah H3 (upd H3 T (.par [.ref ta,.ref tb])):=fun e o hc=>by rw[Zg (Zd hc hT)];exact hc
   have sA:ah H1 (upd H3 T (.par [.ref ta,.ref tb])):=s2.trans (s3.trans sT)
   refine⟨T,_,rfl,ag.uW Zc,rfl,_,_,rfl,ta,_,rfl,ag.of (sA _ _ GL),rfl,_,_,rfl,_,_,rfl,_,_,rfl,rfl,_,_,rfl,tb,_,rfl,ag.of (sA _ _ GJ),rfl,_,_,rfl,_,_,rfl,_,_,rfl,rfl,rfl,?_⟩
   generalize iO:upd H3 T (HO.par [V.ref ta,V.ref tb])=H4 at sT sA
   refine⟨_,rfl,_,rfl,Dr,Dq,[a.1,a.2.1],[b.1,b.2.1],rfl,rfl,ag.of (sA _ _ GK),ag.of (sA _ _ GI),_,rfl,?_⟩
   by_cases hs:cF a b
   ·rw[decide_eq_true hs,if_pos rfl]at es
    have ed:decide ([a.1,a.2.1]=[b.1,b.2.1])=true:=decide_eq_true (by rw[hs.1,hs.2])
    rw[ed]
    refine az ?_
    refine⟨_,rfl,_,rfl,_,rfl,_,rfl,(by show 4≤sizeLine;decide),fun t4 iG=> ⟨by rw[sizeLine_eq];omega,?_⟩⟩
    generalize hW:upd H4 t4 (HO.tup [V.int a.2.2.1,V.int a.2.2.2,V.int b.2.2.1,V.int b.2.2.2])=H5
    have s5:ah H4 H5:=fun e o hc=>by rw[←hW,Zg (Zd hc iG)];exact hc
    refine⟨_,_,_,_,_,_,rfl,s3.trans (sT.trans s5),?_,by rw[List.length_append];simp;omega⟩
    rw[es]
    exact Paired.snoc (Paired.ba bw fun v q' hq=>hq.same (sT.trans s5)) ⟨t4,rfl,by rw[←hW];exact Zc⟩
   ·rw[decide_eq_false hs,if_neg Bool.false_ne_true,List.append_nil]at es
    have ed:decide ([a.1,a.2.1]=[b.1,b.2.1])=false:=decide_eq_false (fun e=>hs (by simp only[List.cons.injEq,and_true]at e;exact e))
    rw[ed]
    refine aq ⟨_,_,_,_,_,_,rfl,s3.trans sT,?_,by omega⟩
    rw[es]
    exact Paired.ba bw fun v q' hq=>hq.same sT
  ·rintro ys σ H3 ⟨v0,v1,v2,v3,v4,v5,rfl,s3,bw,jS⟩ p hp
   have s4:ah H3 (upd H3 p (.lst ys)):=fun e o hc=>by rw[Zg (Zd hc hp)];exact hc
   have et:lT ks (min ps.length (ps.drop 1).length)=gO ks:=by
    unfold lT gO
    rw[List.take_of_length_le]
    unfold iQ
    rw[List.length_zip,List.length_drop,List.length_drop,Hm]
    exact Nat.le_refl _
   rw[et]at bw
   have lN:Paired (ij (upd H3 p (.lst ys))) ys (gO ks):=Paired.ba bw fun v q' hq=>hq.same s4
   have sA:ah H (upd H3 p (.lst ys)):=s1.trans (s2.trans (s3.trans s4))
   have fj:∀z,z∈ks↔z∈bL xs xs.length:=fun z=> (perm.trans (Ye xs)).mem_iff
   have gm:ks.Nodup:=(perm.trans (Ye xs)).nodup_iff.mpr (UO xs _)
   have conv:∀r,js ks r→js (bL xs xs.length) r:=fun r hr=>by
    cases r with
    |none=>exact fun a ha b hb s=>hr a ((fj a).mpr ha) b ((fj b).mpr hb) s
    |some k=>
     obtain⟨⟨a,ha,b,hb,w⟩,h2⟩:=hr
     exact⟨⟨a,(fj a).mp ha,b,(fj b).mp hb,w⟩,fun a ha b hb s l=>h2 a ((fj a).mpr ha) b ((fj b).mpr hb) s l⟩
   refine⟨_,rfl,p,ys,(gO ks).map bh,rfl,aj.of Zc,?_,fun e=> ?_,fun v k hv hk nW Hj=> ?_⟩
   ·have:∀{ys:List V}{ls:List aG},Paired (ij (upd H3 p (.lst ys))) ys ls→Paired (bg (upd H3 p (.lst ys))) ys (ls.map bh):=by
     intro ys ls h
     generalize (upd H3 p (.lst ys))=H9 at h
     induction h with
     |nil=>exact .nil
     |cons h1 _ ih=>exact .cons h1 ih
    exact this lN
   ·subst e
    have el:gO ks=[]:=by
     have:=Paired.length lN
     exact List.length_eq_zero_iff.mp this.symm
    exact q _ .ae none sA (conv _ (OA rise el)) rfl
   ·obtain⟨k4,vS,rfl⟩:=List.mem_map.mp hk
    exact q _ v (some k4) sA (conv _ (OB rise gm vS fun k' aS=>Hj _ (List.mem_map_of_mem aS))) nW
abbrev tZ:Stmt:=top 23
def mW:Sp:=fun vs H Q _=> ∃x y wd hg xs,vs=[x,y]∧dW H x y wd hg xs∧wd≤7∧∀(H':Hp) (r:Option aG),ah H H'→js (bL xs xs.length) r→Q (.bl r.isNone) H'
theorem DY:aX ["board", "lay"] ["board", "lay"] (aM tZ):=⟨rfl,rfl,rfl,by decide+kernel,rfl,by decide+kernel,by decide+kernel⟩
theorem Lw {f:Addr}{fd:FuncData}(F:aO K "is_unlike" "is_unlike" tZ f fd) (D1:Def P w K mg base 10 "first_like" ["board", "lay"] ql):aL P w K mg base aJ 11 f fd ["board", "lay"] mW:=by
 refine F.ok DY (fun vs H Q E h=> ?_) (fun ar A outer s H vs Q E hr h=> ?_)
 ·obtain⟨x,y,wd,hg,xs,rfl,_⟩:=h
  rfl
 ·obtain⟨x,y,wd,hg,xs,rfl,l,w7,q⟩:=h
  refine⟨_,Zi (Zm (WK (Jx (Zf D1 hr (Za (pv 0) (Za (pv 1) Zb)))))),?_⟩
  refine⟨x,rfl,y,rfl,x,y,wd,hg,xs,rfl,l,w7,fun H1 v r s1 hf ho=> ?_⟩
  have:=q H1 r s1 hf
  cases r with
  |none=>
   have e:v=.ae:=ho
   subst e
   exact this
  |some k=>
   obtain⟨t,rfl,_⟩:=(show ij H1 v k from ho)
   exact this
end
end U
namespace U
open PySem L2 PyProof.Rows
section
variable {P:Program}{w:World}{K:PySem.W.Frag}{mg:Str→Option Value}{base:Heap}
theorem Zl {H:Hp}{p:Addr}{o:HO}(h:H p=none):ah H (upd H p o):=fun b u hb=>by rw[Zg (Zd hb h)];exact hb
end
section
theorem bM.same {H H':Hp}{p:Addr}(h:bM H p) (s:ah H H'):bM H' p:=by
 obtain⟨u,v,e,r⟩:=h
 exact⟨u,v,s _ _ e,r⟩
end
section
variable {P:Program}{w:World}{K:PySem.W.Frag}{mg:Str→Option Value}{base:Heap}
theorem ZJ {D:Ends}{σ:L2.St}{H:Hp}(h:D.nx σ H):yg D σ H:=h
theorem Zo {t u:TS}{D:Ends}{σ:L2.St}{H:Hp}(h:t {D with nx:=u D} σ H):sU t u D σ H:=h
theorem ZD {te:TE}{g:TG}{D:Ends}{σ:L2.St}{H:Hp}(h:te σ H fun v H1=>g v σ H1 D.nx):mR te g D σ H:=h
theorem Zp {i:Nat}{v:V}{σ:L2.St}{H:Hp}{Q:L2.St→Hp→Prop}(h:Q (σ.set i (some v)) H):bR i v σ H Q:=h
end
end U
namespace U
open PySem L2 PyProof.Rows PyProof.Rows.de
section
abbrev kz:Arguments:= {posonlyargs:=[],args:=[],vararg:=none,kwonlyargs:=[],kw_defaults:=[],kwarg:=none,defaults:=[]}
theorem LD (xs:List V):(bj xs).Pairwise fun a b=>a.1<b.1:=by
 unfold bj
 refine List.pairwise_filterMap.mpr (List.Pairwise.imp ?_ (List.pairwise_lt_range (n:=xs.length)))
 intro a b iN p hp q hq
 obtain⟨r,hr,rfl⟩:=Option.map_eq_some_iff.mp hp
 obtain⟨r',aZ,rfl⟩:=Option.map_eq_some_iff.mp hq
 show(a:Int)< (b:Int)
 omega
def ko (ps:List (Int×Int)):List aG:=ps.flatMap fun a=> (ps.filter fun b=>decide (a.1<b.1)).map fun b=> (a.1,a.2,b.1,b.2)
theorem UJ (ps:List (Int×Int)):bN ps=ko ps:=by
 unfold bN iB ko pairsOf
 rw[List.take_length]
theorem Us {α β:Type}{f:α→β}{l:List α}(h:l.Nodup):(l.map f).Nodup↔∀a∈l,∀b∈l,f a=f b→a=b:=by
 rw[List.nodup_iff_pairwise_ne,List.pairwise_map]
 constructor
 ·intro pw a ha b hb e
  obtain⟨i,hi,rfl⟩:=List.getElem_of_mem ha
  obtain⟨j,hj,rfl⟩:=List.getElem_of_mem hb
  have p:=List.pairwise_iff_getElem.mp pw
  rcases Nat.lt_trichotomy i j with q |q |q
  ·exact absurd e (p i j hi hj q)
  ·subst q;rfl
  ·exact absurd e.symm (p j i hj hi q)
 ·intro inj
  refine List.Pairwise.imp_of_mem ?_ (List.nodup_iff_pairwise_ne.mp h)
  intro a b ha hb ne e
  exact ne (inj a ha b hb e)
theorem O0 (xs:List V):(bN (bj xs)).Nodup:=by
 have:=WP xs
 rw[List.nodup_iff_pairwise_ne,List.pairwise_map]at this
 exact List.nodup_iff_pairwise_ne.mpr (List.Pairwise.imp (fun h e=>h (by rw[e])) this)
theorem Yc {xs:List V}{p:aG} :p∈bN (bj xs)↔∃l o:Nat,l<o∧o<xs.length∧∃a b,rowAt xs l=some a∧rowAt xs o=some b∧p=((l:Int),a,(o:Int),b):=by
 rw[UJ]
 unfold ko
 rw[List.mem_flatMap]
 constructor
 ·rintro⟨a,ha,hq⟩
  obtain⟨b,hb,rfl⟩:=List.mem_map.mp hq
  obtain⟨rp,wa⟩:=List.mem_filter.mp hb
  obtain⟨l,hl,hr,e⟩:=YM.mp ha
  obtain⟨o,ho,aZ,e'⟩:=YM.mp rp
  have:=of_decide_eq_true wa
  refine⟨l,o,by omega,ho,a.2,b.2,hr,aZ,by rw[e,e']⟩
 ·rintro⟨l,o,h1,h2,a,b,h3,h4,rfl⟩
  exact⟨((l:Int),a),YM.mpr ⟨l,by omega,h3,rfl⟩,List.mem_map.mpr ⟨((o:Int),b),List.mem_filter.mpr ⟨YM.mpr ⟨o,h2,h4,rfl⟩,decide_eq_true (by show(l:Int)<o;omega)⟩,rfl⟩⟩
def j6 (xs:List V):Prop:=∀p∈bN (bj xs),∀q∈bN (bj xs),cF (dh p) (dh q)→p=q
theorem KU {a b:aG}(h:a.2.2.1≠b.2.2.1∨a.2.2.2≠b.2.2.2):f9 a b=true∨f9 b a=true:=by
 unfold f9
 simp only[Js,JN,and_false,or_false]
 omega
theorem Mn {xs:List V}{r:Option aG}(f:js (bL xs xs.length) r):r.isNone=true↔j6 xs:=by
 have mem:∀{p:aG},p∈bN (bj xs)→dh p∈bL xs xs.length:=fun hp=> (Ye xs).mem_iff.mp (List.mem_map_of_mem hp)
 cases r with
 |none=>
  refine⟨fun _ p hp q hq s=> ?_,fun _=>rfl⟩
  refine Classical.byContradiction fun ne=> ?_
  obtain⟨l,o,_,_,a,b,g1,g2,rfl⟩:=Yc.mp hp
  obtain⟨l',o',_,_,a',b',g3,g4,rfl⟩:=Yc.mp hq
  have d:(l:Int)≠(l':Int)∨(o:Int)≠(o':Int):=by
   refine Classical.byContradiction fun c=>ne ?_
   have e1:l=l':=by omega
   have e2:o=o':=by omega
   subst e1 e2
   rw[g1]at g3
   rw[g2]at g4
   cases g3
   cases g4
   rfl
  rcases KU (a:=dh ((l:Int),a,(o:Int),b)) (b:=dh ((l':Int),a',(o':Int),b')) d with z |z
  ·have:=f _ (mem hp) _ (mem hq) s
   rw[z]at this
   cases this
  ·have:=f _ (mem hq) _ (mem hp) ⟨s.1.symm,s.2.symm⟩
   rw[z]at this
   cases this
 |some k=>
  refine⟨fun h=> (by cases h),fun h=> ?_⟩
  obtain⟨⟨a,ha,b,hb,s,l,_⟩,_⟩:=f
  obtain⟨p,hp,rfl⟩:=List.mem_map.mp ((Ye xs).mem_iff.mpr ha)
  obtain⟨q,hq,rfl⟩:=List.mem_map.mp ((Ye xs).mem_iff.mpr hb)
  rw[h p hp q hq s]at l
  unfold f9 at l
  simp only[Js,JN,and_false,or_false]at l
  omega
def cI (xs ys:List V):Prop:=ys.length=xs.length∧∀(i:Nat) (v:V),ys[i]? =some v→v=.ae∨xs[i]? =some v
theorem U0 {xs ys:List V}(h:cI xs ys) {i:Nat}{r:Int}(e:rowAt ys i=some r):rowAt xs i=some r:=by
 unfold rowAt at e ⊢
 cases ey:ys[i]? with
 |none=>rw[ey]at e;cases e
 |some v=>
  rw[ey]at e
  rcases h.2 i v ey with rfl |q
  ·cases e
  ·rw[q];exact e
theorem UZ {xs ys:List V}(h:cI xs ys) (u:j6 xs):j6 ys:=by
 have sub:∀{p:aG},p∈bN (bj ys)→p∈bN (bj xs):=fun {p} hp=>by
  obtain⟨l,o,h1,h2,a,b,g1,g2,rfl⟩:=Yc.mp hp
  exact Yc.mpr ⟨l,o,h1,by rw[←h.1];exact h2,a,b,U0 h g1,U0 h g2,rfl⟩
 exact fun p hp q hq s=>u p (sub hp) q (sub hq) s
theorem JI:∀{xs ys:List V},cI xs ys→(rowsOf ys).Sublist (rowsOf xs)
 | [],[],_=> .refl _
 | [],_::_,h=>by simp[cI]at h
 |_::_,[],h=>by simp[cI]at h
 |x::xs,y::ys,h=>by
  have ht:cI xs ys:=⟨by have:=h.1;simpa using this,fun i v e=>by have:=h.2 (i+1) v (by simpa using e);simpa using this⟩
  have ih:=JI ht
  unfold rowsOf at ih ⊢
  rcases h.2 0 y rfl with rfl |q
  ·rw[List.filter_cons_of_neg (by simp)]
   exact ih.trans ((List.sublist_cons_self x xs).filter _)
  ·have:x=y:=by simpa using q
   subst this
   by_cases z:(!decide (x=V.ae))=true
   ·rw[List.filter_cons_of_pos (p:=fun x=> !decide (x=V.ae)) z,List.filter_cons_of_pos (p:=fun x=> !decide (x=V.ae)) z]
    exact ih.cons₂ x
   ·rw[List.filter_cons_of_neg (p:=fun x=> !decide (x=V.ae)) z,List.filter_cons_of_neg (p:=fun x=> !decide (x=V.ae)) z]
    exact ih
theorem U3 {wd hg:Int}{xs ys:List V}(l:aK wd hg xs) (h:cI xs ys):aK wd hg ys:=
 ⟨by rw[h.1];exact l.len,fun r hr=>l.row r ((JI h).subset hr),l.nd.sublist (JI h)⟩
end
end U
namespace U.S
open PySem L2 PyProof.Rows
section
def sk (a b:Int×Int):List Int:=[b.1 - a.1,b.2 - a.2]
def pk:List (Int×Int)→List (List Int)
 | []=> []
 |a::r=>r.map (sk a)++pk r
def bX (xs:List V):Bool:=decide (pk (bj xs)).Nodup
def qm (p:aG):List Int:=[p.2.2.1 - p.1,p.2.2.2 - p.2.1]
theorem A7:∀{ps:List (Int×Int)},(ps.Pairwise fun a b=>a.1<b.1)→(ko ps).map qm=pk ps
 | [],_=>rfl
 |a::l,h=>by
  obtain⟨h1,h2⟩:=List.pairwise_cons.mp h
  have ih:=A7 h2
  have e:ko (a::l)=(l.map fun b=> (a.1,a.2,b.1,b.2))++ko l:=by
   unfold ko
   rw[List.flatMap_cons]
   congr 1
   ·rw[List.filter_cons_of_neg (by simp),List.filter_eq_self.mpr fun b hb=>decide_eq_true (h1 b hb)]
   ·rw[List.flatMap_def,List.flatMap_def]
    congr 1
    refine List.map_congr_left fun c hc=> ?_
    rw[List.filter_cons_of_neg (by have:=h1 c hc;simp;omega)]
  rw[e,List.map_append,ih,List.map_map]
  rfl
theorem Cq (p q:aG):cF (dh p) (dh q)↔qm p=qm q:=by
 unfold cF dh qm
 simp
theorem Z0 (xs:List V):bX xs=true↔j6 xs:=by
 unfold bX
 rw[decide_eq_true_iff,←A7 (LD xs),←UJ,Us (O0 xs)]
 unfold j6
 constructor
 ·intro h p hp q hq s
  exact h p hp q hq ((Cq p q).mp s)
 ·intro h p hp q hq s
  exact h p hp q hq ((Cq p q).mpr s)
theorem rR {xs:List V}{r:Option aG}(f:js (bL xs xs.length) r):r.isNone=bX xs:=by
 have h1:=Mn f
 have h2:=Z0 xs
 cases hr:r.isNone<;>cases hu:bX xs<;>simp_all
def aT (hg:Nat) (xs:List V) (l:Nat):List Int:=((List.range hg).map fun(k:Nat)=> (k:Int)).filter fun r=> !aE (.int r) xs&&bX (xs.set l (.int r))
theorem ZG {H:Hp}{p:Addr}{o:HO}(h:H p=none):ah H (upd H p o):=fun b u hb=>by rw[Zg (Zd hb h)];exact hb
theorem WA {v:V}(hv:v≠.ae):∀{xs:List V}{i:Nat},xs[i]? =some V.ae→(rowsOf (xs.set i v)).Perm (v::rowsOf xs)
 | [],_,h=>by simp at h
 |x::xs,0,h=>by
  have:x=.ae:=by simpa using h
  subst this
  rw[List.set_cons_zero]
  unfold rowsOf
  rw[List.filter_cons_of_pos (by simpa using hv),List.filter_cons_of_neg (by simp)]
 |x::xs,i+1,h=>by
  have ih:=WA hv (xs:=xs) (i:=i) (by simpa using h)
  rw[List.set_cons_succ]
  unfold rowsOf at ih ⊢
  by_cases z:(!decide (x=V.ae))=true
  ·rw[List.filter_cons_of_pos (p:=fun x=> !decide (x=V.ae)) z,List.filter_cons_of_pos (p:=fun x=> !decide (x=V.ae)) z]
   exact(ih.cons x).trans (List.Perm.swap v x _)
  ·rw[List.filter_cons_of_neg (p:=fun x=> !decide (x=V.ae)) z,List.filter_cons_of_neg (p:=fun x=> !decide (x=V.ae)) z]
   exact ih
theorem YZ {r:Int}{xs:List V}(h:V.int r∈xs):aE (.int r) xs=true:=by
 unfold aE
 exact List.any_eq_true.mpr ⟨_,h,by simp[bD]⟩
theorem Jt {wd hg:Int}{xs:List V}{i:Nat}{r:Int}(h:aK wd hg xs) (hi:xs[i]? =some V.ae) (h0:0≤r) (h1:r<hg) (hn:aE (.int r) xs=false):aK wd hg (xs.set i (.int r)):=by
 have pm:=WA (v:=.int r) (by intro z;cases z) hi
 refine⟨by rw[List.length_set];exact h.len,fun x hx=> ?_,pm.nodup_iff.mpr (List.nodup_cons.mpr ⟨fun m=> ?_,h.nd⟩)⟩
 ·rcases List.mem_cons.mp (pm.mem_iff.mp hx) with rfl |hx
  ·show(decide (0≤r)&&decide (r≤hg - 1))=true
   rw[decide_eq_true h0,decide_eq_true (by omega)]
   rfl
  ·exact h.row x hx
 ·have:=YZ (List.mem_filter.mp m).1
  rw[hn]at this
  cases this
theorem YI {wd hg:Int}{xs:List V}(h:aK wd hg xs):xs.all dR=true:=List.all_eq_true.mpr fun v hv=>by
 rcases h.ok v hv with rfl |⟨i,rfl⟩<;>rfl
theorem Wg {K:PySem.W.Frag}{H:Hp}{a b:Addr}{xs ys:List V}{Q:VK}(h1:H a=some (.tup xs)) (h2:H b=some (.tup ys)) (hl:xs.length+ys.length≤1000) (q:∀t H',ah H H'→H' t=some (.tup (xs++ys))→Q (.ref t) H'):nD K (.ref a) (.ref b) H Q:=by
 cases xs with
 |nil=>exact .inl ⟨a,b,ys,rfl,rfl,ag.of h1,ag.of h2,q b H (ah.refl _) h2⟩
 |cons x xs=>
  refine .inr ⟨a,b,_,_,rfl,rfl,ag.of h1,ag.of h2,by simp,by rw[sizeLine_eq];omega,fun e=> ?_,fun _ p hp=>q p _ (ZG hp) Zc⟩
  subst e
  exact q a H (ah.refl _) (by rw[List.append_nil];exact h1)
theorem Bg {xs:List V}{i:Nat}(h:i<xs.length):bH xs none (some (i:Int))=xs.take i:=by
 unfold bH
 rw[HT.yG,HT.qx,Nat.min_eq_left (by omega)]
 simp
theorem B8 {xs:List V}{i:Nat}(h:i<xs.length):bH xs (some ((i:Int)+1)) none=xs.drop (i+1):=by
 unfold bH
 rw[show(i:Int)+1=((i+1:Nat):Int) from rfl,HT.yG,HT.qx,Nat.min_eq_left (by omega)]
 exact List.take_of_length_le (by simp)
end
section
variable {P:Program}{w:World}{K:PySem.W.Frag}{mg:Str→Option Value}{base:Heap}
abbrev tY:Stmt:=top 17
def jA:Sp:=fun vs H Q _=> ∃(l:Addr) (xs:List V) (i:Nat) (v:V),vs=[.ref l,.int i,v]∧H l=some (.tup xs)∧i<xs.length∧xs.length≤12∧∀t H',ah H H'→H' t=some (.tup (xs.set i v))→Q (.ref t) H'
theorem DX:aX ["lay", "line", "row"] ["lay", "line", "row"] (aM tY):=⟨rfl,rfl,rfl,by decide+kernel,rfl,by decide+kernel,by decide+kernel⟩
theorem E7 {f:Addr}{fd:FuncData}(F:aO K "with_point" "with_point" tY f fd):aL P w K mg base aJ 1 f fd ["lay", "line", "row"] jA:=by
 refine F.ok DX (fun vs H Q E h=> ?_) (fun ar A outer s H vs Q E hr h=> ?_)
 ·obtain⟨l,xs,i,v,rfl,_⟩:=h
  rfl
 ·obtain⟨l,xs,i,v,rfl,hl,hi,QK,q⟩:=h
  refine⟨_,Zi (Zm (Zt YL (Zt YL (Yi xb (pv 0) Yw (Yv (pv 1))) (ZF (Za (pv 2) Zb))) (Yi xb (pv 0) (Yv (Zt Y4 (pv 1) Zh)) Yw))),?_⟩
  refine⟨_,rfl,_,rfl,_,rfl,l,xs,rfl,ag.of hl,?_,fun p hp=> ?_⟩
  ·rintro⟨_,z⟩
   rw[HT.qx]at z
   omega
  have s1:=ZG (o:=.tup (bH xs none (some (i:Int)))) hp
  have e1:upd H p (.tup (bH xs none (some (i:Int)))) p=some (.tup (bH xs none (some (i:Int)))):=Zc
  generalize upd H p (HO.tup (bH xs none (some (i:Int))))=H1 at s1 e1
  rw[Bg hi]at e1
  refine⟨_,rfl,(by show 1≤sizeLine;decide),fun p2 eV=> ?_⟩
  have s2:=ZG (o:=.tup [v]) eV
  have e2:upd H1 p2 (.tup [v]) p2=some (.tup [v]):=Zc
  generalize upd H1 p2 (HO.tup [v])=H2 at s2 e2
  refine Wg (s2 _ _ e1) e2 (by rw[List.length_take];simp;omega) fun t3 H3 s3 e3=> ?_
  refine⟨_,rfl,_,rfl,_,_,rfl,rfl,_,rfl,l,xs,rfl,ag.of ((s1.trans (s2.trans s3)) _ _ hl),?_,fun p4 G6=> ?_⟩
  ·rintro⟨z,_⟩
   rw[show(i:Int)+1=((i+1:Nat):Int) from rfl,HT.qx]at z
   omega
  have s4:=ZG (o:=.tup (bH xs (some ((i:Int)+1)) none)) G6
  have e4:upd H3 p4 (.tup (bH xs (some ((i:Int)+1)) none)) p4=some (.tup (bH xs (some ((i:Int)+1)) none)):=Zc
  generalize upd H3 p4 (HO.tup (bH xs (some ((i:Int)+1)) none))=H4 at s4 e4
  rw[B8 hi]at e4
  refine Wg (s4 _ _ e3) e4 (by rw[List.length_append,List.length_take,List.length_drop];simp;omega) fun t5 H5 s5 e5=> ?_
  refine q t5 H5 (s1.trans (s2.trans (s3.trans (s4.trans s5)))) ?_
  rw[e5,List.append_assoc,List.set_eq_take_append_cons_drop,if_pos hi]
  rfl
def rB (xs:List V) (l:Nat) (i:Nat):List Int:=((List.range i).map fun(k:Nat)=> (k:Int)).filter fun r=> !aE (.int r) xs&&bX (xs.set l (.int r))
theorem Ou (xs:List V) (l i:Nat):rB xs l (i+1)=rB xs l i++(if (!aE (.int (i:Int)) xs&&bX (xs.set l (.int (i:Int))))=true then [(i:Int)] else []):=by
 unfold rB
 rw[List.range_succ,List.map_append,List.filter_append]
 cases h:(!aE (.int (i:Int)) xs&&bX (xs.set l (.int (i:Int))))<;>simp_all
abbrev uG:Stmt:=top 28
def jB:Sp:=fun vs H Q _=> ∃(b l:Addr) (i:Nat) (wd hg:Int) (xs:List V),vs=[.ref b,.ref l,.int i]∧bI H (.ref b) wd hg∧H l=some (.tup xs)∧aK wd hg xs∧wd≤7∧xs[i]? =some .ae∧∀(q:Addr) (H':Hp),ah H H'→H q=none→H' q=some (.lst ((aT hg.toNat xs i).map V.int))→Q (.ref q) H'
theorem Ed:aX ["board", "lay", "line"] ["board", "lay", "line"] (aM uG):=⟨rfl,rfl,rfl,by decide+kernel,rfl,by decide+kernel,by decide+kernel⟩
theorem Fo {f:Addr}{fd:FuncData}(F:aO K "free_rows" "free_rows" uG f fd) (G:Gs mg) (pF:Def P w K mg base 11 "is_unlike" ["board", "lay"] mW) (fT:Def P w K mg base 1 "with_point" ["lay", "line", "row"] jA):aL P w K mg base aJ 12 f fd ["board", "lay", "line"] jB:=by
 refine F.ok Ed (fun vs H Q E h=> ?_) (fun ar A outer s H vs Q E hr h=> ?_)
 ·obtain⟨b,l,i,wd,hg,xs,rfl,_⟩:=h
  rfl
 ·obtain⟨b,l,i,wd,hg,xs,rfl,bd,hl,ly,w7,hi,q⟩:=h
  refine⟨_,Zi (Zm (Yb ["row", "board", "lay", "line"] 1 [0,1,2] (ZP rfl G.range (Za (Zw Zz (pv 0) Zh (fun _ _=>rfl)) Zb)) (fun C s H fp=>pb 0)
   (fun C s H fp=>Yu (PW.pt (JZ (Zn (show aR (aI _ _ _ C s H fp) (compareOp .NotIn) (nC K true) from Z4) (pv 0) (pv 2) rfl) (Jp (Yp (Zf pF hr (Za (pv 1) (Za (Zf fT (hr.mono (by decide)) (Za (pv 2) (Za (pv 3) (Za (pv 0) Zb)))) Zb))))))))
   (fun C s H fp D=>cz rfl (pv 0)))),?_⟩
  obtain⟨b',eb,hb⟩:=Zv bd.1
  cases eb
  have aW:i<xs.length:=(List.getElem?_eq_some_iff.mp hi).1
  have Ga:xs.length≤12:=by
   have h1:=ly.len
   have h2:=bd.2.2.1
   omega
  have g1:=bd.2.2.2.1
  have g2:=bd.2.2.2.2
  refine⟨_,rfl,b,_,1,.int hg,rfl,rfl,ag.of hb,rfl,_,rfl,by omega,by omega,?_⟩
  refine YF (fun k ys σ H1=> ∃v,σ=[v,some (.ref b),some (.ref l),some (.int i)]∧ah H H1∧ys=(rB xs i k).map V.int∧ys.length≤k) ⟨_,rfl,ah.refl _,rfl,Nat.zero_le _⟩ ?_ ?_
  ·rintro k ys σ H1 hk ⟨v,rfl,s1,rfl,hlen⟩
   have es:=Ou xs i k
   rw[Int.zero_add]
   refine Zp ?_
   dsimp only[List.set]
   refine⟨_,rfl,_,rfl,l,xs,rfl,.inr (ag.of (s1 _ _ hl)),rfl,YI ly,_,rfl,?_⟩
   cases hn:aE (.int (k:Int)) xs with
   |true=>
    rw[hn]at es
    refine aq ?_
    refine aq ⟨_,rfl,s1,?_,by omega⟩
    rw[es]
    simp
   |false=>
    rw[hn]at es
    refine az ?_
    refine⟨_,rfl,_,rfl,_,rfl,_,rfl,l,xs,i,.int (k:Int),rfl,s1 _ _ hl,aW,Ga,fun t H2 s2 e2=> ?_⟩
    refine⟨.ref b,.ref t,wd,hg,_,rfl,⟨bd.same (s1.trans s2),ZB e2,Jt ly hi (by omega) (by omega) hn⟩,w7,fun H3 r s3 fi=> ⟨_,rfl,?_⟩⟩
    rw[rR fi]
    have yK:=s1.trans (s2.trans s3)
    cases hu:bX (xs.set i (.int (k:Int))) with
    |true=>
     rw[hu]at es
     refine az ⟨_,rfl,by rw[sizeLine_eq];omega,⟨_,rfl,yK,?_,by rw[List.length_append];simp at hlen ⊢;omega⟩⟩
     rw[es]
     simp
    |false=>
     rw[hu]at es
     refine aq ⟨_,rfl,yK,?_,by omega⟩
     rw[es]
     simp
  ·rintro ys σ H1 ⟨v,rfl,s1,rfl,hlen⟩ p hp
   exact q p _ (s1.trans (ZG hp)) (s1.free hp) Zc
end
section
theorem UY {α β:Type}(f:α→List β) (n:Nat):∀l:List α,(∀a∈l,(f a).length≤n)→(l.flatMap f).length≤l.length*n
 | [],_=>by simp
 |a::l,h=>by
  have h1:=h a List.mem_cons_self
  have h2:=UY f n l fun b hb=>h b (List.mem_cons_of_mem _ hb)
  rw[List.flatMap_cons,List.length_append,List.length_cons,Nat.succ_mul]
  omega
theorem Wc (hg:Nat) (xs:List V) (l:Nat):(aT hg xs l).length≤hg:=by
 unfold aT
 refine Nat.le_trans (List.length_filter_le _ _) ?_
 rw[List.length_map,List.length_range]
 exact Nat.le_refl _
end
section
variable {P:Program}{w:World}{K:PySem.W.Frag}{mg:Str→Option Value}{base:Heap}
abbrev uq:Stmt:=top 12
def tL:Sp:=fun vs H Q _=> ∃(b:Addr) (wd hg W T:Int),vs=[.ref b,.int W,.int T]∧H b=some (.tup [.int wd,.int hg])∧wd≤W∧hg≤T∧Q .ae H
theorem D9:aX ["board", "wide", "high"] ["board", "wide", "high"] (aM uq):=⟨rfl,rfl,rfl,by decide+kernel,rfl,by decide+kernel,by decide+kernel⟩
theorem Fg {f:Addr}{fd:FuncData}(F:aO K "need_at_most" "need_at_most" uq f fd):aL P w K mg base aJ 1 f fd ["board", "wide", "high"] tL:=by
 refine F.ok D9 (fun vs H Q E h=> ?_) (fun ar A outer s H vs Q E hr h=> ?_)
 ·obtain⟨b,wd,hg,W,T,rfl,_⟩:=h
  rfl
 ·obtain⟨b,wd,hg,W,T,rfl,hb,h1,h2,q⟩:=h
  refine⟨_,Zi (ZK (PW.pt (JJ (Zn UM (Zw Zz (pv 0) Zh (fun _ _=>rfl)) (pv 1) (aY _)) (Jd (Zn UM (Zw Zz (pv 0) Zh (fun _ _=>rfl)) (pv 2) (aY _))))) ZO Zr),?_⟩
  refine⟨_,rfl,b,_,0,.int wd,rfl,rfl,ag.of hb,rfl,_,rfl,_,_,rfl,rfl,_,rfl,?_⟩
  rw[decide_eq_false (by omega)]
  refine aq ?_
  refine⟨_,rfl,b,_,1,.int hg,rfl,rfl,ag.of hb,rfl,_,rfl,_,_,rfl,rfl,_,rfl,?_⟩
  rw[decide_eq_false (by omega)]
  exact aq q
end
section
def cH (H:Hp) (v:V) (xs:List V):Prop:=∃t:Addr,v=.ref t∧H t=some (.tup xs)
theorem cH.same {H H':Hp}{v:V}{xs:List V}(h:cH H v xs) (s:ah H H'):cH H' v xs:=let ⟨t,e,h1⟩:=h;⟨t,e,s _ _ h1⟩
theorem NR {H H1:Hp}{L:Addr}{o:HO}(s:ah H H1) (n:H L=none):ah H (upd H1 L o):=fun b u h=>by
 rw[Zg (Zd h n)]
 exact s b u h
theorem Jz {α β:Type}{F:α→β→Prop} :∀{a c:List α}{b d:List β},Paired F a b→Paired F c d→Paired F (a++c) (b++d)
 |_,_,_,_,.nil,h=>h
 |_,_,_,_,.cons x y,h=> .cons x (Jz y h)
theorem YG {hg:Nat}{xs:List V}{l:Nat}{r:Int} :r∈aT hg xs l↔(0≤r∧r<hg)∧aE (.int r) xs=false∧bX (xs.set l (.int r))=true:=by
 unfold aT
 rw[List.mem_filter,List.mem_map,Bool.and_eq_true,Bool.not_eq_true']
 constructor
 ·rintro⟨⟨k,hk,rfl⟩,h⟩
  rw[List.mem_range]at hk
  exact⟨by omega,h⟩
 ·rintro⟨h,h'⟩
  exact⟨⟨r.toNat,List.mem_range.mpr (by omega),by omega⟩,h'⟩
end
end U.S
namespace U.T
open PySem L2 PyProof.Rows
section
theorem lq {t u:TS}{D:Ends}{σ:L2.St}{H:Hp}(R:L2.St→Hp→Prop) (h2:∀af H',R af H'→u D af H') (h1:∀D':Ends,(∀af H',R af H'→D'.nx af H')→t D' σ H):sU t u D σ H:=h1 _ h2
theorem sQ {t:TE}{σ:L2.St}{H:Hp}{Q:VK}(R:V→Hp→Prop) (h2:∀v H',R v H'→Q v H') (h1:∀Q':VK,(∀v H',R v H'→Q' v H')→t σ H Q'):t σ H Q:=h1 Q h2
end
end U.T
namespace U.S
open PySem L2 PyProof.Rows
def qK (ys:List V):Bool:=decide (rowsOf ys).Nodup
def bQ (ys:List V):Bool:=qK ys&&bX ys
theorem ZE {ys:List V} :bQ ys=true↔(rowsOf ys).Nodup∧j6 ys:=by
 unfold bQ qK
 rw[Bool.and_eq_true,decide_eq_true_iff,Z0]
theorem JA {xs ys:List V}(h:cI xs ys) (g:bQ xs=true):bQ ys=true:=by
 obtain⟨h1,h2⟩:=ZE.mp g
 exact ZE.mpr ⟨h1.sublist (JI h),UZ h h2⟩
theorem MU {b rest:List V}{v:V} :cI (b++v::rest) (b++V.ae::rest):=by
 refine⟨by simp,fun i u hu=> ?_⟩
 by_cases h1:i<b.length
 ·rw[List.getElem?_append_left h1]at hu ⊢
  exact .inr hu
 ·rw[List.getElem?_append_right (by omega)]at hu ⊢
  cases hk:i - b.length with
  |zero=>
   rw[hk]at hu
   exact .inl (by simpa using hu.symm)
  |succ k=>
   rw[hk]at hu
   exact .inr (by simpa using hu)
theorem MV {b rest:List V} :cI (b++rest) (b++List.replicate rest.length V.ae):=by
 refine⟨by simp,fun i u hu=> ?_⟩
 by_cases h1:i<b.length
 ·rw[List.getElem?_append_left h1]at hu ⊢
  exact .inr hu
 ·rw[List.getElem?_append_right (by omega),List.getElem?_replicate]at hu
  split at hu
  ·exact .inl (by simpa using hu.symm)
  ·cases hu
theorem UX {α β:Type}{f g:α→Option β} :∀{l:List α},(∀x∈l,f x=g x)→l.filterMap f=l.filterMap g
 | [],_=>rfl
 |a::l,h=>by
  rw[List.filterMap_cons,List.filterMap_cons,h a List.mem_cons_self,UX fun x hx=>h x (List.mem_cons_of_mem _ hx)]
theorem Np (xs:List V) (n:Nat):bj (xs++List.replicate n V.ae)=bj xs:=by
 unfold bj
 rw[List.length_append,List.length_replicate,List.range_eq_range',List.range_eq_range',←List.range'_append_1 (s:=0),List.filterMap_append]
 have e2:(List.range' (0+xs.length) n).filterMap (fun l=> (rowAt (xs++List.replicate n V.ae) l).map fun r=> ((l:Int),r))=[]:=by
  rw[List.filterMap_eq_nil_iff]
  intro l hl
  rw[List.mem_range'_1]at hl
  have:rowAt (xs++List.replicate n V.ae) l=none:=by
   unfold rowAt
   rw[List.getElem?_append_right (by omega),List.getElem?_replicate]
   split<;>rfl
  rw[this]
  rfl
 have e1:(List.range' 0 xs.length).filterMap (fun l=> (rowAt (xs++List.replicate n V.ae) l).map fun r=> ((l:Int),r))=(List.range' 0 xs.length).filterMap (fun l=> (rowAt xs l).map fun r=> ((l:Int),r)):=by
  refine UX fun l hl=> ?_
  rw[List.mem_range'_1]at hl
  unfold rowAt
  rw[List.getElem?_append_left (by omega)]
 simp only[e1,e2,List.append_nil]
theorem Nz (b:List V) (n:Nat):bX (b++List.replicate n V.ae)=bX b:=by
 unfold bX
 rw[Np]
theorem Yy (a b:List V):rowsOf (a++b)=rowsOf a++rowsOf b:=by
 unfold rowsOf
 rw[List.filter_append]
theorem Uc {b rest:List V}(g:bQ (b++rest)=true):bQ b=true:=by
 obtain⟨h1,h2⟩:=ZE.mp (JA MV g)
 refine ZE.mpr ⟨?_,?_⟩
 ·rw[Yy]at h1
  exact(List.nodup_append.mp h1).1
 ·have:=(Z0 _).mpr h2
  rw[Nz]at this
  exact(Z0 _).mp this
def fF (hg:Nat):List Int:=(List.range hg).map fun(k:Nat)=> (k:Int)
def ig (hg:Nat):Option V→List Int
 |some (.int r)=> [r]
 |_=>fF hg
def cN (hg:Nat) (xs:List V):Nat→List (List V)
 |0=>if bX xs=true then [xs] else []
 |i+1=>if xs[i]? =some V.ae then (cN hg xs i).flatMap fun p=> (aT hg p i).map fun r=>p.set i (.int r) else cN hg xs i
def fZ (hg:Nat) (xs:List V) (i:Nat) (b:List V):List (List V):=((ig hg xs[i]?).filter fun r=> !aE (.int r) b&&bX (b++[.int r])).map fun r=>b++[V.int r]
def ao (hg:Nat) (xs:List V):Nat→List (List V)
 |0=> [[]]
 |i+1=> (ao hg xs i).flatMap (fZ hg xs i)
theorem ZZ (hg:Nat) (xs:List V):∀i,∀b∈ao hg xs i,b.length=i∧bQ b=true∧∃ks:List Int,b=ks.map V.int
 |0,b,h=>by
  have:b=[]:=by simpa[ao] using h
  subst this
  exact⟨rfl,rfl,[],rfl⟩
 |i+1,b,h=>by
  unfold ao at h
  obtain⟨a,ha,hm⟩:=List.mem_flatMap.mp h
  obtain⟨h1,h2,ks,rfl⟩:=ZZ hg xs i a ha
  unfold fZ at hm
  obtain⟨r,hr,rfl⟩:=List.mem_map.mp hm
  obtain⟨_,gh⟩:=List.mem_filter.mp hr
  rw[Bool.and_eq_true,Bool.not_eq_true']at gh
  refine⟨by rw[List.length_append,h1];rfl,ZE.mpr ⟨?_,(Z0 _).mp gh.2⟩,ks++[r],by simp⟩
  rw[Yy]
  refine List.nodup_append.mpr ⟨(ZE.mp h2).1,by unfold rowsOf;simp,fun x hx y hy e=> ?_⟩
  have kB:y=.int r:=by
   unfold rowsOf at hy
   simpa using (List.mem_filter.mp hy).1
  subst kB
  subst e
  have:=YZ (List.mem_filter.mp hx).1
  rw[gh.1]at this
  cases this
theorem oR {α β:Type}{f g:α→List β} :∀{l:List α},(∀x∈l,f x=g x)→l.flatMap f=l.flatMap g
 | [],_=>rfl
 |a::l,h=>by
  rw[List.flatMap_cons,List.flatMap_cons,h a List.mem_cons_self,oR fun x hx=>h x (List.mem_cons_of_mem _ hx)]
theorem Wl {α β:Type}(p:β→Bool) (f:α→List β):∀l:List α,(l.flatMap f).filter p=l.flatMap fun a=> (f a).filter p
 | []=>rfl
 |a::l=>by rw[List.flatMap_cons,List.flatMap_cons,List.filter_append,Wl p f l]
theorem Jj {α β:Type}(p:α→Bool) (f:α→List β):∀l:List α,(l.filter p).flatMap f=l.flatMap fun a=>if p a=true then f a else []
 | []=>rfl
 |a::l=>by
  rw[List.filter_cons,List.flatMap_cons]
  cases h:p a with
  |true=>rw[if_pos rfl,List.flatMap_cons,Jj p f l];simp
  |false=>rw[if_neg Bool.false_ne_true,Jj p f l];simp
theorem CI {x v:V}{t:List V} :∀{fs:List V},(fs++x::t).set fs.length v=fs++v::t
 | []=>rfl
 |a::fs=>by
  show a::(fs++x::t).set fs.length v=_
  rw[CI]
  rfl
theorem Ub {r:Int}{xs:List V}(ok:dU xs) (h:aE (.int r) xs=true):V.int r∈xs:=by
 unfold aE at h
 obtain⟨y,hy,e⟩:=List.any_eq_true.mp h
 rcases ok y hy with z |⟨j,z⟩
 ·rw[z]at e
  simp[bD]at e
 ·rw[z]at e
  have:j=r:=by simpa[bD] using e
  rw[←this,←z]
  exact hy
theorem Cj {b rest:List V}{r:Int}(ok:dU (b++V.ae::rest)) (g:bQ (b++V.ae::rest)=true):bQ (b++V.int r::rest)=(!aE (.int r) (b++V.ae::rest)&&bX (b++V.int r::rest)):=by
 have hp:(rowsOf (b++V.int r::rest)).Perm (V.int r::rowsOf (b++V.ae::rest)):=by
  rw[Yy,Yy]
  have e1:rowsOf (V.int r::rest)=V.int r::rowsOf rest:=rfl
  have e2:rowsOf (V.ae::rest)=rowsOf rest:=rfl
  rw[e1,e2]
  exact List.perm_middle
 have hn:(rowsOf (b++V.int r::rest)).Nodup↔V.int r∉rowsOf (b++V.ae::rest):=by
  rw[hp.nodup_iff,List.nodup_cons]
  exact⟨fun h=>h.1,fun h=> ⟨h,(ZE.mp g).1⟩⟩
 have hm:V.int r∈rowsOf (b++V.ae::rest)↔aE (.int r) (b++V.ae::rest)=true:=by
  unfold rowsOf
  rw[List.mem_filter]
  exact⟨fun h=>YZ h.1,fun h=> ⟨Ub ok h,by simp⟩⟩
 unfold bQ
 congr 1
 unfold qK
 cases hi:aE (.int r) (b++V.ae::rest) with
 |true=>
  rw[Bool.not_true]
  exact decide_eq_false fun h=>hn.mp h (hm.mpr hi)
 |false=>
  rw[Bool.not_false]
  exact decide_eq_true (hn.mpr fun h=>by rw[hm.mp h]at hi;cases hi)
theorem wW {wd:Int}{hg:Nat}{xs:List V}(ly:aK wd hg xs):∀i,i≤xs.length→cN hg xs i=((ao hg xs i).filter fun b=>bQ (b++xs.drop i)).map fun b=>b++xs.drop i
 |0,_=>by
  have e:bQ xs=bX xs:=by
   unfold bQ qK
   rw[decide_eq_true ly.nd,Bool.true_and]
  unfold cN ao
  simp only[List.filter_cons,List.filter_nil,List.drop_zero,List.nil_append,e]
  split<;>simp
 |i+1,hi=>by
  have ay:i<xs.length:=by omega
  have ed:xs.drop i=xs[i]::xs.drop (i+1):=List.drop_eq_getElem_cons ay
  have hx:xs[i]? =some xs[i]:=List.getElem?_eq_getElem ay
  have y7:∀v∈xs.drop (i+1),v=.ae∨∃j,v=V.int j:=fun v hv=>ly.ok v (List.mem_of_mem_drop hv)
  have ih:=wW ly i (by omega)
  generalize xs.drop (i+1)=rest at ed y7 ⊢
  have y8:∀{b:List V}{v:V},b∈ao hg xs i→(v=.ae∨∃j,v=V.int j)→dU (b++v::rest):=fun {b v} hb hv x qS=>by
   obtain⟨_,_,ks,rfl⟩:=ZZ hg xs i b hb
   rcases List.mem_append.mp qS with h |h
   ·obtain⟨k,_,rfl⟩:=List.mem_map.mp h
    exact .inr ⟨k,rfl⟩
   ·rcases List.mem_cons.mp h with rfl |h
    ·exact hv
    ·exact y7 x h
  unfold cN ao
  rw[hx,ih,ed,Wl,List.map_flatMap]
  rcases ly.ok xs[i] (List.getElem_mem ay) with hv |⟨r,hv⟩
  ·rw[hv,if_pos rfl,List.flatMap_map,Jj]
   refine oR fun b hb=> ?_
   obtain⟨lb,gb,_⟩:=ZZ hg xs i b hb
   have es:∀v:V,(b++V.ae::rest).set i v=b++v::rest:=fun v=>by rw[←lb];exact CI
   have ea:ig hg xs[i]? =fF hg:=by rw[hx,hv];rfl
   unfold fZ
   rw[ea,List.filter_map,List.map_map,List.filter_filter]
   have eb:∀v:V,b++[v]++rest=b++v::rest:=fun v=>by rw[List.append_assoc];rfl
   cases kJ:bQ (b++V.ae::rest) with
   |true=>
    rw[if_pos rfl]
    unfold aT
    simp only[es]
    have e1:((fun c:List V=>c++rest)∘fun r:Int=>b++[V.int r])=fun r=>b++V.int r::rest:=funext fun r=>eb _
    rw[e1]
    refine congrArg (List.map _) (List.filter_congr fun r _=> ?_)
    show _=(bQ (b++[V.int r]++rest)&&_)
    rw[eb,Cj (y8 hb (.inl rfl)) kJ]
    cases h1:(!aE (.int r) (b++V.ae::rest)&&bX (b++V.int r::rest)) with
    |false=>rfl
    |true=>
     have gg:bQ (b++V.int r::rest)=true:=by rw[Cj (y8 hb (.inl rfl)) kJ];exact h1
     rw[←eb]at gg
     have g1:=Uc gg
     rw[Bool.and_eq_true,Bool.not_eq_true']at h1
     have hn:aE (.int r) b=false:=by
      cases hz:aE (.int r) b with
      |false=>rfl
      |true=>
       have:aE (.int r) (b++V.ae::rest)=true:=by
        unfold aE at hz ⊢
        rw[List.any_append,hz]
        rfl
       rw[this]at h1
       cases h1.1
     rw[hn,(Z0 _).mpr (ZE.mp g1).2]
     rfl
   |false=>
    rw[if_neg Bool.false_ne_true]
    symm
    rw[List.map_eq_nil_iff,List.filter_eq_nil_iff]
    intro r _
    show ¬(bQ (b++[V.int r]++rest)&&_)=true
    rw[eb]
    cases hz:bQ (b++V.int r::rest) with
    |false=>simp
    |true=>
     have:=JA MU hz
     rw[kJ]at this
     cases this
  ·rw[hv,if_neg (by intro z;cases z)]
   have ea:ig hg xs[i]? =[r]:=by rw[hx,hv];rfl
   have eb:∀b:List V,b++[V.int r]++rest=b++V.int r::rest:=fun b=>by rw[List.append_assoc];rfl
   have key:∀l:List (List V),(∀b∈l,b∈ao hg xs i)→(l.filter fun b=>bQ (b++V.int r::rest)).map (fun b=>b++V.int r::rest)=l.flatMap fun b=> ((fZ hg xs i b).filter fun b=>bQ (b++rest)).map fun b=>b++rest:=by
    intro l hl
    induction l with
    |nil=>rfl
    |cons b l Ge=>
     rw[List.flatMap_cons,←Ge fun x hx=>hl x (List.mem_cons_of_mem _ hx),List.filter_cons]
     have hb:=hl b List.mem_cons_self
     have en:((fZ hg xs i b).filter fun b=>bQ (b++rest)).map (fun b=>b++rest)=if bQ (b++V.int r::rest)=true then [b++V.int r::rest] else []:=by
      unfold fZ
      rw[ea]
      cases kJ:bQ (b++V.int r::rest) with
      |false=>
       rw[if_neg Bool.false_ne_true]
       rw[List.map_eq_nil_iff,List.filter_eq_nil_iff]
       intro y hy
       obtain⟨r',aZ,rfl⟩:=List.mem_map.mp hy
       have:r'=r:=by simpa using (List.mem_filter.mp aZ).1
       rw[this,eb,kJ]
       simp
      |true=>
       rw[if_pos rfl]
       have gg:=kJ
       rw[←eb]at gg
       have g1:=Uc gg
       have hn:aE (.int r) b=false:=by
        cases hz:aE (.int r) b with
        |false=>rfl
        |true=>
         obtain⟨_,_,ks,rfl⟩:=ZZ hg xs i b hb
         have hm:=Ub (fun x hx=>by obtain⟨k,_,rfl⟩:=List.mem_map.mp hx;exact .inr ⟨k,rfl⟩) hz
         have nd:=(ZE.mp g1).1
         rw[Yy]at nd
         have:=(List.nodup_append.mp nd).2.2 (V.int r) (List.mem_filter.mpr ⟨hm,by simp⟩) (V.int r) (by unfold rowsOf;simp)
         exact absurd rfl this
       have hu:=(Z0 _).mpr (ZE.mp g1).2
       simp only[List.filter_cons,List.filter_nil,hn,hu,Bool.not_false,Bool.and_self,if_true,List.map_cons,List.map_nil,eb,kJ]
     rw[en]
     split<;>simp
   exact key _ fun b hb=>hb
theorem K4 {wd:Int}{hg:Nat}{xs:List V}(ly:aK wd hg xs):cN hg xs xs.length=ao hg xs xs.length:=by
 rw[wW ly xs.length (Nat.le_refl _)]
 have e:xs.drop xs.length=[]:=List.drop_length
 simp only[e,List.append_nil]
 rw[List.map_id'' (fun _=>rfl)]
 exact List.filter_eq_self.mpr fun b hb=> (ZZ hg xs _ b hb).2.1
theorem K2 {hg:Nat}(h:hg≤7) (o:Option V):(ig hg o).length≤7:=by
 unfold ig
 split
 ·simp
 ·unfold fF;simp;exact h
theorem Cc {hg:Nat}(h:hg≤7) (xs:List V):∀i,(ao hg xs i).length≤7^i
 |0=>by simp[ao]
 |i+1=>by
  have ih:=Cc h xs i
  unfold ao
  refine Nat.le_trans (UY _ 7 _ fun a _=> ?_) ?_
  ·unfold fZ
   rw[List.length_map]
   exact Nat.le_trans (List.length_filter_le _ _) (K2 h _)
  ·rw[Nat.pow_succ]
   exact Nat.mul_le_mul_right _ ih
theorem JR {hg:Nat}(h:hg≤7) (xs:List V) {i:Nat}(hi:i≤6):(ao hg xs i).length≤117649:=
 Nat.le_trans (Cc h xs i) (Nat.le_trans (Nat.pow_le_pow_right (by decide) hi) (by decide))
theorem LZ {wd:Int}{hg:Nat}{xs:List V}(ly:aK wd hg xs) (h:hg≤7) {i:Nat}(hi:i≤6) (hl:i≤xs.length):(cN hg xs i).length≤117649:=by
 rw[wW ly i hl,List.length_map]
 exact Nat.le_trans (List.length_filter_le _ _) (JR h xs hi)
theorem Uf {wd:Int}{hg:Nat}{xs:List V}(ly:aK wd hg xs):∀i,∀p∈cN hg xs i,aK wd hg p∧∀j,i≤j→p[j]? =xs[j]?
 |0,p,hp=>by
  unfold cN at hp
  split at hp
  ·rw[List.mem_singleton.mp hp]
   exact⟨ly,fun _ _=>rfl⟩
  ·cases hp
 |i+1,p,hp=>by
  unfold cN at hp
  split at hp
  ·rename_i hx
   obtain⟨a,ha,hm⟩:=List.mem_flatMap.mp hp
   obtain⟨h1,h2⟩:=Uf ly i a ha
   obtain⟨r,hr,rfl⟩:=List.mem_map.mp hm
   obtain⟨⟨r0,r1⟩,hn,_⟩:=YG.mp hr
   have hi:a[i]? =some V.ae:=by rw[h2 i (Nat.le_refl _)];exact hx
   refine⟨Jt h1 hi r0 r1 hn,fun j hj=> ?_⟩
   rw[List.getElem?_set_ne (by omega)]
   exact h2 j (by omega)
  ·obtain⟨h1,h2⟩:=Uf ly i p hp
   exact⟨h1,fun j hj=>h2 j (by omega)⟩
def kO (hg:Nat) (xs:List V) (i j:Nat):List (List V):=((cN hg xs i).take j).flatMap fun p=> (aT hg p i).map fun r=>p.set i (.int r)
theorem Ot {hg:Nat}{xs:List V}{i j:Nat}{p:List V}(e:(cN hg xs i)[j]? =some p):kO hg xs i (j+1)=kO hg xs i j++(aT hg p i).map fun r=>p.set i (.int r):=by
 unfold kO
 rw[List.take_add_one,e,List.flatMap_append]
 simp
section
variable {P:Program}{w:World}{K:PySem.W.Frag}{mg:Str→Option Value}{base:Heap}
abbrev uo:Stmt:=top 27
def p6:Sp:=fun vs H Q _=> ∃x y wd hg xs,vs=[x,y]∧dW H x y wd hg xs∧wd≤6∧hg≤7∧∀H',ah H H'→Q .ae H'
theorem D8:aX ["board", "lay"] ["board", "lay"] (aM uo):=⟨rfl,rfl,rfl,by decide+kernel,rfl,by decide+kernel,by decide+kernel⟩
theorem Ff {f:Addr}{fd:FuncData}(F:aO K "need_small" "need_small" uo f fd) (G:Gs mg) (mK:Def P w K mg base 6 "need_lay" ["board", "lay"] lG) (Pu:Def P w K mg base 1 "need_at_most" ["board", "wide", "high"] tL):aL P w K mg base aJ 7 f fd ["board", "lay"] p6:=by
 obtain⟨Qg,Ic⟩:=G.F0
 obtain⟨pP,oM⟩:=G.F1
 refine F.ok D8 (fun vs H Q E h=> ?_) (fun ar A outer s H vs Q E hr h=> ?_)
 ·obtain⟨x,y,wd,hg,xs,rfl,_⟩:=h
  rfl
 ·obtain⟨x,y,wd,hg,xs,rfl,la,w6,g7,q⟩:=h
  refine⟨_,Ze (Yh (Zf mK hr (Za (pv 0) (Za (pv 1) Zb))))
   (Zi (Yh (Zf Pu (hr.mono (by decide)) (Za (pv 0) (Za (xn (v:=.int 6) rfl Ic ⟨_,rfl⟩) (Za (xn (v:=.int 7) rfl oM ⟨_,rfl⟩) Zb)))))),?_⟩
  refine Zo ⟨_,rfl,_,rfl,x,y,wd,hg,xs,rfl,la,fun H1 s1=> ?_⟩
  dsimp only
  obtain⟨b,rfl,hb⟩:=Zv la.1.1
  exact⟨_,rfl,b,wd,hg,6,7,rfl,s1 _ _ hb,w6,g7,q H1 s1⟩
abbrev uM:Stmt:=top 29
def kc:Sp:=fun vs H Q _=> ∃(b l:Addr) (wd hg:Int) (xs:List V),vs=[.ref b,.ref l]∧bI H (.ref b) wd hg∧H l=some (.tup xs)∧aK wd hg xs∧wd≤6∧hg≤7∧∀(q:Addr) (H':Hp) (ts:List V),ah H H'→H q=none→H' q=some (.lst ts)→Paired (cH H') ts (ao hg.toNat xs xs.length)→Q (.ref q) H'
theorem qv:aX ["board", "lay", "found", "line"] ["board", "lay"] (aM uM):=⟨rfl,rfl,rfl,by decide+kernel,rfl,by decide+kernel,by decide+kernel⟩
theorem Fs {f:Addr}{fd:FuncData}(F:aO K "all_fits" "all_fits" uM f fd) (G:Gs mg) (xO:Def P w K mg base 7 "need_small" ["board", "lay"] p6) (pF:Def P w K mg base 11 "is_unlike" ["board", "lay"] mW) (fT:Def P w K mg base 1 "with_point" ["lay", "line", "row"] jA) (fU:Def P w K mg base 12 "free_rows" ["board", "lay", "line"] jB):aL P w K mg base aJ 13 f fd ["board", "lay"] kc:=by
 refine F.ok qv (fun vs H Q E h=> ?_) (fun ar A outer s H vs Q E hr h=> ?_)
 ·obtain⟨b,l,wd,hg,xs,rfl,_⟩:=h
  rfl
 ·obtain⟨b,l,wd,hg,xs,rfl,bd,hl,ly,w6,g7,q⟩:=h
  refine⟨_,Ze (Yh (Zf xO (hr.mono (by decide)) (Za (pv 0) (Za (pv 1) Zb))))
   (Ze (Zx (i:=2) qv.nd rfl (Or.inl rfl) (YU (Yp (Zf pF (hr.mono (by decide)) (Za (pv 0) (Za (pv 1) Zb)))) (ZT (Za (pv 1) Zb)) (ZT Zb)))
   (Ze (YQ PassesOwn.never rfl (ZP rfl G.range (Za (Zw Zz (pv 0) Zh (fun _ _=>rfl)) Zb)) (Zs (i:=3) qv.nd rfl (Or.inr rfl))
    (Zi (ZK (YD (Jx (Zw Zz (pv 1) (pv 3) (fun _ _=>rfl))))
     (Zi (Jq ["part", "row", "board", "line"] 2 [0,3] (i:=2) qv.nd rfl (Or.inl rfl) (Ya (pv 2)) (fun C s H fp=>pb 0) (fun C s H fp=>Z1)
      (fun C s H fp D=>CF rfl rfl rfl (show PI (aI _ _ _ C s H fp) _ _ (qR K _) from Ya (Zf fU hr (Za (pv 2) (Za (pv 0) (Za (pv 3) Zb)))))
       (show PG (aI _ _ _ C s H fp) _ (bR 1) from pb 1) Z1 (cz rfl (Zf fT (hr.mono (by decide)) (Za (pv 0) (Za (pv 3) (Za (pv 1) Zb))))) (by intro _;rfl) (by intro g' h;cases h)))) Zr)))
   (Zi (Zm (pv 2))))),?_⟩
  obtain⟨b',eb,hb⟩:=Zv bd.1
  cases eb
  obtain⟨_,w1,_,g1,_⟩:=id bd
  have eH:(hg.toNat:Int)=hg:=by omega
  have ve:aK wd (hg.toNat:Int) xs:=by rw[eH];exact ly
  have Iy:hg.toNat≤7:=by omega
  have ll:=ly.len
  have eq:=K4 ve
  refine Zo ⟨_,rfl,_,rfl,.ref b,.ref l,wd,hg,xs,rfl,⟨bd,ZB hl,ly⟩,w6,g7,fun H1 s1=> ?_⟩
  dsimp only
  have cg:=s1 _ _ hl
  refine Zo (ZD (T.sQ (t:=sV _ _ _) (fun v H'=> ∃fa ts,v=.ref fa∧ah H H'∧H fa=none∧H' fa=some (.lst ts)∧Paired (cH H') ts (cN hg.toNat xs 0)) ?_ ?_))
  case refine_2=>
   intro Q' hq
   refine⟨_,rfl,_,rfl,.ref b,.ref l,wd,hg,xs,rfl,⟨bd.same s1,ZB cg,ly⟩,by omega,fun H2 r s2 fi=> ⟨_,rfl,?_⟩⟩
   rw[rR fi]
   have dk:=s1.trans s2
   have dB:=s2 _ _ cg
   have e0:cN hg.toNat xs 0=if bX xs=true then [xs] else []:=rfl
   cases hu:bX xs with
   |true=>
    rw[hu,if_pos rfl]at e0
    refine az ⟨_,rfl,(by show 1≤sizeLine;decide),fun L hL=>hq _ _ ⟨L,_,rfl,dk.trans (ZG hL),dk.free hL,Zc,?_⟩⟩
    rw[e0]
    exact .cons ⟨l,rfl,ZG hL _ _ dB⟩ .nil
   |false=>
    rw[hu,if_neg Bool.false_ne_true]at e0
    refine aq ⟨Nat.zero_le _,fun L hL=>hq _ _ ⟨L,_,rfl,dk.trans (ZG hL),dk.free hL,Zc,?_⟩⟩
    rw[e0]
    exact .nil
  rintro v H2 ⟨IC,Dm,rfl,s2,n2,e2,bU⟩
  refine Zp ?_
  dsimp only[List.set]
  refine Zo ⟨_,rfl,b,_,_,_,rfl,rfl,ag.of (s2 _ _ hb),jn,wd,rfl,by omega,by omega,?_⟩
  refine Yl (n:=wd.toNat) (fun i σ H'=> ∃fa ts v,σ=[some (.ref b),some (.ref l),some (.ref fa),v]∧ah H H'∧H fa=none∧H' fa=some (.lst ts)∧Paired (cH H') ts (cN hg.toNat xs i)) ⟨IC,Dm,_,rfl,s2,n2,e2,bU⟩ ?_ ?_
  ·rintro i σ H3 hi ⟨fa,ts,v,rfl,s3,uZ,oS,bw⟩
   rw[Int.zero_add]
   refine Zp ?_
   dsimp only[List.set]
   have mi:i<xs.length:=by omega
   obtain⟨v,hv⟩:∃v,xs[i]? =some v:=⟨_,List.getElem?_eq_getElem mi⟩
   have fu:=LZ ve Iy (i:=i) (by omega) (by omega)
   have gN:=Paired.length bw
   have es:cN hg.toNat xs (i+1)=if xs[i]? =some V.ae then (cN hg.toNat xs i).flatMap fun p=> (aT hg.toNat p i).map fun r=>p.set i (.int r) else cN hg.toNat xs i:=rfl
   rw[hv]at es
   refine⟨_,rfl,_,rfl,l,xs,(i:Int),v,rfl,rfl,ag.of (s3 _ _ hl),ZL hv,_,rfl,?_⟩
   rcases ly.ok v (List.mem_of_getElem? hv) with rfl |⟨r,rfl⟩
   ·rw[if_pos rfl]at es
    refine az ⟨_,rfl,fa,rfl,⟨ts,aj.of oS⟩,?_⟩
    refine Z5 (xs:=ts) (fun j ys σ H4=> ∃v0 v1,σ=[v0,v1,some (.ref b),some (.int (i:Int))]∧ah H3 H4∧Paired (cH H4) ys (kO hg.toNat xs i j)∧ys.length≤j*7) ⟨_,_,rfl,ah.refl _,.nil,Nat.zero_le _⟩ (fun j ys σ H4 _ ⟨_,_,_,s4,_⟩=>aj.of (s4 _ _ oS)) ?_ ?_
    ·rintro j v ys σ H4 kD ⟨v0,v1,rfl,s4,lN,gn⟩
     obtain⟨p,hp,t,rfl,ht⟩:=Paired.at bw kD
     have hj:j<ts.length:=(List.getElem?_eq_some_iff.mp kD).1
     obtain⟨vc,tail⟩:=Uf ve i p (List.mem_of_getElem? hp)
     have lp:=vc.len
     rw[eH]at vc
     have hx:p[i]? =some V.ae:=by rw[tail i (Nat.le_refl _)];exact hv
     have iG:=s4 _ _ ht
     refine Zp ?_
     dsimp only[List.set]
     try unfold pQ
     refine az ?_
     refine⟨_,rfl,_,rfl,_,rfl,b,t,i,wd,hg,p,rfl,bd.same (s3.trans s4),iG,vc,by omega,hx,fun fb H5 s5 nf ef=> ?_⟩
     have fl:=Wc hg.toNat p i
     have gr:=Ot hp
     generalize aT hg.toNat p i=fr at ef fl gr
     refine⟨fb,rfl,⟨_,aj.of ef⟩,?_⟩
     refine Z5 (xs:=fr.map V.int) (fun k zs σ H6=> ∃v1,σ=[some (.ref t),v1,some (.ref b),some (.int (i:Int))]∧ah H5 H6∧Paired (cH H6) zs (kO hg.toNat xs i j++(fr.take k).map fun r=>p.set i (.int r))∧zs.length≤j*7+k) ⟨_,rfl,ah.refl _,by simpa using Paired.ba lN fun v q' hq=>cH.same hq s5,gn⟩ (fun k zs σ H6 _ ⟨_,_,s6,_⟩=>aj.of (s6 _ _ ef)) ?_ ?_
     ·rintro k u zs σ H6 hu ⟨v1,rfl,s6,nE,g9⟩
      rw[List.getElem?_map]at hu
      obtain⟨r,aZ,rfl⟩:=Option.map_eq_some_iff.mp hu
      have hk:k<fr.length:=(List.getElem?_eq_some_iff.mp aZ).1
      refine Zp ?_
      dsimp only[List.set]
      try unfold pQ
      refine az ?_
      refine⟨_,rfl,_,rfl,_,rfl,t,p,i,.int r,rfl,(s5.trans s6) _ _ iG,by omega,by omega,fun t7 H7 s7 e7=> ⟨by rw[sizeLine_eq];omega,_,rfl,s6.trans s7,?_,by rw[List.length_append];simp;omega⟩⟩
      rw[List.take_add_one,aZ,List.map_append,←List.append_assoc]
      exact Paired.snoc (Paired.ba nE fun v q' hq=>cH.same hq s7) ⟨t7,rfl,e7⟩
     ·rintro zs σ H6 ⟨v1,rfl,s6,nE,g9⟩
      rw[List.length_map]at nE g9
      rw[List.take_length]at nE
      refine⟨_,_,rfl,s4.trans (s5.trans s6),?_,by omega⟩
      rw[gr]
      exact nE
    ·rintro ys σ H4 ⟨v0,v1,rfl,s4,lN,gn⟩ p hp
     dsimp only[List.set]
     have s5:=ZG (o:=.lst ys) hp
     refine⟨p,ys,_,rfl,s3.trans (s4.trans s5),s3.free (s4.free hp),Zc,?_⟩
     have e:kO hg.toNat xs i ts.length=cN hg.toNat xs (i+1):=by
      unfold kO
      rw[gN,List.take_length,es]
     rw[←e]
     exact Paired.ba lN fun v q' hq=>cH.same hq s5
   ·rw[if_neg (by intro z;cases z)]at es
    refine aq (ZJ ⟨fa,ts,_,rfl,s3,uZ,oS,?_⟩)
    rw[es]
    exact bw
  ·rintro σ H3 ⟨fa,ts,v,rfl,s3,uZ,oS,bw⟩
   have e:cN hg.toNat xs wd.toNat=ao hg.toNat xs xs.length:=by
    rw[show wd.toNat=xs.length by omega]
    exact eq
   rw[e]at bw
   exact⟨_,rfl,q fa H3 ts s3 uZ oS bw⟩
end
end U.S
namespace U.S
open PySem L2 PyProof.Rows PyProof.Rows.de
structure Exc (K:PySem.W.Frag) (mg:Str→Option Value) (n:Str) (c:Addr):Prop where
 m:mg n=some (.ref c)
 x:PySem.W.excIn K c QO "ValueError.__new__" =true
def intOf:V→Int
 | .int i=>i
 |_=>0
def intsOf (b:List V):List Int:=b.map intOf
theorem Jh (ks:List Int):intsOf (ks.map V.int)=ks:=by
 unfold intsOf
 rw[List.map_map]
 exact List.map_id'' (fun _=>rfl) _
theorem BG:∀{u v:List Int}(r s:Int),u.length=v.length→ax u v=true→ax (u++[r]) (v++[s])=true
 | [],[],_,_,_,h=>by cases h
 | [],_::_,_,_,h,_=>by cases h
 |_::_,[],_,_,h,_=>by cases h
 |a::u,b::v,r,s,hl,h=>by
  rw[List.cons_append,List.cons_append]
  unfold ax at h ⊢
  by_cases e:a=b
  ·rw[if_pos e]at h ⊢
   exact BG r s (by simpa using hl) h
  ·rw[if_neg e]at h ⊢
   exact h
theorem CP:∀(u:List Int) {r s:Int},r<s→ax (u++[r]) (u++[s])=true
 | [],r,s,h=>by
  show ax [r] [s]=true
  unfold ax
  rw[if_neg (by omega)]
  exact decide_eq_true h
 |a::u,r,s,h=>by
  rw[List.cons_append,List.cons_append]
  unfold ax
  rw[if_pos rfl]
  exact CP u h
theorem Mw (hg:Nat) (o:Option V):(ig hg o).Pairwise (· < ·):=by
 unfold ig
 split
 ·exact List.pairwise_singleton _ _
 ·unfold fF
  rw[List.pairwise_map]
  refine List.Pairwise.imp ?_ (List.pairwise_lt_range (n:=hg))
  intro a b h
  omega
theorem ZW (hg:Nat) (xs:List V):∀i,(ao hg xs i).Pairwise fun a b=>ax (intsOf a) (intsOf b)=true
 |0=>by unfold ao;exact List.pairwise_singleton _ _
 |i+1=>by
  have ih:=ZW hg xs i
  unfold ao
  rw[List.pairwise_flatMap]
  have ap:∀(b:List V) (r:Int),intsOf (b++[V.int r])=intsOf b++[r]:=fun b r=>by
   unfold intsOf
   rw[List.map_append]
   rfl
  refine⟨fun b hb=> ?_,?_⟩
  ·unfold fZ
   rw[List.pairwise_map]
   refine List.Pairwise.imp ?_ ((Mw hg _).filter _)
   intro r s h
   rw[ap,ap]
   exact CP _ h
  ·refine List.Pairwise.imp_of_mem ?_ ih
   intro a b ha hb h x hx y hy
   unfold fZ at hx hy
   obtain⟨r,_,rfl⟩:=List.mem_map.mp hx
   obtain⟨s,_,rfl⟩:=List.mem_map.mp hy
   rw[ap,ap]
   refine BG r s ?_ h
   unfold intsOf
   rw[List.length_map,List.length_map,(ZZ hg xs i a ha).1,(ZZ hg xs i b hb).1]
theorem Jy {α β γ:Type}{R:α→β→Prop}{R':α→γ→Prop}{f:β→γ} :∀{xs:List α}{ys:List β},Paired R xs ys→(∀x y,y∈ys→R x y→R' x (f y))→Paired R' xs (ys.map f)
 |_,_,.nil,_=> .nil
 |_,_,.cons h t,k=> .cons (k _ _ List.mem_cons_self h) (Jy t fun x y hy=>k x y (List.mem_cons_of_mem _ hy))
theorem KW {H:Hp}{v:V}{ks:List Int}(h:cH H v (ks.map V.int)):bg H v ks:=h
section
variable {P:Program}{w:World}{K:PySem.W.Frag}{mg:Str→Option Value}{base:Heap}{cB cL cM:Addr}
abbrev uH:Stmt:=top 30
def tQ:Sp:=fun vs H Q _=> ∃(b l:Addr) (wd hg:Int) (xs:List V),vs=[.ref b,.ref l]∧bI H (.ref b) wd hg∧H l=some (.tup xs)∧aK wd hg xs∧wd≤6∧hg≤7∧∀(H':Hp),ah H H'→Q (.int (ao hg.toNat xs xs.length).length) H'
theorem Ee:aX ["board", "lay"] ["board", "lay"] (aM uH):=⟨rfl,rfl,rfl,by decide+kernel,rfl,by decide+kernel,by decide+kernel⟩
theorem Fp {f:Addr}{fd:FuncData}(F:aO K "fits_many" "fits_many" uH f fd) (G:Gs mg) (ip:Def P w K mg base 13 "all_fits" ["board", "lay"] kc):aL P w K mg base aJ 14 f fd ["board", "lay"] tQ:=by
 refine F.ok Ee (fun vs H Q E h=> ?_) (fun ar A outer s H vs Q E hr h=> ?_)
 ·obtain⟨b,l,wd,hg,xs,rfl,_⟩:=h
  rfl
 ·obtain⟨b,l,wd,hg,xs,rfl,bd,hl,ly,w6,g7,q⟩:=h
  refine⟨_,Zi (Zm (Zq Zy rfl G.len boot_len (Za (Zf ip hr (Za (pv 0) (Za (pv 1) Zb))) Zb))),?_⟩
  refine⟨_,rfl,_,rfl,b,l,wd,hg,xs,rfl,bd,hl,ly,w6,g7,fun fa H1 ts s1 nf ef pr=> ⟨fa,ts,rfl,.inl (aj.of ef),?_⟩⟩
  rw[Paired.length pr]
  exact q H1 s1
abbrev uI:Stmt:=top 31
def tR:Sp:=fun vs H Q _=> ∃(b l:Addr) (wd hg:Int) (xs:List V),vs=[.ref b,.ref l]∧bI H (.ref b) wd hg∧H l=some (.tup xs)∧aK wd hg xs∧wd≤6∧hg≤7∧∀(v:V) (H':Hp),ah H H'→((ao hg.toNat xs xs.length=[]∧v=.ae)∨∃k,(ao hg.toNat xs xs.length)[0]? =some k∧cH H' v k)→Q v H'
theorem Ef:aX ["board", "lay"] ["board", "lay"] (aM uI):=⟨rfl,rfl,rfl,by decide+kernel,rfl,by decide+kernel,by decide+kernel⟩
theorem Fq {f:Addr}{fd:FuncData}(F:aO K "first_fit" "first_fit" uI f fd) (G:Gs mg) (ip:Def P w K mg base 13 "all_fits" ["board", "lay"] kc):aL P w K mg base aJ 14 f fd ["board", "lay"] tR:=by
 refine F.ok Ef (fun vs H Q E h=> ?_) (fun ar A outer s H vs Q E hr h=> ?_)
 ·obtain⟨b,l,wd,hg,xs,rfl,_⟩:=h
  rfl
 ·obtain⟨b,l,wd,hg,xs,rfl,bd,hl,ly,w6,g7,q⟩:=h
  refine⟨_,Zi (Zm (ME rfl (UU hr) rfl G.min (Zf ip hr (Za (pv 0) (Za (pv 1) Zb))))),?_⟩
  refine⟨_,rfl,_,rfl,b,l,wd,hg,xs,rfl,bd,hl,ly,w6,g7,fun fa H1 ts s1 nf ef pr=> ?_⟩
  have ri:=ZW hg.toNat xs xs.length
  have ok:=ZZ hg.toNat xs xs.length
  generalize ao hg.toNat xs xs.length=FQ at pr ri ok q
  refine⟨fa,ts,FQ.map intsOf,rfl,aj.of ef,Jy pr fun x y hy h=> ?_,fun e=> ?_,fun v k hv hk ht hle=> ?_⟩
  ·obtain⟨_,_,ks,rfl⟩:=ok y hy
   rw[Jh]
   exact h
  ·refine q _ _ s1 (.inl ⟨?_,rfl⟩)
   have:=Paired.length pr
   rw[e]at this
   exact List.length_eq_zero_iff.mp this.symm
  ·obtain⟨y,hy,rfl⟩:=List.mem_map.mp hk
   refine q _ _ s1 (.inr ⟨y,?_,?_⟩)
   ·cases FQ with
    |nil=>cases hy
    |cons a l=>
     rcases List.mem_cons.mp hy with rfl |hy
     ·rfl
     ·have h1:=(List.pairwise_cons.mp ri).1 y hy
      have h2:=hle (intsOf a) (List.mem_map_of_mem List.mem_cons_self)
      rw[h1]at h2
      cases h2
   ·obtain⟨_,_,ks,rfl⟩:=ok y hy
    rw[Jh]at ht
    exact ht
end
end U.S
namespace U.S
open PySem L2 PyProof.Rows
theorem L6 {wd hg:Int}{xs:List V}(h:nN wd hg (some xs)=true):aK wd hg xs:=by
 have h':(decide ((xs.length:Int)=wd)&&((rowsOf xs).all fun r=>bA r 0 (hg - 1))&&decide (rowsOf xs).Nodup)=true:=h
 simp only[Bool.and_eq_true,decide_eq_true_eq,List.all_eq_true]at h'
 exact⟨h'.1.1,h'.1.2,h'.2⟩
theorem Ml {hg:Int}(h3:2<hg) (h7:hg≤7):aK 6 hg [V.int 0,V.int (2%hg),V.ae,V.ae,V.ae,V.ae]:=by
 have c:hg=3∨hg=4∨hg=5∨hg=6∨hg=7:=by omega
 refine L6 ?_
 rcases c with rfl |rfl |rfl |rfl |rfl<;>decide
theorem Cb {xs ys:List V}{j:Nat}{x v:V}(h:cI (xs.take j) ys) (hx:xs[j]? =some x) (hv:v=.ae∨v=x):cI (xs.take (j+1)) (ys++[v]):=by
 have hj:j<xs.length:=(List.getElem?_eq_some_iff.mp hx).1
 have hl:ys.length=j:=by rw[h.1,List.length_take];omega
 have et:xs.take (j+1)=xs.take j++[x]:=by rw[List.take_add_one,hx];rfl
 rw[et]
 refine⟨by rw[List.length_append,List.length_append,h.1];rfl,fun i u hu=> ?_⟩
 by_cases hi:i<ys.length
 ·rw[List.getElem?_append_left hi]at hu
  rcases h.2 i u hu with z |z
  ·exact .inl z
  ·exact .inr (by rw[List.getElem?_append_left (by rw[←h.1];exact hi)];exact z)
 ·have aW:i=ys.length:=by
   have:=(List.getElem?_eq_some_iff.mp hu).1
   rw[List.length_append]at this
   simp at this
   omega
  subst aW
  rw[List.getElem?_append_right (Nat.le_refl _),Nat.sub_self]at hu
  have eu:u=v:=by simpa using hu.symm
  rw[eu]
  rcases hv with z |z
  ·exact .inl z
  ·refine .inr ?_
   rw[h.1,List.getElem?_append_right (Nat.le_refl _),Nat.sub_self,z]
   rfl
section
variable {P:Program}{w:World}{K:PySem.W.Frag}{mg:Str→Option Value}{base:Heap}
abbrev ud:Stmt:=top 50
def tE:Sp:=fun vs H Q _=> ∃p:Addr,vs=[.ref p]∧bM H p∧∀(t b l:Addr) (wd hg:Int) (xs:List V) (H':Hp),aN p H H'→bM H' p→H' t=some (.tup [.ref b,.ref l])→bI H' (.ref b) wd hg→H' l=some (.tup xs)→aK wd hg xs→wd≤6→hg≤7→Q (.ref t) H'
abbrev FK:List Str:=["_law_state_here", "_law_way", "_law_tall", "_law_hide", "_law_wide", "_law_high", "_law_board", "_law_lay_here"]
theorem iw:aX FK ["_law_state_here"] (aM ud):=⟨rfl,rfl,rfl,by decide+kernel,rfl,by decide+kernel,by decide+kernel⟩
structure iR (p b:Addr) (wd hg:Int) (H H':Hp):Prop where
 x:aN p H H'
 st:bM H' p
 hb:H' b=some (.tup [.int wd,.int hg])
 hn:b≠p
theorem iR.sx {p b:Addr}{wd hg:Int}{H H1 H2:Hp}(m:iR p b wd hg H H1) (s:aN p H1 H2) (st:bM H2 p):iR p b wd hg H H2:=⟨m.x.trans s,st,s _ _ m.hb m.hn,m.hn⟩
theorem iR.same {p b:Addr}{wd hg:Int}{H H1 H2:Hp}(m:iR p b wd hg H H1) (s:ah H1 H2):iR p b wd hg H H2:=m.sx s.x (m.st.same s)
theorem Fb {f:Addr}{fd:FuncData}(F:aO K "_law_small" "_law_small" ud f fd) (G:Gs mg) (j8:Def P w K mg base 1 "_law_take" ["_law_state_here", "_law_many"] lD) (Px:Def P w K mg base 2 "_law_lay" ["_law_state_here", "_law_board"] (tS K)) (Pz:Def P w K mg base 3 "_law_grown" ["_law_state_here", "_law_board"] (tP K)):aL P w K mg base aJ 4 f fd ["_law_state_here"] tE:=by
 refine F.ok iw (fun vs H Q E h=> ?_) (fun ar A outer s H vs Q E hr h=> ?_)
 ·obtain⟨p,rfl,_⟩:=h
  rfl
 ·obtain⟨p,rfl,st,q⟩:=h
  have cW:=hr.mono (show 1≤3 by decide)
  refine⟨_,Ze (Je (ZF (Za (Zf j8 cW (Za (pv 0) (Za Zh Zb))) (Za (Zf j8 cW (Za (pv 0) (Za Zh Zb))) (Za (Zf j8 cW (Za (pv 0) (Za Zh Zb))) Zb)))) (Yd rfl (Zk (Zs (i:=1) iw.nd rfl (Or.inl rfl)) (Zk (Zs (i:=2) iw.nd rfl (Or.inl rfl)) (Zk (Zs (i:=3) iw.nd rfl (Or.inr rfl)) ZU)))))
   (Ze (Zx (i:=4) iw.nd rfl (Or.inl rfl) (Zt Y4 Zh (Zf j8 cW (Za (pv 0) (Za Zh Zb)))))
   (Ze (Zx (i:=5) iw.nd rfl (Or.inl rfl) (YU (Zn UM (pv 1) Zh (aY _)) (Zq (U7 rfl) rfl G.min boot_min (Za Zh (Za (Zt Y4 (pv 4) (pv 2)) Zb))) (Zt Y4 Zh (Zf j8 cW (Za (pv 0) (Za Zh Zb))))))
   (Ze (Zx (i:=6) iw.nd rfl (Or.inl rfl) (ZF (Za (pv 4) (Za (pv 5) Zb))))
   (Ze (ZK (Zn UN (pv 1) Zh (aY _)) (Zi (Zx (i:=7) iw.nd rfl (Or.inl rfl) (Zf Px (hr.mono (by decide)) (Za (pv 0) (Za (pv 6) Zb)))))
    (Zi (Zx (i:=7) iw.nd rfl (Or.inl rfl) (Z3 ZX rfl G.tuple boot_tuple (Za (Yb ["_law_row", "_law_state_here", "_law_hide"] 1 [0,3] (WI (Zf Pz hr (Za (pv 0) (Za (pv 6) Zb)))) (fun C s H fp=>pb 0) (fun C s H fp=>Z1)
     (fun C s H fp D=>cz rfl (YU (Zn wR (Zf j8 cW (Za (pv 1) (Za Zh Zb))) (pv 2) (aY _)) (pv 0) ZY))) Zb)))))
   (Ze (ZK (PW.pt (JZ (Zn UN (pv 4) Zh (aY _)) (Jp (Zn UM (WL PySem.F.plainAttrs_tuple PySem.F.slot_tuple_count PySem.F.type_tuple_count Nf (pv 7) (Za ZY Zb)) Zh (aY _)))))
    (Zi (Zx (i:=7) iw.nd rfl (Or.inl rfl) (YU (Zn UM (pv 5) Zh (aY _)) (Zt YL (ZF (Za Zh (Za (Zt Y3 Zh (pv 5)) Zb))) (Zt MC (ZF (Za ZY Zb)) Zh)) (pv 7)))) Zr)
   (Zi (Zm (ZF (Za (pv 6) (Za (pv 7) Zb)))))))))),?_⟩
  refine Zo (ZD ⟨_,rfl,p,4,rfl,st,by decide,by decide,fun way o1 w0 w4 aw=> ⟨_,rfl,p,3,rfl,aw,by decide,by decide,fun lj o2 t0 t3 au=> ⟨_,rfl,p,4,rfl,au,by decide,by decide,fun hide o3 h0 h4 bt=> ⟨(by show 3≤sizeLine;decide),fun tt qU=> ?_⟩⟩⟩⟩)
  have x3:aN p H (upd (upd (upd H p o1) p o2) p o3):=aN.upd.trans (aN.upd.trans aN.upd)
  generalize upd (upd (upd H p o1) p o2) p o3=H3 at bt x3 qU
  have s4:=ZG (o:=.tup [.int way,.int lj,.int hide]) qU
  have e4:upd H3 tt (.tup [.int way,.int lj,.int hide]) tt=some (.tup [.int way,.int lj,.int hide]):=Zc
  generalize upd H3 tt (HO.tup [.int way,.int lj,.int hide])=H4 at s4 e4
  refine⟨tt,_,rfl,ag.of e4,rfl,_,_,rfl,_,_,rfl,_,_,rfl,rfl,?_⟩
  dsimp only[List.set]
  have cT:=bt.same s4
  have x4:=x3.trans s4.x
  clear aw au
  refine Zo (ZD ⟨_,rfl,p,6,rfl,cT,by decide,by decide,fun r5 o5 Qn Qm cP=> ⟨_,_,rfl,rfl,Zp ?_⟩⟩)
  dsimp only[List.set]
  have x5:aN p H (upd H4 p o5):=x4.trans aN.upd
  generalize upd H4 p o5=H5 at cP x5
  generalize Gv:1+r5=wd
  refine Zo (ZD (T.sQ (t:=sV _ _ _) (fun v H'=> ∃hg:Int,v=.int hg∧1≤hg∧hg≤7∧aN p H H'∧bM H' p) ?_ ?_))
  case refine_2=>
   intro Q' hq
   refine⟨_,rfl,_,_,rfl,rfl,_,rfl,?_⟩
   by_cases hw:way>0
   ·rw[decide_eq_true hw]
    refine az ⟨_,rfl,_,rfl,_,_,rfl,rfl,_,_,rfl,hq _ _ ⟨_,rfl,?_,?_,x5,cP⟩⟩<;>split<;>omega
   ·rw[decide_eq_false hw]
    exact aq ⟨_,rfl,p,7,rfl,cP,by decide,by decide,fun r6 o6 Ql Qk tm=> ⟨_,_,rfl,rfl,hq _ _ ⟨_,rfl,by omega,by omega,x5.trans aN.upd,tm⟩⟩⟩
  rintro v H6 ⟨hg,rfl,g1,g7,x6,tm⟩
  refine Zp ?_
  dsimp only[List.set]
  refine Zo (ZD ⟨_,rfl,_,rfl,(by show 2≤sizeLine;decide),fun b hb=>Zp ?_⟩)
  dsimp only[List.set]
  have s7:=ZG (o:=.tup [.int wd,.int hg]) hb
  have e7:upd H6 b (.tup [.int wd,.int hg]) b=some (.tup [.int wd,.int hg]):=Zc
  generalize upd H6 b (HO.tup [.int wd,.int hg])=H7 at s7 e7
  have pW:=tm.same s7
  have FH:b≠p:=by
   obtain⟨u,v,e,_⟩:=id pW
   exact Ys e7 e (by intro z;cases z)
  have M7:iR p b wd hg H H7:=⟨x6.trans s7.x,pW,e7,FH⟩
  have wD:∀{H':Hp},iR p b wd hg H H'→bI H' (.ref b) wd hg:=fun m=> ⟨ZB m.hb,by omega,by omega,by omega,by omega⟩
  refine T.lq (fun af H'=> ∃(l:Addr) (xs:List V),af=[some (.ref p),some (.int way),some (.int lj),some (.int hide),some (.int wd),some (.int hg),some (.ref b),some (.ref l)]∧iR p b wd hg H H'∧H' l=some (.tup xs)∧aK wd hg xs) ?_ ?_
  case refine_2=>
   intro D' hD
   refine⟨_,rfl,rfl,_,rfl,?_⟩
   cases hw:decide (V.int way=V.int 1) with
   |true=>
    exact az (ZD ⟨_,rfl,_,rfl,p,b,wd,hg,rfl,pW,wD M7,fun l H8 xs x8 pV el _ ly=>Zp (hD _ _ ⟨l,xs,rfl,M7.sx x8 pV,el,ly⟩)⟩)
   |false=>
    refine aq (ZD ⟨_,rfl,_,rfl,p,b,wd,hg,rfl,pW,wD M7,fun l H8 xs x8 pV el FA ly _=> ?_⟩)
    have M8:=M7.sx x8 pV
    have lx:=ly.len
    refine⟨l,rfl,⟨xs,ag.of el⟩,?_⟩
    refine Jf (xs:=xs) (fun j ys af H9=> ∃v0,af=[v0,some (.ref p),some (.int hide)]∧aN p H8 H9∧bM H9 p∧cI (xs.take j) ys) ⟨_,rfl,aN.refl _ _,pV,⟨rfl,fun i u hu=>by simp at hu⟩⟩ (fun j ys af H9 _ ⟨_,_,x9,_⟩=>ag.of (x9 _ _ el FA)) ?_ ?_
    ·rintro j y ys af H9 hy ⟨v0,rfl,x9,lu,fu⟩
     have hj:=(List.getElem?_eq_some_iff.mp hy).1
     have hl:ys.length=j:=by rw[fu.1,List.length_take];omega
     refine Zp ?_
     dsimp only[List.set]
     try unfold pQ
     refine az ?_
     refine⟨_,rfl,p,4,rfl,lu,by decide,by decide,fun ET Fv _ _ lC=> ⟨_,rfl,_,_,rfl,rfl,_,rfl,?_⟩⟩
     have ya:aN p H8 (upd H9 p Fv):=x9.trans aN.upd
     cases decide (ET≥hide) with
     |true=>exact az ⟨_,rfl,by rw[sizeLine_eq];omega,_,rfl,ya,lC,Cb fu hy (.inr rfl)⟩
     |false=>exact aq ⟨by rw[sizeLine_eq];omega,_,rfl,ya,lC,Cb fu hy (.inl rfl)⟩
    ·rintro ys af H9 ⟨v0,rfl,x9,lu,fu⟩ L hL
     rw[List.take_length]at fu
     refine⟨L,_,rfl,.inl ⟨aj.of Zc,fun t ht=>Zp (hD _ _ ⟨t,ys,rfl,?_,Zc,U3 ly fu⟩)⟩⟩
     exact((M8.sx x9 lu).same (ZG hL)).same (ZG ht)
  rintro af H8 ⟨l,xs,rfl,M8,el,ly⟩
  have lx:=ly.len
  refine T.lq (fun af H'=> ∃(l:Addr) (xs:List V),af=[some (.ref p),some (.int way),some (.int lj),some (.int hide),some (.int wd),some (.int hg),some (.ref b),some (.ref l)]∧iR p b wd hg H H'∧H' l=some (.tup xs)∧aK wd hg xs) ?_ ?_
  case refine_2=>
   intro D' hD
   refine⟨_,rfl,rfl,_,rfl,?_⟩
   by_cases h6:wd=6
   ·subst h6
    have z:decide (V.int 6=V.int 6)=true:=decide_eq_true rfl
    rw[z]
    refine az ⟨_,rfl,.inr (.inl ⟨rfl,.inr ⟨_,el⟩⟩),l,xs,.ae,rfl,rfl,ag.of el,rfl,YI ly,_,_,rfl,rfl,_,rfl,?_⟩
    cases decide ((((xs.countP fun y=>bD y V.ae:Nat):Int))>4) with
    |false=>exact aq (ZJ (hD _ _ ⟨l,xs,rfl,M8,el,ly⟩))
    |true=>
     refine az (ZD ?_)
     refine⟨_,rfl,_,_,rfl,rfl,_,rfl,?_⟩
     by_cases h2:hg>2
     ·rw[decide_eq_true h2]
      refine az ⟨_,rfl,_,_,rfl,rfl,by omega,(by show 2≤sizeLine;decide),fun t1 vF=> ?_⟩
      have s9:=ZG (o:=.tup [.int 0,.int (2%hg)]) vF
      have e9:upd H8 t1 (.tup [.int 0,.int (2%hg)]) t1=some (.tup [.int 0,.int (2%hg)]):=Zc
      generalize upd H8 t1 (HO.tup [.int 0,.int (2%hg)])=H9 at s9 e9
      refine⟨(by show 1≤sizeLine;decide),fun t2 qW=> ⟨t2,4,[.ae],rfl,rfl,Zc,by simp,by decide,by decide,by decide,fun c r8 gH e10=> ?_⟩⟩
      have Et:=s9.trans ((ZG qW).trans gH)
      refine Wg (((ZG qW).trans gH) _ _ e9) e10 (by simp) fun t3 Pk Ew e11=>Zp (hD _ _ ⟨t3,_,rfl,M8.same (Et.trans Ew),e11,?_⟩)
      exact Ml h2 g7
     ·rw[decide_eq_false h2]
      exact aq ⟨_,rfl,Zp (hD _ _ ⟨l,xs,rfl,M8,el,ly⟩)⟩
   ·have z:decide (V.int wd=V.int 6)=false:=decide_eq_false (fun e=>h6 (by cases e;rfl))
    rw[z]
    exact aq (aq (ZJ (hD _ _ ⟨l,xs,rfl,M8,el,ly⟩)))
  rintro af H9 ⟨l,xs,rfl,M9,el,ly⟩
  refine⟨_,rfl,_,rfl,(by show 2≤sizeLine;decide),fun t ht=> ?_⟩
  have gH:=ZG (o:=.tup [V.ref b,V.ref l]) ht
  have xE:=M9.same gH
  exact q t b l wd hg xs _ xE.x xE.st Zc (wD xE) (gH _ _ el) ly (by omega) g7
end
def dF (xs:List V) (i:Int):Bool:=decide (0≤i)&&decide (i≤(xs.length:Int) - 1)&&decide (xs[i.toNat]? =some .ae)
theorem Wv {xs:List V}{i:Int}(h:dF xs i=true):0≤i∧xs[i.toNat]? =some .ae:=by
 unfold dF at h
 simp only[Bool.and_eq_true,decide_eq_true_eq]at h
 exact⟨h.1.1,h.2⟩
section
variable {P:Program}{w:World}{K:PySem.W.Frag}{mg:Str→Option Value}{base:Heap}
abbrev uB:Stmt:=top 15
def qk (K:PySem.W.Frag):Sp:=fun vs H Q _=> ∃(l:Addr) (x:V) (xs:List V),vs=[.ref l,x]∧H l=some (.tup xs)∧j7 K H x∧Q (.bl (bA x 0 ((xs.length:Int) - 1))) H
theorem Ea:aX ["lay", "thing"] ["lay", "thing"] (aM uB):=⟨rfl,rfl,rfl,by decide+kernel,rfl,by decide+kernel,by decide+kernel⟩
theorem Fj {f:Addr}{fd:FuncData}(F:aO K "is_line" "is_line" uB f fd) (G:Gs mg) (D1:Def P w K mg base 2 "is_whole_within" ["thing", "least", "most"] (mV K)):aL P w K mg base aJ 3 f fd ["lay", "thing"] (qk K):=by
 refine F.ok Ea (fun vs H Q E h=> ?_) (fun ar A outer s H vs Q E hr h=> ?_)
 ·obtain⟨l,x,xs,rfl,_⟩:=h
  rfl
 ·obtain⟨l,x,xs,rfl,hl,t,q⟩:=h
  refine⟨_,Zi (Zm (Zf D1 hr (Za (pv 1) (Za Zh (Za (Zt YE (Zq Zy rfl G.len boot_len (Za (pv 0) Zb)) Zh) Zb))))),?_⟩
  exact⟨_,rfl,_,rfl,l,xs,rfl,.inr (ag.of hl),_,_,rfl,rfl,x,0,_,rfl,t,q⟩
abbrev uD:Stmt:=top 16
def mY (K:PySem.W.Frag):Sp:=fun vs H Q _=> ∃(l:Addr) (i:Int) (xs:List V),vs=[.ref l,.int i]∧H l=some (.tup xs)∧Q (.bl (dF xs i)) H
theorem Ec:aX ["lay", "thing"] ["lay", "thing"] (aM uD):=⟨rfl,rfl,rfl,by decide+kernel,rfl,by decide+kernel,by decide+kernel⟩
theorem Fn {f:Addr}{fd:FuncData}(F:aO K "is_bare_line" "is_bare_line" uD f fd) (D1:Def P w K mg base 3 "is_line" ["lay", "thing"] (qk K)):aL P w K mg base aJ 4 f fd ["lay", "thing"] (mY K):=by
 refine F.ok Ec (fun vs H Q E h=> ?_) (fun ar A outer s H vs Q E hr h=> ?_)
 ·obtain⟨l,x,xs,rfl,_⟩:=h
  rfl
 ·obtain⟨l,i,xs,rfl,hl,q⟩:=h
  refine⟨_,Zi (Zm (Yk (Zf D1 hr (Za (pv 0) (Za (pv 1) Zb))) (Yq (WK (Jx (Zw Zz (pv 0) (pv 1) (fun _ _=>rfl))))))),?_⟩
  refine⟨_,rfl,_,rfl,l,.int i,xs,rfl,hl,⟨_,.int i⟩,_,rfl,?_⟩
  have e:dF xs i=(bA (.int i) 0 ((xs.length:Int) - 1)&&decide (xs[i.toNat]? =some .ae)):=rfl
  rw[e]at q
  cases h:bA (.int i) 0 ((xs.length:Int) - 1) with
  |false=>rw[h]at q;exact aq q
  |true=>
   rw[h]at q
   have hw:(decide (0≤i)&&decide (i≤(xs.length:Int) - 1))=true:=h
   rw[Bool.and_eq_true,decide_eq_true_eq,decide_eq_true_eq]at hw
   have hi:i.toNat<xs.length:=by omega
   have cJ:=ZL (List.getElem?_eq_getElem hi)
   rw[Int.toNat_of_nonneg hw.1]at cJ
   refine az ⟨_,rfl,_,rfl,l,_,_,_,rfl,rfl,ag.of hl,cJ,?_⟩
   rw[List.getElem?_eq_getElem hi,show decide (some xs[i.toNat]=some V.ae)=decide (xs[i.toNat]=V.ae) from decide_eq_decide.mpr ⟨Option.some.inj,fun h=>congrArg _ h⟩,Bool.true_and]at q
   exact q
def rZ (H:Hp) (a:Addr) (w:Str) (r:List V):Prop:=H a=some (.tup (.str w::r))
def fJ (w:Str) (r:List V) (w':Str) (n:Int):Bool:=decide (((r.length+1:Nat):Int)=n)&&decide (V.str w=V.str w')
abbrev uC:Stmt:=top 35
def lI:Sp:=fun vs H Q _=> ∃(a:Addr) (w:Str) (r:List V) (w':Str) (n:Int),vs=[.ref a,.str w',.int n]∧rZ H a w r∧Q (.bl (fJ w r w' n)) H
theorem Eb:aX ["thing", "word", "many"] ["thing", "word", "many"] (aM uC):=⟨rfl,rfl,rfl,by decide+kernel,rfl,by decide+kernel,by decide+kernel⟩
theorem Fm {f:Addr}{fd:FuncData}(F:aO K "is_headed" "is_headed" uC f fd) (D1:Def P w K mg base 1 "is_tuple_of" ["thing", "many"] (kb K)):aL P w K mg base aJ 2 f fd ["thing", "word", "many"] lI:=by
 refine F.ok Eb (fun vs H Q E h=> ?_) (fun ar A outer s H vs Q E hr h=> ?_)
 ·obtain⟨a,w,r,w',n,rfl,_⟩:=h
  rfl
 ·obtain⟨a,w0,r,w',n,rfl,ha,q⟩:=h
  refine⟨_,Zi (Zm (Yk (Zf D1 hr (Za (pv 0) (Za (pv 2) Zb))) (Yq (Z2 UN (Zw Zz (pv 0) Zh (fun _ _=>rfl)) (pv 1) (aY _))))),?_⟩
  have hV:H a=some (.tup (.str w0::r)):=ha
  refine⟨_,rfl,_,rfl,.ref a,n,rfl,⟨_,.tup hV⟩,_,rfl,?_⟩
  rw[ZB hV]
  have e:fJ w0 r w' n=(decide (((V.str w0::r).length:Int)=n)&&decide (V.str w0=V.str w')):=rfl
  rw[e]at q
  show(if decide (((V.str w0::r).length:Int)=n)=true then _ else _)
  by_cases h:((V.str w0::r).length:Int)=n
  ·rw[decide_eq_true h,Bool.true_and]at q
   rw[decide_eq_true h]
   exact az ⟨_,rfl,a,_,_,_,rfl,rfl,ag.of hV,ZL (show(V.str w0::r)[0]? =some (V.str w0) from rfl),_,rfl,rfl,q⟩
  ·rw[decide_eq_false h,Bool.false_and]at q
   rw[decide_eq_false h]
   exact aq q
end
def bK (xs:List V) (i:Int):Int:=match xs[i.toNat]? with |some (.int r)=>r |_=>0
def cq (xs:List V) (i:Int):Bool:=bA (.int i) 0 ((xs.length:Int) - 1)&& !decide (xs[i.toNat]? =some .ae)
def eK (xs:List V) (a b c d:Int):Bool:=[a,b,c,d].all (cq xs)&&((decide (a<b)&&(decide (c<d)&&HT.lexLt [a,b] [c,d]))&&decide ([b - a,bK xs b - bK xs a]=[d - c,bK xs d - bK xs c]))
theorem WG {xs:List V}(ok:dU xs) {i:Int}(h:cq xs i=true):0≤i∧i.toNat<xs.length∧da xs i=some (.int (bK xs i)):=by
 unfold cq at h
 rw[Bool.and_eq_true]at h
 obtain⟨h1,h2⟩:=h
 have hw:(decide (0≤i)&&decide (i≤(xs.length:Int) - 1))=true:=h1
 rw[Bool.and_eq_true,decide_eq_true_eq,decide_eq_true_eq]at hw
 have hi:i.toNat<xs.length:=by omega
 refine⟨hw.1,hi,?_⟩
 have cJ:=ZL (List.getElem?_eq_getElem hi)
 rw[Int.toNat_of_nonneg hw.1]at cJ
 rw[cJ]
 unfold bK
 rw[List.getElem?_eq_getElem hi]at h2 ⊢
 rcases ok _ (List.getElem_mem hi) with e |⟨r,e⟩
 ·rw[e]at h2;simp at h2
 ·rw[e]
section
variable {P:Program}{w:World}{K:PySem.W.Frag}{mg:Str→Option Value}{base:Heap}
abbrev uA:Stmt:=top 36
def p8:Sp:=fun vs H Q _=> ∃(l t:Addr) (xs:List V) (w:Str) (r:List V),vs=[.ref l,.ref t]∧H l=some (.tup xs)∧dU xs∧rZ H t w r∧
 ((∃a b c d:Int,w= "like" ∧r=[.int a,.int b,.int c,.int d]∧∀H',ah H H'→Q (.bl (eK xs a b c d)) H')∨(fJ w r "like" 5=false∧Q (.bl false) H))
abbrev FV:List Str:=["lay", "thing", "line", "other", "here", "there", "rises"]
theorem lL:aX FV ["lay", "thing"] (aM uA):=⟨rfl,rfl,rfl,by decide+kernel,rfl,by decide+kernel,by decide+kernel⟩
theorem Fh {f:Addr}{fd:FuncData}(F:aO K "is_like_paper" "is_like_paper" uA f fd) (G:Gs mg) (xP:Def P w K mg base 3 "is_line" ["lay", "thing"] (qk K)) (j9:Def P w K mg base 2 "is_headed" ["thing", "word", "many"] lI):aL P w K mg base aJ 4 f fd ["lay", "thing"] p8:=by
 refine F.ok lL (fun vs H Q E h=> ?_) (fun ar A outer s H vs Q E hr h=> ?_)
 ·obtain⟨l,t,xs,w,r,rfl,_⟩:=h
  rfl
 ·obtain⟨l,t,xs,w0,r,rfl,hl,ok,ht,q⟩:=h
  have hu:=hr.lh
  refine⟨_,Ze (ZK (Y2 (Yp (Zf j9 (hr.mono (by decide)) (Za (pv 1) (Za J7 (Za Zh Zb)))))) (Zi (Zm YV)) Zr)
   (Ze (ZK (Y2 (Yp (Zq JV rfl G.all boot_all (Za (Yb ["line", "lay"] 1 [0] (WI (Yi JG (pv 1) (Yv Zh) Yw)) (fun C s H fp=>pb 0) (fun C s H fp=>Z1)
    (fun C s H fp D=>cz rfl (Yk (Zf xP hr (Za (pv 1) (Za (pv 0) Zb))) (Yq (WK (YK (Zw (show jr (aI _ _ _ C s H fp) (ki K) from Zz) (pv 1) (pv 0) (fun _ _=>rfl)))))))) Zb)))) (Zi (Zm YV)) Zr)
   (Ze (Je (Yi JG (pv 1) (Yv Zh) Yw) (Yd rfl (Zk (Zs (i:=2) lL.nd rfl (Or.inl rfl)) (Zk (Zs (i:=3) lL.nd rfl (Or.inl rfl)) (Zk (Zs (i:=4) lL.nd rfl (Or.inl rfl)) (Zk (Zs (i:=5) lL.nd rfl (Or.inl rfl)) ZU))))))
   (Ze (Zx (i:=6) lL.nd rfl (Or.inl rfl) (Yk (Z2 rL (pv 2) (pv 3) (aY _)) (Yk (Z2 rL (pv 4) (pv 5) (aY _)) (Yq (Z2 (Ly hu) (ZF (Za (pv 2) (Za (pv 3) Zb))) (ZF (Za (pv 4) (Za (pv 5) Zb))) (aY _))))))
   (Zi (Zm (Yk (pv 6) (Yq (Z2 (BK hu) (ZF (Za (Zt YE (pv 3) (pv 2)) (Za (Zt YE (Zw Zz (pv 0) (pv 3) (fun _ _=>rfl)) (Zw Zz (pv 0) (pv 2) (fun _ _=>rfl))) Zb)))
    (ZF (Za (Zt YE (pv 5) (pv 4)) (Za (Zt YE (Zw Zz (pv 0) (pv 5) (fun _ _=>rfl)) (Zw Zz (pv 0) (pv 4) (fun _ _=>rfl))) Zb))) (aY _))))))))),?_⟩
  refine Zo ⟨_,rfl,t,w0,r, "like",5,rfl,ht,_,rfl,?_⟩
  rcases q with ⟨a,b,c,d,rfl,rfl,q⟩ |⟨hf,q⟩
  case inr=>
   rw[hf]
   exact az q
  have hh:fJ "like" [V.int a,V.int b,V.int c,V.int d] "like" 5=true:=by unfold fJ;simp
  rw[hh]
  refine aq (ZJ ?_)
  dsimp only
  have dz:H t=some (.tup [.str "like",V.int a,V.int b,V.int c,V.int d]):=ht
  refine Zo ⟨_,rfl,_,rfl,t,_,rfl,dz,fun u H1 s1 e1=> ⟨u,rfl,⟨_,ag.of e1⟩,?_⟩⟩
  have fv:H1 u=some (.tup [V.int a,V.int b,V.int c,V.int d]):=e1
  have cg:=s1 _ _ hl
  have vF:=s1 _ _ dz
  refine Jf (xs:=[V.int a,V.int b,V.int c,V.int d]) (fun i ys σ H2=>ys=([a,b,c,d].take i).map (fun y=>V.bl (cq xs y))∧H2=H1∧∃v,σ=[v,some (.ref l)]) ⟨rfl,rfl,none,rfl⟩ (fun i ys σ H2 _ ⟨_,e2,_⟩=>by rw[e2];exact ag.of fv) ?_ ?_
  ·rintro i y ys σ H2 hy ⟨rfl,rfl,v,rfl⟩
   have cD:([a,b,c,d].map V.int)[i]? =some y:=hy
   rw[List.getElem?_map,Option.map_eq_some_iff]at cD
   obtain⟨yi,iF,rfl⟩:=cD
   have hlen:(List.map (fun y=>V.bl (cq xs y)) (List.take i [a,b,c,d])).length<sizeLine:=by
    rw[List.length_map,sizeLine_eq,List.length_take]
    have:[a,b,c,d].length=4:=rfl
    omega
   have zU:∀bb,bb=cq xs yi→List.map (fun y=>V.bl (cq xs y)) (List.take i [a,b,c,d])++[V.bl bb]=List.map (fun y=>V.bl (cq xs y)) (List.take (i+1) [a,b,c,d]):=fun bb e=>by
    rw[List.take_add_one,iF,List.map_append,e]
    rfl
   refine⟨_,rfl,_,rfl,l,.int yi,xs,rfl,cg,⟨_,.int yi⟩,_,rfl,?_⟩
   cases vA:bA (.int yi) 0 ((xs.length:Int) - 1) with
   |false=>exact aq ⟨hlen,zU _ (by unfold cq;rw[vA];rfl),rfl,_,rfl⟩
   |true=>
    have hw:(decide (0≤yi)&&decide (yi≤(xs.length:Int) - 1))=true:=vA
    rw[Bool.and_eq_true,decide_eq_true_eq,decide_eq_true_eq]at hw
    have hi:yi.toNat<xs.length:=by omega
    have cJ:=ZL (List.getElem?_eq_getElem hi)
    rw[Int.toNat_of_nonneg hw.1]at cJ
    refine az ⟨_,rfl,_,rfl,l,_,_,_,rfl,rfl,ag.of cg,cJ,hlen,zU _ ?_,rfl,_,rfl⟩
    unfold cq
    rw[vA,List.getElem?_eq_getElem hi,Bool.true_and]
    exact congrArg _ (decide_eq_decide.mpr ⟨fun h=>congrArg _ h,Option.some.inj⟩)
  ·rintro ys σ H2 ⟨rfl,rfl,v,rfl⟩ p hp
   have s2:ah H2 (upd H2 p (.lst (List.map (fun y=>V.bl (cq xs y)) (List.take [V.int a,V.int b,V.int c,V.int d].length [a,b,c,d])))):=Zl hp
   refine⟨p,[a,b,c,d].map (cq xs),rfl,aj.of Zc,_,rfl,?_⟩
   have eA:([a,b,c,d].map (cq xs)).all id=[a,b,c,d].all (cq xs):=by simp
   rw[eA]
   generalize upd H2 p (HO.lst (List.map (fun y=>V.bl (cq xs y)) (List.take [V.int a,V.int b,V.int c,V.int d].length [a,b,c,d])))=H3 at s2
   have s3:=s1.trans s2
   have eL:∀z,eK xs a b c d=z↔z=eK xs a b c d:=fun z=> ⟨Eq.symm,Eq.symm⟩
   cases bP:[a,b,c,d].all (cq xs) with
   |false=>
    refine az ?_
    have:eK xs a b c d=false:=by unfold eK;rw[bP];rfl
    rw[this]at q
    exact q _ s3
   |true=>
    refine aq (ZJ ?_)
    dsimp only
    have pB:∀y∈[a,b,c,d],cq xs y=true:=List.all_eq_true.mp bP
    obtain⟨_,_,aA⟩:=WG ok (pB a (by simp))
    obtain⟨_,_,aB⟩:=WG ok (pB b (by simp))
    obtain⟨_,_,aC⟩:=WG ok (pB c (by simp))
    obtain⟨_,_,aD⟩:=WG ok (pB d (by simp))
    refine Zo (ZD ⟨_,rfl,_,rfl,t,_,rfl,s2 _ _ vF,fun v2 H4 s4 e4=> ?_⟩)
    have IM:H4 v2=some (.tup [V.int a,V.int b,V.int c,V.int d]):=e4
    refine⟨v2,_,rfl,ag.of IM,rfl,_,_,rfl,_,_,rfl,_,_,rfl,_,_,rfl,rfl,?_⟩
    dsimp only[List.set]
    have gn:=s4 _ _ (s2 _ _ cg)
    refine Zo (ZD (T.sQ (t:=yn _ _) (fun v H'=>v=.bl (decide (a<b)&&(decide (c<d)&&HT.lexLt [a,b] [c,d]))∧ah H4 H') ?_ ?_))
    case refine_2=>
     intro Q' hq
     refine⟨_,rfl,_,rfl,_,_,rfl,rfl,_,rfl,?_⟩
     cases h1:decide (a<b) with
     |false=>exact aq (hq _ _ ⟨by rw[h1];rfl,ah.refl _⟩)
     |true=>
      refine az ⟨_,rfl,_,rfl,_,_,rfl,rfl,_,rfl,?_⟩
      cases h2:decide (c<d) with
      |false=>exact aq (hq _ _ ⟨by rw[h1,h2];rfl,ah.refl _⟩)
      |true=>
       refine az ⟨_,rfl,_,rfl,(by show 2≤sizeLine;decide),fun p1 l5=> ⟨_,rfl,_,rfl,(by show 2≤sizeLine;decide),fun p2 eV=> ?_⟩⟩
       have k1:=Zl (o:=.tup [V.int a,V.int b]) l5
       have k2:=Zl (o:=.tup [V.int c,V.int d]) eV
       exact⟨p1,p2,[a,b],[c,d],rfl,rfl,ag.of (k2 _ _ Zc),ag.of Zc,hq _ _ ⟨by rw[h1,h2];rfl,k1.trans k2⟩⟩
    rintro v5 H5 ⟨rfl,s5⟩
    refine Zp ?_
    dsimp only[List.set]
    have oo:=s5 _ _ gn
    have yL:=s3.trans (s4.trans s5)
    have eq:eK xs a b c d=((decide (a<b)&&(decide (c<d)&&HT.lexLt [a,b] [c,d]))&&decide ([b - a,bK xs b - bK xs a]=[d - c,bK xs d - bK xs c])):=by
     unfold eK;rw[bP,Bool.true_and]
    rw[eq]at q
    refine⟨_,rfl,_,rfl,?_⟩
    cases hR:(decide (a<b)&&(decide (c<d)&&HT.lexLt [a,b] [c,d])) with
    |false=>
     rw[hR]at q
     exact aq (q _ yL)
    |true=>
     rw[hR,Bool.true_and]at q
     refine az ⟨_,rfl,_,rfl,_,_,rfl,rfl,_,rfl,_,rfl,l,_,_,_,rfl,rfl,ag.of oo,aB,_,rfl,_,rfl,l,_,_,_,rfl,rfl,ag.of oo,aA,_,_,rfl,rfl,(by show 2≤sizeLine;decide),fun p1 l5=> ?_⟩
     have k1:=Zl (o:=.tup [V.int (b - a),V.int (bK xs b - bK xs a)]) l5
     have g9:=k1 _ _ oo
     refine⟨_,rfl,_,rfl,_,_,rfl,rfl,_,rfl,_,rfl,l,_,_,_,rfl,rfl,ag.of g9,aD,_,rfl,_,rfl,l,_,_,_,rfl,rfl,ag.of g9,aC,_,_,rfl,rfl,(by show 2≤sizeLine;decide),fun p2 eV=> ?_⟩
     have k2:=Zl (o:=.tup [V.int (d - c),V.int (bK xs d - bK xs c)]) eV
     exact⟨p1,p2,[b - a,bK xs b - bK xs a],[d - c,bK xs d - bK xs c],rfl,rfl,ag.of (k2 _ _ Zc),ag.of Zc,q _ (yL.trans (k1.trans k2))⟩
end
def mZ (hg:Int) (xs:List V) (i:Int):Bool:=dF xs i&&decide (aT hg.toNat xs i.toNat=[])
section
variable {P:Program}{w:World}{K:PySem.W.Frag}{mg:Str→Option Value}{base:Heap}
abbrev uf:Stmt:=top 37
def pX:Sp:=fun vs H Q _=> ∃(b l t:Addr) (wd hg:Int) (xs:List V) (w:Str) (r:List V),vs=[.ref b,.ref l,.ref t]∧bI H (.ref b) wd hg∧H l=some (.tup xs)∧aK wd hg xs∧wd≤7∧rZ H t w r∧
 ((∃i:Int,w= "shut" ∧r=[.int i]∧∀H',ah H H'→Q (.bl (mZ hg xs i)) H')∨(fJ w r "shut" 2=false∧Q (.bl false) H))
abbrev FO:List Str:=["board", "lay", "thing"]
theorem D4:aX FO ["board", "lay", "thing"] (aM uf):=⟨rfl,rfl,rfl,by decide+kernel,rfl,by decide+kernel,by decide+kernel⟩
theorem E9 {f:Addr}{fd:FuncData}(F:aO K "is_shut_paper" "is_shut_paper" uf f fd) (mL:Def P w K mg base 4 "is_bare_line" ["lay", "thing"] (mY K)) (j9:Def P w K mg base 2 "is_headed" ["thing", "word", "many"] lI) (fU:Def P w K mg base 12 "free_rows" ["board", "lay", "line"] jB):aL P w K mg base aJ 13 f fd ["board", "lay", "thing"] pX:=by
 refine F.ok D4 (fun vs H Q E h=> ?_) (fun ar A outer s H vs Q E hr h=> ?_)
 ·obtain⟨b,l,t,wd,hg,xs,w,r,rfl,_⟩:=h
  rfl
 ·obtain⟨b,l,t,wd,hg,xs,w0,r,rfl,bd,hl,ly,w7,ht,q⟩:=h
  have hu:=hr.lh
  refine⟨_,Zi (Zm (Yk (Zf j9 (hr.mono (by decide)) (Za (pv 2) (Za J7 (Za Zh Zb)))) (Yk (Zf mL (hr.mono (by decide)) (Za (pv 1) (Za (Zw Zz (pv 2) Zh (fun _ _=>rfl)) Zb)))
   (Yq (Z2 (WO hu) (Zf fU hr (Za (pv 0) (Za (pv 1) (Za (Zw Zz (pv 2) Zh (fun _ _=>rfl)) Zb)))) (ZT Zb) (aY _)))))),?_⟩
  refine⟨_,rfl,t,w0,r, "shut",2,rfl,ht,_,rfl,?_⟩
  rcases q with ⟨i,rfl,rfl,q⟩ |⟨hf,q⟩
  case inr=>
   rw[hf]
   exact aq q
  have hh:fJ "shut" [V.int i] "shut" 2=true:=by unfold fJ;simp
  rw[hh]
  have dz:H t=some (.tup [.str "shut",V.int i]):=ht
  refine az ⟨_,rfl,_,rfl,t,_,_,_,rfl,rfl,ag.of dz,jm,l,i,xs,rfl,hl,_,rfl,?_⟩
  have eS:mZ hg xs i=(dF xs i&&decide (aT hg.toNat xs i.toNat=[])):=rfl
  rw[eS]at q
  cases hb:dF xs i with
  |false=>
   rw[hb]at q
   exact aq (q _ (ah.refl _))
  |true=>
   rw[hb,Bool.true_and]at q
   obtain⟨i0,hx⟩:=Wv hb
   have ei:((i.toNat:Nat):Int)=i:=Int.toNat_of_nonneg i0
   refine az ⟨_,rfl,_,rfl,_,rfl,t,_,_,_,rfl,rfl,ag.of dz,jm,b,l,i.toNat,wd,hg,xs,(by rw[ei];rfl),bd,hl,ly,w7,hx,fun v H1 s1 nv e1=> ?_⟩
   refine⟨Nat.zero_le _,fun p hp=> ?_⟩
   have k1:=Zl (o:=.lst []) hp
   refine⟨v,p,_,rfl,rfl,aj.of (k1 _ _ e1),aj.of Zc,?_⟩
   have e2:((aT hg.toNat xs i.toNat).map V.int).isEmpty=decide (aT hg.toNat xs i.toNat=[]):=by
    cases aT hg.toNat xs i.toNat<;>rfl
   rw[e2]
   exact q _ (s1.trans k1)
end
inductive Tr
 |iC (a b c d:Int)
 |gF (i:Int)
 |cases (i:Int) (ts:List Tr)
def bZ (H:Hp):Nat→V→Tr→Prop
 |0,_,_=>False
 |_+1,v,.iC a b c d=> ∃p,v=.ref p∧H p=some (.tup [.str "like",.int a,.int b,.int c,.int d])
 |_+1,v,.gF i=> ∃p,v=.ref p∧H p=some (.tup [.str "shut",.int i])
 |n+1,v,.cases i ts=> ∃p q vs,v=.ref p∧H p=some (.tup [.str "cases",.int i,.ref q])∧H q=some (.tup vs)∧Paired (bZ H n) vs ts∧vs.length≤12
theorem bZ.same {H H':Hp}(s:ah H H'):∀{n:Nat}{v:V}{t:Tr},bZ H n v t→bZ H' n v t
 |0,_,_,h=>h.elim
 |_+1,_,.iC _ _ _ _,⟨p,e,h⟩=> ⟨p,e,s _ _ h⟩
 |_+1,_,.gF _,⟨p,e,h⟩=> ⟨p,e,s _ _ h⟩
 |n+1,_,.cases _ _,⟨p,q,vs,e,h1,h2,pr,z⟩=> ⟨p,q,vs,e,s _ _ h1,s _ _ h2,Paired.ba pr fun _ _ h=>bZ.same s h,z⟩
def cb (hg:Int):Nat→List V→Tr→Bool
 |0,_,_=>false
 |_+1,xs,.iC a b c d=>eK xs a b c d
 |_+1,xs,.gF i=>mZ hg xs i
 |n+1,xs,.cases i ts=>dF xs i&&(!(aT hg.toNat xs i.toNat).isEmpty&&(decide (ts.length=(aT hg.toNat xs i.toNat).length)&&((aT hg.toNat xs i.toNat).zip ts).all fun rt=>cb hg n (xs.set i.toNat (.int rt.1)) rt.2))
def lE (n:Nat):Sp:=fun vs H Q _=> ∃(b l:Addr) (v:V) (wd hg:Int) (xs:List V),vs=[.ref b,.ref l,v]∧bI H (.ref b) wd hg∧H l=some (.tup xs)∧aK wd hg xs∧wd≤7∧
 ∃t,bZ H n v t∧∀H',ah H H'→Q (.bl (cb hg n xs t)) H'
theorem UK {α β:Type}{R:α→β→Prop} :∀{xs:List α}{ys:List β}{j:Nat}{x:α},Paired R xs ys→xs[j]? =some x→∃y,ys[j]? =some y∧R x y
 |_,_,0,_,.cons h _,e=>by cases e;exact⟨_,rfl,h⟩
 |_::xs,_::ys,j+1,_,.cons _ r,e=>UK (xs:=xs) (ys:=ys) (j:=j) r e
section
variable {P:Program}{w:World}{K:PySem.W.Frag}{mg:Str→Option Value}{base:Heap}
abbrev qw:Stmt:=top 38
def yp (n:Nat):Sp:=fun vs H Q _=> ∃(b l t:Addr) (wd hg:Int) (xs:List V),vs=[.ref b,.ref l,.ref t]∧bI H (.ref b) wd hg∧H l=some (.tup xs)∧aK wd hg xs∧wd≤7∧
 ((∃(i:Int) (q:Addr) (ps:List V) (ts:List Tr),H t=some (.tup [.str "cases",.int i,.ref q])∧H q=some (.tup ps)∧Paired (bZ H n) ps ts∧∀H',ah H H'→Q (.bl (cb hg (n+1) xs (.cases i ts))) H')∨(∃w r,rZ H t w r∧fJ w r "cases" 3=false∧Q (.bl false) H))
abbrev FW:List Str:=["board", "lay", "thing", "line", "papers", "rows"]
theorem qt:aX FW ["board", "lay", "thing"] (aM qw):=⟨rfl,rfl,rfl,by decide+kernel,rfl,by decide+kernel,by decide+kernel⟩
theorem K0 {n k:Nat}{f:Addr}{fd:FuncData}(F:aO K "is_cases_paper" "is_cases_paper" qw f fd) (G:Gs mg) (mL:Def P w K mg base 4 "is_bare_line" ["lay", "thing"] (mY K)) (j9:Def P w K mg base 2 "is_headed" ["thing", "word", "many"] lI) (fU:Def P w K mg base 12 "free_rows" ["board", "lay", "line"] jB) (sd:Def P w K mg base 1 "is_tuple_of" ["thing", "many"] (kb K)) (fT:Def P w K mg base 1 "with_point" ["lay", "line", "row"] jA)
  (hk:12≤k) (Dp:Def P w K mg base k "is_paper" ["board", "lay", "thing"] (lE n)):aL P w K mg base aJ (k+1) f fd ["board", "lay", "thing"] (yp n):=by
 refine F.ok qt (fun vs H Q E h=> ?_) (fun ar A outer s H vs Q E hr h=> ?_)
 ·obtain⟨b,l,t,wd,hg,xs,rfl,_⟩:=h
  rfl
 ·obtain⟨b,l,t,wd,hg,xs,rfl,bd,hl,ly,w7,q⟩:=h
  have hu:=hr.lh
  refine⟨_,Ze (ZK (PW.pt (JJ (Y2 (Yp (Zf j9 (hr.mono (by omega)) (Za (pv 2) (Za J7 (Za Zh Zb)))))) (Jd (Y2 (Yp (Zf mL (hr.mono (by omega)) (Za (pv 1) (Za (Zw Zz (pv 2) Zh (fun _ _=>rfl)) Zb)))))))) (Zi (Zm YV)) Zr)
   (Ze (Je (Yi JG (pv 2) (Yv Zh) Yw) (Yd rfl (Zk (Zs (i:=3) qt.nd rfl (Or.inr rfl)) (Zk (Zs (i:=4) qt.nd rfl (Or.inl rfl)) ZU))))
   (Ze (Zx (i:=5) qt.nd rfl (Or.inl rfl) (Zf fU (hr.mono hk) (Za (pv 0) (Za (pv 1) (Za (pv 3) Zb)))))
   (Ze (ZK (PW.pt (JJ (Zn (WO hu) (pv 5) (ZT Zb) (aY _)) (Jd (Y2 (Yp (Zf sd (hr.mono (by omega)) (Za (pv 4) (Za (Zq Zy rfl G.len boot_len (Za (pv 5) Zb)) Zb)))))))) (Zi (Zm YV)) Zr)
   (Zi (Zm (Zq JV rfl G.all boot_all (Za (Yb ["row", "paper", "board", "lay", "line"] 2 [0,1,3] (MI rfl G.zip (Za (pv 5) (Za (pv 4) Zb)))
    (fun C s H fp=>show PG (aI _ _ _ C s H fp) _ (jf K 2 (cE (bR 0) (cE (bR 1) jg))) from Yd rfl (Zk (pb 0) (Zk (pb 1) ZU))) (fun C s H fp=>Z1)
    (fun C s H fp D'=>cz rfl (Zf Dp hr (Za (pv 2) (Za (Zf fT (hr.mono (by omega)) (Za (pv 3) (Za (pv 4) (Za (pv 0) Zb)))) (Za (pv 1) Zb)))))) Zb))))))),?_⟩
  rcases q with ⟨i,qa,ps,ts,ht,hq,pr,q⟩ |⟨w0,r,ht,hf,q⟩
  case inr=>
   refine Zo ⟨_,rfl,t,w0,r, "cases",3,rfl,ht,_,rfl,?_⟩
   rw[hf]
   exact az (az q)
  have hh:fJ "cases" [V.int i,V.ref qa] "cases" 3=true:=by unfold fJ;simp
  have eP:cb hg (n+1) xs (.cases i ts)=(dF xs i&&(!(aT hg.toNat xs i.toNat).isEmpty&&(decide (ts.length=(aT hg.toNat xs i.toNat).length)&&((aT hg.toNat xs i.toNat).zip ts).all fun rt=>cb hg n (xs.set i.toNat (.int rt.1)) rt.2))):=rfl
  rw[eP]at q
  refine Zo ⟨_,rfl,t, "cases",[V.int i,V.ref qa], "cases",3,rfl,ht,_,rfl,?_⟩
  rw[hh]
  refine aq ⟨_,rfl,_,rfl,t,_,_,_,rfl,rfl,ag.of ht,ZL (show([V.str "cases",V.int i,V.ref qa]:List V)[1]? =some (V.int i) from rfl),l,i,xs,rfl,hl,_,rfl,?_⟩
  cases hb:dF xs i with
  |false=>
   rw[hb]at q
   exact az (q _ (ah.refl _))
  |true=>
   rw[hb,Bool.true_and]at q
   obtain⟨i0,hx⟩:=Wv hb
   have ei:((i.toNat:Nat):Int)=i:=Int.toNat_of_nonneg i0
   refine aq (ZJ ?_)
   dsimp only
   refine Zo (ZD ⟨_,rfl,_,rfl,t,_,rfl,ht,fun v2 H1 s1 e1=> ?_⟩)
   have fv:H1 v2=some (.tup [V.int i,V.ref qa]):=e1
   refine⟨v2,_,rfl,ag.of fv,rfl,_,_,rfl,_,_,rfl,rfl,?_⟩
   dsimp only[List.set]
   refine Zo (ZD ⟨_,rfl,_,rfl,_,rfl,b,l,i.toNat,wd,hg,xs,(by rw[ei];rfl),bd.same s1,s1 _ _ hl,ly,w7,hx,fun v3 H2 s2 nv e2=>Zp ?_⟩)
   dsimp only[List.set]
   have dk:=s1.trans s2
   refine Zo ⟨_,rfl,Nat.zero_le _,fun p hp=> ?_⟩
   have k1:=Zl (o:=.lst []) hp
   refine⟨v3,p,_,rfl,rfl,aj.of (k1 _ _ e2),aj.of Zc,_,rfl,?_⟩
   generalize upd H2 p (HO.lst [])=H3 at k1
   have e3:=k1 _ _ e2
   have kg:=dk.trans k1
   have mf:∀r∈aT hg.toNat xs i.toNat,0≤r∧r<hg.toNat∧aE (.int r) xs=false:=fun r hr=> ⟨(YG.mp hr).1.1,(YG.mp hr).1.2,(YG.mp hr).2.1⟩
   have fl:(aT hg.toNat xs i.toNat).length≤12:=by
    have:=Wc hg.toNat xs i.toNat
    obtain⟨_,_,_,_,wm⟩:=id bd
    omega
   generalize aT hg.toNat xs i.toNat=fs at e3 q mf fl
   have eE:(List.map V.int fs).isEmpty=fs.isEmpty:=by cases fs<;>rfl
   rw[eE]
   cases mq:fs.isEmpty with
   |true=>
    rw[mq]at q
    exact az (az (q _ kg))
   |false=>
    rw[mq]at q
    replace q:∀H',ah H H'→Q (.bl (decide (ts.length=fs.length)&&(fs.zip ts).all fun rt=>cb hg n (xs.set i.toNat (.int rt.1)) rt.2)) H':=q
    have iI:=kg _ _ hq
    refine aq ⟨_,rfl,_,rfl,v3,_,rfl,.inl (aj.of e3),.ref qa,_,rfl,⟨_,.tup iI⟩,_,rfl,?_⟩
    rw[ZB iI]
    show(if (!decide ((ps.length:Int)=((fs.map V.int).length:Int)))=true then _ else _)
    have bC:ps.length=ts.length:=Paired.length pr
    by_cases hlen:ts.length=fs.length
    case neg=>
     rw[decide_eq_false hlen]at q
     rw[decide_eq_false (by rw[List.length_map,bC];exact fun z=>hlen (Int.ofNat.inj z))]
     exact az (q _ kg)
    rw[decide_eq_true hlen, ]at q
    rw[decide_eq_true (by rw[List.length_map,bC,hlen])]
    refine aq (ZJ ?_)
    dsimp only
    have KH:=bd.same kg
    have jS:=kg _ _ hl
    have bw:Paired (bZ H3 n) ps ts:=Paired.ba pr fun _ _ h=>bZ.same kg h
    have lf:(fs.map V.int).length=ps.length:=by rw[List.length_map,bC,hlen]
    refine⟨_,rfl,_,rfl,v3,qa,rfl,⟨_,_,aj.of e3,ag.of iI⟩,?_⟩
    refine N9 (xs:=fs.map V.int) (zs:=ps) lf (fun j ys σ H4=> ∃v0 v1,σ=[v0,v1,some (.ref b),some (.ref l),some (.int i)]∧ah H3 H4∧ys=((fs.zip ts).take j).map fun rt=>V.bl (cb hg n (xs.set i.toNat (.int rt.1)) rt.2)) ⟨_,_,rfl,ah.refl _,rfl⟩ (fun j ys σ H4 _ ⟨_,_,_,s4,_⟩=> ⟨aj.of (s4 _ _ e3),ag.of (s4 _ _ iI)⟩) ?_ ?_
    ·rintro j x y T ys σ H4 gU iE hT ⟨v0,v1,rfl,s4,rfl⟩
     rw[List.getElem?_map,Option.map_eq_some_iff]at gU
     obtain⟨r,aZ,rfl⟩:=gU
     obtain⟨tr,GH,cJ⟩:=UK bw iE
     have sT:=Zl (o:=.par [V.int r,y]) hT
     obtain⟨r0,r1,rn⟩:=mf r (List.mem_of_getElem? aZ)
     have hi:i.toNat<xs.length:=(List.getElem?_eq_some_iff.mp hx).1
     have wl:xs.length≤12:=by have:=ly.len;omega
     have rh:r<hg:=by omega
     refine⟨T,_,rfl,ag.uW Zc,rfl,_,_,rfl,_,_,rfl,rfl,?_⟩
     refine⟨_,rfl,_,rfl,_,rfl,_,rfl,l,xs,i.toNat,.int r,(by rw[ei];rfl),(sT _ _ (s4 _ _ jS)),hi,wl,fun t5 H5 s5 e5=> ⟨_,rfl,?_⟩⟩
     refine⟨b,t5,y,wd,hg,_,rfl,KH.same (s4.trans (sT.trans s5)),e5,Jt ly hx r0 rh rn,w7,tr,bZ.same (s4.trans (sT.trans s5)) cJ,fun H6 s6=> ⟨?_,_,_,rfl,s4.trans (sT.trans (s5.trans s6)),?_⟩⟩
     ·rw[List.length_map,sizeLine_eq,List.length_take,List.length_zip]
      omega
     ·have hz:(fs.zip ts)[j]? =some (r,tr):=List.getElem?_zip_eq_some.mpr ⟨aZ,GH⟩
      rw[List.take_add_one,hz,List.map_append]
      rfl
    ·rintro ys σ H4 ⟨v0,v1,rfl,s4,rfl⟩ p5 G5
     refine⟨p5,((fs.zip ts).take (fs.map V.int).length).map fun rt=>cb hg n (xs.set i.toNat (.int rt.1)) rt.2,rfl,?_,?_⟩
     ·rw[List.map_map]
      exact aj.of Zc
     ·have e:(fs.zip ts).take (fs.map V.int).length=fs.zip ts:=List.take_of_length_le (by rw[List.length_zip,List.length_map];exact Nat.min_le_left _ _)
      rw[e,List.all_map]
      exact q _ (kg.trans (s4.trans (Zl G5)))
end
theorem Y0 {w w':Str}{r:List V}{n:Int}(h:((r.length+1:Nat):Int)≠n):fJ w r w' n=false:=by
 unfold fJ
 rw[decide_eq_false h]
 rfl
section
variable {P:Program}{w:World}{K:PySem.W.Frag}{mg:Str→Option Value}{base:Heap}
abbrev nk:Stmt:=top 39
theorem yA:aX ["board", "lay", "thing"] ["board", "lay", "thing"] (aM nk):=⟨rfl,rfl,rfl,by decide+kernel,rfl,by decide+kernel,by decide+kernel⟩
theorem Ls {k:Nat}{f:Addr}{fd:FuncData}(F:aO K "is_paper" "is_paper" nk f fd):aL P w K mg base aJ (k+1) f fd ["board", "lay", "thing"] (lE 0):=
 F.ok yA (fun vs H Q E h=>by obtain⟨b,l,v,wd,hg,xs,rfl,_⟩:=h;rfl) (fun ar A outer s H vs Q E hr h=>by
  obtain⟨b,l,v,wd,hg,xs,rfl,bd,hl,ly,w7,t,h,_⟩:=h
  exact h.elim)
theorem LM {n k:Nat}{f:Addr}{fd:FuncData}(F:aO K "is_paper" "is_paper" nk f fd) (mK:Def P w K mg base 6 "need_lay" ["board", "lay"] lG) (sf:Def P w K mg base 4 "is_like_paper" ["lay", "thing"] p8) (se:Def P w K mg base 13 "is_shut_paper" ["board", "lay", "thing"] pX)
  (hk:13≤k) (Py:Def P w K mg base k "is_cases_paper" ["board", "lay", "thing"] (yp n)):aL P w K mg base aJ (k+1) f fd ["board", "lay", "thing"] (lE (n+1)):=by
 refine F.ok yA (fun vs H Q E h=> ?_) (fun ar A outer s H vs Q E hr h=> ?_)
 ·obtain⟨b,l,v,wd,hg,xs,rfl,_⟩:=h
  rfl
 ·obtain⟨b,l,v,wd,hg,xs,rfl,bd,hl,ly,w7,t,hT,q⟩:=h
  refine⟨_,Ze (Yh (Zf mK (hr.mono (by omega)) (Za (pv 0) (Za (pv 1) Zb))))
   (Zi (Zm (A6 (Zf sf (hr.mono (by omega)) (Za (pv 1) (Za (pv 2) Zb))) (A6 (Zf se (hr.mono hk) (Za (pv 0) (Za (pv 1) (Za (pv 2) Zb)))) (Yq (Zf Py hr (Za (pv 0) (Za (pv 1) (Za (pv 2) Zb))))))))),?_⟩
  refine Zo ⟨_,rfl,_,rfl,.ref b,.ref l,wd,hg,xs,rfl,⟨bd,ZB hl,ly⟩,fun H1 s1=> ?_⟩
  dsimp only
  have cg:=s1 _ _ hl
  have mF:=bd.same s1
  have oI:=bZ.same s1 hT
  cases t with
  |iC a b' c d=>
   obtain⟨p,rfl,hp⟩:=oI
   refine⟨_,rfl,_,rfl,l,p,xs, "like",_,rfl,cg,ly.ok,hp,.inl ⟨a,b',c,d,rfl,rfl,fun H2 s2=> ⟨_,rfl,?_⟩⟩⟩
   have e:cb hg (n+1) xs (.iC a b' c d)=eK xs a b' c d:=rfl
   rw[e]at q
   cases hL:eK xs a b' c d with
   |true=>
    rw[hL]at q
    exact az (q _ (s1.trans s2))
   |false=>
    rw[hL]at q
    have eV:=s2 _ _ hp
    refine aq ⟨_,rfl,_,rfl,_,rfl,b,l,p,wd,hg,xs, "like",_,rfl,mF.same s2,s2 _ _ cg,ly,w7,eV,.inr ⟨Y0 (by simp),_,rfl,aq ?_⟩⟩
    exact⟨_,rfl,_,rfl,_,rfl,b,l,p,wd,hg,xs,rfl,mF.same s2,s2 _ _ cg,ly,w7,.inr ⟨"like",_,eV,Y0 (by simp),q _ (s1.trans s2)⟩⟩
  |gF i=>
   obtain⟨p,rfl,hp⟩:=oI
   refine⟨_,rfl,_,rfl,l,p,xs, "shut",_,rfl,cg,ly.ok,hp,.inr ⟨Y0 (by simp),_,rfl,aq ?_⟩⟩
   refine⟨_,rfl,_,rfl,_,rfl,b,l,p,wd,hg,xs, "shut",_,rfl,mF,cg,ly,w7,hp,.inl ⟨i,rfl,rfl,fun H2 s2=> ⟨_,rfl,?_⟩⟩⟩
   have e:cb hg (n+1) xs (.gF i)=mZ hg xs i:=rfl
   rw[e]at q
   cases hL:mZ hg xs i with
   |true=>
    rw[hL]at q
    exact az (q _ (s1.trans s2))
   |false=>
    rw[hL]at q
    exact aq ⟨_,rfl,_,rfl,_,rfl,b,l,p,wd,hg,xs,rfl,mF.same s2,s2 _ _ cg,ly,w7,.inr ⟨"shut",_,s2 _ _ hp,Y0 (by simp),q _ (s1.trans s2)⟩⟩
  |cases i ts=>
   obtain⟨p,qa,ps,rfl,hp,hq,pr,_⟩:=oI
   refine⟨_,rfl,_,rfl,l,p,xs, "cases",_,rfl,cg,ly.ok,hp,.inr ⟨Y0 (by simp),_,rfl,aq ?_⟩⟩
   refine⟨_,rfl,_,rfl,_,rfl,b,l,p,wd,hg,xs, "cases",_,rfl,mF,cg,ly,w7,hp,.inr ⟨Y0 (by simp),_,rfl,aq ?_⟩⟩
   exact⟨_,rfl,_,rfl,_,rfl,b,l,p,wd,hg,xs,rfl,mF,cg,ly,w7,.inl ⟨i,qa,ps,ts,hp,hq,pr,fun H2 s2=>q _ (s1.trans s2)⟩⟩
theorem yY (dP:∀(k:Nat) (sp:Sp),(∀f fd,aO K "is_paper" "is_paper" nk f fd→aL P w K mg base aJ k f fd ["board", "lay", "thing"] sp)→Def P w K mg base k "is_paper" ["board", "lay", "thing"] sp)
  (dK:∀(k:Nat) (sp:Sp),(∀f fd,aO K "is_cases_paper" "is_cases_paper" qw f fd→aL P w K mg base aJ k f fd ["board", "lay", "thing"] sp)→Def P w K mg base k "is_cases_paper" ["board", "lay", "thing"] sp) (G:Gs mg)
  (mK:Def P w K mg base 6 "need_lay" ["board", "lay"] lG) (sf:Def P w K mg base 4 "is_like_paper" ["lay", "thing"] p8) (se:Def P w K mg base 13 "is_shut_paper" ["board", "lay", "thing"] pX)
  (mL:Def P w K mg base 4 "is_bare_line" ["lay", "thing"] (mY K)) (j9:Def P w K mg base 2 "is_headed" ["thing", "word", "many"] lI) (fU:Def P w K mg base 12 "free_rows" ["board", "lay", "line"] jB) (sd:Def P w K mg base 1 "is_tuple_of" ["thing", "many"] (kb K)) (fT:Def P w K mg base 1 "with_point" ["lay", "line", "row"] jA):
  ∀n,Def P w K mg base (13+2*n) "is_paper" ["board", "lay", "thing"] (lE n)
 |0=>dP _ _ fun f fd F=>Ls F
 |n+1=>dP _ _ fun f fd F=>LM F mK sf se (by show 13≤13+2*n+1;omega) (dK _ _ fun f fd F=>K0 F G mL j9 fU sd fT (by show 12≤13+2*n;omega) (yY dP dK G mK sf se mL j9 fU sd fT n))
end
def cO (hg:Int) (b xs:List V):Prop:=cI b xs∧bQ b=true∧∀(j:Nat) v,b[j]? =some v→∃r:Int,v=.int r∧0≤r∧r<hg
theorem Bu (hg:Nat) (xs:List V):∀i,∀b∈ao hg xs i,∀j,j<i→∃r∈ig hg xs[j]?,b[j]? =some (.int r)
 |0,_,_,_,hj=>by omega
 |i+1,b,h,j,hj=>by
  unfold ao at h
  obtain⟨a,ha,hm⟩:=List.mem_flatMap.mp h
  obtain⟨h1,_,_⟩:=ZZ hg xs i a ha
  unfold fZ at hm
  obtain⟨r,hr,rfl⟩:=List.mem_map.mp hm
  rcases Nat.lt_succ_iff_lt_or_eq.mp hj with hj |rfl
  ·obtain⟨r',aZ,e⟩:=Bu hg xs i a ha j hj
   exact⟨r',aZ,by rw[List.getElem?_append_left (by omega)];exact e⟩
  ·exact⟨r,(List.mem_filter.mp hr).1,by rw[List.getElem?_append_right (by omega),h1,Nat.sub_self];rfl⟩
theorem Ue {wd hg:Int}{xs b:List V}(ly:aK wd hg xs) (h0:0≤hg) (h:b∈ao hg.toNat xs xs.length):cO hg b xs:=by
 obtain⟨h1,h2,_⟩:=ZZ hg.toNat xs xs.length b h
 have at_:=Bu hg.toNat xs xs.length b h
 refine⟨⟨h1.symm,fun i v e=> ?_⟩,h2,fun j v e=> ?_⟩
 ·rcases ly.ok v (List.mem_of_getElem? e) with z |⟨r,rfl⟩
  ·exact .inl z
  ·obtain⟨r',aZ,e'⟩:=at_ i (List.getElem?_eq_some_iff.mp e).1
   rw[e]at aZ
   have:r'=r:=by simpa[ig] using aZ
   rw[this]at e'
   exact .inr e'
 ·have hj:j<xs.length:=by rw[←h1];exact(List.getElem?_eq_some_iff.mp e).1
  obtain⟨r,hr,e'⟩:=at_ j hj
  rw[e]at e'
  cases e'
  refine⟨r,rfl,?_⟩
  have hx:=List.getElem?_eq_getElem hj
  rw[hx]at hr
  rcases ly.ok xs[j] (List.getElem_mem hj) with z |⟨r',z⟩
  ·rw[z]at hr
   have:r∈fF hg.toNat:=hr
   unfold fF at this
   obtain⟨k,hk,rfl⟩:=List.mem_map.mp this
   have:=List.mem_range.mp hk
   omega
  ·rw[z]at hr
   have e2:r=r':=by simpa[ig] using hr
   have hw:=ly.row (.int r') (List.mem_filter.mpr ⟨by rw[←z];exact List.getElem_mem hj,by simp⟩)
   have Gw:(decide (0≤r')&&decide (r'≤hg - 1))=true:=hw
   rw[Bool.and_eq_true,decide_eq_true_eq,decide_eq_true_eq]at Gw
   omega
theorem xr {hg:Int}{xs b:List V}{i:Nat}(h0:0≤hg) (ok:dU xs) (f:cO hg b xs) (hx:xs[i]? =some .ae):∃r∈aT hg.toNat xs i,cO hg b (xs.set i (.int r)):=by
 obtain⟨fw,g,rg⟩:=f
 have hi:i<xs.length:=(List.getElem?_eq_some_iff.mp hx).1
 have mn:i<b.length:=by rw[←fw.1];exact hi
 obtain⟨r,e,r0,r1⟩:=rg i b[i] (List.getElem?_eq_getElem mn)
 have AH:cI b (xs.set i (.int r)):=by
  refine⟨by rw[List.length_set];exact fw.1,fun k v ek=> ?_⟩
  by_cases hk:i=k
  ·subst hk
   rw[List.getElem?_set_self hi]at ek
   cases ek
   exact .inr (by rw[List.getElem?_eq_getElem mn,e])
  ·rw[List.getElem?_set_ne hk]at ek
   exact fw.2 k v ek
 have g2:=JA AH g
 obtain⟨nd,un⟩:=ZE.mp g2
 refine⟨r,YG.mpr ⟨⟨r0,by omega⟩,?_,(Z0 _).mpr un⟩,AH,g,rg⟩
 have pm:=WA (v:=.int r) (by intro z;cases z) hx
 have FG:=pm.nodup_iff.mp nd
 cases jb:aE (.int r) xs with
 |false=>rfl
 |true=>
  have m:=Ub ok jb
  exact absurd (List.mem_filter.mpr ⟨m,by simp⟩) (List.nodup_cons.mp FG).1
theorem Wr {xs:List V}(ok:dU xs) {i:Int}(h:cq xs i=true):0≤i∧i.toNat<xs.length∧rowAt xs i.toNat=some (bK xs i):=by
 obtain⟨h0,hi,_⟩:=WG ok h
 refine⟨h0,hi,?_⟩
 unfold cq at h
 rw[Bool.and_eq_true]at h
 have h2:=h.2
 unfold rowAt bK
 rw[List.getElem?_eq_getElem hi]at h2 ⊢
 rcases ok _ (List.getElem_mem hi) with e |⟨r,e⟩
 ·rw[e]at h2;simp at h2
 ·rw[e];rfl
theorem Lv {xs:List V}(ok:dU xs) (i:Nat) (r:Int):dU (xs.set i (.int r)):=fun x hx=>by
 rcases List.mem_or_eq_of_mem_set hx with h |h
 ·exact ok x h
 ·exact .inr ⟨r,h⟩
theorem Mu {α β:Type}{fs:List α}{ts:List β}(hl:ts.length=fs.length) {r:α}(h:r∈fs):∃t,(r,t)∈fs.zip ts:=by
 obtain⟨k,hk⟩:=List.getElem?_of_mem h
 have aS:=(List.getElem?_eq_some_iff.mp hk).1
 have ht:=List.getElem?_eq_getElem (l:=ts) (i:=k) (by omega)
 exact⟨_,List.mem_of_getElem? (List.getElem?_zip_eq_some.mpr ⟨hk,ht⟩)⟩
theorem Mz {hg:Int}{n:Nat}{xs:List V}{i:Int}{ts:List Tr}(h:cb hg (n+1) xs (.cases i ts)=true):dF xs i=true∧(aT hg.toNat xs i.toNat).isEmpty=false∧ts.length=(aT hg.toNat xs i.toNat).length∧∀rt∈(aT hg.toNat xs i.toNat).zip ts,cb hg n (xs.set i.toNat (.int rt.1)) rt.2=true:=by
 have h':(dF xs i&&(!(aT hg.toNat xs i.toNat).isEmpty&&(decide (ts.length=(aT hg.toNat xs i.toNat).length)&&((aT hg.toNat xs i.toNat).zip ts).all fun rt=>cb hg n (xs.set i.toNat (.int rt.1)) rt.2)))=true:=h
 rw[Bool.and_eq_true,Bool.and_eq_true,Bool.and_eq_true,decide_eq_true_eq,Bool.not_eq_true',List.all_eq_true]at h'
 exact⟨h'.1,h'.2.1,h'.2.2.1,h'.2.2.2⟩
theorem Cm {hg:Int}(h0:0≤hg):∀(n:Nat) (xs:List V) (t:Tr),dU xs→cb hg n xs t=true→∀b,¬cO hg b xs
 |0,_,_,_,h,_,_=>by cases h
 |n+1,xs,.iC a b c d,ok,h,bb,f=>by
  have h':eK xs a b c d=true:=h
  unfold eK at h'
  rw[Bool.and_eq_true,Bool.and_eq_true,Bool.and_eq_true,Bool.and_eq_true,decide_eq_true_eq,decide_eq_true_eq,decide_eq_true_eq,List.all_eq_true]at h'
  obtain⟨pB,⟨iN,fL,zX⟩,vG⟩:=h'
  obtain⟨a0,a1,a2⟩:=Wr ok (pB a (by simp))
  obtain⟨b0,b1,b2⟩:=Wr ok (pB b (by simp))
  obtain⟨c0,c1,c2⟩:=Wr ok (pB c (by simp))
  obtain⟨d0,d1,d2⟩:=Wr ok (pB d (by simp))
  have un:=UZ f.1 (ZE.mp f.2.1).2
  have m1:(a,bK xs a,b,bK xs b)∈bN (bj xs):=Yc.mpr ⟨a.toNat,b.toNat,by omega,b1,_,_,a2,b2,by rw[Int.toNat_of_nonneg a0,Int.toNat_of_nonneg b0]⟩
  have m2:(c,bK xs c,d,bK xs d)∈bN (bj xs):=Yc.mpr ⟨c.toNat,d.toNat,by omega,d1,_,_,c2,d2,by rw[Int.toNat_of_nonneg c0,Int.toNat_of_nonneg d0]⟩
  have e1:=List.cons.inj vG
  have e2:=List.cons.inj e1.2
  have e:=un _ m1 _ m2 ⟨e1.1,e2.1⟩
  have ea:a=c:=congrArg (·.1) e
  have eb:b=d:=congrArg (·.2.2.1) e
  rw[ea,eb]at zX
  simp[HT.lexLt]at zX
 |n+1,xs,.gF i,ok,h,bb,f=>by
  have h':(dF xs i&&decide (aT hg.toNat xs i.toNat=[]))=true:=h
  rw[Bool.and_eq_true,decide_eq_true_eq]at h'
  obtain⟨r,hr,_⟩:=xr h0 ok f (Wv h'.1).2
  rw[h'.2]at hr
  cases hr
 |n+1,xs,.cases i ts,ok,h,bb,f=>by
  obtain⟨hb,_,hl,bP⟩:=Mz h
  obtain⟨r,hr,f2⟩:=xr h0 ok f (Wv hb).2
  obtain⟨t,ht⟩:=Mu hl hr
  exact Cm h0 n _ t (Lv ok _ _) (bP _ ht) bb f2
theorem MW {wd hg:Int}{xs:List V}{n:Nat}{t:Tr}(ly:aK wd hg xs) (h0:0≤hg) (h:cb hg n xs t=true):ao hg.toNat xs xs.length=[]:=by
 cases e:ao hg.toNat xs xs.length with
 |nil=>rfl
 |cons b r=>exact absurd (Ue ly h0 (by rw[e];exact List.mem_cons_self)) (Cm h0 n xs t ly.ok h b)
theorem bZ.keep {H H':Hp}(s:∀p xs,H p=some (.tup xs)→H' p=some (.tup xs)):∀{n:Nat}{v:V}{t:Tr},bZ H n v t→bZ H' n v t
 |0,_,_,h=>h.elim
 |_+1,_,.iC _ _ _ _,⟨p,e,h⟩=> ⟨p,e,s _ _ h⟩
 |_+1,_,.gF _,⟨p,e,h⟩=> ⟨p,e,s _ _ h⟩
 |n+1,_,.cases _ _,⟨p,q,vs,e,h1,h2,pr,z⟩=> ⟨p,q,vs,e,s _ _ h1,s _ _ h2,Paired.ba pr fun _ _ h=>bZ.keep s h,z⟩
def jk (xs:List V):Nat:=xs.countP fun v=>decide (v=V.ae)
theorem A9 {y:V} :bD y .ae=true↔y=.ae:=by
 cases y<;>simp[bD]
def mG (xs:List V):Nat:=xs.findIdx fun y=>bD y .ae
theorem Uk {xs:List V}(h:aE .ae xs=true):xs[mG xs]? =some .ae∧∀m y,m<mG xs→xs[m]? =some y→bD y .ae=false:=by
 have hx:∃y∈xs,bD y .ae=true:=by
  unfold aE at h
  exact List.any_eq_true.mp h
 have hl:mG xs<xs.length:=List.findIdx_lt_length_of_exists hx
 have h1:bD xs[mG xs] .ae=true:=List.findIdx_getElem (w:=hl)
 refine⟨?_,fun m y hm hy=> ?_⟩
 ·rw[List.getElem?_eq_getElem hl,A9.mp h1]
 ·obtain⟨om,rfl⟩:=List.getElem?_eq_some_iff.mp hy
  exact List.not_of_lt_findIdx hm
theorem MP {xs:List V}{j:Nat}{r:Int}(h:xs[j]? =some .ae):jk (xs.set j (.int r))+1=jk xs:=by
 obtain⟨hj,e⟩:=List.getElem?_eq_some_iff.mp h
 have hp:0<jk xs:=List.countP_pos_iff.mpr ⟨.ae,by rw[←e];exact List.getElem_mem hj,by simp⟩
 unfold jk at hp ⊢
 rw[List.countP_set hj,e]
 simp only[decide_true,if_true]
 rw[show decide (V.int r=V.ae)=false from rfl]
 simp only[Bool.false_eq_true,if_false]
 omega
theorem MO {xs:List V}{j:Nat}(h:xs[j]? =some .ae):0<jk xs:=by
 obtain⟨hj,e⟩:=List.getElem?_eq_some_iff.mp h
 exact List.countP_pos_iff.mpr ⟨.ae,by rw[←e];exact List.getElem_mem hj,by simp⟩
theorem Oy (xs:List V):cI xs xs:=⟨rfl,fun _ _ e=> .inr e⟩
theorem Oq {a b c:List V}(h:cI a b) (k:cI b c):cI a c:=⟨k.1.trans h.1,fun i v e=>by
 rcases k.2 i v e with z |z
 ·exact .inl z
 ·exact h.2 i v z⟩
theorem Lm {wd hg:Int}{xs:List V}(ly:aK wd hg xs) {j:Nat}{v:V}(e:xs[j]? =some v) (hn:v≠.ae):∃r:Int,v=.int r∧0≤r∧r<hg:=by
 have hm:=List.mem_of_getElem? e
 rcases ly.ok v hm with z |⟨r,rfl⟩
 ·exact absurd z hn
 ·have hw:(decide (0≤r)&&decide (r≤hg - 1))=true:=ly.row (.int r) (List.mem_filter.mpr ⟨hm,by simp⟩)
  rw[Bool.and_eq_true,decide_eq_true_eq,decide_eq_true_eq]at hw
  exact⟨r,rfl,hw.1,by omega⟩
theorem Lb {xs:List V}(h:aE .ae xs=false) {j:Nat}{v:V}(e:xs[j]? =some v):v≠.ae:=fun z=>by
 subst z
 have:aE .ae xs=true:=by
  unfold aE
  exact List.any_eq_true.mpr ⟨_,List.mem_of_getElem? e,A9.mpr rfl⟩
 rw[h]at this
 cases this
theorem Ce {wd hg:Int}{xs:List V}(ly:aK wd hg xs) (un:bX xs=true) (h:aE .ae xs=false):cO hg xs xs:=
 ⟨Oy xs,ZE.mpr ⟨ly.nd,(Z0 _).mp un⟩,fun _ _ e=>Lm ly e (Lb h e)⟩
theorem Cd {hg:Int}{xs b:List V}{j:Nat}{r:Int}(hx:xs[j]? =some .ae) (f:cO hg b (xs.set j (.int r))):cO hg b xs:=by
 obtain⟨⟨h1,h2⟩,g,rg⟩:=f
 rw[List.length_set]at h1
 refine⟨⟨h1,fun i v e=> ?_⟩,g,rg⟩
 by_cases hi:j=i
 ·subst hi
  rw[hx]at e
  cases e
  exact .inl rfl
 ·exact h2 i v (by rw[List.getElem?_set_ne hi];exact e)
theorem B6 {xs:List V}{j:Nat}(hx:xs[j]? =some .ae):dF xs (j:Int)=true:=by
 have hj:=(List.getElem?_eq_some_iff.mp hx).1
 unfold dF
 rw[Int.toNat_natCast,decide_eq_true hx,decide_eq_true (by omega:(0:Int)≤j),decide_eq_true (by omega:(j:Int)≤(xs.length:Int) - 1)]
 rfl
theorem Mj {hg:Int}{n:Nat}{xs:List V}{j:Nat}(hx:xs[j]? =some .ae) (h:aT hg.toNat xs j=[]):cb hg (n+1) xs (.gF (j:Int))=true:=by
 show(dF xs j&&decide (aT hg.toNat xs (j:Int).toNat=[]))=true
 rw[Int.toNat_natCast,B6 hx,decide_eq_true h]
 rfl
theorem My {hg:Int}{n:Nat}{xs:List V}{j:Nat}{ts:List Tr}(hx:xs[j]? =some .ae) (he:ts≠[]) (hl:ts.length=(aT hg.toNat xs j).length) (h:∀(k:Nat) (r:Int) (t:Tr),(aT hg.toNat xs j)[k]? =some r→ts[k]? =some t→cb hg n (xs.set j (.int r)) t=true):cb hg (n+1) xs (.cases (j:Int) ts)=true:=by
 show(dF xs j&&(!(aT hg.toNat xs (j:Int).toNat).isEmpty&&(decide (ts.length=(aT hg.toNat xs (j:Int).toNat).length)&&((aT hg.toNat xs (j:Int).toNat).zip ts).all fun rt=>cb hg n (xs.set (j:Int).toNat (.int rt.1)) rt.2)))=true
 rw[Int.toNat_natCast,B6 hx,decide_eq_true hl,Bool.true_and,Bool.true_and,Bool.and_eq_true,List.all_eq_true]
 refine⟨?_,fun rt hm=> ?_⟩
 ·cases hf:aT hg.toNat xs j with
  |nil=>
   rw[hf]at hl
   exact absurd (List.eq_nil_of_length_eq_zero hl) he
  |cons a b=>rfl
 ·obtain⟨k,hk⟩:=List.getElem?_of_mem hm
  obtain⟨h1,h2⟩:=List.getElem?_zip_eq_some.mp hk
  exact h k _ _ h1 h2
theorem rQ {xs:List V}{i:Nat}{r:Int}(e:rowAt xs i=some r) (hi:i<xs.length):cq xs (i:Int)=true∧bK xs (i:Int)=r:=by
 have h:xs[i]? =some (.int r):=by
  unfold rowAt at e
  cases hx:xs[i]? with
  |none=>rw[hx]at e;cases e
  |some v=>
   rw[hx]at e
   cases v<;>first |(cases e;done) |skip
   case int z=>cases e;rfl
 unfold cq bK
 rw[Int.toNat_natCast,h]
 refine⟨?_,rfl⟩
 rw[Bool.and_eq_true]
 refine⟨?_,by simp⟩
 show(decide ((0:Int)≤i)&&decide ((i:Int)≤(xs.length:Int) - 1))=true
 rw[decide_eq_true (by omega),decide_eq_true (by omega)]
 rfl
theorem OF {xs:List V}{k:aG}(f:js (bL xs xs.length) (some k)):eK xs k.1 k.2.1 k.2.2.1 k.2.2.2=true:=by
 obtain⟨⟨a,ha,b,hb,s,l,rfl⟩,_⟩:=f
 obtain⟨p,hp,rfl⟩:=List.mem_map.mp ((Ye xs).mem_iff.mpr ha)
 obtain⟨q,hq,rfl⟩:=List.mem_map.mp ((Ye xs).mem_iff.mpr hb)
 obtain⟨l1,o1,h1,h2,a1,b1,e1,f1,rfl⟩:=Yc.mp hp
 obtain⟨l2,o2,h3,h4,a2,b2,e2,f2,rfl⟩:=Yc.mp hq
 obtain⟨p1,i1⟩:=rQ e1 (by omega)
 obtain⟨p2,i2⟩:=rQ f1 h2
 obtain⟨p3,i3⟩:=rQ e2 (by omega)
 obtain⟨p4,i4⟩:=rQ f2 h4
 have s1:(o1:Int) - l1=o2 - l2:=s.1
 have s2:b1 - a1=b2 - a2:=s.2
 have l':de.ax [(l1:Int),o1] [(l2:Int),o2]=true:=l
 show eK xs (l1:Int) (o1:Int) (l2:Int) (o2:Int)=true
 unfold eK
 rw[List.all_cons,List.all_cons,List.all_cons,List.all_cons,List.all_nil,p1,p2,p3,p4,i1,i2,i3,i4,decide_eq_true (by omega:(l1:Int)<o1),decide_eq_true (by omega:(l2:Int)<o2),s1,s2,Y5,l']
 simp
theorem Cf {hg:Int}{xs b:List V}(f:cO hg b xs):∀i,i≤xs.length→b.take i∈ao hg.toNat xs i
 |0,_=>by simp[ao]
 |i+1,hi=>by
  have ih:=Cf f i (by omega)
  obtain⟨fw,g,rg⟩:=f
  have mn:i<b.length:=by rw[←fw.1];omega
  have mi:i<xs.length:=by omega
  obtain⟨r,e,r0,r1⟩:=rg i b[i] (List.getElem?_eq_getElem mn)
  have e2:b.take i++[V.int r]=b.take (i+1):=by rw[List.take_add_one,List.getElem?_eq_getElem mn,e];rfl
  have g2:bQ (b.take (i+1))=true:=Uc (rest:=b.drop (i+1)) (by rw[List.take_append_drop];exact g)
  unfold ao
  refine List.mem_flatMap.mpr ⟨b.take i,ih,?_⟩
  unfold fZ
  refine List.mem_map.mpr ⟨r,List.mem_filter.mpr ⟨?_,?_⟩,e2⟩
  ·rw[List.getElem?_eq_getElem mi]
   rcases fw.2 i xs[i] (List.getElem?_eq_getElem mi) with z |z
   ·rw[z]
    show r∈fF hg.toNat
    exact List.mem_map.mpr ⟨r.toNat,List.mem_range.mpr (by omega),by show((r.toNat:Nat):Int)=r;omega⟩
   ·rw[List.getElem?_eq_getElem mn,e]at z
    rw[←Option.some.inj z]
    simp[ig]
  ·obtain⟨nd,un⟩:=ZE.mp g2
   rw[e2,(Z0 _).mpr un,Bool.and_true,Bool.not_eq_true']
   rw[←e2,Yy]at nd
   cases jb:aE (.int r) (b.take i) with
   |false=>rfl
   |true=>
    have ok:dU (b.take i):=fun x hx=>by
     obtain⟨j,hj⟩:=List.getElem?_of_mem (List.mem_of_mem_take hx)
     obtain⟨r',e',_⟩:=rg j x hj
     exact .inr ⟨r',e'⟩
    have m:=Ub ok jb
    have:=(List.nodup_append.mp nd).2.2 (.int r) (List.mem_filter.mpr ⟨m,by simp⟩) (.int r) (by simp[rowsOf])
    exact absurd rfl this
theorem Bx {hg:Int}{xs b:List V}(f:cO hg b xs):b∈ao hg.toNat xs xs.length:=by
 have:=Cf f xs.length (Nat.le_refl _)
 rwa [f.1.1,List.take_length,←f.1.1]at this
theorem Ym {wd hg:Int}{xs b:List V}(ly:aK wd hg xs) (h0:0≤hg):b∈ao hg.toNat xs xs.length↔cO hg b xs:=⟨Ue ly h0,Bx⟩
section
variable {P:Program}{w:World}{K:PySem.W.Frag}{mg:Str→Option Value}{base:Heap}
abbrev nh:Stmt:=top 40
def lF (n:Nat):Sp:=fun vs H Q _=> ∃(b l:Addr) (wd hg:Int) (xs:List V),vs=[.ref b,.ref l]∧bI H (.ref b) wd hg∧H l=some (.tup xs)∧aK wd hg xs∧wd≤7∧jk xs≤n∧bX xs=true∧∀v H',ah H H'→((v=.ae∧∃b,cO hg b xs)∨∃t,bZ H' (n+1) v t∧cb hg (n+1) xs t=true)→Q v H'
abbrev FR:List Str:=["board", "lay", "line", "papers", "row", "paper"]
theorem lK:aX FR ["board", "lay"] (aM nh):=⟨rfl,rfl,rfl,by decide+kernel,rfl,by decide+kernel,by decide+kernel⟩
theorem Lu {k:Nat}{f:Addr}{fd:FuncData}(F:aO K "paper_of_lines" "paper_of_lines" nh f fd):aL P w K mg base aJ (k+1) f fd ["board", "lay"] (lF 0):=by
 refine F.ok lK (fun vs H Q E h=> ?_) (fun ar A outer s H vs Q E hr h=> ?_)
 ·obtain⟨b,l,wd,hg,xs,rfl,_⟩:=h
  rfl
 ·obtain⟨b,l,wd,hg,xs,rfl,bd,hl,ly,w7,hb,un,q⟩:=h
  refine⟨_,Ze (ZK (Zn Z4 ZY (pv 1) rfl) (Zi (Zm ZY)) Zr) ZO,?_⟩
  refine Zo ⟨_,rfl,l,xs,rfl,.inr (ag.of hl),rfl,YI ly,_,rfl,?_⟩
  cases hi:aE .ae xs with
  |true=>
   have:=MO (Uk hi).1
   omega
  |false=>exact az (q _ _ (ah.refl _) (.inl ⟨rfl,xs,Ce ly un hi⟩))
theorem LN {n k:Nat}{f:Addr}{fd:FuncData}(F:aO K "paper_of_lines" "paper_of_lines" nh f fd) (G:Gs mg) (fU:Def P w K mg base 12 "free_rows" ["board", "lay", "line"] jB) (fT:Def P w K mg base 1 "with_point" ["lay", "line", "row"] jA)
  (hk:12≤k) (Dp:Def P w K mg base k "paper_of_lines" ["board", "lay"] (lF n)):aL P w K mg base aJ (k+1) f fd ["board", "lay"] (lF (n+1)):=by
 refine F.ok lK (fun vs H Q E h=> ?_) (fun ar A outer s H vs Q E hr h=> ?_)
 ·obtain⟨b,l,wd,hg,xs,rfl,_⟩:=h
  rfl
 ·obtain⟨b,l,wd,hg,xs,rfl,bd,hl,ly,w7,hb,un,q⟩:=h
  refine⟨_,Ze (ZK (Zn Z4 ZY (pv 1) rfl) (Zi (Zm ZY)) Zr)
   (Ze (Zx (i:=2) lK.nd rfl (Or.inl rfl) (WL PySem.F.plainAttrs_tuple PySem.F.slot_tuple_index PySem.F.type_tuple_index Ng (pv 1) (Za ZY Zb)))
   (Ze (Zx (i:=3) lK.nd rfl (Or.inl rfl) (ZT Zb))
   (Ze (YQ PassesOwn.never rfl (Ya (Zf fU (hr.mono hk) (Za (pv 0) (Za (pv 1) (Za (pv 2) Zb))))) (Zs (i:=4) lK.nd rfl (Or.inl rfl))
    (Ze (Zx (i:=5) lK.nd rfl (Or.inl rfl) (Zf Dp hr (Za (pv 0) (Za (Zf fT (hr.mono (by omega)) (Za (pv 1) (Za (pv 2) (Za (pv 4) Zb)))) Zb))))
    (Ze (ZK (YD (Jx (pv 5))) (Zi (Zm ZY)) Zr)
    (Zi (Yh (WL PySem.F.plainAttrs_list PySem.F.slot_list_append PySem.F.type_list_append Jr (pv 3) (Za (pv 5) Zb)))))))
   (Zi (Zm (YU (Nn (pv 3) (fun _=>rfl)) (ZF (Za J7 (Za (pv 2) (Za (Z3 ZX rfl G.tuple boot_tuple (Za (pv 3) Zb)) Zb)))) (ZF (Za J7 (Za (pv 2) Zb))))))))),?_⟩
  refine Zo ⟨_,rfl,l,xs,rfl,.inr (ag.of hl),rfl,YI ly,_,rfl,?_⟩
  cases hi:aE .ae xs with
  |false=>exact az (q _ _ (ah.refl _) (.inl ⟨rfl,xs,Ce ly un hi⟩))
  |true=>
   refine aq (ZJ ?_)
   dsimp only
   obtain⟨hx,hm⟩:=Uk hi
   have hJ:∀r:Int,jk (xs.set (mG xs) (.int r))+1=jk xs:=fun r=>MP hx
   generalize mG xs=j at hx hm hJ
   refine Zo (ZD ⟨_,rfl,.inr (.inl ⟨rfl,.inr ⟨_,hl⟩⟩),l,xs,.ae,j,rfl,rfl,ag.of hl,rfl,YI ly,⟨_,hx,rfl⟩,hm,Zp ?_⟩)
   dsimp only[List.set]
   refine Zo (ZD ⟨Nat.zero_le _,fun L hL=>Zp ?_⟩)
   dsimp only[List.set]
   have s1:=Zl (o:=.lst []) hL
   have e1:upd H L (.lst []) L=some (.lst []):=Zc
   generalize upd H L (HO.lst [])=H1 at s1 e1
   refine Zo ⟨_,rfl,_,rfl,_,rfl,b,l,j,wd,hg,xs,rfl,bd.same s1,s1 _ _ hl,ly,w7,hx,fun v3 H2 s2 nv e2=> ⟨v3,rfl,⟨_,aj.of e2⟩,?_⟩⟩
   have dk:=s1.trans s2
   have hj:j<xs.length:=(List.getElem?_eq_some_iff.mp hx).1
   have wl:xs.length≤12:=by have:=ly.len;omega
   have fl:(aT hg.toNat xs j).length≤12:=by
    have:=Wc hg.toNat xs j
    obtain⟨_,_,_,_,wm⟩:=id bd
    omega
   have FT:v3≠L:=fun z=>by rw[z,e1]at nv;cases nv
   refine Ud (xs:=(aT hg.toNat xs j).map V.int) (fun i σ H3=> ∃x4 x5 ps ts,σ=[some (.ref b),some (.ref l),some (.int (j:Int)),some (.ref L),x4,x5]∧ah H H3∧H3 v3=some (.lst ((aT hg.toNat xs j).map V.int))∧H3 L=some (.lst ps)∧Paired (bZ H3 (n+1)) ps ts∧ps.length=i∧∀(k:Nat) (r:Int) (t:Tr),(aT hg.toNat xs j)[k]? =some r→ts[k]? =some t→cb hg (n+1) (xs.set j (.int r)) t=true) ⟨_,_,[],[],rfl,dk,e2,s2 _ _ e1,.nil,rfl,fun k r t _ z=>by cases z⟩ (fun i σ H3 _ ⟨_,_,_,_,_,_,e,_⟩=>aj.of e) ?_ ?_
   ·rintro i x σ H3 eU ⟨x4,x5,ps,ts,rfl,s3,e3,eL,pr,bC,bP⟩
    have mj:i< (aT hg.toNat xs j).length:=by
     have:=(List.getElem?_eq_some_iff.mp eU).1
     rwa [List.length_map]at this
    rw[List.getElem?_map,Option.map_eq_some_iff]at eU
    obtain⟨r,aZ,rfl⟩:=eU
    obtain⟨⟨r0,r1⟩,rn,ru⟩:=YG.mp (List.mem_of_getElem? aZ)
    have rh:r<hg:=by omega
    refine Zp ?_
    dsimp only[List.set]
    refine Zo (ZD ⟨_,rfl,_,rfl,_,rfl,_,rfl,l,xs,j,.int r,rfl,s3 _ _ hl,hj,wl,fun t5 H5 s5 e5=> ?_⟩)
    refine⟨b,t5,wd,hg,_,rfl,bd.same (s3.trans s5),e5,Jt ly hx r0 rh rn,w7,by have:=hJ r;omega,ru,fun v H6 s6 hv=>Zp ?_⟩
    dsimp only[List.set]
    have yJ:=s3.trans (s5.trans s6)
    refine Zo ⟨_,rfl,_,rfl,?_⟩
    rcases hv with ⟨rfl,bb,fb⟩ |⟨t,ht,G1⟩
    ·exact az (q _ _ yJ (.inl ⟨rfl,bb,Cd hx fb⟩))
    ·have nn:decide (v=V.ae)=false:=by
      cases t with
      |iC a b' c d=>obtain⟨p,rfl,_⟩:=ht;rfl
      |gF i=>obtain⟨p,rfl,_⟩:=ht;rfl
      |cases i ts=>obtain⟨p,_,_,rfl,_⟩:=ht;rfl
     rw[nn]
     refine aq (ZJ ?_)
     dsimp only
     have wu:=s6 _ _ (s5 _ _ eL)
     have kp:∀p xs,H6 p=some (.tup xs)→upd H6 L (.lst (ps++[v])) p=some (.tup xs):=fun p xs hp=>by
      rw[Zg (fun z=>by rw[z,wu]at hp;cases hp)];exact hp
     refine⟨_,rfl,.inl ⟨rfl,_,aj.of wu⟩,_,rfl,L,ps,v,rfl,rfl,wu,(by rw[bC,sizeLine_eq];omega),?_⟩
     refine⟨_,_,ps++[v],ts++[t],rfl,NR yJ hL,?_,Zc,?_,?_⟩
     ·rw[Zg FT]
      exact s6 _ _ (s5 _ _ e3)
     ·exact Jz (Paired.ba pr fun _ _ h=>bZ.keep kp (bZ.same (s5.trans s6) h)) (.cons (bZ.keep kp ht) .nil)
     ·refine⟨by rw[List.length_append,bC];rfl,fun k r' t' e1 e2=> ?_⟩
      have lt:ts.length=i:=by rw[←Paired.length pr,bC]
      by_cases hk:k<ts.length
      ·rw[List.getElem?_append_left hk]at e2
       exact bP k r' t' e1 e2
      ·have fk:=(List.getElem?_eq_some_iff.mp e2).1
       rw[List.length_append]at fk
       have kH:k=i:=by simp at fk;omega
       subst kH
       rw[List.getElem?_append_right (by omega),lt,Nat.sub_self]at e2
       rw[aZ]at e1
       cases e1;cases e2
       exact G1
   ·rintro σ H3 ⟨x4,x5,ps,ts,rfl,s3,e3,eL,pr,bC,bP⟩
    refine⟨_,rfl,_,.inl ⟨_,aj.of eL,rfl⟩,?_⟩
    cases hp:ps.isEmpty with
    |true=>
     refine aq ⟨_,rfl,(by show 2≤sizeLine;decide),fun d hd=> ?_⟩
     exact q _ _ (s3.trans (Zl hd)) (.inr ⟨.gF j,⟨d,rfl,Zc⟩,Mj hx (by rw[List.length_map]at bC;rw[List.isEmpty_iff.mp hp]at bC;exact List.eq_nil_of_length_eq_zero bC.symm)⟩)
    |false=>
     refine az ⟨_,rfl,_,rfl,L,ps,rfl,.inl ⟨aj.of eL,fun c hc=> ⟨(by show 3≤sizeLine;decide),fun d hd=> ?_⟩⟩⟩
     have k1:=Zl (o:=.tup ps) hc
     have k2:=Zl (o:=.tup [V.str "cases",V.int j,V.ref c]) hd
     exact q _ _ (s3.trans (k1.trans k2)) (.inr ⟨.cases j ts,⟨d,c,ps,rfl,Zc,k2 _ _ Zc,Paired.ba pr fun _ _ h=>bZ.same (k1.trans k2) h,by rw[bC,List.length_map];exact fl⟩,My hx (fun z=>by rw[z]at pr;cases pr;cases hp) (by rw[←Paired.length pr,bC,List.length_map]) bP⟩)
theorem lines (dL:∀(k:Nat) (sp:Sp),(∀f fd,aO K "paper_of_lines" "paper_of_lines" nh f fd→aL P w K mg base aJ k f fd ["board", "lay"] sp)→Def P w K mg base k "paper_of_lines" ["board", "lay"] sp) (G:Gs mg)
  (fU:Def P w K mg base 12 "free_rows" ["board", "lay", "line"] jB) (fT:Def P w K mg base 1 "with_point" ["lay", "line", "row"] jA):∀n,Def P w K mg base (13+n) "paper_of_lines" ["board", "lay"] (lF n)
 |0=>dL _ _ fun f fd F=>Lu F
 |n+1=>dL _ _ fun f fd F=>LN F G fU fT (by show 12≤13+n;omega) (lines dL G fU fT n)
end
theorem Mx (xs:List V):jk xs≤xs.length:=List.countP_le_length
section
variable {P:Program}{w:World}{K:PySem.W.Frag}{mg:Str→Option Value}{base:Heap}
abbrev uj:Stmt:=top 41
def tJ:Sp:=fun vs H Q _=> ∃(b l:Addr) (wd hg:Int) (xs:List V),vs=[.ref b,.ref l]∧bI H (.ref b) wd hg∧H l=some (.tup xs)∧aK wd hg xs∧wd≤6∧hg≤7∧∀v H',ah H H'→((v=.ae∧∃b,cO hg b xs)∨∃t,bZ H' 8 v t∧cb hg 8 xs t=true)→Q v H'
theorem yz:aX ["board", "lay", "like"] ["board", "lay"] (aM uj):=⟨rfl,rfl,rfl,by decide+kernel,rfl,by decide+kernel,by decide+kernel⟩
theorem Fe {f:Addr}{fd:FuncData}(F:aO K "paper_for" "paper_for" uj f fd) (xO:Def P w K mg base 7 "need_small" ["board", "lay"] p6) (PD:Def P w K mg base 10 "first_like" ["board", "lay"] ql) (Pp:Def P w K mg base 20 "paper_of_lines" ["board", "lay"] (lF 7)):aL P w K mg base aJ 21 f fd ["board", "lay"] tJ:=by
 refine F.ok yz (fun vs H Q E h=> ?_) (fun ar A outer s H vs Q E hr h=> ?_)
 ·obtain⟨b,l,wd,hg,xs,rfl,_⟩:=h
  rfl
 ·obtain⟨b,l,wd,hg,xs,rfl,bd,hl,ly,w6,g7,q⟩:=h
  refine⟨_,Ze (Yh (Zf xO (hr.mono (by decide)) (Za (pv 0) (Za (pv 1) Zb))))
   (Ze (Zx (i:=2) yz.nd rfl (Or.inl rfl) (Zf PD (hr.mono (by decide)) (Za (pv 0) (Za (pv 1) Zb))))
   (Ze (ZK (YD (YK (pv 2))) (Zi (Zm (Zt YL (ZF (Za J7 Zb)) (pv 2)))) Zr)
   (Zi (Zm (Zf Pp hr (Za (pv 0) (Za (pv 1) Zb))))))),?_⟩
  refine Zo ⟨_,rfl,_,rfl,.ref b,.ref l,wd,hg,xs,rfl,⟨bd,ZB hl,ly⟩,w6,g7,fun H1 s1=> ?_⟩
  dsimp only
  have cg:=s1 _ _ hl
  refine Zo (ZD ⟨_,rfl,_,rfl,.ref b,.ref l,wd,hg,xs,rfl,⟨bd.same s1,ZB cg,ly⟩,by omega,fun H2 v r s2 fi oa=>Zp ?_⟩)
  dsimp only[List.set]
  have dk:=s1.trans s2
  refine Zo ⟨_,rfl,_,rfl,?_⟩
  cases r with
  |none=>
   have e:v=.ae:=oa
   subst e
   refine aq (ZJ ?_)
   dsimp only
   refine⟨_,rfl,_,rfl,b,l,wd,hg,xs,rfl,bd.same dk,s2 _ _ cg,ly,by omega,?_,(rR fi).symm,fun v3 H3 s3 hv=>q _ _ (dk.trans s3) hv⟩
   have:=Mx xs
   have:=ly.len
   omega
  |some k=>
   obtain⟨p,rfl,hp⟩:=oa
   refine az ⟨(by show 1≤sizeLine;decide),fun d hd=> ⟨_,rfl,?_⟩⟩
   have k1:=Zl (o:=.tup [V.str "like"]) hd
   exact Wg Zc (k1 _ _ hp) (by show 1+4≤1000;decide) fun t H3 s3 e3=>q _ _ (dk.trans (k1.trans s3)) (.inr ⟨.iC _ _ _ _,⟨t,rfl,e3⟩,OF fi⟩)
end
end U.S
namespace U.S
open PySem L2 PyProof.Rows PyProof.Rows.de
theorem WT {n:Nat}{r:Int} :r∈fF n↔0≤r∧r<n:=by
 unfold fF
 rw[List.mem_map]
 constructor
 ·rintro⟨k,hk,rfl⟩
  have:=List.mem_range.mp hk
  omega
 ·rintro⟨h0,h1⟩
  exact⟨r.toNat,List.mem_range.mpr (by omega),by omega⟩
theorem O2 (n:Nat):(fF n).Pairwise (· < ·):=by
 unfold fF
 rw[List.pairwise_map]
 exact List.pairwise_lt_range.imp fun h=>by omega
theorem Bv {wd hg:Int}{xs:List V}(ly:aK wd hg xs) (h0:0≤hg):∀i,∀b∈ao hg.toNat xs i,∀v∈b,∃r:Int,v=.int r∧0≤r∧r<hg
 |0,b,hb=>fun v hv=>by
  have:b=[]:=by simpa[ao] using hb
  rw[this]at hv
  cases hv
 |i+1,b,hb=>by
  unfold ao at hb
  obtain⟨a,ha,hm⟩:=List.mem_flatMap.mp hb
  have ih:=Bv ly h0 i a ha
  unfold fZ at hm
  obtain⟨r,hr,rfl⟩:=List.mem_map.mp hm
  have cW:=(List.mem_filter.mp hr).1
  intro v hv
  rcases List.mem_append.mp hv with z |z
  ·exact ih v z
  ·refine⟨r,List.mem_singleton.mp z,?_⟩
   have rg:r∈fF hg.toNat→0≤r∧r<hg:=fun h=>by
    have:=WT.mp h
    omega
   cases e:xs[i]? with
   |none=>rw[e]at cW;exact rg cW
   |some u=>
    rw[e]at cW
    cases u with
    |int r'=>
     have er:r=r':=List.mem_singleton.mp cW
     subst er
     have:=ly.row (.int r) (by unfold rowsOf;exact List.mem_filter.mpr ⟨List.mem_of_getElem? e,rfl⟩)
     have h':(decide (0≤r)&&decide (r≤hg - 1))=true:=this
     simp only[Bool.and_eq_true,decide_eq_true_eq]at h'
     omega
    |_=>exact rg cW
def fz (FQ:List (List V)) (line:Nat):List Int:=FQ.map fun b=>intOf (b.getD line .ae)
def dJ (hg:Nat) (FQ:List (List V)) (line:Nat):List Int:=(fF hg).filter fun r=>decide (r∈fz FQ line)
theorem WC (hg:Nat) (FQ:List (List V)) (line:Nat):(dJ hg FQ line).Pairwise (· < ·):=List.Pairwise.filter _ (O2 hg)
theorem rS {wd hg:Int}{xs b:List V}{j:Nat}(ly:aK wd hg xs) (h0:0≤hg) (hb:b∈ao hg.toNat xs xs.length) (hj:j<xs.length):∃r:Int,b[j]? =some (.int r)∧intOf (b.getD j .ae)=r∧0≤r∧r<hg:=by
 obtain⟨h1,_⟩:=ZZ hg.toNat xs xs.length b hb
 have Ae:j<b.length:=by omega
 have e:=List.getElem?_eq_getElem Ae
 obtain⟨r,er,r0,r1⟩:=Bv ly h0 xs.length b hb _ (List.getElem_mem Ae)
 rw[er]at e
 exact⟨r,e,by rw[List.getD_eq_getElem?_getD,e];rfl,r0,r1⟩
theorem Yz {wd hg:Int}{xs:List V}{j:Nat}(ly:aK wd hg xs) (h0:0≤hg) (hj:j<xs.length) (k:Int):k∈dJ hg.toNat (ao hg.toNat xs xs.length) j↔k∈fz (ao hg.toNat xs xs.length) j:=by
 unfold dJ
 rw[List.mem_filter,decide_eq_true_eq]
 refine⟨fun h=>h.2,fun h=> ⟨?_,h⟩⟩
 unfold fz at h
 obtain⟨b,hb,rfl⟩:=List.mem_map.mp h
 obtain⟨r,_,e,r0,r1⟩:=rS ly h0 hb hj
 rw[e]
 exact WT.mpr ⟨r0,by omega⟩
section
variable {P:Program}{w:World}{K:PySem.W.Frag}{mg:Str→Option Value}{base:Heap}{cB cL cM:Addr}
def EA (K:PySem.W.Frag):List V→Hp→VK→Prop:=fun xs H Q=> ∃p ys,xs=[.ref p]∧((aj K H p ys∧∀l,H l=none→Q (.ref l) (upd H l (.tup ys)))∨(ag K H p ys∧Q (.ref p) H))
abbrev ng:Stmt:=top 32
def pZ:Sp:=fun vs H Q _=> ∃(b l:Addr) (wd hg:Int) (xs:List V),vs=[.ref b,.ref l]∧bI H (.ref b) wd hg∧H l=some (.tup xs)∧aK wd hg xs∧wd≤6∧hg≤7∧∀(T:Addr) (H':Hp) (ts:List V),ah H H'→H' T=some (.tup ts)→Paired (bg H') ts ((List.range xs.length).map (dJ hg.toNat (ao hg.toNat xs xs.length)))→Q (.ref T) H'
abbrev u6:List Str:=["board", "lay", "found"]
abbrev yB:Scope:= {kind:=.function,names:=[(".0",.local),("line",.cell),("tuple",.globalImplicit),("sorted",.globalImplicit),("found",.free)],isGenerator:=false,isCoroutine:=false}
theorem yx:aX u6 ["board", "lay"] (aM ng):=⟨rfl,rfl,rfl,by decide+kernel,rfl,by decide+kernel,by decide+kernel⟩
theorem Fc {f:Addr}{fd:FuncData}(F:aO K "rows_for" "rows_for" ng f fd) (G:Gs mg) (ip:Def P w K mg base 13 "all_fits" ["board", "lay"] kc):aL P w K mg base aJ 14 f fd ["board", "lay"] pZ:=by
  refine F.ok yx (fun vs H Q E h=> ?_) (fun ar A outer s H vs Q E hr h=> ?_)
  · obtain⟨b,l,wd,hg,xs,rfl,_⟩:=h
    rfl
  · obtain⟨b,l,wd,hg,xs,rfl,bd,hl,ly,w6,g7,q⟩:=h
    refine⟨_,Ze (Zx (i:=2) yx.nd rfl (Or.inr rfl) (Zf ip hr (Za (pv 0) (Za (pv 1) Zb))))
      (Zi (Zm (Z3 ZX rfl G.tuple boot_tuple (Za (Nk "line" ["line", "found"] 1 [2] (ZP rfl G.range (Za (Zw Zz (pv 0) Zh (fun _ _=>rfl)) Zb))
        (fun C s H fp=>Zs (i:=0) (show(["line", "found"]:List Str).Nodup by decide) rfl (Or.inr rfl)) (fun C s H fp=>Z1)
        (fun C' s' H' AI D=>cz rfl (Z3 (show dX (dE (jZ aJ P w K mg base u6 "rows_for" (aM ng) f ar A outer s H E).lO ["line", "found"] yB "line" C' s' H' AI) (.type "tuple") (EA K) from ZX) rfl G.tuple boot_tuple (Za
          (SC.EZ ["fit", "line"] 1 [0] rfl G.sorted (show PI (dE (jZ aJ P w K mg base u6 "rows_for" (aM ng) f ar A outer s H E).lO ["line", "found"] yB "line" C' s' H' AI) _ _ (qR K _) from Ya (pv 1)) (fun C s H fp=>pb 0) (fun C s H fp=>Z1)
            (fun C s H fp D=>SC.cz rfl (Zw (show jr (aI _ _ _ C s H fp) (ki K) from Zz) (pv 0) (pv 1) (fun _ _=>rfl)))) Zb)))) Zb)))),?_⟩
    obtain⟨b',eb,hb⟩:=Zv bd.1
    cases eb
    obtain⟨_,w1,_,g1,_⟩:=id bd
    have ll:=ly.len
    refine Zo (ZD ⟨_,rfl,_,rfl,b,l,wd,hg,xs,rfl,bd,hl,ly,w6,g7,fun fa H1 ts s1 nf ef pr=>Zp ?_⟩)
    dsimp only[List.set]
    refine⟨_,rfl,b,_,_,_,rfl,rfl,ag.of (s1 _ _ hb),jn,_,rfl,by omega,by omega,?_⟩
    rw[show wd.toNat=xs.length by omega]
    have AF:∀{j:Nat},j<xs.length→∀k,k∈dJ hg.toNat (ao hg.toNat xs xs.length) j↔k∈fz (ao hg.toNat xs xs.length) j:=fun hj k=>Yz ly (by omega) hj k
    have AB:∀{b':List V}{j:Nat},b'∈ao hg.toNat xs xs.length→j<xs.length→∃r:Int,b'[j]? =some (.int r)∧intOf (b'.getD j .ae)=r∧0≤r∧r<hg:=fun cX hj=>rS ly (by omega) cX hj
    generalize ao hg.toNat xs xs.length=FQ at pr q AF AB
    have gN:=Paired.length pr
    refine YF (n:=xs.length) (fun t zs σ H'=>Paired (bg H') zs ((List.range t).map (dJ hg.toNat FQ))∧ah H1 H'∧zs.length=t∧∃v0,σ=[v0,some (.ref fa)]) ⟨.nil,ah.refl _,rfl,none,rfl⟩ ?_ ?_
    · rintro t zs σ H' ht ⟨pz,s',lz,v0,rfl⟩
      rw[Int.zero_add]
      refine Zp ?_
      dsimp only[List.set]
      refine⟨_,rfl,fa,rfl,⟨_,aj.of (s' _ _ ef)⟩,?_⟩
      refine Z5 (xs:=ts) (fun j ys σ H6=>H6=H'∧ys=((fz FQ t).take j).map V.int∧∃v,σ=[v,some (.int t)]) ⟨rfl,rfl,none,rfl⟩ (fun j ys σ H6 _ ⟨e,_⟩=>by rw[e];exact aj.of (s' _ _ ef)) ?_ ?_
      · rintro j y ys σ H6 hy ⟨rfl,rfl,v,rfl⟩
        refine Zp ?_
        dsimp only[List.set]
        obtain⟨b',cX,ta,rfl,eta⟩:=Y8 pr hy
        obtain⟨r,e1,e2,r0,r1⟩:=AB (List.mem_of_getElem? cX) ht
        refine⟨_,rfl,_,rfl,ta,_,_,_,rfl,rfl,ag.of (s' _ _ eta),ZL e1,r,rfl,r0,by omega,rfl,?_,_,rfl⟩
        unfold fz
        rw[List.take_add_one,List.getElem?_map,cX,List.map_append]
        show _=_++[V.int (intOf (b'.getD t .ae))]
        rw[e2]
      · rintro ys σ H6 ⟨rfl,rfl,v,rfl⟩ ks ek p bE hp p1 p2 p3
        have lc:(fz FQ t).length=ts.length:=by unfold fz;rw[List.length_map,gN]
        rw[←lc,List.take_length]at ek
        have IG:fz FQ t=ks:=List.map_inj_right (fun _ _ z=>by injection z)|>.mp ek
        subst IG
        have er:=Cp (WC hg.toNat FQ t) p1 p2 fun k=> (p3 k).trans (AF ht k).symm
        subst er
        refine⟨p,_,rfl,.inl ⟨aj.of Zc,fun u hu=> ?_⟩⟩
        have s2:=(ZG (o:=.lst ((dJ hg.toNat FQ t).map V.int)) hp).trans (ZG (o:=.tup ((dJ hg.toNat FQ t).map V.int)) hu)
        refine⟨by rw[lz,sizeLine_eq];omega,?_,s'.trans s2,by rw[List.length_append,lz];rfl,_,rfl⟩
        rw[List.range_succ,List.map_append]
        exact Paired.snoc (Paired.ba pz fun v k h=>h.same s2) ⟨u,rfl,Zc⟩
    · rintro zs σ H' ⟨pz,s',lz,v0,rfl⟩ L hL
      refine⟨L,zs,rfl,.inl ⟨aj.of Zc,fun T hT=> ?_⟩⟩
      have s2:=(ZG (o:=.lst zs) hL).trans (ZG (o:=.tup zs) hT)
      exact q T _ zs (s1.trans (s'.trans s2)) Zc (Paired.ba pz fun v k h=>h.same s2)
end
def pS:List Int→V
 | [r]=> .int r
 |_=> .ae
def eC (hg:Nat) (FQ:List (List V)) (n:Nat):List V:=(List.range n).map fun j=>pS (dJ hg FQ j)
theorem UF {wd hg:Int}{xs:List V}{j:Nat}(ly:aK wd hg xs) (h0:0≤hg) (hj:j<xs.length):dJ hg.toNat (ao hg.toNat xs xs.length) j=[]↔ao hg.toNat xs xs.length=[]:=by
 constructor
 ·intro h
  cases e:ao hg.toNat xs xs.length with
  |nil=>rfl
  |cons b l=>
   have:intOf (b.getD j .ae)∈fz (ao hg.toNat xs xs.length) j:=by
    unfold fz
    rw[e]
    exact List.mem_cons_self ..
   have:=(Yz ly h0 hj _).mpr this
   rw[h]at this
   cases this
 ·intro h
  rw[h]
  exact List.filter_eq_nil_iff.mpr fun r _ z=>by simp[fz]at z
section
variable {P:Program}{w:World}{K:PySem.W.Frag}{mg:Str→Option Value}{base:Heap}{cB cL cM:Addr}
abbrev ue:Stmt:=top 33
def tF:Sp:=fun vs H Q _=> ∃(b l:Addr) (wd hg:Int) (xs:List V),vs=[.ref b,.ref l]∧bI H (.ref b) wd hg∧H l=some (.tup xs)∧aK wd hg xs∧wd≤6∧hg≤7∧∀(v:V) (H':Hp),ah H H'→((ao hg.toNat xs xs.length=[]∧v=.ae)∨(ao hg.toNat xs xs.length≠[]∧∃T:Addr,v=.ref T∧H' T=some (.tup (eC hg.toNat (ao hg.toNat xs xs.length) xs.length))))→Q v H'
abbrev FN:List Str:=["board", "lay", "choices"]
theorem yw:aX FN ["board", "lay"] (aM ue):=⟨rfl,rfl,rfl,by decide+kernel,rfl,by decide+kernel,by decide+kernel⟩
theorem E8 {f:Addr}{fd:FuncData}(F:aO K "sure" "sure" ue f fd) (G:Gs mg) (xM:Def P w K mg base 14 "rows_for" ["board", "lay"] pZ):aL P w K mg base aJ 15 f fd ["board", "lay"] tF:=by
 refine F.ok yw (fun vs H Q E h=> ?_) (fun ar A outer s H vs Q E hr h=> ?_)
 ·obtain⟨b,l,wd,hg,xs,rfl,_⟩:=h
  rfl
 ·obtain⟨b,l,wd,hg,xs,rfl,bd,hl,ly,w6,g7,q⟩:=h
  have hu:=UU hr
  refine⟨_,Ze (Zx (i:=2) yw.nd rfl (Or.inl rfl) (Zf xM hr (Za (pv 0) (Za (pv 1) Zb))))
   (Ze (ZK (Zn (Li hu) (ZF Zb) (pv 2) rfl) (Zi (Zm ZY)) Zr)
   (Zi (Zm (Z3 ZX rfl G.tuple boot_tuple (Za (Yb ["rows"] 1 [] (WI (pv 2)) (fun C s H fp=>pb 0) (fun C s H fp=>Z1)
    (fun C s H fp D=>cz rfl (YU (Zn UN (Zq (show dX (aI _ _ _ C s H fp) (.builtin "len") (fun xs H Q=> ∃(p:Addr) (ys:List V),xs=[.ref p]∧(aj K H p ys∨ag K H p ys)∧Q (.int ys.length) H) from Zy) rfl G.len boot_len (Za (pv 0) Zb)) Zh (aY _)) (Zw (show jr (aI _ _ _ C s H fp) (ki K) from Zz) (pv 0) Zh (fun _ _=>rfl)) ZY))) Zb))))),?_⟩
  obtain⟨_,w1,_,g1,_⟩:=id bd
  have ll:=ly.len
  refine Zo (ZD ⟨_,rfl,_,rfl,b,l,wd,hg,xs,rfl,bd,hl,ly,w6,g7,fun T H1 ts s1 eT pr=>Zp ?_⟩)
  dsimp only[List.set]
  refine Zo ⟨(by show 0≤sizeLine;decide),fun t ht=> ?_⟩
  have s2:=ZG (o:=.tup ([]:List V)) ht
  have e2:upd H1 t (.tup ([]:List V)) t=some (.tup (([]:List Int).map V.int)):=Zc
  generalize upd H1 t (HO.tup ([]:List V))=H2 at s2 e2
  refine⟨_,rfl,T,ts,[],_,⟨t,rfl,e2⟩,rfl,ag.of (s2 _ _ eT),Paired.ba pr fun v k h=>h.same s2,?_⟩
  have nH:([]:List Int)∈(List.range xs.length).map (dJ hg.toNat (ao hg.toNat xs xs.length))↔ao hg.toNat xs xs.length=[]:=by
   rw[List.mem_map]
   constructor
   ·rintro⟨j,hj,e⟩
    exact(UF ly (by omega) (List.mem_range.mp hj)).mp e
   ·intro h
    exact⟨0,List.mem_range.mpr (by omega),(UF ly (by omega) (by omega)).mpr h⟩
  refine⟨_,rfl,?_⟩
  by_cases hF:ao hg.toNat xs xs.length=[]
  ·rw[decide_eq_true (nH.mpr hF)]
   exact az (q _ _ (s1.trans s2) (.inl ⟨hF,rfl⟩))
  ·rw[decide_eq_false fun h=>hF (nH.mp h)]
   refine aq (ZJ ?_)
   dsimp only
   have AM:=s2 _ _ eT
   refine⟨_,rfl,T,rfl,⟨_,ag.of AM⟩,?_⟩
   have lt:ts.length=xs.length:=by rw[Paired.length pr,List.length_map,List.length_range]
   refine Jf (xs:=ts) (fun j ys σ H6=>H6=H2∧ys=(eC hg.toNat (ao hg.toNat xs xs.length) j)∧∃v,σ=[v]) ⟨rfl,rfl,none,rfl⟩ (fun j ys σ H6 _ ⟨e,_⟩=>by rw[e];exact ag.of AM) ?_ ?_
   ·rintro j y ys σ H6 hy ⟨rfl,rfl,v,rfl⟩
    have hj:=(List.getElem?_eq_some_iff.mp hy).1
    obtain⟨k,hk,ta,rfl,eta⟩:=Y8 pr hy
    rw[List.getElem?_map,List.getElem?_range (by omega)]at hk
    have aS:dJ hg.toNat (ao hg.toNat xs xs.length) j=k:=Option.some.inj hk
    have fin:∀u,pS k=u→(eC hg.toNat (ao hg.toNat xs xs.length) j).length<sizeLine∧(H6=H6∧eC hg.toNat (ao hg.toNat xs xs.length) j++[u]=eC hg.toNat (ao hg.toNat xs xs.length) (j+1)∧∃v,[some (V.ref ta)]=[v]):=fun u e=>by
     refine⟨by unfold eC;rw[List.length_map,List.length_range,sizeLine_eq];omega,rfl,?_,_,rfl⟩
     unfold eC
     rw[List.range_succ,List.map_append,List.map_singleton,aS,e]
    have rC:=s2 _ _ eta
    refine⟨_,rfl,ta,_,rfl,.inr (ag.of rC),rfl,?_⟩
    rw[List.length_map]
    match k,rC,fin with
    | [],_,fin=>exact⟨_,rfl,aq (fin _ rfl)⟩
    | [r],rC,fin=>exact⟨_,rfl,az ⟨_,rfl,ta,_,_,_,rfl,rfl,ag.of rC,(show da [V.int r] 0=some (V.int r) from ZL (xs:=[V.int r]) (j:=0) rfl),fin _ rfl⟩⟩
    |r::r'::k,_,fin=>
     have z:decide (V.int ((r::r'::k).length:Int)=V.int 1)=false:=decide_eq_false fun z=>by
      have:=V.int.inj z
      simp at this
      omega
     rw[z]
     exact⟨_,rfl,aq (fin _ rfl)⟩
   ·rintro ys σ H6 ⟨rfl,rfl,v,rfl⟩ L hL
    rw[lt]
    refine⟨L,_,rfl,.inl ⟨aj.of Zc,fun U hU=> ?_⟩⟩
    exact q _ _ (s1.trans (s2.trans ((ZG hL).trans (ZG hU)))) (.inr ⟨hF,U,rfl,Zc⟩)
end
abbrev mH (l:List (List V)):Prop:=l.Pairwise fun a b=>ax (intsOf a) (intsOf b)=true
theorem YT {l:List (List V)}(h:mH l):l.Nodup:=h.imp fun {a b} e z=>by
 subst z
 have:=Yo _ _ e
 rw[e]at this
 cases this
theorem WF {l:List (List V)}(h:mH l):(l.map intsOf).Pairwise fun a b=>ax b a=false:=List.pairwise_map.mpr (h.imp fun {a b} e=>Yo _ _ e)
theorem xo {ks:List (List Int)}{Q:List (List V)}(s:ks.Pairwise fun a b=>ax b a=false) (hq:mH Q) (hp:ks.Perm (Q.map intsOf)):ks=Q.map intsOf:=
 List.Perm.eq_of_pairwise (le:=fun a b=>ax b a=false) (fun a b _ _ h1 h2=>xg a b h2 h1) s (WF hq) hp
theorem CT {l:List (List V)}(h:∀b∈l,∃ks:List Int,b=ks.map V.int):(l.map intsOf).map (fun k=>k.map V.int)=l:=by
 rw[List.map_map]
 conv=>rhs;rw[←List.map_id l]
 refine List.map_congr_left fun b hb=> ?_
 obtain⟨ks,rfl⟩:=h b hb
 show(intsOf (ks.map V.int)).map V.int=ks.map V.int
 rw[Jh]
theorem NP {l m:List (List V)}(hl:mH l) (hm:mH m) (il:∀b∈l,∃ks:List Int,b=ks.map V.int) (im:∀b∈m,∃ks:List Int,b=ks.map V.int) (h:∀b,b∈l↔b∈m):l=m:=by
 have pm:=(List.perm_ext_iff_of_nodup (YT hl) (YT hm)).mpr h
 have:=xo (WF hl) hm (pm.map intsOf)
 rw[←CT il,this,CT im]
theorem Z7 {hg:Nat}{xs:List V}{i:Nat} :∀b∈ao hg xs i,∃ks:List Int,b=ks.map V.int:=fun b h=> (ZZ hg xs i b h).2.2
theorem Bd {l:List V}(h:l.Nodup):l.reverse.Nodup:=List.pairwise_reverse.mpr (h.imp fun n z=>n z.symm)
theorem WB (xs:List V):rowsOf xs.reverse=(rowsOf xs).reverse:=List.filter_reverse ..
theorem BD {wd hg:Int}{xs:List V}(ly:aK wd hg xs):aK wd hg xs.reverse:=
 ⟨by rw[List.length_reverse];exact ly.len,fun r hr=>ly.row r (by rw[WB]at hr;exact List.mem_reverse.mp hr),by rw[WB];exact Bd ly.nd⟩
theorem NQ {xs:List V}{i:Nat}(h:i<xs.length):rowAt xs.reverse i=rowAt xs (xs.length - 1 - i):=by
 unfold rowAt
 rw[List.getElem?_reverse h]
theorem Mo {xs:List V}(u:j6 xs):j6 xs.reverse:=by
 intro p hp q hq s
 obtain⟨l1,o1,h1,h2,a1,b1,e1,f1,rfl⟩:=Yc.mp hp
 obtain⟨l2,o2,h3,h4,a2,b2,e2,f2,rfl⟩:=Yc.mp hq
 rw[List.length_reverse]at h2 h4
 rw[NQ (by omega)]at e1 f1 e2 f2
 have m1:(((xs.length - 1 - o1:Nat):Int),b1,((xs.length - 1 - l1:Nat):Int),a1)∈bN (bj xs):=Yc.mpr ⟨_,_,by omega,by omega,_,_,f1,e1,rfl⟩
 have m2:(((xs.length - 1 - o2:Nat):Int),b2,((xs.length - 1 - l2:Nat):Int),a2)∈bN (bj xs):=Yc.mpr ⟨_,_,by omega,by omega,_,_,f2,e2,rfl⟩
 have s1:(o1:Int) - l1=o2 - l2:=s.1
 have s2:b1 - a1=b2 - a2:=s.2
 have e:=u _ m1 _ m2 ⟨by show((xs.length - 1 - l1:Nat):Int) - ((xs.length - 1 - o1:Nat):Int)=((xs.length - 1 - l2:Nat):Int) - ((xs.length - 1 - o2:Nat):Int);omega,by show a1 - b1=a2 - b2;omega⟩
 have z1:((xs.length - 1 - o1:Nat):Int)=((xs.length - 1 - o2:Nat):Int):=congrArg (·.1) e
 have z2:b1=b2:=congrArg (·.2.1) e
 have z3:((xs.length - 1 - l1:Nat):Int)=((xs.length - 1 - l2:Nat):Int):=congrArg (·.2.2.1) e
 have z4:a1=a2:=congrArg (·.2.2.2) e
 have y1:o1=o2:=by omega
 have y2:l1=l2:=by omega
 rw[y1,y2,z2,z4]
theorem By {hg:Int}{b xs:List V}(f:cO hg b xs):cO hg b.reverse xs.reverse:=by
 obtain⟨fw,g,rg⟩:=f
 obtain⟨nd,un⟩:=ZE.mp g
 refine⟨⟨by rw[List.length_reverse,List.length_reverse];exact fw.1,fun i v e=> ?_⟩,ZE.mpr ⟨by rw[WB];exact Bd nd,Mo un⟩,fun j v e=> ?_⟩
 ·have hi:=(List.getElem?_eq_some_iff.mp e).1
  rw[List.length_reverse]at hi
  rw[List.getElem?_reverse hi]at e
  rw[List.getElem?_reverse (by rw[←fw.1];exact hi),←fw.1]
  exact fw.2 _ v e
 ·have hj:=(List.getElem?_eq_some_iff.mp e).1
  rw[List.length_reverse]at hj
  rw[List.getElem?_reverse hj]at e
  exact rg _ v e
theorem L1 {wd hg:Int}{xs:List V}(ly:aK wd hg xs) (h0:0≤hg):((ao hg.toNat xs xs.length).map List.reverse).Perm (ao hg.toNat xs.reverse xs.reverse.length):=by
 have n1:=YT (ZW hg.toNat xs xs.length)
 refine(List.perm_ext_iff_of_nodup ?_ (YT (ZW hg.toNat xs.reverse xs.reverse.length))).mpr fun b=> ?_
 ·exact List.pairwise_map.mpr (n1.imp fun {a b} h z=>h (List.reverse_inj.mp z))
 ·rw[Ym (BD ly) h0,List.mem_map]
  constructor
  ·rintro⟨a,ha,rfl⟩
   exact By ((Ym ly h0).mp ha)
  ·intro f
   have:=By f
   rw[List.reverse_reverse]at this
   exact⟨b.reverse,(Ym ly h0).mpr this,List.reverse_reverse b⟩
def dM (hg:Int) (xs:List V) (j:Nat) (r:Int):List (List V):=if aE (.int r) xs=true then [] else ao hg.toNat (xs.set j (.int r)) xs.length
def kq (hg:Int) (xs:List V) (j m:Nat):List (List V):=(List.range m).flatMap fun(k:Nat)=>dM hg xs j (k:Int)
theorem O1 (hg:Int) (xs:List V) (j m:Nat):kq hg xs j (m+1)=kq hg xs j m++dM hg xs j (m:Int):=by
 unfold kq
 rw[List.range_succ,List.flatMap_append]
 simp
theorem Ba {hg:Int}{xs b:List V}{j:Nat}{r:Int}(hj:j<xs.length) (f:cO hg b (xs.set j (.int r))):b[j]? =some (.int r):=by
 rcases f.1.2 j (.int r) (List.getElem?_set_self hj) with z |z
 ·cases z
 ·exact z
theorem YX {wd hg:Int}{xs b:List V}{j:Nat}{r:Int}(ly:aK wd hg xs) (h0:0≤hg) (hx:xs[j]? =some .ae) (r0:0≤r) (r1:r<hg):b∈dM hg xs j r↔cO hg b xs∧b[j]? =some (.int r):=by
 have hj:=(List.getElem?_eq_some_iff.mp hx).1
 have up:cO hg b xs→b[j]? =some (.int r)→aE (.int r) xs=false∧cO hg b (xs.set j (.int r)):=fun f e=>by
  obtain⟨r',aZ,f'⟩:=xr h0 ly.ok f hx
  have e':=Ba hj f'
  rw[e]at e'
  cases e'
  exact⟨(YG.mp aZ).2.1,f'⟩
 unfold dM
 split
 ·rename_i hi
  refine⟨fun h=> (List.not_mem_nil h).elim,fun h=> ?_⟩
  have:=(up h.1 h.2).1
  rw[hi]at this
  cases this
 ·rename_i hi
  have hn:aE (.int r) xs=false:=by cases h:aE (.int r) xs<;>simp_all
  have F4:=Jt ly hx r0 r1 hn
  have:=Ym (b:=b) F4 h0
  rw[List.length_set]at this
  rw[this]
  exact⟨fun f=> ⟨Cd hx f,Ba hj f⟩,fun h=> (up h.1 h.2).2⟩
theorem NM (hg:Int) (xs:List V) (j:Nat) (r:Int):mH (dM hg xs j r):=by
 unfold dM
 split
 ·exact .nil
 ·exact ZW _ _ _
theorem Og {hg:Int}{xs:List V}{j:Nat}{r:Int} :∀b∈dM hg xs j r,∃ks:List Int,b=ks.map V.int:=fun b h=>by
 unfold dM at h
 split at h
 ·cases h
 ·exact Z7 b h
theorem OK {wd hg:Int}{xs:List V}{j:Nat}(ly:aK wd hg xs) (h0:0≤hg) (hx:xs[j]? =some .ae):(kq hg xs j hg.toNat).Perm (ao hg.toNat xs xs.length):=by
 refine(List.perm_ext_iff_of_nodup ?_ (YT (ZW hg.toNat xs xs.length))).mpr fun b=> ?_
 ·unfold kq
  refine List.pairwise_flatMap.mpr ⟨fun k _=>YT (NM _ _ _ _),?_⟩
  refine List.Pairwise.imp_of_mem ?_ (List.pairwise_lt_range (n:=hg.toNat))
  intro k m hk hm lt a ha c hc z
  subst z
  have hk:=List.mem_range.mp hk
  have hm:=List.mem_range.mp hm
  have e1:=((YX ly h0 hx (by omega) (by omega)).mp ha).2
  have e2:=((YX ly h0 hx (by omega) (by omega)).mp hc).2
  rw[e1]at e2
  have:(k:Int)=(m:Int):=by injection e2 with e2;injection e2
  omega
 ·rw[Ym ly h0]
  unfold kq
  rw[List.mem_flatMap]
  constructor
  ·rintro⟨k,hk,hb⟩
   have hk:=List.mem_range.mp hk
   exact((YX ly h0 hx (by omega) (by omega)).mp hb).1
  ·intro f
   have hj:=(List.getElem?_eq_some_iff.mp hx).1
   have hb:=List.getElem?_eq_getElem (l:=b) (i:=j) (by rw[←f.1.1];exact hj)
   obtain⟨r,e,r0,r1⟩:=f.2.2 j _ hb
   have e':b[j]? =some (.int r):=by rw[hb,e]
   refine⟨r.toNat,List.mem_range.mpr (by omega),?_⟩
   rw[Int.toNat_of_nonneg r0]
   exact(YX ly h0 hx r0 r1).mpr ⟨f,e'⟩
theorem Ny {wd hg:Int}{xs:List V}{j:Nat}{r:Int}(ly:aK wd hg xs) (h0:0≤hg) (hx:xs[j]? =some .ae) (r0:0≤r) (r1:r<hg):r∈dJ hg.toNat (ao hg.toNat xs xs.length) j↔dM hg xs j r≠[]:=by
 have hj:=(List.getElem?_eq_some_iff.mp hx).1
 rw[Yz ly h0 hj]
 unfold fz
 rw[List.mem_map]
 constructor
 ·rintro⟨b,hb,e⟩ z
  obtain⟨r',e1,e2,_⟩:=rS ly h0 hb hj
  rw[e]at e2
  subst e2
  have:=(YX ly h0 hx r0 r1).mpr ⟨(Ym ly h0).mp hb,e1⟩
  rw[z]at this
  cases this
 ·intro ne
  obtain⟨b,hb⟩:=List.exists_mem_of_ne_nil _ ne
  obtain⟨f,e⟩:=(YX ly h0 hx r0 r1).mp hb
  refine⟨b,(Ym ly h0).mpr f,?_⟩
  rw[List.getD_eq_getElem?_getD,e]
  rfl
theorem Lx {l:List Int}{r:Int}(h:l.Pairwise (· < ·)) (hr:r∈l) (ha:∀x∈l,x=r):l=[r]:=by
 match l,h,hr,ha with
 | [x],_,_,ha=>rw[ha x List.mem_cons_self]
 |x::y::l,h,_,ha=>
  have h1:=(List.pairwise_cons.mp h).1 y List.mem_cons_self
  have h2:=ha x List.mem_cons_self
  have h3:=ha y (List.mem_cons_of_mem _ List.mem_cons_self)
  omega
theorem NU {l:List Int}{v:V}(h:pS l=v) (hn:v≠.ae):∃r,l=[r]∧v=.int r:=by
 match l,h with
 | [],h=>exact absurd h.symm hn
 | [r],h=>exact⟨r,rfl,h.symm⟩
 |_::_::_,h=>exact absurd h.symm hn
theorem Cu (hg:Nat) (FQ:List (List V)) {n i:Nat}(h:i<n):(eC hg FQ n)[i]? =some (pS (dJ hg FQ i)):=by
 unfold eC
 rw[List.getElem?_map,List.getElem?_range h]
 rfl
theorem Jb (hg:Nat) (FQ:List (List V)) (n:Nat):(eC hg FQ n).length=n:=by
 unfold eC
 rw[List.length_map,List.length_range]
theorem CL {wd hg:Int}{xs b:List V}(ly:aK wd hg xs) (h0:0≤hg) (hb:b∈ao hg.toNat xs xs.length):cI b (eC hg.toNat (ao hg.toNat xs xs.length) xs.length):=by
 have hl:=(ZZ _ _ _ _ hb).1
 refine⟨by rw[Jb,hl],fun i v e=> ?_⟩
 have hi:=(List.getElem?_eq_some_iff.mp e).1
 rw[Jb]at hi
 rw[Cu _ _ hi]at e
 by_cases hn:v=.ae
 ·exact .inl hn
 ·obtain⟨r,e1,rfl⟩:=NU (Option.some.inj e) hn
  obtain⟨r',e2,e3,_⟩:=rS ly h0 hb hi
  have:r'∈fz (ao hg.toNat xs xs.length) i:=List.mem_map.mpr ⟨b,hb,e3⟩
  have:=(Yz ly h0 hi r').mpr this
  rw[e1]at this
  have:r'=r:=by simpa using this
  rw[this]at e2
  exact .inr e2
theorem LY {wd hg:Int}{xs:List V}(ly:aK wd hg xs) (h0:0≤hg) (ne:ao hg.toNat xs xs.length≠[]):cI (eC hg.toNat (ao hg.toNat xs xs.length) xs.length) xs:=by
 refine⟨(Jb _ _ _).symm,fun i v e=> ?_⟩
 have hi:=(List.getElem?_eq_some_iff.mp e).1
 rcases ly.ok v (List.mem_of_getElem? e) with z |⟨r,rfl⟩
 ·exact .inl z
 ·refine .inr ?_
  have all:∀b∈ao hg.toNat xs xs.length,intOf (b.getD i .ae)=r:=fun b hb=>by
   rcases (Ue ly h0 hb).1.2 i _ e with z |z
   ·cases z
   ·rw[List.getD_eq_getElem?_getD,z];rfl
  rw[Cu _ _ hi]
  obtain⟨b,hb⟩:=List.exists_mem_of_ne_nil _ ne
  have m:r∈dJ hg.toNat (ao hg.toNat xs xs.length) i:=(Yz ly h0 hi r).mpr (List.mem_map.mpr ⟨b,hb,all b hb⟩)
  rw[Lx (WC _ _ _) m fun x hx=>by
   obtain⟨c,hc,ec⟩:=List.mem_map.mp ((Yz ly h0 hi x).mp hx)
   rw[←ec]
   exact all c hc]
  rfl
theorem Bw {wd hg:Int}{xs b:List V}(ly:aK wd hg xs) (f:cO hg b xs):aK wd hg b:=by
 obtain⟨fw,g,rg⟩:=f
 refine⟨by rw[←fw.1];exact ly.len,fun r hr=> ?_,(ZE.mp g).1⟩
 obtain⟨j,hj⟩:=List.getElem?_of_mem (List.mem_filter.mp hr).1
 obtain⟨r',rfl,r0,r1⟩:=rg j r hj
 show(decide (0≤r')&&decide (r'≤hg - 1))=true
 rw[decide_eq_true r0,decide_eq_true (by omega)]
 rfl
theorem NV {wd hg:Int}{xs:List V}(ly:aK wd hg xs) (h0:0≤hg) (ne:ao hg.toNat xs xs.length≠[]):aK wd hg (eC hg.toNat (ao hg.toNat xs xs.length) xs.length)∧ao hg.toNat (eC hg.toNat (ao hg.toNat xs xs.length) xs.length) xs.length=ao hg.toNat xs xs.length:=by
 obtain⟨b,hb⟩:=List.exists_mem_of_ne_nil _ ne
 have qN:=U3 (Bw ly (Ue ly h0 hb)) (CL ly h0 hb)
 refine⟨qN,NP (ZW _ _ _) (ZW _ _ _) Z7 Z7 fun c=> ?_⟩
 have k:=Ym (b:=c) qN h0
 rw[Jb]at k
 rw[k,Ym ly h0]
 exact⟨fun f=> ⟨Oq f.1 (LY ly h0 ne),f.2⟩,fun f=> ⟨CL ly h0 ((Ym ly h0).mpr f),f.2⟩⟩
theorem MX {hg:Int}{xs:List V}(h:∃b,cO hg b xs):ao hg.toNat xs xs.length≠[]:=fun z=>by
 obtain⟨b,f⟩:=h
 have:=Bx f
 rw[z]at this
 cases this
def j5 (xs:List V) (m:Nat):List Nat:=(List.range m).filter fun k=>decide (xs[k]? =some .ae)
theorem Ol (xs:List V) (m:Nat):j5 xs (m+1)=j5 xs m++if xs[m]? =some .ae then [m] else []:=by
 unfold j5
 rw[List.range_succ,List.filter_append]
 by_cases h:xs[m]? =some .ae<;>simp[h]
theorem Uj (xs:List V) (m:Nat):(j5 xs m).length≤m:=by
 have:=List.length_filter_le (fun k=>decide (xs[k]? =some .ae)) (List.range m)
 rw[List.length_range]at this
 exact this
theorem MN {xs:List V}{m k:Nat}(h:k∈j5 xs m):xs[k]? =some .ae:=of_decide_eq_true (List.mem_filter.mp h).2
theorem ML {xs:List V}{i:Nat}(h:i<xs.length) (v:V):xs.take i++[v]++xs.drop (i+1)=xs.set i v:=by
 rw[List.set_eq_take_append_cons_drop,if_pos h,List.append_assoc]
 rfl
theorem MY (ks:List Int):(ks.map V.int).all dR=true:=by
 rw[List.all_eq_true]
 intro x hx
 obtain⟨k,_,rfl⟩:=List.mem_map.mp hx
 rfl
theorem K5 {r:Int}{ks:List Int} :aE (.int r) (ks.map V.int)=true↔r∈ks:=by
 constructor
 ·intro h
  have ok:dU (ks.map V.int):=fun x hx=>by
   obtain⟨k,_,rfl⟩:=List.mem_map.mp hx
   exact .inr ⟨k,rfl⟩
  obtain⟨k,hk,e⟩:=List.mem_map.mp (Ub ok h)
  injection e with e
  rw[←e]
  exact hk
 ·intro h
  exact YZ (List.mem_map.mpr ⟨r,h,rfl⟩)
theorem Ni {hg:Int}{xs:List V}{j:Nat}{r:Int}(h7:hg≤7) (h6:xs.length≤6):(dM hg xs j r).length≤117649:=by
 unfold dM
 split
 ·exact Nat.zero_le _
 ·exact JR (by omega) _ h6
theorem JM {H:Hp}{ts:List V}{Q:List (List V)}(h:Paired (cH H) ts Q) (hi:∀b∈Q,∃ks:List Int,b=ks.map V.int):Paired (bg H) ts (Q.map intsOf):=Jy h fun v b hb hl=>by
 obtain⟨ks,rfl⟩:=hi b hb
 rw[Jh]
 exact KW hl
theorem BB {hg:Nat}{xs:List V}(h:0<xs.length):∀k∈(ao hg xs xs.length).map intsOf,k≠[]:=fun k hk z=>by
 obtain⟨b,hb,rfl⟩:=List.mem_map.mp hk
 have h1:=(ZZ _ _ _ _ hb).1
 have:(intsOf b).length=b.length:=List.length_map ..
 rw[z]at this
 have h2:([]:List Int).length=0:=rfl
 omega
section
variable {P:Program}{w:World}{K:PySem.W.Frag}{mg:Str→Option Value}{base:Heap}
abbrev ui:Stmt:=top 51
abbrev FP:List Str:=["_law_state_here", "_law_board", "_law_lay_here", "_law_rows", "_law_bare", "_law_line", "_law_parted", "_law_told", "_law_row", "_law_some"]
theorem jD:aX FP ["_law_state_here", "_law_board", "_law_lay_here", "_law_rows"] (aM ui):=⟨rfl,rfl,rfl,by decide+kernel,rfl,by decide+kernel,by decide+kernel⟩
def tI:Sp:=fun vs H Q _=> ∃(p b l R:Addr) (wd hg:Int) (xs ts:List V),vs=[.ref p,.ref b,.ref l,.ref R]∧bM H p∧bI H (.ref b) wd hg∧H l=some (.tup xs)∧aK wd hg xs∧wd≤6∧hg≤7∧H R=some (.lst ts)∧Paired (cH H) ts (ao hg.toNat xs xs.length)∧∀H',aN p H H'→bM H' p→Q (.bl true) H'
theorem Fd {f:Addr}{fd:FuncData}(F:aO K "_law_parts_right" "_law_parts_right" ui f fd) (G:Gs mg) (j8:Def P w K mg base 1 "_law_take" ["_law_state_here", "_law_many"] lD) (xM:Def P w K mg base 14 "rows_for" ["board", "lay"] pZ) (ip:Def P w K mg base 13 "all_fits" ["board", "lay"] kc):aL P w K mg base aJ 15 f fd ["_law_state_here", "_law_board", "_law_lay_here", "_law_rows"] tI:=by
 refine F.ok jD (fun vs H Q E h=> ?_) (fun ar A outer s H vs Q E hr h=> ?_)
 ·obtain⟨p,b,l,R,wd,hg,xs,ts,rfl,_⟩:=h
  rfl
 ·obtain⟨p,b,l,R,wd,hg,xs,ts,rfl,st,bd,hl,ly,w6,g7,hR,yS,q⟩:=h
  have cW:=hr.mono (show 1≤14 by decide)
  have hu:=UU hr
  have kE:=Nat.lt_of_succ_lt hu
  refine⟨_,Ze (Jq ["_law_line", "_law_lay_here"] 1 [2] (i:=4) jD.nd rfl (Or.inl rfl) (ZP rfl G.range (Za (Zw Zz (pv 1) Zh (fun _ _=>rfl)) Zb)) (fun C s H fp=>pb 0) (fun C s H fp=>Yu (YD (Jx (Zw (show jr (aI _ _ _ C s H fp) (ki K) from Zz) (pv 1) (pv 0) (fun _ _=>rfl))))) (fun C s H fp D=>cz rfl (pv 0)))
   (Ze (ZK (Zn (WO kE) (pv 4) (ZT Zb) (aY _)) (Zi (Zm YV)) Zr)
   (Ze (wY (i:=5) (j:=6) rfl jD.nd rfl rfl (by decide) rfl rfl (Za (Zw Z6 (pv 4) (Zf j8 cW (Za (pv 0) (Za (Zq Zy rfl G.len boot_len (Za (pv 4) Zb)) Zb))) (fun _ _=>rfl)) (Za (ZT Zb) Zb)) rfl)
   (Ze (Zx (i:=7) jD.nd rfl (Or.inl rfl) (Zw Zz (Zf xM hr (Za (pv 1) (Za (pv 2) Zb))) (pv 5) (fun _ _=>rfl)))
   (Ze (YQ PassesOwn.never rfl (ZP rfl G.range (Za (Zw Zz (pv 1) Zh (fun _ _=>rfl)) Zb)) (Zs (i:=8) jD.nd rfl (Or.inl rfl))
    (Ze (Zx (i:=9) jD.nd rfl (Or.inl rfl) (ZT Zb))
    (Ze (ZK (Zn Z4 (pv 8) (pv 2) rfl) (Zi (Zx (i:=9) jD.nd rfl (Or.inl rfl) (Zf ip (hr.mono (by decide)) (Za (pv 1) (Za (Zt YL (Zt YL (Yi JG (pv 2) Yw (Yv (pv 5))) (ZF (Za (pv 8) Zb))) (Yi JG (pv 2) (Yv (Zt Y4 (pv 5) Zh)) Yw)) Zb))))) Zr)
    (Ze (ZK (Zn pe (Z2 UL (pv 8) (pv 7) rfl) (Z2 (rP kE) (pv 9) (ZT Zb) (aY _)) (aY _)) ZO Zr)
    (Zi (Zx (i:=6) jD.nd rfl (Or.inl rfl) (Zt Bs (pv 6) (pv 9))))))))
   (Zi (Zm (Z2 (Lh hu) (Zq JU rfl G.sorted boot_sorted (Za (pv 6) Zb)) (pv 3) (aY _)))))))),?_⟩
  obtain⟨b',eb,hb⟩:=Zv bd.1
  cases eb
  obtain⟨_,w1,Dg,g1,wm⟩:=id bd
  have hlen:=ly.len
  obtain⟨u0,v0,ep,_⟩:=id st
  have u5:R≠p:=fun z=>by
   rw[z,ep]at hR
   cases hR
   have yT:=yS
   generalize ao hg.toNat xs xs.length=FQ at yT
   cases yT with
   |cons h _=>obtain⟨t,e,_⟩:=h;cases e
  refine Zo (ZD ⟨_,rfl,b,_,_,_,rfl,rfl,ag.of hb,jn,wd,rfl,by omega,by omega,?_⟩)
  refine YF (n:=wd.toNat) (fun m ys af H'=> (∃v,af=[v,some (.ref l)])∧H'=H∧ys=(j5 xs m).map fun(k:Nat)=>V.int (k:Int)) ⟨⟨_,rfl⟩,rfl,rfl⟩ ?_ ?_
  ·rintro m ys af H7 hm ⟨⟨v,rfl⟩,rfl,rfl⟩
   have om:m<wd.toNat:=hm
   have l7:m<xs.length:=by omega
   have cJ:=ZL (List.getElem?_eq_getElem l7)
   rw[←Int.zero_add (m:Int)]at cJ
   refine⟨_,rfl,_,rfl,l,_,_,_,rfl,rfl,ag.of hl,cJ,_,rfl,?_⟩
   have es:=Ol xs m
   rw[List.getElem?_eq_getElem l7]at es
   by_cases hn:xs[m]=V.ae
   ·rw[decide_eq_true hn]
    refine az ⟨_,rfl,?_,⟨_,rfl⟩,rfl,?_⟩
    ·rw[List.length_map,sizeLine_eq]
     have:=Uj xs m
     omega
    ·rw[es,if_pos (by rw[hn]),List.map_append,Int.zero_add]
     rfl
   ·rw[decide_eq_false hn]
    exact aq ⟨⟨_,rfl⟩,rfl,by rw[es,if_neg (fun z=>hn (Option.some.inj z)),List.append_nil]⟩
  rintro ys af H7 ⟨⟨v,rfl⟩,rfl,rfl⟩ B hB
  refine Zp ?_
  dsimp only[List.set]
  have Al:∀k∈j5 xs wd.toNat,xs[k]? =some .ae:=fun k hk=>MN hk
  have HP:=Uj xs wd.toNat
  generalize j5 xs wd.toNat=bs at Al HP
  have s1:=Zl (o:=.lst (bs.map fun(k:Nat)=>V.int (k:Int))) hB
  have e1:upd H7 B (.lst (bs.map fun(k:Nat)=>V.int (k:Int))) B=some (.lst (bs.map fun(k:Nat)=>V.int (k:Int))):=Zc
  generalize upd H7 B (.lst (bs.map fun(k:Nat)=>V.int (k:Int)))=H1 at s1 e1
  refine Zo ⟨_,rfl,Nat.zero_le _,fun E0 Ij=> ?_⟩
  have s2:=Zl (o:=.lst ([]:List V)) Ij
  have e2:upd H1 E0 (.lst ([]:List V)) E0=some (.lst []):=Zc
  generalize upd H1 E0 (.lst ([]:List V))=H2 at s2 e2
  have dk:=s1.trans s2
  refine⟨B,E0,_,rfl,rfl,aj.of (s2 _ _ e1),aj.of e2,_,rfl,?_⟩
  cases bs with
  |nil=>exact az (q _ dk.x (st.same dk))
  |cons k0 kr=>
   refine aq (ZJ ?_)
   dsimp only
   have au:=st.same dk
   have AR:=s2 _ _ e1
   have FX:B≠p:=fun z=>by rw[z,ep]at hB;cases hB
   have lb:((k0::kr).map fun(k:Nat)=>V.int (k:Int)).length=(k0::kr).length:=List.length_map ..
   refine Zo ⟨_,rfl,_,rfl,_,rfl,B,_,rfl,.inl (aj.of AR),p,_,rfl,au,by rw[lb,List.length_cons];omega,by rw[lb];omega,fun r o r0 r1 bt=> ?_⟩
   have x3:aN p H2 (upd H2 p o):=aN.upd
   generalize upd H2 p o=H3 at bt x3
   have IK:=x3 _ _ AR FX
   rw[lb]at r1
   have vU:(k0::kr)[r.toNat]? =some (k0::kr)[r.toNat]:=List.getElem?_eq_getElem (by omega)
   have hx:=Al _ (List.mem_of_getElem? vU)
   generalize (k0::kr)[r.toNat]=j at vU hx
   have cJ:da ((k0::kr).map fun(k:Nat)=>V.int (k:Int)) r=some (V.int (j:Int)):=by
    have:=ZL (xs:=(k0::kr).map fun(k:Nat)=>V.int (k:Int)) (j:=r.toNat) (v:=V.int (j:Int)) (by rw[List.getElem?_map,vU];rfl)
    rwa [Int.toNat_of_nonneg r0]at this
   refine⟨B,_,_,_,rfl,rfl,aj.of IK,cJ,Nat.zero_le _,fun L hL=> ⟨_,_,rfl,?_⟩⟩
   have s4:=Zl (o:=.lst ([]:List V)) hL
   have AQ:upd H3 L (.lst ([]:List V)) L=some (.lst []):=Zc
   generalize upd H3 L (.lst ([]:List V))=H4 at s4 AQ
   dsimp only[List.set]
   have hj:j<xs.length:=(List.getElem?_eq_some_iff.mp hx).1
   have lV:∀c o,H7 c=some o→c≠p→H4 c=some o:=fun c o h n=>s4 _ _ (x3 _ _ (dk _ _ h) n)
   have nt:∀{c:Addr}{zs:List V},H7 c=some (.tup zs)→c≠p:=fun {c zs} h z=>by rw[z,ep]at h;cases h
   have Dd:aN p H7 H4:=fun c o h n=>lV c o h n
   have cT:=bt.same s4
   have A0:bI H4 (.ref b) wd hg:=⟨ZB (lV _ _ hb (nt hb)),bd.2⟩
   have gn:=lV _ _ hl (nt hl)
   have Ia:=lV _ _ hR u5
   have EX:Paired (cH H4) ts (ao hg.toNat xs xs.length):=Paired.ba yS fun _ _ ⟨t,e,h⟩=> ⟨t,e,lV _ _ h (nt h)⟩
   refine Zo (ZD ⟨_,rfl,_,rfl,b,l,wd,hg,xs,rfl,A0,gn,ly,w6,g7,fun Pd H5 us s5 eT yR=> ?_⟩)
   have Qv:us.length=xs.length:=by rw[Paired.length yR,List.length_map,List.length_range]
   have vT:=List.getElem?_eq_getElem (l:=us) (i:=j) (by omega)
   obtain⟨k,hk,ta,eu,eta⟩:=Y8 yR vT
   rw[List.getElem?_map,List.getElem?_range hj]at hk
   have aS:dJ hg.toNat (ao hg.toNat xs xs.length) j=k:=Option.some.inj hk
   rw[eu]at vT
   refine⟨_,rfl,Pd,_,_,_,rfl,rfl,ag.of eT,ZL vT,Zp ?_⟩
   dsimp only[List.set]
   have KG:=A0.same s5
   have oo:=s5 _ _ gn
   have HV:=s5 _ _ (lV _ _ hb (nt hb))
   have told:∀m:Nat,m<hg.toNat→(aE (.int (m:Int)) (k.map V.int)=true↔dM hg xs j (m:Int)≠[]):=fun m hm=>by
    rw[K5,←aS,Ny ly (by omega) hx (by omega) (by omega)]
   refine Zo ⟨_,rfl,b,_,_,_,rfl,rfl,ag.of HV,jm,hg,rfl,by omega,by omega,?_⟩
   refine Yl (n:=hg.toNat) (fun m σ H'=> ∃x8 x9 L' ps,σ=[some (.ref p),some (.ref b),some (.ref l),some (.ref R),some (.ref B),some (.int (j:Int)),some (.ref L'),some (.ref ta),x8,x9]∧ah H5 H'∧H' L'=some (.lst ps)∧Paired (cH H') ps (kq hg xs j m)∧ps.length≤m*117649) ⟨_,_,L,[],rfl,ah.refl _,s5 _ _ AQ,.nil,Nat.zero_le _⟩ ?_ ?_
   ·rintro m σ H6 hm ⟨x8,x9,L',ps,rfl,s6,eL,pr,bF⟩
    rw[Int.zero_add]
    refine Zp ?_
    dsimp only[List.set]
    refine Zo (ZD ⟨Nat.zero_le _,fun S0 HZ=>Zp ?_⟩)
    dsimp only[List.set]
    have k1:=Zl (o:=.lst ([]:List V)) HZ
    have eS:upd H6 S0 (.lst ([]:List V)) S0=some (.lst []):=Zc
    generalize upd H6 S0 (.lst ([]:List V))=H8 at k1 eS
    have s8:=s6.trans k1
    have vP:=s8 _ _ oo
    refine U.T.lq (fun af H'=> ∃S zs,af=[some (.ref p),some (.ref b),some (.ref l),some (.ref R),some (.ref B),some (.int (j:Int)),some (.ref L'),some (.ref ta),some (.int (m:Int)),some (.ref S)]∧ah H8 H'∧H' S=some (.lst zs)∧Paired (cH H') zs (dM hg xs j (m:Int))) ?_ fun D' nx=> ?_
    ·rintro af H9 ⟨S,zs,rfl,s9,AN,uS⟩
     have yH:=s8.trans s9
     have Qu:zs.length≤117649:=by rw[Paired.length uS];exact Ni g7 (by omega)
     refine Zo ⟨_,rfl,_,rfl,ta,k.map V.int,rfl,.inr (ag.of (yH _ _ eta)),rfl,MY k,_,rfl,Nat.zero_le _,fun E1 Ii=> ?_⟩
     have k2:=Zl (o:=.lst ([]:List V)) Ii
     have eE:upd H9 E1 (.lst ([]:List V)) E1=some (.lst []):=Zc
     generalize upd H9 E1 (.lst ([]:List V))=r8 at k2 eE
     refine⟨S,E1,zs,rfl,rfl,aj.of (k2 _ _ AN),aj.of eE,rfl,_,rfl,?_⟩
     have ev:(!decide (V.bl (if false=true then !aE (.int (m:Int)) (k.map V.int) else aE (.int (m:Int)) (k.map V.int))=V.bl (!zs.isEmpty)))=false:=by
      rw[if_neg Bool.false_ne_true]
      have t:=told m hm
      have ze:zs.isEmpty=true↔dM hg xs j (m:Int)=[]:=by
       rw[List.isEmpty_iff]
       have:=Paired.length uS
       constructor
       ·intro z;rw[z]at this;exact List.eq_nil_of_length_eq_zero this.symm
       ·intro z;rw[z]at this;exact List.eq_nil_of_length_eq_zero this
      cases h1:aE (.int (m:Int)) (k.map V.int)<;>cases h2:zs.isEmpty<;>simp_all
     rw[ev]
     refine aq (ZJ ?_)
     dsimp only
     have IJ:=k2 _ _ (s9 _ _ (k1 _ _ eL))
     have Eu:=yH.trans k2
     refine ZD ⟨_,rfl,_,rfl,L',S,ps,zs,rfl,rfl,IJ,k2 _ _ AN,by rw[sizeLine_eq];omega,fun L2 oM=>Zp ?_⟩
     dsimp only[List.set]
     have k3:=Zl (o:=.lst (ps++zs)) oM
     refine⟨_,_,L2,ps++zs,rfl,Eu.trans k3,Zc,?_,by rw[List.length_append];omega⟩
     rw[O1]
     exact Jz (Paired.ba pr fun _ _ h=>h.same (k1.trans (s9.trans (k2.trans k3)))) (Paired.ba uS fun _ _ h=>h.same (k2.trans k3))
    ·refine⟨_,rfl,_,rfl,l,xs,rfl,.inr (ag.of vP),rfl,YI ly,_,rfl,?_⟩
     show if (!aE (.int (m:Int)) xs)=true then _ else _
     cases jb:aE (.int (m:Int)) xs with
     |true=>
      refine aq (nx _ _ ⟨S0,[],rfl,ah.refl _,eS,?_⟩)
      unfold dM
      rw[if_pos jb]
      exact .nil
     |false=>
      refine az (ZD ⟨_,rfl,_,rfl,_,rfl,_,rfl,l,xs,rfl,vP,fun c1 J1 q1 f1=> ⟨_,rfl,(by show 1≤sizeLine;decide),fun c2 fM=> ?_⟩⟩)
      rw[Bg hj]at f1
      have q2:=Zl (o:=.tup [V.int (m:Int)]) fM
      refine Wg (q2 _ _ f1) Zc (by rw[List.length_take];simp;omega) fun c3 J3 q3 f3=> ?_
      have Hs:=q3 _ _ (q2 _ _ (q1 _ _ vP))
      refine⟨_,rfl,_,rfl,_,_,rfl,rfl,_,rfl,l,xs,rfl,Hs,fun c4 J4 q4 f4=> ?_⟩
      rw[B8 hj]at f4
      refine Wg (q4 _ _ f3) f4 (by rw[List.length_append,List.length_take,List.length_drop];simp;omega) fun c5 J5 q5 f5=> ?_
      rw[ML hj]at f5
      have sA:=q1.trans (q2.trans (q3.trans (q4.trans q5)))
      refine⟨b,c5,wd,hg,_,rfl,KG.same (s8.trans sA),f5,Jt ly hx (by omega) (by omega) jb,w6,g7,fun q' J6 zs q6 _ f6 yQ=>Zp ?_⟩
      dsimp only[List.set]
      refine nx _ _ ⟨q',zs,rfl,sA.trans q6,f6,?_⟩
      unfold dM
      rw[if_neg (by rw[jb];exact Bool.false_ne_true)]
      rw[List.length_set]at yQ
      exact yQ
   ·rintro σ H6 ⟨x8,x9,L',ps,rfl,s6,eL,pr,bF⟩
    have EW:=JM pr fun b hb=>by
     obtain⟨k,_,hb⟩:=List.mem_flatMap.mp hb
     exact Og b hb
    have pm:=OK ly (by omega) hx
    have fu:(ao hg.toNat xs xs.length).length≤117649:=JR (by omega) _ (by omega)
    have lp:ps.length=(ao hg.toNat xs xs.length).length:=by rw[Paired.length pr,pm.length_eq]
    refine⟨_,rfl,L',ps,_,rfl,aj.of eL,EW,?_,by omega,fun L2 dY gP oM pk sk qA=> ?_⟩
    ·intro k hk
     exact BB (by omega) k ((pm.map intsOf).mem_iff.mp hk)
    have ek:=xo sk (ZW hg.toNat xs xs.length) (pk.trans (pm.map intsOf))
    subst ek
    have k3:=Zl (o:=.lst dY) oM
    have ke:=s5.trans (s6.trans k3)
    refine⟨_,rfl,L2,R,dY,ts,_,rfl,rfl,aj.of Zc,aj.of (ke _ _ Ia),Paired.ba qA fun _ _ h=>h.same k3,JM (Paired.ba EX fun _ _ h=>h.same ke) Z7,?_⟩
    exact q _ (Dd.trans ke.x) (cT.same ke)
end
theorem Of {X:Cx}{f:Value→Value→Sem Value}{r1 r2:R2}(h1:aR X f r1) (h2:aR X f r2):aR X f (fun x y H Q=>r1 x y H Q∨r2 x y H Q):=fun pins s σ H x y v u Q I rx ry h=>h.elim (h1 pins s σ H x y v u Q I rx ry) (h2 pins s σ H x y v u Q I rx ry)
section
variable {P:Program}{w:World}{K:PySem.W.Frag}{mg:Str→Option Value}{base:Heap}
abbrev uu:Stmt:=top 52
def tM (K:PySem.W.Frag):Sp:=fun vs H Q _=> ∃(a:Addr) (ns:List Int),vs=[.ref a]∧fQ K H a ns∧ns.length≤63∧∀H',Q (.bl true) H'
abbrev FU:List Str:=["_law_script", "_law_k", "_law_state_here", "_law_board", "_law_lay_here", "_law_rows", "_law_row", "_law_have", "_law_paper"]
theorem iX:aX FU ["_law_script"] (aM uu):=⟨rfl,rfl,rfl,by decide+kernel,rfl,by decide+kernel,by decide+kernel⟩
structure Wk (b l R:Addr) (wd hg:Int) (xs ts:List V) (H:Hp):Prop where
 bd:bI H (.ref b) wd hg
 hl:H l=some (.tup xs)
 hR:H R=some (.lst ts)
 pr:Paired (cH H) ts (ao hg.toNat xs xs.length)
theorem Wk.same {b l R:Addr}{wd hg:Int}{xs ts:List V}{H H':Hp}(W:Wk b l R wd hg xs ts H) (s:ah H H'):Wk b l R wd hg xs ts H':=⟨W.bd.same s,s _ _ W.hl,s _ _ W.hR,Paired.ba W.pr fun _ _ h=>h.same s⟩
theorem Wk.x {b l R p:Addr}{wd hg:Int}{xs ts:List V}{H H':Hp}(W:Wk b l R wd hg xs ts H) (st:bM H p) (n:R≠p) (s:aN p H H'):Wk b l R wd hg xs ts H':=by
 obtain⟨u,v,e,_⟩:=st
 have kp:∀c ys,H c=some (.tup ys)→H' c=some (.tup ys):=fun c ys h=>s c _ h (fun z=>by rw[z,e]at h;cases h)
 obtain⟨b',eb,hb⟩:=Zv W.bd.1
 cases eb
 exact⟨⟨ZB (kp _ _ hb),W.bd.2⟩,kp _ _ W.hl,s _ _ W.hR n,Paired.ba W.pr fun _ _ ⟨t,e,h⟩=> ⟨t,e,kp _ _ h⟩⟩
theorem Fi {f:Addr}{fd:FuncData}(F:aO K "law" "law" uu f fd) (G:Gs mg)
  (Pm:Def P w K mg base 2 "_law_state" ["_law_script", "_law_k"] (tD K)) (Pn:Def P w K mg base 4 "_law_small" ["_law_state_here"] tE) (ip:Def P w K mg base 13 "all_fits" ["board", "lay"] kc) (PB:Def P w K mg base 14 "fits_many" ["board", "lay"] tQ) (PF:Def P w K mg base 14 "first_fit" ["board", "lay"] tR)
  (xP:Def P w K mg base 5 "is_lay" ["board", "thing"] (p7 K)) (pF:Def P w K mg base 11 "is_unlike" ["board", "lay"] mW) (Po:Def P w K mg base 15 "_law_parts_right" ["_law_state_here", "_law_board", "_law_lay_here", "_law_rows"] tI) (Pl:Def P w K mg base 15 "sure" ["board", "lay"] tF)
  (Pq:Def P w K mg base 21 "paper_for" ["board", "lay"] tJ) (Pr:Def P w K mg base 29 "is_paper" ["board", "lay", "thing"] (lE 8)):aL P w K mg base aJ 30 f fd ["_law_script"] (tM K):=by
 refine F.ok iX (fun vs H Q E h=> ?_) (fun ar A outer s H vs Q E hr h=> ?_)
 ·obtain⟨a,ns,rfl,_⟩:=h
  rfl
 ·obtain⟨a,ns,rfl,yt,vM,q⟩:=h
  have hu:=UU hr
  have kE:=Nat.lt_of_succ_lt hu
  refine⟨_,Ze (YQ PassesOwn.never rfl (ZP rfl G.range (Za (Zq (U8 rfl) rfl G.max boot_max (Za Zh (Za (Zq (U7 rfl) rfl G.min boot_min (Za (Zq Zy rfl G.len boot_len (Za (pv 0) Zb)) (Za Zh Zb))) Zb))) Zb)) (Zs (i:=1) iX.nd rfl (Or.inl rfl))
   (Ze (Zx (i:=2) iX.nd rfl (Or.inl rfl) (Zf Pm (hr.mono (by decide)) (Za (pv 0) (Za (pv 1) Zb))))
   (Ze (Je (Zf Pn (hr.mono (by decide)) (Za (pv 2) Zb)) (Yd rfl (Zk (Zs (i:=3) iX.nd rfl (Or.inl rfl)) (Zk (Zs (i:=4) iX.nd rfl (Or.inr rfl)) ZU))))
   (Ze (Zx (i:=5) iX.nd rfl (Or.inl rfl) (Zf ip (hr.mono (by decide)) (Za (pv 3) (Za (pv 4) Zb))))
   (Ze (ZK (PW.pt (JJ (Zn pe (Zf PB (hr.mono (by decide)) (Za (pv 3) (Za (pv 4) Zb))) (Zq Zy rfl G.len boot_len (Za (pv 5) Zb)) (aY _)) (Jd (Zn (Of pe (Lj kE)) (Zf PF (hr.mono (by decide)) (Za (pv 3) (Za (pv 4) Zb))) (Zw Z6 (Zt Bs (pv 5) (ZT (Za ZY Zb))) Zh (fun _ _=>rfl)) (aY _))))) ZO Zr)
   (Ze (YQ PassesOwn.never rfl (Ya (Yi Ct (pv 5) Yw (Yv Zh))) (Zs (i:=6) iX.nd rfl (Or.inr rfl))
    (Ze (ZK (PW.pt (JJ (Zn UL ZY (pv 6) rfl) (JJ (Zn xl (Zf xP (hr.mono (by decide)) (Za (pv 3) (Za (pv 6) Zb))) YV (aY _)) (Jd (Zn xl (Zf pF (hr.mono (by decide)) (Za (pv 3) (Za (pv 6) Zb))) YV (aY _)))))) ZO Zr)
    (Zi (ZK (Zn (rP kE) (Yb ["_law_line", "_law_lay_here", "_law_row"] 1 [4,6] (ZP rfl G.range (Za (Zw Zz (pv 3) Zh (fun _ _=>rfl)) Zb)) (fun C s H fp=>pb 0)
     (fun C s H fp=>Yu (Zn (show aR (aI _ _ _ C s H fp) (compareOp .NotIn) (nC K true) from Z4) (Zw (show jr (aI _ _ _ C s H fp) (ki K) from Zz) (pv 1) (pv 0) (fun _ _=>rfl)) (ZF (Za ZY (Za (Zw (show jr (aI _ _ _ C s H fp) (ki K) from Zz) (pv 2) (pv 0) (fun _ _=>rfl)) Zb))) rfl)) (fun C s H fp D=>cz rfl (pv 0))) (ZT Zb) (aY _)) ZO Zr))))
   (Ze (ZK (Zn (BM hu) (Zf ip (hr.mono (by decide)) (Za (pv 3) (Za (BO (pv 4)) Zb))) (Zq JU rfl G.sorted boot_sorted (Za (Yb ["_law_row"] 1 [] (Ya (pv 5)) (fun C s H fp=>pb 0) (fun C s H fp=>Z1) (fun C s H fp D=>cz rfl (show PE (aI _ _ _ C s H fp) _ (yf K _) from BO (pv 0)))) Zb)) (aY _)) ZO Zr)
   (Ze (ZK (Y2 (Yp (Zf Po (hr.mono (by decide)) (Za (pv 2) (Za (pv 3) (Za (pv 4) (Za (pv 5) Zb))))))) ZO Zr)
   (Ze (Zx (i:=7) iX.nd rfl (Or.inl rfl) (Zf Pl (hr.mono (by decide)) (Za (pv 3) (Za (pv 4) Zb))))
   (Ze (ZK (PW.pt (JJ (Zn pe (WK (Jx (pv 7))) (Z2 (WO kE) (pv 5) (ZT Zb) (aY _)) (aY _)) (Jd (PW.pt (JZ (YD (YK (pv 7))) (Jp (Zn (BM hu) (Zf ip (hr.mono (by decide)) (Za (pv 3) (Za (pv 7) Zb))) (pv 5) (aY _)))))))) ZO Zr)
   (Ze (Zx (i:=8) iX.nd rfl (Or.inl rfl) (Zf Pq (hr.mono (by decide)) (Za (pv 3) (Za (pv 4) Zb))))
   (Zi (ZK (PW.pt (JJ (Zn pe (WK (Jx (pv 8))) (Z2 (rP kE) (pv 5) (ZT Zb) (aY _)) (aY _)) (Jd (PW.pt (JZ (YD (YK (pv 8))) (Jp (Zn xl (Zf Pr hr (Za (pv 3) (Za (pv 4) (Za (pv 8) Zb)))) YV (aY _)))))))) ZO Zr)))))))))))))
   (Zi (Zm YV)),?_⟩
  refine Zo ?_
  refine⟨_,rfl,a,_,rfl,.inl yt.sq,_,_,rfl,_,_,rfl,_,rfl,(by rw[List.length_map];split<;>split<;>omega),(by rw[List.length_map];split<;>split<;>omega),?_⟩
  refine Yl (fun i σ H'=> ∃s1 s2 s3 s4 s5 s6 s7 s8,σ=[some (.ref a),s1,s2,s3,s4,s5,s6,s7,s8]∧fQ K H' a ns) ⟨_,_,_,_,_,_,_,_,rfl,yt⟩ ?_ ?_
  case refine_2=>
   rintro σ H' _
   exact q H'
  rintro i σ H0 hi ⟨q1,q2,q3,q4,q5,q6,q7,q8,rfl,sc⟩
  rw[Int.zero_add]
  refine Zp ?_
  dsimp only[List.set]
  refine Zo (ZD ⟨_,rfl,_,rfl,a,ns,i,rfl,sc.sq,fun p H1 np k1 aw=>Zp ?_⟩)
  dsimp only[List.set]
  have yE:=sc.same k1
  refine Zo (ZD ⟨_,rfl,p,rfl,aw,fun t b l wd hg xs H2 x2 au et bd hl ly w6 g7=> ?_⟩)
  refine⟨t,_,rfl,ag.of et,rfl,_,_,rfl,_,_,rfl,rfl,?_⟩
  dsimp only[List.set]
  obtain⟨u1,v1,AK,_⟩:=id aw
  have yC:=yE.x x2 AK (fun _ _ z=>by cases z)
  refine Zo (ZD ⟨_,rfl,_,rfl,b,l,wd,hg,xs,rfl,bd,hl,ly,w6,g7,fun R H3 ts k3 nR eR pr=>Zp ?_⟩)
  dsimp only[List.set]
  have W3:Wk b l R wd hg xs ts H3:=⟨bd.same k3,k3 _ _ hl,eR,pr⟩
  have bt:=au.same k3
  have Ek:=yC.same k3
  have u5:R≠p:=fun z=>by
   obtain⟨u,v,e,_⟩:=id au
   rw[z,e]at nR
   cases nR
  obtain⟨_,w1,Dg,g1,wm⟩:=id bd
  have hlen:=ly.len
  have h0:0≤hg:=by omega
  have gN:=Paired.length pr
  have fu:(ao hg.toNat xs xs.length).length≤117649:=JR (by omega) _ (by omega)
  have emp:ts.isEmpty=true↔ao hg.toNat xs xs.length=[]:=by
   rw[List.isEmpty_iff]
   constructor
   ·intro z;rw[z]at gN;exact List.eq_nil_of_length_eq_zero gN.symm
   ·intro z;rw[z]at gN;exact List.eq_nil_of_length_eq_zero gN
  clear pr k3 nR eR bd hl au yC yE sc et x2 AK
  refine U.T.lq (fun af H'=>af=[some (.ref a),some (.int (i:Int)),some (.ref p),some (.ref b),some (.ref l),some (.ref R),q6,q7,q8]∧ah H3 H') ?_ fun D' nx=> ?_
  rotate_left
  ·refine⟨_,rfl,_,rfl,b,l,wd,hg,xs,rfl,W3.bd,W3.hl,ly,w6,g7,fun H4 k4=> ?_⟩
   have W4:=W3.same k4
   refine⟨_,rfl,R,ts,rfl,.inl (aj.of W4.hR),rfl,_,rfl,?_⟩
   rw[show(!decide (V.int ((ao hg.toNat xs xs.length).length:Int)=V.int (ts.length:Int)))=false by rw[gN];simp]
   refine aq ⟨_,rfl,_,rfl,b,l,wd,hg,xs,rfl,W4.bd,W4.hl,ly,w6,g7,fun v H5 k5 hv=> ?_⟩
   have W5:=W4.same k5
   refine⟨_,rfl,(by show 1≤sizeLine;decide),fun N hN=> ?_⟩
   have k6:=Zl (o:=.lst [V.ae]) hN
   have W6:=W5.same k6
   refine⟨R,N,ts,[V.ae],rfl,rfl,W6.hR,Zc,by rw[gN,sizeLine_eq];simp;omega,fun M hM=> ?_⟩
   have k7:=Zl (o:=.lst (ts++[V.ae])) hM
   have W7:=W6.same k7
   have kk:=k4.trans (k5.trans (k6.trans k7))
   rcases hv with ⟨e0,rfl⟩ |⟨k,hk,hv⟩
   ·have:ts=[]:=List.isEmpty_iff.mp (emp.mpr e0)
    refine⟨M,_,_,_,rfl,rfl,aj.of Zc,(by rw[this];rfl:da (ts++[V.ae]) 0=some .ae),.inl ⟨rfl,_,rfl,?_⟩⟩
    exact aq (nx _ _ ⟨rfl,kk⟩)
   ·have h1:=(List.getElem?_eq_some_iff.mp hk).1
    have hy:=List.getElem?_eq_getElem (l:=ts) (i:=0) (by omega)
    obtain⟨k',aS,t0,ey,e0⟩:=Y8 W7.pr hy
    rw[ey]at hy
    rw[hk]at aS
    cases aS
    obtain⟨t1,rfl,e1⟩:=hv
    obtain⟨ks,rfl⟩:=Z7 k (List.mem_of_getElem? hk)
    have cJ:da (ts++[V.ae]) ((0:Nat):Int)=some (.ref t0):=ZL (by rw[List.getElem?_append_left (by omega)];exact hy)
    refine⟨M,_,_,_,rfl,rfl,aj.of Zc,cJ,.inr ⟨t1,t0,_,_,rfl,rfl,k7 _ _ (k6 _ _ e1),e0,BI ks,BI ks,_,rfl,?_⟩⟩
    rw[show xor true (decide (ks.map V.int=ks.map V.int))=false by simp]
    exact aq (nx _ _ ⟨rfl,kk⟩)
  rintro af H4 ⟨rfl,k4⟩
  have W4:=W3.same k4
  have cT:=bt.same k4
  have Ej:=Ek.same k4
  refine U.T.lq (fun af H'=> ∃x6,af=[some (.ref a),some (.int (i:Int)),some (.ref p),some (.ref b),some (.ref l),some (.ref R),x6,q7,q8]∧ah H4 H') ?_ fun D' nx=> ?_
  rotate_left
  ·refine⟨_,rfl,_,rfl,R,_,rfl,aj.of W4.hR,fun d1 fK=> ⟨d1,rfl,⟨_,aj.of Zc⟩,?_⟩⟩
   have m1:=Zl (o:=.lst (bH ts none (some 12))) fK
   have ed:upd H4 d1 (.lst (bH ts none (some 12))) d1=some (.lst (bH ts none (some 12))):=Zc
   generalize upd H4 d1 (.lst (bH ts none (some 12)))=H6 at m1 ed
   refine Ud (xs:=bH ts none (some 12)) (fun j σ H'=> ∃x6,σ=[some (.ref a),some (.int (i:Int)),some (.ref p),some (.ref b),some (.ref l),some (.ref R),x6,q7,q8]∧ah H6 H') ⟨_,rfl,ah.refl _⟩ (fun j σ H' _ ⟨_,_,s'⟩=>aj.of (s' _ _ ed)) ?_ ?_
   ·rintro j y σ H7 hy ⟨x6,rfl,s7⟩
    have m7:=m1.trans s7
    have W7:=W4.same m7
    obtain⟨j',oz⟩:=List.getElem?_of_mem (List.mem_of_mem_drop (List.mem_of_mem_take (List.mem_of_getElem? hy)))
    obtain⟨c,hc,t0,rfl,e0⟩:=Y8 W7.pr oz
    have ft:=Ue ly h0 (List.mem_of_getElem? hc)
    have qM:=Bw ly ft
    have nn:aE .ae c=false:=by
     cases hh:aE .ae c with
     |false=>rfl
     |true=>
      obtain⟨r,e,_⟩:=ft.2.2 _ _ (Uk hh).1
      cases e
    refine Zp ?_
    dsimp only[List.set]
    refine Zo ⟨_,rfl,t0,c,rfl,.inr (ag.of e0),rfl,YI qM,_,rfl,?_⟩
    rw[show(if false=true then !aE .ae c else aE .ae c)=false by rw[if_neg Bool.false_ne_true];exact nn]
    refine aq ⟨_,rfl,_,rfl,.ref b,.ref t0,wd,hg,rfl,W7.bd,dW.pl ⟨W7.bd,ZB e0,qM⟩,fun H8 m8=> ?_⟩
    have W8:=W7.same m8
    rw[ZB e0,qM.is]
    refine⟨_,_,rfl,rfl,_,rfl,aq ?_⟩
    refine⟨_,rfl,_,rfl,.ref b,.ref t0,wd,hg,c,rfl,⟨W8.bd,ZB (m8 _ _ e0),qM⟩,by omega,fun H9 r m9 fi=> ?_⟩
    have un:r.isNone=true:=by
     rw[rR fi]
     exact(Z0 _).mpr (ZE.mp ft.2.1).2
    rw[un]
    refine⟨_,_,rfl,rfl,_,rfl,aq (ZJ ?_)⟩
    dsimp only
    have lS:=m8.trans m9
    have W9:=W7.same lS
    have e9:=lS _ _ e0
    obtain⟨b',eb,hb⟩:=Zv W9.bd.1
    cases eb
    refine⟨_,rfl,b,_,_,_,rfl,rfl,ag.of hb,jn,wd,rfl,by omega,by omega,?_⟩
    refine YF (n:=wd.toNat) (fun m ys af H'=> (∃v,af=[v,some (.ref l),some (.ref t0)])∧ah H9 H'∧ys=[]) ⟨⟨_,rfl⟩,ah.refl _,rfl⟩ ?_ ?_
    ·rintro m ys af r8 hm ⟨⟨v,rfl⟩,gH,rfl⟩
     have om:m<wd.toNat:=hm
     have l7:m<xs.length:=by omega
     have qS:=List.getElem?_eq_getElem l7
     have cJ:=ZL qS
     rw[←Int.zero_add (m:Int)]at cJ
     have zV:m<c.length:=by rw[←ft.1.1];exact l7
     obtain⟨r,er,_⟩:=ft.2.2 m _ (List.getElem?_eq_getElem zV)
     have mz:c[m]? =some (.int r):=by rw[List.getElem?_eq_getElem zV,er]
     have Am:=ZL mz
     rw[←Int.zero_add (m:Int)]at Am
     refine⟨_,rfl,_,rfl,l,_,_,_,rfl,rfl,ag.of (gH _ _ W9.hl),cJ,_,rfl,_,rfl,t0,_,_,_,rfl,rfl,ag.of (gH _ _ e9),Am,(by show 2≤sizeLine;decide),fun d2 hd2=> ?_⟩
     have m2:=Zl (o:=.tup [V.ae,V.int r]) hd2
     refine⟨d2,_,rfl,.inr (ag.of Zc),?_,rfl,_,rfl,?_⟩
     ·rcases ly.ok _ (List.getElem_mem l7) with z |⟨r',z⟩<;>rw[z]<;>rfl
     have Dh:aE xs[m] [V.ae,V.int r]=true:=by
      rcases ft.1.2 m _ qS with z |z
      ·rw[z];rfl
      ·rw[mz]at z
       rw[←Option.some.inj z]
       exact YZ (by simp)
     rw[if_pos rfl,Dh]
     exact aq ⟨⟨_,rfl⟩,gH.trans m2,rfl⟩
    ·rintro ys af r8 ⟨⟨v,rfl⟩,gH,rfl⟩ d3 rf
     have m3:=Zl (o:=.lst ([]:List V)) rf
     refine⟨Nat.zero_le _,fun d4 HG=> ?_⟩
     have m4:=Zl (o:=.lst ([]:List V)) HG
     refine⟨d3,d4,[],rfl,rfl,aj.of (m4 _ _ Zc),aj.of Zc,_,rfl,aq ?_⟩
     exact ZJ ⟨_,rfl,s7.trans (lS.trans (gH.trans (m3.trans m4)))⟩
   ·rintro σ H7 ⟨x6,rfl,s7⟩
    exact nx _ _ ⟨_,rfl,m1.trans s7⟩
  rintro af H5 ⟨x6,rfl,k5⟩
  have W5:=W4.same k5
  have cP:=cT.same k5
  have Ei:=Ej.same k5
  refine Zo ⟨_,rfl,_,rfl,l,xs,rfl,ag.of W5.hl,fun d1 fK=> ?_⟩
  have m1:=Zl (o:=.tup xs.reverse) fK
  have e1:upd H5 d1 (.tup xs.reverse) d1=some (.tup xs.reverse):=Zc
  generalize upd H5 d1 (.tup xs.reverse)=H6 at m1 e1
  have W6:=W5.same m1
  refine⟨b,d1,wd,hg,xs.reverse,rfl,W6.bd,e1,BD ly,w6,g7,fun R2 H7 us m7 _ AO bU=> ?_⟩
  have W7:=W6.same m7
  refine⟨_,rfl,R,rfl,⟨_,aj.of W7.hR⟩,?_⟩
  refine Z5 (xs:=ts) (fun j ys af H'=> (∃v,af=[v])∧ah H7 H'∧Paired (bg H') ys (((ao hg.toNat xs xs.length).take j).map fun c=>intsOf c.reverse)∧ys.length=j) ⟨⟨_,rfl⟩,ah.refl _,.nil,rfl⟩ (fun j ys af H' _ ⟨_,s',_⟩=>aj.of (s' _ _ W7.hR)) ?_ ?_
  ·rintro j y ys af H8 hy ⟨⟨v,rfl⟩,s8,pz,lz⟩
   obtain⟨c,hc,t0,rfl,e0⟩:=Y8 W7.pr hy
   refine⟨_,rfl,t0,c,rfl,ag.of (s8 _ _ e0),fun d2 hd2=> ?_⟩
   have m2:=ZG (o:=.tup c.reverse) hd2
   refine⟨by rw[lz,sizeLine_eq];have:=(List.getElem?_eq_some_iff.mp hy).1;omega,⟨_,rfl⟩,s8.trans m2,?_,by rw[List.length_append,lz];rfl⟩
   rw[List.take_add_one,hc,List.map_append]
   refine Paired.snoc (Paired.ba pz fun _ _ h=>h.same m2) ⟨d2,rfl,?_⟩
   obtain⟨ks,rfl⟩:=Z7 c (List.mem_of_getElem? hc)
   show _=some (HO.tup ((intsOf (ks.map V.int).reverse).map V.int))
   rw[←List.map_reverse,Jh]
   exact Zc
  rintro ys af H8 ⟨⟨v,rfl⟩,s8,pz,lz⟩ d2 hd2
  have m2:=Zl (o:=.lst ys) hd2
  have e2:upd H8 d2 (.lst ys) d2=some (.lst ys):=Zc
  generalize upd H8 d2 (.lst ys)=H9 at m2 e2
  rw[gN,List.take_length]at pz
  have pm:=L1 ly h0
  have lS:=s8.trans m2
  have em:((ao hg.toNat xs xs.length).map fun c=>intsOf c.reverse)=((ao hg.toNat xs xs.length).map List.reverse).map intsOf:=(List.map_map ..).symm
  refine⟨d2,ys,_,rfl,aj.of e2,Paired.ba pz fun _ _ h=>h.same m2,?_,by omega,fun d3 dY gP rf pk sk qA=> ?_⟩
  ·intro k hk
   rw[em]at hk
   have:=(pm.map intsOf).mem_iff.mp hk
   exact BB (by rw[List.length_reverse];omega) k this
  rw[em]at pk
  have ek:=xo sk (ZW hg.toNat xs.reverse xs.reverse.length) (pk.trans (pm.map intsOf))
  subst ek
  have m3:=Zl (o:=.lst dY) rf
  have mA:=lS.trans m3
  refine⟨R2,d3,us,dY,_,rfl,rfl,aj.of (mA _ _ AO),aj.of Zc,JM (Paired.ba bU fun _ _ h=>h.same mA) Z7,Paired.ba qA fun _ _ h=>h.same m3,_,rfl,aq (ZJ ?_)⟩
  dsimp only
  have k9:=m1.trans (m7.trans mA)
  generalize upd H9 d3 (.lst dY)=r8 at k9
  have pf:=W5.same k9
  have lC:=cP.same k9
  have En:=Ei.same k9
  clear m1 e1 W6 m7 AO bU W7 s8 pz lz hd2 m2 e2 lS em pk sk rf qA m3 mA fK k9
  refine Zo ⟨_,rfl,_,rfl,_,rfl,_,rfl,p,b,l,R,wd,hg,xs,ts,rfl,lC,pf.bd,pf.hl,ly,w6,g7,pf.hR,pf.pr,fun Pk xZ Qh=> ⟨_,rfl,aq (ZJ ?_)⟩⟩
  dsimp only
  have xw:=pf.x lC u5 xZ
  obtain⟨u2,v2,ID,_⟩:=id lC
  have Em:=En.x xZ ID (fun _ _ z=>by cases z)
  refine Zo (ZD ⟨_,rfl,_,rfl,b,l,wd,hg,xs,rfl,xw.bd,xw.hl,ly,w6,g7,fun v Pj zv hv=>Zp ?_⟩)
  dsimp only[List.set]
  have CV:=xw.same zv
  refine U.T.lq (fun af H'=>af=[some (.ref a),some (.int (i:Int)),some (.ref p),some (.ref b),some (.ref l),some (.ref R),x6,some v,q8]∧ah Pj H') ?_ fun D' nx=> ?_
  rotate_left
  ·refine⟨_,rfl,_,rfl,Nat.zero_le _,fun d1 fK=> ?_⟩
   have m1:=Zl (o:=.lst ([]:List V)) fK
   have kS:=CV.same m1
   refine⟨R,d1,ts,rfl,rfl,aj.of kS.hR,aj.of Zc,rfl,_,rfl,?_⟩
   rcases hv with ⟨e0,rfl⟩ |⟨ne,T0,rfl,eT⟩
   ·rw[emp.mpr e0]
    exact aq ⟨_,rfl,_,rfl,aq (aq (nx _ _ ⟨rfl,m1⟩))⟩
   ·have:ts.isEmpty=false:=by cases hh:ts.isEmpty<;>simp_all
    rw[this]
    obtain⟨qN,eS⟩:=NV ly h0 ne
    refine aq ⟨_,rfl,_,rfl,az ?_⟩
    refine⟨_,rfl,_,rfl,b,T0,wd,hg,_,rfl,kS.bd,m1 _ _ eT,qN,w6,g7,fun R3 Ph us zp _ e14 bw=> ?_⟩
    rw[Jb,eS]at bw
    have rT:=kS.same zp
    exact⟨_,rfl,R3,R,us,ts,_,rfl,rfl,aj.of e14,aj.of rT.hR,JM bw Z7,JM rT.pr Z7,_,rfl,aq (nx _ _ ⟨rfl,m1.trans zp⟩)⟩
  rintro af QU ⟨rfl,zu⟩
  have kS:=CV.same zu
  have El:=Em.same (zv.trans zu)
  refine Zo (ZD ⟨_,rfl,_,rfl,b,l,wd,hg,xs,rfl,kS.bd,kS.hl,ly,w6,g7,fun u Ph zt hp=>Zp ?_⟩)
  dsimp only[List.set]
  have rT:=kS.same zt
  have yD:=El.same zt
  refine⟨_,rfl,_,rfl,Nat.zero_le _,fun d1 fK=> ?_⟩
  have m1:=Zl (o:=.lst ([]:List V)) fK
  have xv:=rT.same m1
  refine⟨R,d1,ts,rfl,rfl,aj.of xv.hR,aj.of Zc,rfl,_,rfl,?_⟩
  rcases hp with ⟨rfl,hf⟩ |⟨tr,hT,hP⟩
  ·have ne:=MX hf
   have:ts.isEmpty=false:=by cases hh:ts.isEmpty<;>simp_all
   rw[this]
   exact aq ⟨_,rfl,_,rfl,aq (aq (ZJ ⟨_,_,_,_,_,_,_,_,rfl,yD.same m1⟩))⟩
  ·have e0:=MW ly h0 hP
   obtain⟨t0,rfl⟩:∃t0,u=.ref t0:=by
    cases tr with
    |iC a b' c d=>obtain⟨p,rfl,_⟩:=hT;exact⟨_,rfl⟩
    |gF i=>obtain⟨p,rfl,_⟩:=hT;exact⟨_,rfl⟩
    |cases i ts=>obtain⟨p,_,_,rfl,_⟩:=hT;exact⟨_,rfl⟩
   rw[emp.mpr e0]
   refine aq ⟨_,rfl,_,rfl,az ?_⟩
   refine⟨_,rfl,_,rfl,_,rfl,b,l,.ref t0,wd,hg,xs,rfl,xv.bd,xv.hl,ly,by omega,tr,bZ.same m1 hT,fun QT Gd=> ?_⟩
   rw[hP]
   exact⟨_,_,rfl,rfl,_,rfl,aq (ZJ ⟨_,_,_,_,_,_,_,_,rfl,yD.same (m1.trans Gd)⟩)⟩
end
end U.S
namespace U
open PySem L2 PyProof.Rows PySem.Spec
abbrev wk:List Str:=["isinstance", "int", "bool", "tuple", "list", "len", "all", "set", "range", "max", "min", "enumerate", "zip", "sorted"]
section
variable {P:Program}{w:World}{K:PySem.W.Frag}{mg:Str→Option Value}{base:Heap}
theorem KR {h:Heap}{t0:Tok}{t1:Tok}{t2:Tok}(KX:K.In h) (G:h.Ns mainGlobals mg) (e:wk.all (qH K)=true) (c0:PySem.W.nsIn K mainGlobals "LONGEST_SIDE" =some (some (.int 12 t0))) (c1:PySem.W.nsIn K mainGlobals "MOST_WIDE" =some (some (.int 6 t1))) (c2:PySem.W.nsIn K mainGlobals "MOST_HIGH" =some (some (.int 7 t2))):Gs mg:=by
 have k:∀x∈wk,mg x=none:=fun x hx=>Ob KX G (List.all_eq_true.mp e x hx)
 exact⟨k _ (by simp),k _ (by simp),k _ (by simp),k _ (by simp),k _ (by simp),k _ (by simp),k _ (by simp),k _ (by simp),k _ (by simp),k _ (by simp),k _ (by simp),k _ (by simp),k _ (by simp),k _ (by simp),⟨_,PySem.W.mg_of KX G c0⟩,⟨_,PySem.W.mg_of KX G c1⟩,⟨_,PySem.W.mg_of KX G c2⟩⟩
set_option maxHeartbeats 4000000 in
theorem F9 {h:Heap}{fa:Addr}{t0:Tok}{t1:Tok}{t2:Tok}(KX:K.In h) (G:h.Ns mainGlobals mg) (hmg:mg "law" =some (.ref fa))
  (d0:aV K "is_whole" tX) (d1:aV K "is_whole_within" tW) (d2:aV K "is_tuple_of" t9) (d3:aV K "is_board" uL) (d4:aV K "need_board" um) (d5:aV K "need_at_most" S.uq) (d6:aV K "is_lay" ur) (d7:aV K "need_lay" uk) (d8:aV K "is_line" S.uB) (d9:aV K "is_bare_line" S.uD) (Kt:aV K "with_point" S.tY) (Ks:aV K "points" ug) (Kr:aV K "point_pairs" uh) (Kq:aV K "steps" ub) (Ko:aV K "first_like" uF) (Kn:aV K "is_unlike" tZ) (Km:aV K "need_small" S.uo) (Kl:aV K "free_rows" S.uG) (Kk:aV K "all_fits" S.uM) (Kj:aV K "fits_many" S.uH) (Ki:aV K "first_fit" S.uI) (Kh:aV K "rows_for" S.ng) (Kg:aV K "sure" S.ue) (Kf:aV K "is_headed" S.uC) (Ke:aV K "is_like_paper" S.uA) (Kd:aV K "is_shut_paper" S.uf) (Kc:aV K "is_cases_paper" S.qw) (Kb:aV K "is_paper" S.nk) (Ka:aV K "paper_of_lines" S.nh) (I9:aV K "paper_for" S.uj) (I0:aV K "_law_cell_at" uK) (IZ:aV K "_law_state" uc) (IY:aV K "_law_take" ua) (IW:aV K "_law_lay" uJ) (IV:aV K "_law_steps" uw) (IU:aV K "_law_unlike" uv) (IT:aV K "_law_grown" uE) (IS:aV K "_law_small" S.ud) (IQ:aV K "_law_parts_right" S.ui) (dl:aV K "law" S.uu)
  (g1:wk.all (qH K)=true) (c0:PySem.W.nsIn K mainGlobals "LONGEST_SIDE" =some (some (.int 12 t0))) (c1:PySem.W.nsIn K mainGlobals "MOST_WIDE" =some (some (.int 6 t1))) (c2:PySem.W.nsIn K mainGlobals "MOST_HIGH" =some (some (.int 7 t2))):
  ∃fd:FuncData,(∀(s:Shared) (u:Value),BindsTo s fd ⟨[u],[]⟩ [("_law_script",u)])∧∀base:Heap,K.In base→base.Ns mainGlobals mg→mN mg base→aL P w K mg base aJ 30 fa fd ["_law_script"] (S.tM K):=by
 have gs:=KR KX G g1 c0 c1 c2
 refine K8 dl KX G hmg (fun _ _ _ _ _ _ _=>rfl) fun base f fd FL=> ?_
 have PV:Def P w K mg base 1 "is_whole" ["thing"] (tq K):=d0.to KX G (b1 fun _ _ _ _ _ _ _=>rfl) fun f fd F=>NL F gs
 have xR:Def P w K mg base 2 "is_whole_within" ["thing", "least", "most"] (mV K):=d1.to KX G (b3 fun _ _ _ _ _ _ _ _ _=>rfl) fun f fd F=>Oe F PV
 have sr:Def P w K mg base 1 "is_tuple_of" ["thing", "many"] (kb K):=d2.to KX G (b2 fun _ _ _ _ _ _ _ _=>rfl) fun f fd F=>NK F gs
 have P0:Def P w K mg base 3 "is_board" ["thing"] (tU K):=d3.to KX G (b1 fun _ _ _ _ _ _ _=>rfl) fun f fd F=>NB F gs sr xR
 have PR:Def P w K mg base 4 "need_board" ["board"] (tK K):=d4.to KX G (b1 fun _ _ _ _ _ _ _=>rfl) fun f fd F=>OT F P0
 have PU:Def P w K mg base 1 "need_at_most" ["board", "wide", "high"] S.tL:=d5.to KX G (b3 fun _ _ _ _ _ _ _ _ _=>rfl) fun f fd F=>S.Fg F
 have C5:Def P w K mg base 5 "is_lay" ["board", "thing"] (p7 K):=d6.to KX G (b2 fun _ _ _ _ _ _ _ _=>rfl) fun f fd F=>Lr F gs PR sr xR
 have xQ:Def P w K mg base 6 "need_lay" ["board", "lay"] lG:=d7.to KX G (b2 fun _ _ _ _ _ _ _ _=>rfl) fun f fd F=>OJ F C5
 have C4:Def P w K mg base 3 "is_line" ["lay", "thing"] (S.qk K):=d8.to KX G (b2 fun _ _ _ _ _ _ _ _=>rfl) fun f fd F=>S.Fj F gs xR
 have C6:Def P w K mg base 4 "is_bare_line" ["lay", "thing"] (S.mY K):=d9.to KX G (b2 fun _ _ _ _ _ _ _ _=>rfl) fun f fd F=>S.Fn F C4
 have sj:Def P w K mg base 1 "with_point" ["lay", "line", "row"] S.jA:=Kt.to KX G (b3 fun _ _ _ _ _ _ _ _ _=>rfl) fun f fd F=>S.E7 F
 have PL:Def P w K mg base 7 "points" ["board", "lay"] tG:=Ks.to KX G (b2 fun _ _ _ _ _ _ _ _=>rfl) fun f fd F=>Od F gs xQ
 have PM:Def P w K mg base 8 "point_pairs" ["board", "lay"] tH:=Kr.to KX G (b2 fun _ _ _ _ _ _ _ _=>rfl) fun f fd F=>NG F PL
 have PJ:Def P w K mg base 9 "steps" ["board", "lay"] tw:=Kq.to KX G (b2 fun _ _ _ _ _ _ _ _=>rfl) fun f fd F=>NJ F gs PM
 have C7:Def P w K mg base 10 "first_like" ["board", "lay"] ql:=Ko.to KX G (b2 fun _ _ _ _ _ _ _ _=>rfl) fun f fd F=>ND F gs PJ
 have xS:Def P w K mg base 11 "is_unlike" ["board", "lay"] mW:=Kn.to KX G (b2 fun _ _ _ _ _ _ _ _=>rfl) fun f fd F=>Lw F C7
 have C3:Def P w K mg base 7 "need_small" ["board", "lay"] S.p6:=Km.to KX G (b2 fun _ _ _ _ _ _ _ _=>rfl) fun f fd F=>S.Ff F gs xQ PU
 have su:Def P w K mg base 12 "free_rows" ["board", "lay", "line"] S.jB:=Kl.to KX G (b3 fun _ _ _ _ _ _ _ _ _=>rfl) fun f fd F=>S.Fo F gs xS sj
 have pG:Def P w K mg base 13 "all_fits" ["board", "lay"] S.kc:=Kk.to KX G (b2 fun _ _ _ _ _ _ _ _=>rfl) fun f fd F=>S.Fs F gs C3 xS sj su
 have P1:Def P w K mg base 14 "fits_many" ["board", "lay"] S.tQ:=Kj.to KX G (b2 fun _ _ _ _ _ _ _ _=>rfl) fun f fd F=>S.Fp F gs pG
 have P2:Def P w K mg base 14 "first_fit" ["board", "lay"] S.tR:=Ki.to KX G (b2 fun _ _ _ _ _ _ _ _=>rfl) fun f fd F=>S.Fq F gs pG
 have C2:Def P w K mg base 14 "rows_for" ["board", "lay"] S.pZ:=Kh.to KX G (b2 fun _ _ _ _ _ _ _ _=>rfl) fun f fd F=>S.Fc F gs pG
 have PH:Def P w K mg base 15 "sure" ["board", "lay"] S.tF:=Kg.to KX G (b2 fun _ _ _ _ _ _ _ _=>rfl) fun f fd F=>S.E8 F gs C2
 have xT:Def P w K mg base 2 "is_headed" ["thing", "word", "many"] S.lI:=Kf.to KX G (b3 fun _ _ _ _ _ _ _ _ _=>rfl) fun f fd F=>S.Fm F sr
 have PZ:Def P w K mg base 4 "is_like_paper" ["lay", "thing"] S.p8:=Ke.to KX G (b2 fun _ _ _ _ _ _ _ _=>rfl) fun f fd F=>S.Fh F gs C4 xT
 have PX:Def P w K mg base 13 "is_shut_paper" ["board", "lay", "thing"] S.pX:=Kd.to KX G (b3 fun _ _ _ _ _ _ _ _ _=>rfl) fun f fd F=>S.E9 F C6 xT su
 have PY:Def P w K mg base 29 "is_paper" ["board", "lay", "thing"] (S.lE 8):=S.yY (fun k sp ok=>Kb.to KX G (b3 fun _ _ _ _ _ _ _ _ _=>rfl) ok) (fun k sp ok=>Kc.to KX G (b3 fun _ _ _ _ _ _ _ _ _=>rfl) ok) gs xQ PZ PX C6 xT su sr sj 8
 have PN:Def P w K mg base 20 "paper_of_lines" ["board", "lay"] (S.lF 7):=S.lines (fun k sp ok=>Ka.to KX G (b2 fun _ _ _ _ _ _ _ _=>rfl) ok) gs su sj 7
 have PQ:Def P w K mg base 21 "paper_for" ["board", "lay"] S.tJ:=I9.to KX G (b2 fun _ _ _ _ _ _ _ _=>rfl) fun f fd F=>S.Fe F C3 C7 PN
 have Qb:Def P w K mg base 1 "_law_cell_at" ["_law_script", "_law_k"] (tT K):=I0.to KX G (b2 fun _ _ _ _ _ _ _ _=>rfl) fun f fd F=>Ld F gs
 have P6:Def P w K mg base 2 "_law_state" ["_law_script", "_law_k"] (tD K):=IZ.to KX G (b2 fun _ _ _ _ _ _ _ _=>rfl) fun f fd F=>NH F gs Qb
 have sv:Def P w K mg base 1 "_law_take" ["_law_state_here", "_law_many"] lD:=IY.to KX G (b2 fun _ _ _ _ _ _ _ _=>rfl) fun f fd F=>Le F
 have P9:Def P w K mg base 2 "_law_lay" ["_law_state_here", "_law_board"] (tS K):=IW.to KX G (b2 fun _ _ _ _ _ _ _ _=>rfl) fun f fd F=>NC F gs sv
 have P5:Def P w K mg base 1 "_law_steps" ["_law_lay_here"] (tO K):=IV.to KX G (b1 fun _ _ _ _ _ _ _=>rfl) fun f fd F=>Oc F gs
 have P4:Def P w K mg base 2 "_law_unlike" ["_law_lay_here"] tN:=IU.to KX G (b1 fun _ _ _ _ _ _ _=>rfl) fun f fd F=>OI F P5
 have Qa:Def P w K mg base 3 "_law_grown" ["_law_state_here", "_law_board"] (tP K):=IT.to KX G (b2 fun _ _ _ _ _ _ _ _=>rfl) fun f fd F=>NF F gs sv P4
 have P7:Def P w K mg base 4 "_law_small" ["_law_state_here"] S.tE:=IS.to KX G (b1 fun _ _ _ _ _ _ _=>rfl) fun f fd F=>S.Fb F gs sv P9 Qa
 have P8:Def P w K mg base 15 "_law_parts_right" ["_law_state_here", "_law_board", "_law_lay_here", "_law_rows"] S.tI:=IQ.to KX G (b4 fun _ _ _ _ _ _ _ _ _ _=>rfl) fun f fd F=>S.Fd F gs sv C2 pG
 exact S.Fi FL gs P6 P7 pG P1 P2 C5 xS P8 PH PQ PY
end
end U
theorem PySem.W.Fast.tw11600446889071158336:True:=⟨⟩
theorem PySem.W.Fast.tw8951120382485545056:True:=⟨⟩
theorem PySem.W.Fast.tw10230132003579666784:True:=⟨⟩
theorem PySem.W.Fast.tw17058297190846979808:True:=⟨⟩
theorem PySem.W.Fast.tw2680020222826544928:True:=⟨⟩
theorem PySem.W.Fast.tw3415085330551810016:True:=⟨⟩
theorem PySem.W.Fast.tw3405494186560676097:True:=⟨⟩
theorem PySem.W.Fast.tw14552764676341085761:True:=⟨⟩
theorem PySem.W.Fast.tw16056772678819559009:True:=⟨⟩
theorem PySem.W.Fast.tw11191341333058359937:True:=⟨⟩
theorem PySem.W.Fast.tw8053562839967017761:True:=⟨⟩
theorem PySem.W.Fast.tw17270345946327374785:True:=⟨⟩
theorem PySem.W.Fast.tw17211506405961374786:True:=⟨⟩
theorem PySem.W.Fast.tw1224568641113089090:True:=⟨⟩
theorem PySem.W.Fast.tw10634580867607263554:True:=⟨⟩
theorem PySem.W.Fast.tw16181228464422734242:True:=⟨⟩
theorem PySem.W.Fast.tw13687519413829149314:True:=⟨⟩
theorem PySem.W.Fast.tw13887805176556017602:True:=⟨⟩
theorem PySem.W.Fast.tw5573331438071444483:True:=⟨⟩
theorem PySem.W.Fast.tw5536892406793209027:True:=⟨⟩
theorem PySem.W.Fast.tw16578837245360666947:True:=⟨⟩
theorem PySem.W.Fast.tw15305964195419541859:True:=⟨⟩
theorem PySem.W.Fast.tw13535209687402157667:True:=⟨⟩
theorem PySem.W.Fast.tw15273410950265806595:True:=⟨⟩
theorem PySem.W.Fast.tw4424101176520479748:True:=⟨⟩
theorem PySem.W.Fast.tw14127491688745603140:True:=⟨⟩
theorem PySem.W.Fast.tw7024329062843601252:True:=⟨⟩
theorem PySem.W.Fast.tw5325364511180590564:True:=⟨⟩
theorem PySem.W.Fast.tw14929274875669662468:True:=⟨⟩
theorem PySem.W.Fast.tw5334318685130373892:True:=⟨⟩
theorem PySem.W.Fast.tw12548984201440410500:True:=⟨⟩
theorem PySem.W.Fast.tw14460677323630099364:True:=⟨⟩
theorem PySem.W.Fast.tw384248916339146660:True:=⟨⟩
theorem PySem.W.Fast.tw11037972689678397380:True:=⟨⟩
theorem PySem.W.Fast.tw13191611831339499492:True:=⟨⟩
theorem PySem.W.Fast.tw15898306503200987141:True:=⟨⟩
theorem PySem.W.Fast.tw1508546484594146885:True:=⟨⟩
theorem PySem.W.Fast.tw11136612562070590085:True:=⟨⟩
theorem PySem.W.Fast.tw2308354770881548326:True:=⟨⟩
theorem PySem.W.Fast.tw1562923388229155878:True:=⟨⟩
theorem PySem.W.Fast.tw481095597618922566:True:=⟨⟩
theorem PySem.W.Fast.tw6766698752866619590:True:=⟨⟩
theorem PySem.W.Fast.tw14560530180647032134:True:=⟨⟩
theorem PySem.W.Fast.tw5106171831539714374:True:=⟨⟩
theorem PySem.W.Fast.tw10923052748427070950:True:=⟨⟩
theorem PySem.W.Fast.tw919609178835291686:True:=⟨⟩
theorem PySem.W.Fast.tw1950777787028421286:True:=⟨⟩
theorem PySem.W.Fast.tw2971398627574695782:True:=⟨⟩
theorem PySem.W.Fast.tw2323587232078903174:True:=⟨⟩
theorem PySem.W.Fast.tw4793617806890809254:True:=⟨⟩
theorem PySem.W.Fast.tw1026743373646963686:True:=⟨⟩
theorem PySem.W.Fast.tw3141417815167933414:True:=⟨⟩
theorem PySem.W.Fast.tw4906470613758773222:True:=⟨⟩
theorem PySem.W.Fast.tw3004184953681261575:True:=⟨⟩
theorem PySem.W.Fast.tw11502076338318089255:True:=⟨⟩
theorem PySem.W.Fast.tw5308450757426314343:True:=⟨⟩
theorem PySem.W.Fast.tw1881934740599565447:True:=⟨⟩
theorem PySem.W.Fast.tw4924260133858283687:True:=⟨⟩
theorem PySem.W.Fast.tw14446612145368961383:True:=⟨⟩
theorem PySem.W.Fast.tw11910182504279359911:True:=⟨⟩
theorem PySem.W.Fast.tw3958504042381290119:True:=⟨⟩
theorem PySem.W.Fast.tw12387307731449636615:True:=⟨⟩
theorem PySem.W.Fast.tw8721231602319067943:True:=⟨⟩
theorem PySem.W.Fast.tw13136042251958532967:True:=⟨⟩
theorem PySem.W.Fast.tw11444138164619637671:True:=⟨⟩
theorem PySem.W.Fast.tw7781418778838218920:True:=⟨⟩
theorem PySem.W.Fast.tw10254970909812272424:True:=⟨⟩
theorem PySem.W.Fast.tw3509719735974593032:True:=⟨⟩
theorem PySem.W.Fast.tw7980138026147353128:True:=⟨⟩
theorem PySem.W.Fast.tw13939828648998661672:True:=⟨⟩
theorem PySem.W.Fast.tw8204778079504501352:True:=⟨⟩
theorem PySem.W.Fast.tw193197217391101800:True:=⟨⟩
theorem PySem.W.Fast.tw9846204010059974825:True:=⟨⟩
theorem PySem.W.Fast.tw18251248166244545865:True:=⟨⟩
theorem PySem.W.Fast.tw14943701124742581801:True:=⟨⟩
theorem PySem.W.Fast.tw11127873493494386505:True:=⟨⟩
theorem PySem.W.Fast.tw9323878114199945129:True:=⟨⟩
theorem PySem.W.Fast.tw15484393017479659433:True:=⟨⟩
theorem PySem.W.Fast.tw9494896033844470218:True:=⟨⟩
theorem PySem.W.Fast.tw16758660407743076491:True:=⟨⟩
theorem PySem.W.Fast.tw73926981242569899:True:=⟨⟩
theorem PySem.W.Fast.tw9780510983670578443:True:=⟨⟩
theorem PySem.W.Fast.tw8876036882681684235:True:=⟨⟩
theorem PySem.W.Fast.tw6172805977144769835:True:=⟨⟩
theorem PySem.W.Fast.tw1900675870281691499:True:=⟨⟩
theorem PySem.W.Fast.tw14447620754885301707:True:=⟨⟩
theorem PySem.W.Fast.tw1631228925829241611:True:=⟨⟩
theorem PySem.W.Fast.tw14274006901843763019:True:=⟨⟩
theorem PySem.W.Fast.tw4307720415408959403:True:=⟨⟩
theorem PySem.W.Fast.tw11937640920675866636:True:=⟨⟩
theorem PySem.W.Fast.tw14380456821978780748:True:=⟨⟩
theorem PySem.W.Fast.tw7252478968161332332:True:=⟨⟩
theorem PySem.W.Fast.tw9082050226205446284:True:=⟨⟩
theorem PySem.W.Fast.tw3303525237440410924:True:=⟨⟩
theorem PySem.W.Fast.tw6572284197672289580:True:=⟨⟩
theorem PySem.W.Fast.tw2019713572130994604:True:=⟨⟩
theorem PySem.W.Fast.tw3228438599932377900:True:=⟨⟩
theorem PySem.W.Fast.tw17411028587372657484:True:=⟨⟩
theorem PySem.W.Fast.tw15596694635652719725:True:=⟨⟩
theorem PySem.W.Fast.tw8879417672052463853:True:=⟨⟩
theorem PySem.W.Fast.tw8614797019492630829:True:=⟨⟩
theorem PySem.W.Fast.tw11463648948883263085:True:=⟨⟩
theorem PySem.W.Fast.tw11474919327113095821:True:=⟨⟩
theorem PySem.W.Fast.tw3815594296429702861:True:=⟨⟩
theorem PySem.W.Fast.tw13782991873224524749:True:=⟨⟩
theorem PySem.W.Fast.tw4644516389772769550:True:=⟨⟩
theorem PySem.W.Fast.tw2061059337898785038:True:=⟨⟩
theorem PySem.W.Fast.tw2797350689829365070:True:=⟨⟩
theorem PySem.W.Fast.tw8611777705355876814:True:=⟨⟩
theorem PySem.W.Fast.tw17582511420442682030:True:=⟨⟩
theorem PySem.W.Fast.tw11528888432351678254:True:=⟨⟩
theorem PySem.W.Fast.tw10334580730133752654:True:=⟨⟩
theorem PySem.W.Fast.tw4155552401538277262:True:=⟨⟩
theorem PySem.W.Fast.tw14940046580871546798:True:=⟨⟩
theorem PySem.W.Fast.tw6621495523086965742:True:=⟨⟩
theorem PySem.W.Fast.tw12267721928240549903:True:=⟨⟩
theorem PySem.W.Fast.tw16715628532402182159:True:=⟨⟩
theorem PySem.W.Fast.tw11754506655239840943:True:=⟨⟩
theorem PySem.W.Fast.tw3998728148566777135:True:=⟨⟩
theorem PySem.W.Fast.tw1407919439987704207:True:=⟨⟩
theorem PySem.W.Fast.tw1358288641777647023:True:=⟨⟩
theorem PySem.W.Fast.tw2459951093094178319:True:=⟨⟩
theorem PySem.W.Fast.tw14648173563295785487:True:=⟨⟩
theorem PySem.W.Fast.tw8888557397885469423:True:=⟨⟩
theorem PySem.W.Fast.tw3368617281113633679:True:=⟨⟩
theorem PySem.W.Fast.tw5885591040787222640:True:=⟨⟩
theorem PySem.W.Fast.tw1439605473738504400:True:=⟨⟩
theorem PySem.W.Fast.tw11909231418096170416:True:=⟨⟩
theorem PySem.W.Fast.tw340656038510444016:True:=⟨⟩
theorem PySem.W.Fast.tw1085810862059294288:True:=⟨⟩
theorem PySem.W.Fast.tw9268890045883433584:True:=⟨⟩
theorem PySem.W.Fast.tw4550544050373251696:True:=⟨⟩
theorem PySem.W.Fast.tw9055065044419056560:True:=⟨⟩
theorem PySem.W.Fast.tw5473982682954736:True:=⟨⟩
theorem PySem.W.Fast.tw13120792533034932369:True:=⟨⟩
theorem PySem.W.Fast.tw8646899990686979313:True:=⟨⟩
theorem PySem.W.Fast.tw18279540883186116977:True:=⟨⟩
theorem PySem.W.Fast.tw5460364514738002321:True:=⟨⟩
theorem PySem.W.Fast.tw9125993253577000401:True:=⟨⟩
theorem PySem.W.Fast.tw5494684828474186353:True:=⟨⟩
theorem PySem.W.Fast.tw5881770107218865137:True:=⟨⟩
theorem PySem.W.Fast.tw13834455029879793682:True:=⟨⟩
theorem PySem.W.Fast.tw7049234004776450098:True:=⟨⟩
theorem PySem.W.Fast.tw11353473946370962546:True:=⟨⟩
theorem PySem.W.Fast.tw14913149247029425362:True:=⟨⟩
theorem PySem.W.Fast.tw3937534128899909938:True:=⟨⟩
theorem PySem.W.Fast.tw3973974465054745906:True:=⟨⟩
theorem PySem.W.Fast.tw12102927067904956754:True:=⟨⟩
theorem PySem.W.Fast.tw3820019630661065042:True:=⟨⟩
theorem PySem.W.Fast.tw5738843990826198514:True:=⟨⟩
theorem PySem.W.Fast.tw5488029419667041778:True:=⟨⟩
theorem PySem.W.Fast.tw10292167080148296242:True:=⟨⟩
theorem PySem.W.Fast.tw13083685944103233202:True:=⟨⟩
theorem PySem.W.Fast.tw18050660007040709298:True:=⟨⟩
theorem PySem.W.Fast.tw3173085698160603922:True:=⟨⟩
theorem PySem.W.Fast.tw11526625681671161650:True:=⟨⟩
theorem PySem.W.Fast.tw5728666216912612178:True:=⟨⟩
theorem PySem.W.Fast.tw6408662830881551475:True:=⟨⟩
theorem PySem.W.Fast.tw6563727985475039507:True:=⟨⟩
theorem PySem.W.Fast.tw893696327264438675:True:=⟨⟩
theorem PySem.W.Fast.tw13761807340366425555:True:=⟨⟩
theorem PySem.W.Fast.tw2558975700262412083:True:=⟨⟩
theorem PySem.W.Fast.tw3778180212282091411:True:=⟨⟩
theorem PySem.W.Fast.tw6086435301973378963:True:=⟨⟩
theorem PySem.W.Fast.tw13096299551118481395:True:=⟨⟩
theorem PySem.W.Fast.tw3674236512434348148:True:=⟨⟩
theorem PySem.W.Fast.tw16482044212761803156:True:=⟨⟩
theorem PySem.W.Fast.tw4060431802004245908:True:=⟨⟩
theorem PySem.W.Fast.tw15348348456677756404:True:=⟨⟩
theorem PySem.W.Fast.tw11659301649193549588:True:=⟨⟩
theorem PySem.W.Fast.tw10300555926875028340:True:=⟨⟩
theorem PySem.W.Fast.tw10695382653293804500:True:=⟨⟩
theorem PySem.W.Fast.tw1497504646482667573:True:=⟨⟩
theorem PySem.W.Fast.tw16943075949807799381:True:=⟨⟩
theorem PySem.W.Fast.tw1337961518350562421:True:=⟨⟩
theorem PySem.W.Fast.tw16531871186525264117:True:=⟨⟩
theorem PySem.W.Fast.tw14325943805528852725:True:=⟨⟩
theorem PySem.W.Fast.tw15974388670082024853:True:=⟨⟩
theorem PySem.W.Fast.tw11085125390879390101:True:=⟨⟩
theorem PySem.W.Fast.tw13227437217316860341:True:=⟨⟩
theorem PySem.W.Fast.tw2705100667981927189:True:=⟨⟩
theorem PySem.W.Fast.tw14737323000614459317:True:=⟨⟩
theorem PySem.W.Fast.tw7636454660035013782:True:=⟨⟩
theorem PySem.W.Fast.tw4413472239152241846:True:=⟨⟩
theorem PySem.W.Fast.tw4959036745615908086:True:=⟨⟩
theorem PySem.W.Fast.tw16361108224180918518:True:=⟨⟩
theorem PySem.W.Fast.tw2444225599026988470:True:=⟨⟩
theorem PySem.W.Fast.tw7724365808527880726:True:=⟨⟩
theorem PySem.W.Fast.tw9217491235006778102:True:=⟨⟩
theorem PySem.W.Fast.tw14085578839325622166:True:=⟨⟩
theorem PySem.W.Fast.tw15729809334246087767:True:=⟨⟩
theorem PySem.W.Fast.tw3101891390513015991:True:=⟨⟩
theorem PySem.W.Fast.tw6483883617948442903:True:=⟨⟩
theorem PySem.W.Fast.tw11255981309342932343:True:=⟨⟩
theorem PySem.W.Fast.tw14674497504505357847:True:=⟨⟩
theorem PySem.W.Fast.tw8823737990946000471:True:=⟨⟩
theorem PySem.W.Fast.tw12596804803046146775:True:=⟨⟩
theorem PySem.W.Fast.tw10504697620172563255:True:=⟨⟩
theorem PySem.W.Fast.tw7001086762728656727:True:=⟨⟩
theorem PySem.W.Fast.tw14320500828071625559:True:=⟨⟩
theorem PySem.W.Fast.tw593523846234707032:True:=⟨⟩
theorem PySem.W.Fast.tw4493938206897175704:True:=⟨⟩
theorem PySem.W.Fast.tw11717682437616521432:True:=⟨⟩
theorem PySem.W.Fast.tw7471969022640632120:True:=⟨⟩
theorem PySem.W.Fast.tw157265198998798680:True:=⟨⟩
theorem PySem.W.Fast.tw12701975587584688632:True:=⟨⟩
theorem PySem.W.Fast.tw16803440630097056280:True:=⟨⟩
theorem PySem.W.Fast.tw5033836222264398392:True:=⟨⟩
theorem PySem.W.Fast.tw2079270226725673560:True:=⟨⟩
theorem PySem.W.Fast.tw11965934953531361880:True:=⟨⟩
theorem PySem.W.Fast.tw3640391240297276056:True:=⟨⟩
theorem PySem.W.Fast.tw5495155385471142616:True:=⟨⟩
theorem PySem.W.Fast.tw15004387509863752600:True:=⟨⟩
theorem PySem.W.Fast.tw1454292351661920184:True:=⟨⟩
theorem PySem.W.Fast.tw14840286120008817624:True:=⟨⟩
theorem PySem.W.Fast.tw9601904482579595321:True:=⟨⟩
theorem PySem.W.Fast.tw14310918449130964089:True:=⟨⟩
theorem PySem.W.Fast.tw3214146512645587065:True:=⟨⟩
theorem PySem.W.Fast.tw8679873886726242489:True:=⟨⟩
theorem PySem.W.Fast.tw9012754502183520665:True:=⟨⟩
theorem PySem.W.Fast.tw7845547759755033017:True:=⟨⟩
theorem PySem.W.Fast.tw43541768722237049:True:=⟨⟩
theorem PySem.W.Fast.tw6212370382455506617:True:=⟨⟩
theorem PySem.W.Fast.tw3231596031021525689:True:=⟨⟩
theorem PySem.W.Fast.tw9263572386976514777:True:=⟨⟩
theorem PySem.W.Fast.tw9602570480762873946:True:=⟨⟩
theorem PySem.W.Fast.tw3949013378759710106:True:=⟨⟩
theorem PySem.W.Fast.tw16577067656827667866:True:=⟨⟩
theorem PySem.W.Fast.tw3756369726190783962:True:=⟨⟩
theorem PySem.W.Fast.tw14076552203768616794:True:=⟨⟩
theorem PySem.W.Fast.tw1763627444311006299:True:=⟨⟩
theorem PySem.W.Fast.tw5645833444565581979:True:=⟨⟩
theorem PySem.W.Fast.tw17835175315251522779:True:=⟨⟩
theorem PySem.W.Fast.tw16987063202326323451:True:=⟨⟩
theorem PySem.W.Fast.tw17925302030096300315:True:=⟨⟩
theorem PySem.W.Fast.tw2980781410962350395:True:=⟨⟩
theorem PySem.W.Fast.tw16428610917707279771:True:=⟨⟩
theorem PySem.W.Fast.tw15139691175811358267:True:=⟨⟩
theorem PySem.W.Fast.tw1009089078035986011:True:=⟨⟩
theorem PySem.W.Fast.tw11425269506884121307:True:=⟨⟩
theorem PySem.W.Fast.tw2139955945282943835:True:=⟨⟩
theorem PySem.W.Fast.tw16317655426755594139:True:=⟨⟩
theorem PySem.W.Fast.tw1517100644983977915:True:=⟨⟩
theorem PySem.W.Fast.tw17781466710434537884:True:=⟨⟩
theorem PySem.W.Fast.tw6639196158686989820:True:=⟨⟩
theorem PySem.W.Fast.tw2458419870388441756:True:=⟨⟩
theorem PySem.W.Fast.tw1472813063027919580:True:=⟨⟩
theorem PySem.W.Fast.tw5909883412845134780:True:=⟨⟩
theorem PySem.W.Fast.tw4041096255044556732:True:=⟨⟩
theorem PySem.W.Fast.tw1585381007770960925:True:=⟨⟩
theorem PySem.W.Fast.tw15758526597972704285:True:=⟨⟩
theorem PySem.W.Fast.tw3454522251539658813:True:=⟨⟩
theorem PySem.W.Fast.tw14917518821647713437:True:=⟨⟩
theorem PySem.W.Fast.tw7640203216838927709:True:=⟨⟩
theorem PySem.W.Fast.tw9216826589789788573:True:=⟨⟩
theorem PySem.W.Fast.tw2400005972229805533:True:=⟨⟩
theorem PySem.W.Fast.tw14481813825780762141:True:=⟨⟩
theorem PySem.W.Fast.tw9012721345500215933:True:=⟨⟩
theorem PySem.W.Fast.tw119268771080204957:True:=⟨⟩
theorem PySem.W.Fast.tw2424744950053882685:True:=⟨⟩
theorem PySem.W.Fast.tw10258033155286599517:True:=⟨⟩
theorem PySem.W.Fast.tw9824072365460123581:True:=⟨⟩
theorem PySem.W.Fast.tw5406236003481005150:True:=⟨⟩
theorem PySem.W.Fast.tw16997178593179016286:True:=⟨⟩
theorem PySem.W.Fast.tw11583710226550878398:True:=⟨⟩
theorem PySem.W.Fast.tw11213604922203315422:True:=⟨⟩
theorem PySem.W.Fast.tw3042663420564583678:True:=⟨⟩
theorem PySem.W.Fast.tw7374550667853856030:True:=⟨⟩
theorem PySem.W.Fast.tw5873675746854572318:True:=⟨⟩
theorem PySem.W.Fast.tw4279140050396988734:True:=⟨⟩
theorem PySem.W.Fast.tw11690072447422324158:True:=⟨⟩
theorem PySem.W.Fast.tw17684940031839122142:True:=⟨⟩
theorem PySem.W.Fast.tw15759665154881049502:True:=⟨⟩
theorem PySem.W.Fast.tw9912236527745458207:True:=⟨⟩
theorem PySem.W.Fast.tw1027754621634152607:True:=⟨⟩
theorem PySem.W.Fast.tw17685198808406211775:True:=⟨⟩
theorem PySem.W.Fast.tw3516093843817404639:True:=⟨⟩
theorem PySem.W.Fast.tw6240986654070656319:True:=⟨⟩
theorem PySem.W.Fast.tw2494719510176943455:True:=⟨⟩
theorem PySem.W.Fast.tw1973888027761575327:True:=⟨⟩
theorem PySem.W.Fast.tw12256409808781952447:True:=⟨⟩
theorem PySem.W.Fast.tw18360119335078576639:True:=⟨⟩
theorem PySem.W.Fast.tw16563749741585678943:True:=⟨⟩
theorem PySem.W.Fast.tw1591468906014828191:True:=⟨⟩
theorem PySem.W.Fast.tw7850761977923723999:True:=⟨⟩
theorem PySem.W.Fast.tw6212802876631401215:True:=⟨⟩
theorem PySem.W.Fast.tw10391141189702657156:True:=⟨⟩
set_option maxRecDepth 100000 in
set_option maxHeartbeats 0 in
theorem PySem.Challenge.cw_unlikesteps_k23_whole_fits_holds : PySem.Challenge.rw_unlikesteps_k23_whole_fits.Holds := by
 w_on; o_law; k_head; (case hw => w_witness2)
 k_fill
 refine U.De (l := PySem.Challenge.rw_unlikesteps_k23_whole_fits) (n := 63) (k := 30) (x := "_law_script") (Pts := []) (sp := fun K => U.S.tM K) rfl (by decide) rfl ⟨rfl, by decide, by decide, rfl⟩ (fun w h Y => PySem.W.kIn_of Y) (fun _ _ _ _ h => by cases h) (fun _ _ _ _ h => by cases h) (fun _ _ h => by cases h) ?F ?S
 case S => exact fun K H a ns hl hs hp => ⟨a, ns, rfl, hs, hl, fun _ => rfl⟩
 case F =>
  intro w mg fa h KX G hmg
  refine' U.F9 KX G hmg (U.bf ?a0 ?b0 ?c0 ?e0) (U.bf ?a1 ?b1 ?c1 ?e1) (U.bf ?a2 ?b2 ?c2 ?e2) (U.bf ?a3 ?b3 ?c3 ?e3) (U.bf ?a4 ?b4 ?c4 ?e4) (U.bf ?a5 ?b5 ?c5 ?e5) (U.bf ?a6 ?b6 ?c6 ?e6) (U.bf ?a7 ?b7 ?c7 ?e7) (U.bf ?a8 ?b8 ?c8 ?e8) (U.bf ?a9 ?b9 ?c9 ?e9) (U.bf ?a10 ?b10 ?c10 ?e10) (U.bf ?a11 ?b11 ?c11 ?e11) (U.bf ?a12 ?b12 ?c12 ?e12) (U.bf ?a13 ?b13 ?c13 ?e13) (U.bf ?a14 ?b14 ?c14 ?e14) (U.bf ?a15 ?b15 ?c15 ?e15) (U.bf ?a16 ?b16 ?c16 ?e16) (U.bf ?a17 ?b17 ?c17 ?e17) (U.bf ?a18 ?b18 ?c18 ?e18) (U.bf ?a19 ?b19 ?c19 ?e19) (U.bf ?a20 ?b20 ?c20 ?e20) (U.bf ?a21 ?b21 ?c21 ?e21) (U.bf ?a22 ?b22 ?c22 ?e22) (U.bf ?a23 ?b23 ?c23 ?e23) (U.bf ?a24 ?b24 ?c24 ?e24) (U.bf ?a25 ?b25 ?c25 ?e25) (U.bf ?a26 ?b26 ?c26 ?e26) (U.bf ?a27 ?b27 ?c27 ?e27) (U.bf ?a28 ?b28 ?c28 ?e28) (U.bf ?a29 ?b29 ?c29 ?e29) (U.bf ?a30 ?b30 ?c30 ?e30) (U.bf ?a31 ?b31 ?c31 ?e31) (U.bf ?a32 ?b32 ?c32 ?e32) (U.bf ?a33 ?b33 ?c33 ?e33) (U.bf ?a34 ?b34 ?c34 ?e34) (U.bf ?a35 ?b35 ?c35 ?e35) (U.bf ?a36 ?b36 ?c36 ?e36) (U.bf ?a37 ?b37 ?c37 ?e37) (U.bf ?a38 ?b38 ?c38 ?e38) (U.bf ?a39 ?b39 ?c39 ?e39) ?g1 ?kc0 ?kc1 ?kc2
  (case a0 => k_is); (case b0 => k_is); (case c0 => k_is); (case e0 => k_is)
  (case a1 => k_is); (case b1 => k_is); (case c1 => k_is); (case e1 => k_is)
  (case a2 => k_is); (case b2 => k_is); (case c2 => k_is); (case e2 => k_is)
  (case a3 => k_is); (case b3 => k_is); (case c3 => k_is); (case e3 => k_is)
  (case a4 => k_is); (case b4 => k_is); (case c4 => k_is); (case e4 => k_is)
  (case a5 => k_is); (case b5 => k_is); (case c5 => k_is); (case e5 => k_is)
  (case a6 => k_is); (case b6 => k_is); (case c6 => k_is); (case e6 => k_is)
  (case a7 => k_is); (case b7 => k_is); (case c7 => k_is); (case e7 => k_is)
  (case a8 => k_is); (case b8 => k_is); (case c8 => k_is); (case e8 => k_is)
  (case a9 => k_is); (case b9 => k_is); (case c9 => k_is); (case e9 => k_is)
  (case a10 => k_is); (case b10 => k_is); (case c10 => k_is); (case e10 => k_is)
  (case a11 => k_is); (case b11 => k_is); (case c11 => k_is); (case e11 => k_is)
  (case a12 => k_is); (case b12 => k_is); (case c12 => k_is); (case e12 => k_is)
  (case a13 => k_is); (case b13 => k_is); (case c13 => k_is); (case e13 => k_is)
  (case a14 => k_is); (case b14 => k_is); (case c14 => k_is); (case e14 => k_is)
  (case a15 => k_is); (case b15 => k_is); (case c15 => k_is); (case e15 => k_is)
  (case a16 => k_is); (case b16 => k_is); (case c16 => k_is); (case e16 => k_is)
  (case a17 => k_is); (case b17 => k_is); (case c17 => k_is); (case e17 => k_is)
  (case a18 => k_is); (case b18 => k_is); (case c18 => k_is); (case e18 => k_is)
  (case a19 => k_is); (case b19 => k_is); (case c19 => k_is); (case e19 => k_is)
  (case a20 => k_is); (case b20 => k_is); (case c20 => k_is); (case e20 => k_is)
  (case a21 => k_is); (case b21 => k_is); (case c21 => k_is); (case e21 => k_is)
  (case a22 => k_is); (case b22 => k_is); (case c22 => k_is); (case e22 => k_is)
  (case a23 => k_is); (case b23 => k_is); (case c23 => k_is); (case e23 => k_is)
  (case a24 => k_is); (case b24 => k_is); (case c24 => k_is); (case e24 => k_is)
  (case a25 => k_is); (case b25 => k_is); (case c25 => k_is); (case e25 => k_is)
  (case a26 => k_is); (case b26 => k_is); (case c26 => k_is); (case e26 => k_is)
  (case a27 => k_is); (case b27 => k_is); (case c27 => k_is); (case e27 => k_is)
  (case a28 => k_is); (case b28 => k_is); (case c28 => k_is); (case e28 => k_is)
  (case a29 => k_is); (case b29 => k_is); (case c29 => k_is); (case e29 => k_is)
  (case a30 => k_is); (case b30 => k_is); (case c30 => k_is); (case e30 => k_is)
  (case a31 => k_is); (case b31 => k_is); (case c31 => k_is); (case e31 => k_is)
  (case a32 => k_is); (case b32 => k_is); (case c32 => k_is); (case e32 => k_is)
  (case a33 => k_is); (case b33 => k_is); (case c33 => k_is); (case e33 => k_is)
  (case a34 => k_is); (case b34 => k_is); (case c34 => k_is); (case e34 => k_is)
  (case a35 => k_is); (case b35 => k_is); (case c35 => k_is); (case e35 => k_is)
  (case a36 => k_is); (case b36 => k_is); (case c36 => k_is); (case e36 => k_is)
  (case a37 => k_is); (case b37 => k_is); (case c37 => k_is); (case e37 => k_is)
  (case a38 => k_is); (case b38 => k_is); (case c38 => k_is); (case e38 => k_is)
  (case a39 => k_is); (case b39 => k_is); (case c39 => k_is); (case e39 => k_is)
  (case g1 => kernel_rfl)
  (case kc0 => k_is)
  (case kc1 => k_is)
  (case kc2 => k_is)
