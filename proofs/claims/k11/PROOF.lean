import PyProof.Rows.All
import Wide.All
import OpenK.AllK
import Wide.FinOn
import Lean
import PyProof.EqAt
import PyProof.EqKinds
import PyProof.TupleCall
import PyProof.NeKinds
import PyProof.Rows.SortWalk
import PyProof.Rows.SortRuns
import KE.KMinKey
import PyProof.IsRules
import PySem.SetOps
import PyProof.SetScanFacts
import PyProof.TupleKey
import PyProof.SetKind
import PyProof.Rows.SetFrom
import KE.KRevSl
import PyProof.Rows.SumAny
import PyProof.EnumMake
import PyProof.SeqI3
import PyProof.TupleOfGen
import PyProof.ListRange
import PyProof.CollectIter
import PyProof.DictItems
import KE.KDictList
import PySem.Challenge.RW_unlikesteps_k11_hits_of_a_lay
set_option Elab.async false
set_option linter.all false
set_option maxRecDepth 100000
set_option maxHeartbeats 0
namespace L2
open PySem PySem.Spec PyProof.Rows
abbrev Key:=Sum Int Str
def mD:Key→Value→Bool
 | .inl k,v=>Value.isInt k v
 | .inr x,v=>Value.isStrOf x v
def Gr (w:World):Key→Int
 | .inl k=>hashInt k
 | .inr x=>hashStr w x
theorem ZP:∀{k:Key}{v:Value},mD k v=true→(∃i t,k=Sum.inl i∧v=Value.int i t)∨(∃x t,k=Sum.inr x∧v=Value.str x t)
 | .inl i,v,h=>by
  obtain⟨t,e⟩:=Value.isInt_shape (k:=i) (v:=v) h
  exact .inl ⟨i,t,rfl,e⟩
 | .inr x,v,h=>by
  obtain⟨t,e⟩:=Value.isStrOf_shape (x:=x) (v:=v) h
  exact .inr ⟨x,t,rfl,e⟩
theorem Pl (i:Int) (t:Tok):mD (.inl i) (.int i t)=true:=by simp[mD,Value.isInt]
theorem OL (x:Str) (t:Tok):mD (.inr x) (.str x t)=true:=by simp[mD,Value.isStrOf]
theorem LU (a b:Int):decide ((Sum.inl a:Key)=Sum.inl b)=(a==b):=by
 by_cases e:a=b
 ·subst e;simp
 ·have h:¬(Sum.inl a:Key)=Sum.inl b:=fun q=>e (Sum.inl.inj q)
  rw[decide_eq_false h]
  exact(beq_eq_false_iff_ne.mpr e).symm
theorem LY (a b:Str):decide ((Sum.inr a:Key)=Sum.inr b)=decide (a=b):=by
 by_cases e:a=b
 ·subst e;simp
 ·have h:¬(Sum.inr a:Key)=Sum.inr b:=fun q=>e (Sum.inr.inj q)
  rw[decide_eq_false h,decide_eq_false e]
theorem LV (a:Int) (b:Str):decide ((Sum.inl a:Key)=Sum.inr b)=false:=decide_eq_false (fun q=>nomatch q)
theorem LW (a:Str) (b:Int):decide ((Sum.inr a:Key)=Sum.inl b)=false:=decide_eq_false (fun q=>nomatch q)
def eF (prog:Program) (w:World):PySem.KeyKind prog w Key where
 is:=mD
 hash:=Gr w
 inj:=fun v a b ha hb=>by
  rcases ZP ha with ⟨i,t,rfl,rfl⟩ |⟨x,t,rfl,rfl⟩
  ·rcases ZP hb with ⟨j,u,rfl,e⟩ |⟨y,u,rfl,e⟩
   ·injection e with e1 _;rw[e1]
   ·exact nomatch e
  ·rcases ZP hb with ⟨j,u,rfl,e⟩ |⟨y,u,rfl,e⟩
   ·exact nomatch e
   ·injection e with e1 _;rw[e1]
 byValue:=fun k v h=>by
  rcases ZP h with ⟨i,t,rfl,rfl⟩ |⟨x,t,rfl,rfl⟩<;>rfl
 pyHash:=fun hv h=>by
  rcases ZP hv with ⟨i,t,rfl,rfl⟩ |⟨x,t,rfl,rfl⟩
  ·exact wpAny_pyHash_int h
  ·exact wpAny_pyHash_str h
 eqBool:=fun hu hv h=>by
  rcases ZP hu with ⟨i,t,rfl,rfl⟩ |⟨x,t,rfl,rfl⟩
  ·rcases ZP hv with ⟨j,u,rfl,rfl⟩ |⟨y,u,rfl,rfl⟩
   ·rw[LU]at h;exact wpAny_eqBool_int h
   ·rw[LV]at h;exact SeqAt.EqAt.int_str i t y u _ _ _ _ h
  ·rcases ZP hv with ⟨j,u,rfl,rfl⟩ |⟨y,u,rfl,rfl⟩
   ·rw[LW]at h;exact SeqAt.EqAt.str_int x t j u _ _ _ _ h
   ·rw[LY]at h;exact wpAny_eqBool_str h
 «strs» :=fun k x t v h=>by
  rcases ZP h with ⟨i,u,rfl,e⟩ |⟨y,u,rfl,e⟩
  ·exact nomatch e
  ·injection e with e1 _
   subst e1
   cases v<;>rfl
theorem Uq (prog:Program) (w:World) (i:Int) (t:Tok):(eF prog w).is (.inl i) (.int i t)=true:=Pl i t
theorem Up (prog:Program) (w:World) (x:Str) (t:Tok):(eF prog w).is (.inr x) (.str x t)=true:=OL x t
inductive V where
 |af |bl (b:Bool) |int (i:Int) |str (x:Str) |gC (b:Array UInt8) |ig (b:UInt64) |ref (a:Addr) |ty (n:String)
 deriving DecidableEq
def RelV:V→Value→Prop
 | .af,u=>u=Value.none
 | .bl b,u=>u=Value.bool b
 | .int i,u=> ∃t,u=Value.int i t
 | .str x,u=> ∃t,u=Value.str x t
 | .gC b,u=> ∃t,u=Value.bytes b t
 | .ig b,u=> ∃t,u=Value.float b t
 | .ref a,u=>u=Value.ref a
 | .ty n,u=>u=Value.type n
abbrev Vals:List V→List Value→Prop:=Paired RelV
theorem Vals.length {xs:List V}{us:List Value}(r:Vals xs us):xs.length=us.length:=Paired.length r
theorem Vals.get:∀{xs:List V}{us:List Value}{i:Nat}{x:V},Vals xs us→xs[i]? =some x→∃u,us[i]? =some u∧RelV x u
 |_,_,_,_,.nil,e=>by simp at e
 |_,_,0,_,.cons r _,e=>by simp at e;subst e;exact⟨_,rfl,r⟩
 |_,_,i+1,x,.cons _ t,e=>by
  obtain⟨u,h1,h2⟩:=Vals.get (i:=i) (x:=x) t (by simpa using e)
  exact⟨u,by simpa using h1,h2⟩
theorem Vals.set {x:V}{u:Value}(r:RelV x u):∀{xs:List V}{us:List Value}(i:Nat),Vals xs us→Vals (xs.set i x) (us.set i u)
 |_,_,_,.nil=> .nil
 |_,_,0,.cons _ t=> .cons r t
 |_,_,i+1,.cons q t=> .cons q (Vals.set r i t)
theorem Vals.append:∀{xs ys:List V}{us ws:List Value},Vals xs us→Vals ys ws→Vals (xs++ys) (us++ws)
 |_,_,_,_,.nil,s=>s
 |_,_,_,_,.cons r t,s=> .cons r (Vals.append t s)
theorem Vals.take:∀{xs:List V}{us:List Value}(n:Nat),Vals xs us→Vals (xs.take n) (us.take n)
 |_,_,0,_=> .nil
 |_,_,_+1,.nil=> .nil
 |_,_,n+1,.cons r t=> .cons r (Vals.take n t)
theorem Vals.drop:∀{xs:List V}{us:List Value}(n:Nat),Vals xs us→Vals (xs.drop n) (us.drop n)
 |_,_,0,r=>r
 |_,_,_+1,.nil=> .nil
 |_,_,n+1,.cons _ t=>Vals.drop n t
def jo:Option V→Option Value→Prop
 |some v,some u=>RelV v u
 |none,none=>True
 |_,_=>False
def KV {κ:Type} :List (κ×V)→List (κ×Value)→Prop:=Paired fun(p:κ×V) (q:κ×Value)=>p.1=q.1∧RelV p.2 q.2
def kV:Key→V
 | .inl i=> .int i
 | .inr x=> .str x
inductive HO where
  |lst (xs:List V)
  |tup (xs:List V)
  |par (xs:List V)
  |dK (kvs:List (Key×V)) |dT (kvs:List (List Key×V))
  |set (S:Int→Bool) (n:Nat)
  |ins (C dx:Addr) (fs:List (Str×V))
  |own (x:Addr)
  |xd (fs:List (Str×V))
  |met (f x:Addr)
  |fT (lo hi:Int)
  |aT (o:Obj) (u:HO)
  |cg (ps:Array Value)
  |ext (φ:Heap→Prop)
abbrev Hp:=Addr→Option HO
def upd (H:Hp) (a:Addr) (o:HO):Hp:=fun b=>if b=a then some o else H b
theorem Zc {H:Hp}{a:Addr}{o:HO} :upd H a o a=some o:=by unfold upd;rw[if_pos rfl]
theorem Zg {H:Hp}{a b:Addr}{o:HO}(h:b≠a):upd H a o b=H b:=by unfold upd;rw[if_neg h]
theorem Z7 {H:Hp}{a b:Addr}{o u:HO}(h:H a=some o) (h':H b=some u) (d:o≠u):a≠b:=by
 intro e;subst e;rw[h]at h';exact d (Option.some.inj h')
theorem Ze {H:Hp}{a b:Addr}{o:HO}(h:H a=some o) (h':H b=none):a≠b:=by
 intro e;subst e;rw[h]at h';cases h'
section
variable (P:Program) (w:World)
def aP (H:Hp) (h:Heap) (a:Addr):HO→Prop
 | .lst xs=>xs.length≤sizeLine∧∃(its:List Value) (n:Nat),Vals xs its∧h.get? a=some {cls:=.type "list",data:=.seq its.toArray n}
 | .tup xs=>xs.length≤sizeLine∧∃its:List Value,Vals xs its∧IsTup h a its.toArray∧∃o,h.get? a=some o∧o.dict=none
 | .par xs=>xs.length≤sizeLine∧∃its:List Value,Vals xs its∧IsTup h a its.toArray
 | .dK kvs=>kvs.length≤sizeLine∧(a==sysModules)=false∧∃vs,KV kvs vs∧h.DictOf (eF P w) a vs
 | .dT kvs=>kvs.length≤sizeLine∧(a==sysModules)=false∧∃xs:List (List Key×Addr×Value),
   Paired (fun(p:List Key×V) (q:List Key×Addr×Value)=>p.1=q.1∧H q.2.1=some (.tup (p.1.map kV))∧RelV p.2 q.2.2) kvs xs∧
   ∃o es ep,h.get? a=some o∧o.ExactDict∧o.data=.dict es ep∧es.toList=xs.map (entryOfKey (tupleKind (eF P w)))∧(xs.map (·.1)).Nodup
 | .set S n=>h.SetOf (intKind P w) a S n
 | .ins C dx fs=>H dx=some (.own a)∧fs.length≤1000∧dx≠a∧h.get? a=some (PySem.W.instObj C dx)∧
   ∃mA,h.Ns1 dx mA∧(∀f,jo (fs.lookup f) (mA f))∧PySem.Within mA (fs.map (·.1))
 | .own _=> ∃o,h.get? a=some o
 | .xd fs=> ∃mA,h.Ns1 a mA∧∀f,jo (fs.lookup f) (mA f)
 | .fT lo hi=> ∃t u v,h.get? a=some {cls:=.type "range",data:=.fields #[.int lo t,.int hi u,.int 1 v]}
 | .aT o u=>h.get? a=some o∧aP H h a u
 | .cg ps=>h.get? a=some {cls:=.none,data:=.fields ps}
 | .met f x=>h.get? a=some (PySem.W.methodObj (.ref f) (.ref x))
 | .ext φ=>φ h∧(∃o,h.get? a=some o)∧∀h1 h2:Heap,φ h1→(∀o,h1.get? a=some o→h2.get? a=some o)→φ h2
def bg (H:Hp) (h:Heap):Prop:=∀a o,H a=some o→aP P w H h a o
end
section
variable {P:Program}{w:World}{H H':Hp}{h h':Heap}{a:Addr}{o:HO}
theorem aP.lt (x:aP P w H h a o):a<h.objs.size:=by
 cases o with
 |lst xs=>obtain⟨_,_,_,_,e⟩:=x;exact Heap.lt_size e
 |tup xs=>obtain⟨_,_,_,p,_⟩:=x;exact p.lt
 |par xs=>obtain⟨_,_,_,p⟩:=x;exact p.lt
 |dK kvs=>obtain⟨_,_,_,_,o,_,_,e,_⟩:=x;exact Heap.lt_size e
 |dT kvs=>obtain⟨_,_,_,_,o,_,_,e,_⟩:=x;exact Heap.lt_size e
 |set S n=>obtain⟨o,_,_,_,e,_⟩:=x;exact Heap.lt_size e
 |ins C dx fs=>obtain⟨_,_,_,e,_⟩:=x;exact Heap.lt_size e
 |own y=>obtain⟨_,e⟩:=x;exact Heap.lt_size e
 |xd fs=>obtain⟨_,⟨_,_,_,e,_⟩,_⟩:=x;exact Heap.lt_size e
 |fT lo hi=>obtain⟨_,_,_,e⟩:=x;exact Heap.lt_size e
 |aT ob u=>obtain⟨e,_⟩:=x;exact Heap.lt_size e
 |cg ps=>exact Heap.lt_size (show h.get? a=some _ from x)
 |met f y=>exact Heap.lt_size (show h.get? a=some _ from x)
 |ext φ=>obtain⟨_,⟨_,e⟩,_⟩:=x;exact Heap.lt_size e
theorem Paired.cu {α β:Type}{F G:α→β→Prop} :∀{jN:List α}{jM:List β},Paired F jN jM→(∀a b,F a b→G a b)→Paired G jN jM
 |_,_,.nil,_=> .nil
 |_,_,.cons r t,f=> .cons (f _ _ r) (Paired.cu t f)
theorem aP.bz (x:aP P w H h a o) (k:∀b u,(b=a∨H b=some (.own a))→h.get? b=some u→h'.get? b=some u)
  (ho:∀b,H b=some (.own a)→H' b=some (.own a)) (ht:∀b xs,H b=some (.tup xs)→H' b=some (.tup xs)):aP P w H' h' a o:=by
 induction o with
 |lst xs=>obtain⟨z,its,n,r,e⟩:=x;exact⟨z,its,n,r,k _ _ (.inl rfl) e⟩
 |tup xs=>obtain⟨z,its,r,⟨ob,e,c⟩,o2,e2,c2⟩:=x;exact⟨z,its,r,⟨ob,k _ _ (.inl rfl) e,c⟩,o2,k _ _ (.inl rfl) e2,c2⟩
 |par xs=>obtain⟨z,its,r,ob,e,c⟩:=x;exact⟨z,its,r,ob,k _ _ (.inl rfl) e,c⟩
 |dK kvs=>obtain⟨z,y,vs,r,ob,es,ep,e,c⟩:=x;exact⟨z,y,vs,r,ob,es,ep,k _ _ (.inl rfl) e,c⟩
 |dT kvs=>
  obtain⟨z,y,xs,r,ob,es,ep,e,c⟩:=x
  exact⟨z,y,xs,Paired.cu r fun p q z=> ⟨z.1,ht _ _ z.2.1,z.2.2⟩,ob,es,ep,k _ _ (.inl rfl) e,c⟩
 |set S n=>obtain⟨ob,es,ep,t,e,c⟩:=x;exact⟨ob,es,ep,t,k _ _ (.inl rfl) e,c⟩
 |ins C dx fs=>
  obtain⟨d,z,ne,e,mA,⟨od,es,ep,e2,c⟩,r⟩:=x
  exact⟨ho _ d,z,ne,k _ _ (.inl rfl) e,mA,⟨od,es,ep,k _ _ (.inr d) e2,c⟩,r⟩
 |own y=>obtain⟨ob,e⟩:=x;exact⟨ob,k _ _ (.inl rfl) e⟩
 |xd fs=>obtain⟨mA,⟨od,es,ep,e,c⟩,r⟩:=x;exact⟨mA,⟨od,es,ep,k _ _ (.inl rfl) e,c⟩,r⟩
 |fT lo hi=>obtain⟨t,u,v,e⟩:=x;exact⟨t,u,v,k _ _ (.inl rfl) e⟩
 |aT ob u ih=>obtain⟨e,q⟩:=x;exact⟨k _ _ (.inl rfl) e,ih q⟩
 |cg ps=>
  have e:h.get? a=some {cls:=.none,data:=.fields ps} :=x
  show h'.get? a=some {cls:=.none,data:=.fields ps}
  exact k a _ (.inl rfl) e
 |met f y=>
  have e:h.get? a=some (PySem.W.methodObj (.ref f) (.ref y)):=x
  show h'.get? a=some (PySem.W.methodObj (.ref f) (.ref y))
  exact k a _ (.inl rfl) e
 |ext φ=>obtain⟨p,⟨o,e⟩,st⟩:=x;exact⟨st _ _ p fun o q=>k _ _ (.inl rfl) q,⟨o,k _ _ (.inl rfl) e⟩,st⟩
theorem bg.lt (x:bg P w H h) (e:H a=some o):a<h.objs.size:=(x a o e).lt
theorem bg.fresh (x:bg P w H h) (e:h.objs.size≤a):H a=none:=by
 cases q:H a with
 |none=>rfl
 |some u=>exact absurd (Nat.lt_of_lt_of_le (x.lt q) e) (Nat.lt_irrefl _)
theorem bg.kept (x:bg P w H h) (k:∀b u,h.get? b=some u→h'.get? b=some u):bg P w H h':=fun a o e=>
 (x a o e).bz (fun b u _ q=>k b u q) (fun _ q=>q) fun _ _ q=>q
theorem bg.laid (x:bg P w H h) (k:∀b u,h.get? b=some u→h'.get? b=some u) (hp:h.objs.size≤a) (new:aP P w (upd H a o) h' a o):bg P w (upd H a o) h':=fun b u e=>by
 have hn:=x.fresh hp
 by_cases hb:b=a
 ·subst hb;rw[Zc]at e;cases e;exact new
 ·rw[Zg hb]at e
  exact(x b u e).bz (fun c v _ q=>k c v q) (fun c q=>by rw[Zg (Ze q hn)];exact q) fun c xs q=>by rw[Zg (Ze q hn)];exact q
end
def Rd (H:Hp) (a:Addr) (u:HO):Prop:=H a=some u∨∃o,H a=some (.aT o u)
theorem Rd.ok {P:Program}{w:World}{H:Hp}{h:Heap}{a:Addr}{u:HO}(r:Rd H a u) (x:bg P w H h):aP P w H h a u:=by
 rcases r with r |⟨o,r⟩
 ·exact x a u r
 ·obtain⟨_,q⟩:=x a _ r
  exact q
def pR:Option HO→Prop
 |some (.lst _)=>True
 |some (.dK _)=>True
 |some (.dT _)=>True
 |some (.set _ _)=>True
 |some (.ins _ _ _)=>True
 |some (.ext _)=>True
 |_=>False
section
variable {P:Program}{w:World}{H:Hp}{h h':Heap}{x e:Addr}{o':HO}
theorem bg.write (ok:bg P w H h) (mu:pR (H x)) (he:e=x∨H e=some (.own x)) (k:∀b u,b≠e→h.get? b=some u→h'.get? b=some u) (mK:∃u,h'.get? e=some u)
  (new:aP P w (upd H x o') h' x o'):bg P w (upd H x o') h':=fun b u q=>by
 have zK:∀c y,H c=some (.own y)→c≠x:=fun c y r z=>by subst z;rw[r]at mu;exact mu
 have FD:∀c xs,H c=some (.tup xs)→c≠x:=fun c xs r z=>by subst z;rw[r]at mu;exact mu
 by_cases hb:b=x
 ·subst hb;rw[Zc]at q;cases q;exact new
 ·rw[Zg hb]at q
  by_cases iN:b=e
  ·have q':H b=some (.own x):=by
    rcases he with z |z
    ·exact absurd (iN.trans z) hb
    ·rw[iN];exact z
   rw[q]at q';cases q'
   obtain⟨v,hv⟩:=mK
   exact⟨v,by rw[iN];exact hv⟩
  ·refine(ok b u q).bz (fun c v hc r=>k c v ?_ r) (fun c r=>by rw[Zg (zK c b r)];exact r) fun c xs r=>by rw[Zg (FD c xs r)];exact r
   rcases hc with rfl |hc
   ·exact iN
   ·rintro rfl
    rcases he with z |z
    ·exact zK c b hc z
    ·rw[hc]at z;cases z;exact hb rfl
end
structure Un (fs ex:List Addr) (H H':Hp) (h h':Heap):Prop where
 keep:∀b o,h.get? b=some o→H b=none→b∉fs→b∉ex→h'.get? b=some o
 slot:∀b o,h.get? b=some o→H b=none→b∈fs→b∉ex→∃sl,h'.get? b=some {o with slots:=sl}
 free:∀b o,h.get? b=some o→H b=none→b∉ex→H' b=none
 there:∀b o,h.get? b=some o→b∉ex→∃o',h'.get? b=some o'
 fO:∀b xs,H b=some (.tup xs)→H' b=some (.tup xs)
 fH:∀b o u,H b=some (.aT o u)→H' b=some (.aT o u)
 fh:∀b ps,H b=some (.cg ps)→∃more,H' b=some (.cg (ps++more))
section
variable {fs KG ex QZ:List Addr}{H H1 H2:Hp}{h h1 h2 h':Heap}{a x e:Addr}{o:HO}
theorem Un.any (u:Un fs ex H H1 h h1) {b:Addr}{ob:Obj}(q:h.get? b=some ob) (n:H b=none) (hx:b∉ex):∃sl,h1.get? b=some {ob with slots:=sl} :=by
 by_cases hb:b∈fs
 ·exact u.slot b ob q n hb hx
 ·exact⟨ob.slots,u.keep b ob q n hb hx⟩
theorem Un.kept (k:∀b u,h.get? b=some u→h'.get? b=some u):Un fs ex H H h h':=
 ⟨fun b ob q _ _ _=>k b ob q,fun b ob q _ _ _=> ⟨ob.slots,k b ob q⟩,fun _ _ _ n _=>n,fun b ob q _=> ⟨ob,k b ob q⟩,fun _ _ q=>q,fun _ _ _ q=>q,fun _ ps q=> ⟨#[],by rw[q];simp⟩⟩
theorem Un.refl:Un fs ex H H h h:=Un.kept fun _ _ q=>q
theorem Un.laid (k:∀b u,h.get? b=some u→h'.get? b=some u) (hp:h.objs.size≤a) (hn:H a=none):Un fs ex H (upd H a o) h h' where
 keep:=fun b u q _ _ _=>k b u q
 slot:=fun b u q _ _ _=> ⟨u.slots,k b u q⟩
 free:=fun b u q n _=>by rw[Zg (Nat.ne_of_lt (Nat.lt_of_lt_of_le (Heap.lt_size q) hp))];exact n
 there:=fun b u q _=> ⟨u,k b u q⟩
 fO:=fun b xs q=>by rw[Zg (Ze q hn)];exact q
 fH:=fun b u xs q=>by rw[Zg (Ze q hn)];exact q
 fh:=fun b ps q=> ⟨#[],by rw[Zg (Ze q hn),q];simp⟩
theorem Un.write (mu:pR (H x)) (he:e=x∨H e=some (.own x)) (k:∀b u,b≠e→h.get? b=some u→h'.get? b=some u) (mK:∃u,h'.get? e=some u):Un fs ex H (upd H x o) h h':=by
 have hx:∀b,H b=none→b≠x:=fun b n z=>by subst z;rw[n]at mu;exact mu
 have hb:∀b,H b=none→b≠e:=fun b n z=>by
  subst z
  rcases he with r |r
  ·exact hx b n r
  ·rw[n]at r;cases r
 have hm:∀b u,H b=some u→¬pR (some u)→b≠x:=fun b u q nm z=>by subst z;rw[q]at mu;exact nm mu
 refine⟨fun b u q n _ _=>k b u (hb b n) q,fun b u q n _ _=> ⟨u.slots,k b u (hb b n) q⟩,fun b u q n _=>by rw[Zg (hx b n)];exact n,fun b u q _=> ?_,
  fun b xs q=>by rw[Zg (hm b _ q fun z=>z)];exact q,fun b u xs q=>by rw[Zg (hm b _ q fun z=>z)];exact q,fun b ps q=> ⟨#[],by rw[Zg (hm b _ q fun z=>z),q];simp⟩⟩
 by_cases iN:b=e
 ·subst iN;exact mK
 ·exact⟨u,k b u iN q⟩
end
def bN (h:Heap) (H:Hp):List Addr:=(List.range h.objs.size).filter fun a=> (H a).isSome
def gu (h:Heap) (H:Hp):Heap:=PySem.W.hideAll h (bN h H)
theorem WG (h:Heap) (H:Hp):(gu h H).objs.size=h.objs.size:=PySem.W.hideAll_size _ _
theorem Uy {h:Heap}{H:Hp}{b:Addr}{o:Obj}(e:h.get? b=some o) (n:H b=none):(gu h H).get? b=some o:=
 PySem.W.hideAll_get _ e fun hm=>by
  have q:(H b).isSome=true:=(List.mem_filter.mp hm).2
  rw[n]at q;simp at q
theorem CF {h:Heap}{H:Hp}{b:Addr}{o:Obj}(e:(gu h H).get? b=some o):h.get? b=some o∧H b=none:=by
 have e':h.get? b=some o:=PySem.W.of_hideAll (bN h H) e
 refine⟨e',?_⟩
 cases q:H b with
 |none=>rfl
 |some x=>
  have hm:b∈bN h H:=List.mem_filter.mpr ⟨List.mem_range.mpr (Heap.lt_size e'),by simp[q]⟩
  have z:(gu h H).get? b=none:=PySem.W.hideAll_none (bN h H) hm
  rw[z]at e;cases e
def LK (g h:Heap) (L:Addr):List (Addr×Obj):=(List.range h.objs.size).filterMap fun a=>if a=L∨(g.get? a).isSome=true then none else (h.get? a).map fun o=> (a,o)
def rest (g h:Heap) (L d:Addr):List (Addr×Obj):=(LK g h L).filter fun p=>decide (p.1≠d)
structure Mod (K:PySem.W.Frag) (mg:Str→Option Value) (base:Heap):Prop where
 mC:K.In base
 glob:base.Ns mainGlobals mg
 blt:∃mb,base.Ns builtinsNs mb∧∀x:Str,x≠ "__name__" →mb x=bootBuiltins x
 nolimit:base.NoLimit
structure Cx where
 prog:Program
 w:World
 K:PySem.W.Frag
 mg:Str→Option Value
 base:Heap
 A:Around
 N:List Str
 bS:Shared
 js:Hp
 env:Env
 outer:List Env
 stack:List Env
 ex:List Addr
 fn:Str→Bool
 calm:Bool
 pn:List (Addr×Obj)
 xe:Value→Shared→Prop
def aQ (l:List Env):List Addr:=l.filterMap (·.frame)
abbrev Cx.fs (X:Cx):List Addr:=aQ X.outer
def pO (sc:Scope) (x:Str):Prop:=sc.names.lookup x=some .local∨sc.names.lookup x=some .cell∨sc.names.lookup x=some .free
def Loc (sc:Scope) (x:Str):Prop:=sc.names.lookup x=some .local∨sc.names.lookup x=some .cell
def Look (env:Env) (h:Heap) (m:Str→Option Value) (x:Str) (u:Value):Prop:=
 (env.kindOf x=some .local∧m x=some u)∨((env.kindOf x=some .cell∨env.kindOf x=some .free)∧∃c,env.cells.lookup x=some c∧h.IsCell c (some u))
structure Cx.Ok (X:Cx):Prop where
 mod:Mod X.K X.mg X.base
 kind:X.env.scope.kind=.function
 glob:X.env.globals=mainGlobals
 blt:X.env.builtins=builtinsNs
 above:X.bS.heap.objs.size≤X.env.locals
 inj:∀x y c,X.env.cells.lookup x=some c→X.env.cells.lookup y=some c→x=y
 has:∀x,(X.env.kindOf x=some .cell∨X.env.kindOf x=some .free)→∃c,X.env.cells.lookup x=some c
 ke:∀x c,X.fn x=true→X.env.cells.lookup x=some c→X.bS.heap.objs.size≤c
 hd:X.calm=true→X.A.handled=none
 frames:X.A.frames=some X.stack
 l8:X.stack=X.outer∨(X.stack=X.env::X.outer∧X.env.frame=some X.env.locals)
 mY:∀b∈X.ex,b≠X.env.locals∧∀x c,X.env.cells.lookup x=some c→c≠b
 bs:∀b o,X.base.get? b=some o→X.bS.heap.get? b=some o∧X.js b=none
 iP:X.base.objs.size≤X.bS.heap.objs.size
 kL:∀b o,X.base.get? b=some o→b∉X.ex
 lL:∀b∈X.ex,b∉X.fs
 dB:X.bS.heap.FunFrames X.base X.outer
 gw:∀b∈X.fs,X.js b=none
structure Inv (X:Cx) (pins:List (Addr×Obj)) (σ:List (Option V)) (H:Hp) (s:Shared):Prop where
 ok:X.Ok
 os:s.os=X.bS.os
 bare:AllBare s.gens
 base:Un X.fs X.ex X.js H X.bS.heap s.heap
 loc:∃m,s.heap.Ns X.env.locals m∧∀(i:Nat) (x:Str) (v:V),X.N[i]? =some x→σ[i]? =some (some v)→pO X.env.scope x→∃u,RelV v u∧Look X.env s.heap m x u
 cell:∀x c,X.env.cells.lookup x=some c→∃v,s.heap.IsCell c v
 free:H X.env.locals=none
 fI:∀x c,X.env.cells.lookup x=some c→H c=none
 pin:∀p∈X.pn++pins,s.heap.get? p.1=some p.2∧H p.1=none∧p.1≠X.env.locals∧p.1∉X.fs∧∀v,p.2.data≠.cell v
 ag:bg X.prog X.w H s.heap
 len:σ.length=X.N.length
section
variable {X:Cx}{pins:List (Addr×Obj)}{σ:List (Option V)}{H H':Hp}{s:Shared}{h':Heap}
theorem Cx.Ok.FI (ok:X.Ok) {b:Addr}{o:Obj}(e:X.base.get? b=some o):b∉X.fs:=fun hb=>by
 have:=(ok.dB.mem hb).1
 rw[e]at this;cases this
theorem Inv.bs (I:Inv X pins σ H s):∀b o,X.base.get? b=some o→s.heap.get? b=some o∧H b=none:=fun b o e=>
 ⟨I.base.keep b o (I.ok.bs b o e).1 (I.ok.bs b o e).2 (I.ok.FI e) (I.ok.kL b o e),I.base.free b o (I.ok.bs b o e).1 (I.ok.bs b o e).2 (I.ok.kL b o e)⟩
theorem Inv.bk (I:Inv X pins σ H s):∀b o,X.base.get? b=some o→s.heap.get? b=some o:=fun b o e=> (I.bs b o e).1
theorem Inv.mod (I:Inv X pins σ H s):Mod X.K X.mg X.base:=I.ok.mod
theorem Inv.bO (I:Inv X pins σ H s):X.K.In s.heap:=I.ok.mod.mC.keeps I.bk
theorem Inv.lt (I:Inv X pins σ H s):X.env.locals<s.heap.objs.size:=let ⟨_,hn,_⟩:=I.loc;hn.lt
theorem Inv.sz (I:Inv X pins σ H s):X.bS.heap.objs.size≤s.heap.objs.size:=Nat.le_trans I.ok.above (Nat.le_of_lt I.lt)
theorem Inv.FG (I:Inv X pins σ H s) {a:Addr}(h:s.heap.objs.size≤a):a∉X.fs:=fun hb=>by
 obtain⟨_,o,ho,_⟩:=I.ok.dB.mem hb
 exact absurd (Nat.lt_of_lt_of_le (Heap.lt_size ho) (Nat.le_trans I.sz h)) (Nat.lt_irrefl _)
theorem Inv.gB (I:Inv X pins σ H s):∀x c,X.env.cells.lookup x=some c→c≠X.env.locals:=fun x c e z=>by
 obtain⟨v,o,ho,hd⟩:=I.cell x c e
 obtain⟨m,⟨o',es,ep,cH,IF,_⟩,_⟩:=I.loc
 rw[z,cH]at ho;cases ho;rw[IF]at hd;cases hd
theorem Inv.dB (I:Inv X pins σ H s):s.heap.FunFrames X.base X.outer:=by
 have all:∀(l:List Env),(∀b∈aQ l,b∈X.fs)→X.bS.heap.FunFrames X.base l→s.heap.FunFrames X.base l:=by
  intro l
  induction l with
  |nil=>intro _ _;trivial
  |cons env r ih=>
   intro hs hl
   obtain⟨hk,⟨L,o,hf,hn,ho,hd⟩,hr⟩:=hl
   have hL:L∈X.fs:=hs L (by unfold aQ;rw[List.filterMap_cons,hf];exact List.mem_cons_self)
   obtain⟨sl,e⟩:=I.base.slot L o ho (I.ok.gw L hL) hL fun z=>I.ok.lL L z hL
   exact⟨hk,⟨L,_,hf,hn,e,hd⟩,ih (fun b hb=>hs b (by unfold aQ;rw[List.filterMap_cons,hf];exact List.mem_cons_of_mem _ hb)) hr⟩
 exact all X.outer (fun _ hb=>hb) I.ok.dB
theorem Inv.stack (I:Inv X pins σ H s):s.heap.FunFrames X.base X.stack:=by
 rcases I.ok.l8 with e |⟨e,hf⟩
 ·rw[e];exact I.dB
 ·rw[e]
  obtain⟨m,hn,_⟩:=I.loc
  refine .cons (by rw[I.ok.kind];decide) hf hn ?_ I.dB
  exact Heap.get?_none_of_le (Nat.le_trans I.ok.iP I.ok.above)
theorem Inv.qp (I:Inv X pins σ H s):∀b∈aQ X.stack,b∈X.env.locals::X.fs:=fun b hb=>by
 rcases I.ok.l8 with e |⟨e,hf⟩
 ·rw[e]at hb;exact List.mem_cons_of_mem _ hb
 ·rw[e]at hb
  unfold aQ at hb
  rw[List.filterMap_cons,hf]at hb
  exact hb
theorem Inv.nY (I:Inv X pins σ H s):∀b∈aQ X.stack,H b=none:=fun b hb=>by
 rcases List.mem_cons.mp (I.qp b hb) with e |hb
 ·rw[e];exact I.free
 ·obtain⟨_,o,ho,_⟩:=I.ok.dB.mem hb
  exact I.base.free b o ho (I.ok.gw b hb) fun z=>I.ok.lL b z hb
theorem Inv.step {g':Array GenState}{t':Nat}{d':Drawn}{ch:List Addr}(I:Inv X pins σ H s)
  (iL:∀b∈ch,(b∈X.ex∨X.bS.heap.objs.size≤b)∧b≠X.env.locals∧(∀x c,X.env.cells.lookup x=some c→c≠b)∧∀p∈X.pn++pins,p.1≠b)
  (keep:∀b o,b≠X.env.locals→b∉X.fs→b∉ch→s.heap.get? b=some o→H b=none→h'.get? b=some o)
  (slot:∀b o,b≠X.env.locals→b∈X.fs→b∉ch→s.heap.get? b=some o→H b=none→∃sl,h'.get? b=some {o with slots:=sl}) (free:∀b o,b∉ch→s.heap.get? b=some o→H b=none→H' b=none)
  (there:∀b o,b∉ch→s.heap.get? b=some o→∃o',h'.get? b=some o')
  (fO:∀b xs,H b=some (.tup xs)→H' b=some (.tup xs)) (fH:∀b o u,H b=some (.aT o u)→H' b=some (.aT o u)) (fh:∀b ps,H b=some (.cg ps)→∃more,H' b=some (.cg (ps++more)))
  (ns:∀m,s.heap.Ns X.env.locals m→h'.Ns X.env.locals m) (ag:bg X.prog X.w H' h') (hg:AllBare g'):
  Inv X pins σ H' {s with heap:=h',gens:=g',drawn:=d',toks:=t'} :=by
 have zP:∀b o,X.bS.heap.get? b=some o→b≠X.env.locals:=fun b o e=>Nat.ne_of_lt (Nat.lt_of_lt_of_le (Heap.lt_size e) I.ok.above)
 have gq:∀b o,X.bS.heap.get? b=some o→b∉X.ex→b∉ch:=fun b o e hx hb=>by
  rcases (iL b hb).1 with z |z
  ·exact hx z
  ·exact absurd (Nat.lt_of_lt_of_le (Heap.lt_size e) z) (Nat.lt_irrefl _)
 have cellK:∀x c,X.env.cells.lookup x=some c→∀v,s.heap.IsCell c v→h'.IsCell c v:=fun x c e v ⟨o,ho,hd⟩=>by
  have oA:c∉ch:=fun z=> (iL c z).2.2.1 x c e rfl
  by_cases hc:c∈X.fs
  ·obtain⟨sl,q⟩:=slot c o (I.gB x c e) hc oA ho (I.fI x c e)
   exact⟨_,q,hd⟩
  ·exact⟨o,keep c o (I.gB x c e) hc oA ho (I.fI x c e),hd⟩
 refine⟨I.ok,I.os,hg,⟨fun b o e n hb hx=> ?_,fun b o e n hb hx=> ?_,fun b o e n hx=> ?_,fun b o e hx=> ?_,fun b xs e=>fO b xs (I.base.fO b xs e),fun b o xs e=>fH b o xs (I.base.fH b o xs e),fun b ps e=> ?_⟩,?_,fun x c e=> ?_,?_,fun x c e=> ?_,fun p hp=> ?_,ag,I.len⟩
 ·exact keep b o (zP b o e) hb (gq b o e hx) (I.base.keep b o e n hb hx) (I.base.free b o e n hx)
 ·obtain⟨sl,e1⟩:=I.base.slot b o e n hb hx
  obtain⟨Eu,e2⟩:=slot b _ (zP b o e) hb (gq b o e hx) e1 (I.base.free b o e n hx)
  exact⟨Eu,e2⟩
 ·obtain⟨o',e1⟩:=I.base.there b o e hx
  exact free b o' (gq b o e hx) e1 (I.base.free b o e n hx)
 ·obtain⟨o',e1⟩:=I.base.there b o e hx
  exact there b o' (gq b o e hx) e1
 ·obtain⟨m1,e1⟩:=I.base.fh b ps e
  obtain⟨m2,e2⟩:=fh b _ e1
  exact⟨m1++m2,by rw[e2,Array.append_assoc]⟩
 ·obtain⟨m,hn,hl⟩:=I.loc
  refine⟨m,ns m hn,fun i x v e1 e2 e3=> ?_⟩
  obtain⟨u,r,l⟩:=hl i x v e1 e2 e3
  refine⟨u,r,?_⟩
  rcases l with l |⟨k,c,e,z⟩
  ·exact .inl l
  ·exact .inr ⟨k,c,e,cellK x c e _ z⟩
 ·obtain⟨v,z⟩:=I.cell x c e
  exact⟨v,cellK x c e v z⟩
 ·obtain⟨m,⟨o,_,_,ho,_⟩,_⟩:=I.loc
  exact free _ o (fun z=> (iL _ z).2.1 rfl) ho I.free
 ·obtain⟨v,o,ho,hd⟩:=I.cell x c e
  exact free c o (fun z=> (iL c z).2.2.1 x c e rfl) ho (I.fI x c e)
 ·obtain⟨e,n,ne,nf,d⟩:=I.pin p hp
  have oA:p.1∉ch:=fun z=> (iL p.1 z).2.2.2 p hp rfl
  exact⟨keep p.1 p.2 ne nf oA e n,free p.1 p.2 oA e n,ne,nf,d⟩
theorem Inv.un {t':Nat}(I:Inv X pins σ H s) (u:Un X.fs [] H H' s.heap h') (ag:bg X.prog X.w H' h'):Inv X pins σ H' {s with heap:=h',toks:=t'} :=by
 obtain⟨m,⟨o,es,ep,ho,r⟩,_⟩:=id I.loc
 obtain⟨sl,hL⟩:=u.any ho I.free (by simp)
 exact I.step (g':=s.gens) (d':=s.drawn) (ch:=[]) (fun _ z=>nomatch z) (fun b o _ hb _ e n=>u.keep b o e n hb (by simp)) (fun b o _ hb _ e n=>u.slot b o e n hb (by simp)) (fun b o _ e n=>u.free b o e n (by simp)) (fun b o _ e=>u.there b o e (by simp)) u.fO u.fH u.fh (fun m' hm=>by
  obtain⟨o',r8,se,cH,r'⟩:=hm
  rw[ho]at cH;cases cH
  exact⟨_,r8,se,hL,r'⟩) ag I.bare
theorem Inv.call {g':Array GenState}{t':Nat}{d':Drawn}{ch:List Addr}(I:Inv X pins σ H s) (u:Un (aQ X.stack) ch H H' s.heap h') (ag:bg X.prog X.w H' h') (hg:AllBare g')
  (iL:∀b∈ch,(b∈X.ex∨X.bS.heap.objs.size≤b)∧b≠X.env.locals∧(∀x c,X.env.cells.lookup x=some c→c≠b)∧∀p∈X.pn++pins,p.1≠b):
  Inv X pins σ H' {s with heap:=h',gens:=g',drawn:=d',toks:=t'} :=by
 obtain⟨m,⟨o,es,ep,ho,r⟩,_⟩:=id I.loc
 obtain⟨sl,hL⟩:=u.any ho I.free fun z=> (iL _ z).2.1 rfl
 exact I.step (ch:=ch) iL (fun b o hL hb hc e n=>u.keep b o e n (fun z=> (List.mem_cons.mp (I.qp b z)).elim hL hb) hc) (fun b o _ _ hc e n=>u.any e n hc) (fun b o hc e n=>u.free b o e n hc) (fun b o hc e=>u.there b o e hc) u.fO u.fH u.fh (fun m' hm=>by
  obtain⟨o',r8,se,cH,r'⟩:=hm
  rw[ho]at cH;cases cH
  exact⟨_,r8,se,hL,r'⟩) ag hg
theorem Inv.turned {t':Nat}{it:Addr}(I:Inv X pins σ H s) (k:∀b o,b≠it→s.heap.get? b=some o→h'.get? b=some o) (hn:H it=none) (hL:it≠X.env.locals)
  (h1:it∈X.ex∨X.bS.heap.objs.size≤it) (h2:∀x c,X.env.cells.lookup x=some c→c≠it) (h3:∀p∈X.pn++pins,p.1≠it):Inv X pins σ H {s with heap:=h',toks:=t'} :=by
 have zN:∀b u,H b=some u→b≠it:=fun b u e z=>by rw[z,hn]at e;cases e
 refine I.step (g':=s.gens) (d':=s.drawn) (ch:=[it]) (fun b hb=> ?_) (fun b o _ _ hc e _=>k b o (fun z=>hc (by simp[z])) e) (fun b o _ _ hc e _=> ⟨o.slots,k b o (fun z=>hc (by simp[z])) e⟩) (fun _ _ _ _ n=>n)
  (fun b o hc e=> ⟨o,k b o (fun z=>hc (by simp[z])) e⟩) (fun _ _ e=>e) (fun _ _ _ e=>e) (fun b ps e=> ⟨#[],by rw[e];simp⟩) (fun m hm=> ?_) (fun b u e=> ?_) I.bare
 ·have e:b=it:=by simpa using hb
  subst e
  exact⟨h1,hL,h2,h3⟩
 ·obtain⟨o,es,ep,ho,r⟩:=hm
  exact⟨o,es,ep,k _ o (Ne.symm hL) ho,r⟩
 ·refine(I.ag b u e).bz (fun c v hc q=>k c v ?_ q) (fun _ q=>q) fun _ _ q=>q
  rcases hc with z |z
  ·rw[z];exact zN b u e
  ·exact zN c _ z
theorem Inv.tok (I:Inv X pins σ H s) (t:Nat):Inv X pins σ H {s with toks:=t} :=I.un (h':=s.heap) (t':=t) Un.refl I.ag
theorem Inv.kept {t':Nat}(I:Inv X pins σ H s) (k:∀b u,s.heap.get? b=some u→h'.get? b=some u):Inv X pins σ H {s with heap:=h',toks:=t'} :=I.un (Un.kept k) (I.ag.kept k)
theorem Inv.laid {a:Addr}{o:HO}{t':Nat}(I:Inv X pins σ H s) (k:∀b u,s.heap.get? b=some u→h'.get? b=some u) (hp:s.heap.objs.size≤a) (new:aP X.prog X.w (upd H a o) h' a o):
  Inv X pins σ (upd H a o) {s with heap:=h',toks:=t'} :=I.un (Un.laid k hp (I.ag.fresh hp)) (I.ag.laid k hp new)
theorem Inv.write {x e:Addr}{o:HO}{t':Nat}(I:Inv X pins σ H s) (mu:pR (H x)) (he:e=x∨H e=some (.own x)) (k:∀b u,b≠e→s.heap.get? b=some u→h'.get? b=some u) (mK:∃u,h'.get? e=some u)
  (new:aP X.prog X.w (upd H x o) h' x o):Inv X pins σ (upd H x o) {s with heap:=h',toks:=t'} :=I.un (Un.write mu he k mK) (I.ag.write mu he k mK new)
theorem Inv.zE {zF:List (Addr×Obj)}(I:Inv X pins σ H s) (h:∀p∈zF,s.heap.get? p.1=some p.2∧H p.1=none∧p.1≠X.env.locals∧p.1∉X.fs∧∀v,p.2.data≠.cell v):Inv X zF σ H s:=
 ⟨I.ok,I.os,I.bare,I.base,I.loc,I.cell,I.free,I.fI,fun p hp=> (List.mem_append.mp hp).elim (fun z=>I.pin p (List.mem_append_left _ z)) (h p),I.ag,I.len⟩
theorem JZ {N:List Str}(hN:N.Nodup) {i j:Nat}{x:Str}(a:N[i]? =some x) (b:N[j]? =some x):i=j:=by
 obtain⟨h1,e1⟩:=List.getElem?_eq_some_iff.mp a
 obtain⟨h2,e2⟩:=List.getElem?_eq_some_iff.mp b
 exact(List.getElem_inj hN).mp (e1.trans e2.symm)
theorem Wy {M:Model}{A:Around}{E:Value→Shared→Prop}{i:Nat}{x:Str}{v:V}{u:Value}{Q:Unit→Shared→Prop}(I:Inv X pins σ H s) (hN:X.N.Nodup) (hi:X.N[i]? =some x) (hx:Loc X.env.scope x) (r:RelV v u)
  (h:∀s',Inv X pins (σ.set i (some v)) H s'→(∃a,Heap.SameBut a s.heap s'.heap∧(a=X.env.locals∨X.env.cells.lookup x=some a))→Q () s') (hf:X.fn x=true∨X.env.scope.names.lookup x=some .local:=by first |exact .inl rfl |exact .inr rfl |assumption):wpAny M A (storeName X.env x u) Q E s:=by
 obtain⟨m,hn,hl⟩:=id I.loc
 have wt:(X.env.scope.kind==.class||(X.env.scope.kind==.module&&X.env.locals !=X.env.globals))=false:=by rw[I.ok.kind];rfl
 have AM:i<σ.length:=by rw[I.len];exact(List.getElem?_eq_some_iff.mp hi).1
 have gB:=I.gB
 have tracked:∀{a:Addr}{h':Heap},(∃o,s.heap.get? a=some o∧H a=none)→Heap.SameBut a s.heap h'→bg X.prog X.w H h':=fun {a h'} ha hs b ob e=>by
  obtain⟨_,_,AO⟩:=ha
  refine(I.ag b ob e).bz (fun c w' hc q=> (hs.2 c ?_).trans q) (fun _ q=>q) fun _ _ q=>q
  rintro rfl
  rcases hc with rfl |hc
  ·rw[AO]at e;cases e
  ·rw[AO]at hc;cases hc
 rcases hx with hk |hk
 ·refine wpAny_storeName_local hk hn (fun h' HJ hs=> ?_) wt
  obtain⟨oL,_,_,hoL,_⟩:=id hn
  refine h _ ⟨I.ok,I.os,I.bare,⟨fun b o e n hb hx=> ?_,fun b o e n hb hx=> ?_,I.base.free,fun b o e hx=> ?_,I.base.fO,I.base.fH,I.base.fh⟩,⟨_,HJ,fun j y v' e1 e2 e3=> ?_⟩,fun y c e=> ?_,I.free,I.fI,fun p hp=> ?_,tracked ⟨oL,hoL,I.free⟩ hs,by simpa using I.len⟩ ⟨_,hs,.inl rfl⟩
  ·exact(hs.2 b (Nat.ne_of_lt (Nat.lt_of_lt_of_le (Heap.lt_size e) I.ok.above))).trans (I.base.keep b o e n hb hx)
  ·obtain⟨sl,e1⟩:=I.base.slot b o e n hb hx
   exact⟨sl,(hs.2 b (Nat.ne_of_lt (Nat.lt_of_lt_of_le (Heap.lt_size e) I.ok.above))).trans e1⟩
  ·obtain⟨o',e1⟩:=I.base.there b o e hx
   exact⟨o',(hs.2 b (Nat.ne_of_lt (Nat.lt_of_lt_of_le (Heap.lt_size e) I.ok.above))).trans e1⟩
  ·by_cases hj:j=i
   ·subst hj
    rw[hi]at e1;cases e1
    rw[List.getElem?_set_self AM]at e2
    cases e2
    exact⟨u,r,.inl ⟨hk,by simp⟩⟩
   ·rw[List.getElem?_set_ne (Ne.symm hj)]at e2
    obtain⟨u',r',q⟩:=hl j y v' e1 e2 e3
    refine⟨u',r',?_⟩
    rcases q with ⟨k,e⟩ |⟨k,c,e,z⟩
    ·refine .inl ⟨k,?_⟩
     have:y≠x:=fun e=>hj (JZ hN e1 (e▸hi))
     simp[this,e]
    ·exact .inr ⟨k,c,e,z.sameBut hs (gB y c e)⟩
  ·obtain⟨w',z⟩:=I.cell y c e
   exact⟨w',z.sameBut hs (gB y c e)⟩
  ·obtain⟨e,n,ne,nf,d⟩:=I.pin p hp
   exact⟨(hs.2 p.1 ne).trans e,n,ne,nf,d⟩
 ·have fG:X.fn x=true:=by
   rcases hf with z |z
   ·exact z
   ·rw[z]at hk;cases hk
  obtain⟨c,hc⟩:=I.ok.has x (.inl hk)
  obtain⟨w',z⟩:=I.cell x c hc
  refine wpAny_storeName_cell I.ok.kind hk hc z (fun h' aZ hs=> ?_)
  obtain⟨oc,Ay,HD⟩:=id z
  refine h {s with heap:=h'} ⟨I.ok,I.os,I.bare,⟨fun b o e n hb hx=> ?_,fun b o e n hb hx=> ?_,I.base.free,fun b o e hx=> ?_,I.base.fO,I.base.fH,I.base.fh⟩,⟨m,hn.sameBut hs (Ne.symm (gB x c hc)),fun j y v' e1 e2 e3=> ?_⟩,fun y c' e=> ?_,I.free,I.fI,fun p hp=> ?_,tracked ⟨oc,Ay,I.fI x c hc⟩ hs,by simpa using I.len⟩ ⟨c,hs,.inr hc⟩
  ·exact(hs.2 b (Nat.ne_of_lt (Nat.lt_of_lt_of_le (Heap.lt_size e) (I.ok.ke x c fG hc)))).trans (I.base.keep b o e n hb hx)
  ·obtain⟨sl,e1⟩:=I.base.slot b o e n hb hx
   exact⟨sl,(hs.2 b (Nat.ne_of_lt (Nat.lt_of_lt_of_le (Heap.lt_size e) (I.ok.ke x c fG hc)))).trans e1⟩
  ·obtain⟨o',e1⟩:=I.base.there b o e hx
   exact⟨o',(hs.2 b (Nat.ne_of_lt (Nat.lt_of_lt_of_le (Heap.lt_size e) (I.ok.ke x c fG hc)))).trans e1⟩
  ·by_cases hj:j=i
   ·subst hj
    rw[hi]at e1;cases e1
    rw[List.getElem?_set_self AM]at e2
    cases e2
    exact⟨u,r,.inr ⟨.inl hk,c,hc,aZ⟩⟩
   ·rw[List.getElem?_set_ne (Ne.symm hj)]at e2
    obtain⟨u',r',q⟩:=hl j y v' e1 e2 e3
    refine⟨u',r',?_⟩
    rcases q with q |⟨k,c',e,z'⟩
    ·exact .inl q
    ·refine .inr ⟨k,c',e,z'.sameBut hs ?_⟩
     rintro rfl
     exact hj (JZ hN e1 (I.ok.inj _ _ _ e hc▸hi))
  ·by_cases iM:c'=c
   ·subst iM;exact⟨_,aZ⟩
   ·obtain⟨w2,z2⟩:=I.cell y c' e
    exact⟨w2,z2.sameBut hs iM⟩
  ·obtain⟨e,n,ne,nf,d⟩:=I.pin p hp
   refine⟨(hs.2 p.1 ?_).trans e,n,ne,nf,d⟩
   intro q
   rw[q,Ay]at e
   have q':oc=p.2:=Option.some.inj e
   exact d w' (by rw[←q'];exact HD)
theorem Ya {M:Model}{A:Around}{E:Value→Shared→Prop}{i:Nat}{x:Str}{v:V}{u:Value}{Q:Unit→Shared→Prop}(I:Inv X pins σ H s) (hN:X.N.Nodup) (hi:X.N[i]? =some x) (hx:Loc X.env.scope x) (r:RelV v u)
  (h:∀s',Inv X pins (σ.set i (some v)) H s'→Q () s') (hf:X.fn x=true∨X.env.scope.names.lookup x=some .local:=by first |exact .inl rfl |exact .inr rfl |assumption):wpAny M A (storeName X.env x u) Q E s:=
 Wy I hN hi hx r (fun s' I' _=>h s' I') hf
theorem Inv.BP {s':Shared}{ch:List Addr}(I:Inv X pins σ H s) (ho:s'.os=s.os) (u:Un (aQ X.stack) ch H H' s.heap s'.heap) (ag:bg X.prog X.w H' s'.heap) (hg:AllBare s'.gens)
  (iL:∀b∈ch,(b∈X.ex∨X.bS.heap.objs.size≤b)∧b≠X.env.locals∧(∀x c,X.env.cells.lookup x=some c→c≠b)∧∀p∈X.pn++pins,p.1≠b):Inv X pins σ H' s':=by
 obtain⟨h',g',d',t',o'⟩:=s'
 have e:o'=s.os:=ho
 subst e
 exact I.call (g':=g') (t':=t') (d':=d') u ag hg iL
end
abbrev XK:=Value→Option Addr→Hp→Prop
abbrev St:=List (Option V)
abbrev VK:=V→Hp→Prop
abbrev TE:=St→Hp→VK→Prop
abbrev TT:=St→Hp→(Bool→Hp→Prop)→Prop
abbrev TA:=St→Hp→(List V→Hp→Prop)→Prop
structure Ends where
 nx:St→Hp→Prop
 rt:VK
 bk:St→Hp→Prop:=fun _ _=>False
 ct:St→Hp→Prop:=fun _ _=>False
abbrev TS:=Ends→St→Hp→Prop
def EP (X:Cx) (pins:List (Addr×Obj)) (σ:St) (Q:VK) (u:Value) (s':Shared):Prop:=∃v H',Inv X pins σ H' s'∧RelV v u∧Q v H'
def TP (X:Cx) (pins:List (Addr×Obj)) (σ:St) (Q:Bool→Hp→Prop) (b:Bool) (s':Shared):Prop:=∃H',Inv X pins σ H' s'∧Q b H'
def AP (X:Cx) (pins:List (Addr×Obj)) (σ:St) (Q:List V→Hp→Prop) (us:List Value) (s':Shared):Prop:=∃vs H',Inv X pins σ H' s'∧Vals vs us∧Q vs H'
def SP (X:Cx) (pins:List (Addr×Obj)) (D:Ends) (f:Flow) (s':Shared):Prop:=
 match f with
 | .next=> ∃ak H',Inv X pins ak H' s'∧D.nx ak H'
 | .brk=> ∃ak H',Inv X pins ak H' s'∧D.bk ak H'
 | .cont=> ∃ak H',Inv X pins ak H' s'∧D.ct ak H'
 | .ret u=> ∃v ak H',Inv X pins ak H' s'∧RelV v u∧D.rt v H'
def PE (X:Cx) (e:Expr) (t:TE):Prop:=
 ∀(pins:List (Addr×Obj)) (s:Shared) (σ:St) (H:Hp) (Q:VK),Inv X pins σ H s→t σ H Q→wpAny (model X.prog X.w) X.A (eval e X.env) (EP X pins σ Q) X.xe s
def PT (X:Cx) (e:Expr) (t:TT):Prop:=
 ∀(pins:List (Addr×Obj)) (s:Shared) (σ:St) (H:Hp) (Q:Bool→Hp→Prop),Inv X pins σ H s→t σ H Q→wpAny (model X.prog X.w) X.A (isTrue e X.env (eval e X.env)) (TP X pins σ Q) X.xe s
def PW (X:Cx) (e:Expr) (t:TT):Prop:=
 ∀(whole:Sem Value) (pins:List (Addr×Obj)) (s:Shared) (σ:St) (H:Hp) (Q:Bool→Hp→Prop),Inv X pins σ H s→t σ H Q→wpAny (model X.prog X.w) X.A (isTrue e X.env whole) (TP X pins σ Q) X.xe s
theorem PW.pt {X:Cx}{e:Expr}{t:TT}(h:PW X e t):PT X e t:=h _
def PA (X:Cx) (es:List Expr) (t:TA):Prop:=
 ∀(pos:Pos) (pins:List (Addr×Obj)) (s:Shared) (σ:St) (H:Hp) (Q:List V→Hp→Prop),Inv X pins σ H s→t σ H Q→wpAny (model X.prog X.w) X.A (spliced (backTo pos (starEach es X.env))) (AP X pins σ Q) X.xe s
def PS (X:Cx) (st:Stmt) (t:TS):Prop:=
 ∀(pins:List (Addr×Obj)) (s:Shared) (σ:St) (H:Hp) (D:Ends),Inv X pins σ H s→t D σ H→wpAny (model X.prog X.w) X.A (exec st X.env) (SP X pins D) X.xe s
def eO (X:Cx) (st:List Stmt) (t:TS):Prop:=
 ∀(pins:List (Addr×Obj)) (s:Shared) (σ:St) (H:Hp) (D:Ends),Inv X pins σ H s→t D σ H→wpAny (model X.prog X.w) X.A (execs st X.env) (SP X pins D) X.xe s
theorem ar {α:Type}{t:Sem α}{Q Q':α→Shared→Prop}{M:Model}{A:Around}{E:Value→Shared→Prop}{s:Shared}(h:wpAny M A t Q E s) (hQ:∀a s,Q a s→Q' a s):wpAny M A t Q' E s:=wpAny_mono h hQ fun _ _ x=>x
section
variable {X:Cx}
def jz (i:Nat):TE:=fun σ H Q=> ∃v,σ[i]? =some (some v)∧Q v H
def tC (v:V):TE:=fun _ H Q=>Q v H
theorem Yc {i:Nat}{x:Str}{pos:Pos}(hN:X.N[i]? =some x) (hv:pO X.env.scope x) (hd:(x==("__debug__" :Str))=false:=by decide) (cE:(x==("__classdict__" :Str))=false:=by decide):PE X (.Name x pos) (jz i):=by
 intro pins s σ H Q I h
 obtain⟨v,e,h⟩:=h
 obtain⟨m,hn,hl⟩:=I.loc
 obtain⟨u,r,l⟩:=hl i x v hN e hv
 have fin:EP X pins σ Q u s:=⟨v,H,I,r,h⟩
 rcases l with ⟨hk,hm⟩ |⟨hk,c,hc,jX⟩
 ·exact wpAny_Name (wpAny_loadName_local I.ok.kind hk hn hm fin) hd
 ·rcases hk with hk |hk
  ·exact wpAny_Name (wpAny_loadName_cell I.ok.kind hk hc jX fin) hd
  ·exact wpAny_Name (wpAny_loadName_free I.ok.kind hk hc jX fin cE) hd
theorem Zi {i j pos} :PE X (.Constant (.int i) j pos) (tC (.int i)):=fun _ _ _ H _ I h=>wpAny_Constant_int ⟨.int i,H,I.tok _,⟨_,rfl⟩,h⟩
theorem WB {b j pos} :PE X (.Constant (.bool b) j pos) (tC (.bl b)):=fun _ _ _ H _ I h=>Constant_bool ⟨.bl b,H,I,rfl,h⟩
theorem Yw {j pos} :PE X (.Constant .none j pos) (tC .af):=fun _ _ _ H _ I h=>Constant_none ⟨.af,H,I,rfl,h⟩
theorem JX {x j pos} :PE X (.Constant (.str x) j pos) (tC (.str x)):=fun _ _ _ H _ I h=>Calls.Constant_str ⟨.str x,H,I.tok _,⟨_,rfl⟩,h⟩
def Gl (X:Cx) (x:Str):Prop:=X.env.kindOf x=some .globalImplicit
theorem Jj {E:Value→Shared→Prop}{pins:List (Addr×Obj)}{s:Shared}{σ:St}{H:Hp}{x:Str}{u:Value}{pos:Pos}{Q:Value→Shared→Prop}(I:Inv X pins σ H s) (hg:Gl X x) (hm:X.mg x=some u) (h:Q u s)
  (hd:(x==("__debug__" :Str))=false:=by decide):wpAny (model X.prog X.w) X.A (eval (.Name x pos) X.env) Q E s:=
 Calls.Name_function_global I.ok.kind hg (Calls.loadGlobal_global (by rw[I.ok.glob];exact I.mod.glob.keeps I.bk) hm h) hd
theorem YM {E:Value→Shared→Prop}{pins:List (Addr×Obj)}{s:Shared}{σ:St}{H:Hp}{x:Str}{u:Value}{pos:Pos}{Q:Value→Shared→Prop}(I:Inv X pins σ H s) (hg:Gl X x) (hm:X.mg x=none) (hv:bootBuiltins x=some u) (h:Q u s)
  (hn:x≠ "__name__" :=by decide) (hd:(x==("__debug__" :Str))=false:=by decide):wpAny (model X.prog X.w) X.A (eval (.Name x pos) X.env) Q E s:=by
 obtain⟨mb,h1,h2⟩:=I.mod.blt
 exact Calls.Name_function_global I.ok.kind hg (Calls.loadGlobal_builtin (by rw[I.ok.glob];exact I.mod.glob.keeps I.bk) hm (by rw[I.ok.blt];exact h1.keeps I.bk) ((h2 x hn).trans hv) h) hd
theorem ZO {x:Str}{v:V}{u:Value}{pos:Pos}(hg:Gl X x) (hm:X.mg x=some u) (r:RelV v u) (hd:(x==("__debug__" :Str))=false:=by decide):PE X (.Name x pos) (tC v):=
 fun _ _ _ H _ I h=>Jj I hg hm ⟨v,H,I,r,h⟩ hd
theorem ZI {x:Str}{v:V}{u:Value}{pos:Pos}(hg:Gl X x) (hm:X.mg x=none) (hv:bootBuiltins x=some u) (r:RelV v u) (hn:x≠ "__name__" :=by decide) (hd:(x==("__debug__" :Str))=false:=by decide):PE X (.Name x pos) (tC v):=
 fun _ _ _ H _ I h=>YM I hg hm hv ⟨v,H,I,r,h⟩ hn hd
variable {a b:Expr}{ta tb:TE}{pos:Pos}
def PC (X:Cx) (op:CmpOp) (a b:Expr) (t:TE):Prop:=
 ∀(pins:List (Addr×Obj)) (s:Shared) (σ:St) (H:Hp) (Q:VK),Inv X pins σ H s→t σ H Q→
  wpAny (model X.prog X.w) X.A (eval a X.env) (fun v aK=>wpAny (model X.prog X.w) X.A (eval b X.env) (fun u tR=>wpAny (model X.prog X.w) X.A (compareOp op v u) (EP X pins σ Q) X.xe tR) X.xe aK) X.xe s
theorem zL (b:Expr) {op:CmpOp}(h:op≠.In) (h2:op≠.NotIn):behindInMarks op b=false:=by
 have e1:(op==CmpOp.In)=false:=by cases op<;>first |rfl |exact absurd rfl h
 have e2:(op==CmpOp.NotIn)=false:=by cases op<;>first |rfl |exact absurd rfl h2
 cases b<;>simp[behindInMarks,e1,e2]
def DS (ta:TE):TE:=fun σ H Q=>ta σ H fun x H1=>Q (.bl (!decide (x=.af))) H1
theorem RelV.FE {x:V}{v:Value}(r:RelV x v):(v==Value.none)=decide (x=.af):=by
 cases x with
 |af=>cases r;rfl
 |bl _=>cases r;rfl
 |int _=>obtain⟨t,rfl⟩:=r;rfl
 |str _=>obtain⟨t,rfl⟩:=r;rfl
 |gC _=>obtain⟨t,rfl⟩:=r;rfl
 |ig _=>obtain⟨t,rfl⟩:=r;rfl
 |ref _=>cases r;rfl
 |ty _=>cases r;rfl
theorem YF {j pos'} (ha:PE X a ta):PC X .IsNot a (.Constant .none j pos') (DS ta):=by
 intro pins s σ H Q I h
 refine ar (ha pins s σ H _ I h) fun v s1 ⟨x,H1,I1,r1,q1⟩=> ?_
 exact Constant_none (isnot_none_gen ⟨.bl _,H1,I1,by rw[r1.FE];rfl,q1⟩)
def tB (t:TE):TT:=fun σ H Q=>t σ H fun x H1=> ∃c,x=.bl c∧Q c H1
theorem Mn {op:CmpOp}{t:TE}(h:PC X op a b t) (h1:behindInMarks op b=false:=by first |exact zL _ (by decide) (by decide) |rfl):PE X (.Compare a [op] [b] pos) t:=fun pins s σ H Q I hw=>wpAny_Compare1 (h pins s σ H Q I hw) h1
theorem Y6 {op:CmpOp}{t:TE}(h:PC X op a b t) (h1:behindInMarks op b=false:=by first |exact zL _ (by decide) (by decide) |rfl):PT X (.Compare a [op] [b] pos) (tB t):=by
 intro pins s σ H Q I hw
 refine wpAny_isTrue_Compare1 (ar (h pins s σ H _ I hw) fun v s1 h1=>ar h1 fun u s2 h2=>ar h2 fun c s3 ⟨x,H1,I1,r1,q1⟩=> ?_) h1
 obtain⟨d,rfl,q⟩:=q1
 cases r1
 exact wpAny_truthy_bool ⟨H1,I1,q⟩
theorem ZY {e:Expr}{t:TE}(h:PE X e t) (he:∀whole,isTrue e X.env whole=(do let v ←whole;standAt e.pos;holding [v] (truthy v)):=by intro _;rfl):PT X e (tB t):=by
 intro pins s σ H Q I hw
 refine isTrue_plain (ar (h pins s σ H _ I hw) fun v s1 ⟨x,H1,I1,r1,q1⟩=> ?_) (he _)
 obtain⟨d,rfl,q⟩:=q1
 cases r1
 exact wpAny_truthy_bool ⟨H1,I1,q⟩
variable {tA qm:TT}{rest:List Expr}
def Ei (t u:TT):TT:=fun σ H Q=>t σ H fun c H1=>if c=true then u σ H1 Q else Q false H1
def DQ (t u:TT):TT:=fun σ H Q=>t σ H fun c H1=>if c=true then Q true H1 else u σ H1 Q
def DT (t:TT):TT:=fun σ H Q=>t σ H fun c H1=>Q (!c) H1
theorem JK (ha:PT X a tA):PW X (.BoolOp .And [a] pos) tA:=by
 intro wh pins s σ H Q I h
 refine isTrue_and (ar (ha pins s σ H Q I h) fun c s1 e=> ?_)
 cases c with
 |true=>exact isTrue_and_nil e
 |false=>exact e
theorem UQ (ha:PT X a tA):PW X (.BoolOp .Or [a] pos) tA:=by
 intro wh pins s σ H Q I h
 refine isTrue_or (ar (ha pins s σ H Q I h) fun c s1 e=> ?_)
 cases c with
 |false=>exact isTrue_or_nil e
 |true=>exact e
theorem WP (ha:PT X a tA) (hb:PW X (.BoolOp .And (b::rest) pos) qm):PW X (.BoolOp .And (a::b::rest) pos) (Ei tA qm):=by
 intro wh pins s σ H Q I h
 refine isTrue_and (ar (ha pins s σ H _ I h) fun c s1 ⟨H1,I1,q1⟩=> ?_)
 cases c with
 |true=>exact hb wh pins s1 σ H1 Q I1 q1
 |false=>exact⟨H1,I1,q1⟩
theorem xw (ha:PT X a tA) (hb:PW X (.BoolOp .Or (b::rest) pos) qm):PW X (.BoolOp .Or (a::b::rest) pos) (DQ tA qm):=by
 intro wh pins s σ H Q I h
 refine isTrue_or (ar (ha pins s σ H _ I h) fun c s1 ⟨H1,I1,q1⟩=> ?_)
 cases c with
 |true=>exact⟨H1,I1,q1⟩
 |false=>exact hb wh pins s1 σ H1 Q I1 q1
theorem Yk (ha:PT X a tA):PT X (.UnaryOp .Not a pos) (DT tA):=by
 intro pins s σ H Q I h
 exact isTrue_not (ha pins s σ H (fun c H1=>Q (!c) H1) I h)
def Eh (ta tb:TE):TE:=fun σ H Q=>ta σ H fun x H1=> ∃c,x=.bl c∧if c=true then tb σ H1 Q else Q (.bl false) H1
def DR (ta:TE):TE:=fun σ H Q=>ta σ H fun x H1=> ∃c,x=.bl c∧Q (.bl (!c)) H1
theorem Yv {op}{t:TE}(h:PE X a t):PE X (.BoolOp op [a] pos) t:=fun pins s σ H Q I hw=>BoolOp_one (h pins s σ H Q I hw)
theorem Yx (ha:PE X a ta) (hb:PE X (.BoolOp .And (b::rest) pos) tb):PE X (.BoolOp .And (a::b::rest) pos) (Eh ta tb):=by
 intro pins s σ H Q I h
 refine BoolOp_and (ar (ha pins s σ H _ I h) fun v s1 ⟨x,H1,I1,r1,q1⟩=> ?_)
 obtain⟨c,rfl,q1⟩:=q1
 cases r1
 refine wpAny_truthy_bool ?_
 cases c with
 |true=>exact hb pins s1 σ H1 Q I1 q1
 |false=>exact⟨.bl false,H1,I1,rfl,q1⟩
theorem Mp (ha:PE X a ta):PE X (.UnaryOp .Not a pos) (DR ta):=by
 intro pins s σ H Q I h
 refine UnaryOp_ (ar (ha pins s σ H _ I h) fun v s1 ⟨x,H1,I1,r1,q1⟩=> ?_)
 obtain⟨c,rfl,q1⟩:=q1
 cases r1
 exact not_of (wpAny_truthy_bool ⟨.bl (!c),H1,I1,rfl,q1⟩)
def DX (t:TT) (ta tb:TE):TE:=fun σ H Q=>t σ H fun c H1=>if c=true then ta σ H1 Q else tb σ H1 Q
theorem NV {c:Expr}(hc:PT X c tA) (ha:PE X a ta) (hb:PE X b tb):PE X (.IfExp c a b pos) (DX tA ta tb):=by
 intro pins s σ H Q I h
 refine wpAny_IfExp (ar (hc pins s σ H _ I h) fun d s1 ⟨H1,I1,q1⟩=> ?_)
 cases d with
 |true=>exact ha pins s1 σ H1 Q I1 q1
 |false=>exact hb pins s1 σ H1 Q I1 q1
end
def ah (K:PySem.W.Frag) (H:Hp) (a:Addr) (xs:List V):Prop:=
 Rd H a (.lst xs)∨
  ∃(o:Obj) (its:Array Value) (n:Nat),K.lookup a=some o∧o.cls=.type "list" ∧o.dict=none∧o.data=.seq its n∧its.size≤sizeLine∧Vals xs its.toList
def ai (K:PySem.W.Frag) (H:Hp) (a:Addr) (xs:List V):Prop:=
 Rd H a (.tup xs)∨
  (∃(o:Obj) (its:Array Value) (n:Nat),K.lookup a=some o∧o.cls=.type "tuple" ∧o.data=.seq its n∧its.size≤sizeLine∧Vals xs its.toList)∨H a=some (.par xs)
def LP:Value→Option V
 | .none=>some .af
 | .bool b=>some (.bl b)
 | .int i _=>some (.int i)
 | .str x _=>some (.str x)
 | .bytes b _=>some (.gC b)
 | .float b _=>some (.ig b)
 | .ref a=>some (.ref a)
 | .type n=>some (.ty n)
 |_=>none
theorem RelV.abs {x:V}{u:Value}(r:RelV x u):LP u=some x:=by
 cases x with
 |af=>cases r;rfl
 |bl _=>cases r;rfl
 |int _=>obtain⟨t,rfl⟩:=r;rfl
 |str _=>obtain⟨t,rfl⟩:=r;rfl
 |gC _=>obtain⟨t,rfl⟩:=r;rfl
 |ig _=>obtain⟨t,rfl⟩:=r;rfl
 |ref _=>cases r;rfl
 |ty _=>cases r;rfl
theorem RelV.inj {x y:V}{u:Value}(r:RelV x u) (q:RelV y u):x=y:=Option.some.inj (r.abs.symm.trans q.abs)
theorem Vals.inj:∀{xs ys:List V}{us:List Value},Vals xs us→Vals ys us→xs=ys
 |_,_,_,.nil,.nil=>rfl
 |_,_,_,.cons r t,.cons r' t'=>by rw[r.inj r',Vals.inj t t']
section
variable {X:Cx}{pins:List (Addr×Obj)}{σ:St}{H:Hp}{s:Shared}{a:Addr}{xs ys:List V}
theorem ah.of {K:PySem.W.Frag}(h:H a=some (.lst xs)):ah K H a xs:=.inl (.inl h)
theorem ai.of {K:PySem.W.Frag}(h:H a=some (.tup xs)):ai K H a xs:=.inl (.inl h)
theorem ai.qZ {K:PySem.W.Frag}(h:H a=some (.par xs)):ai K H a xs:=.inr (.inr h)
theorem Inv.list (I:Inv X pins σ H s) (h:ah X.K H a xs):∃its:List Value,Vals xs its∧PlainL s.heap a its.toArray∧xs.length≤sizeLine:=by
 rcases h with h |⟨o,its,n,hk,hc,hd,hs,hz,r⟩
 ·obtain⟨z,its,n,r,e⟩:=h.ok I.ag
  exact⟨its,r,⟨_,n,e,rfl,rfl,rfl⟩,z⟩
 ·refine⟨its.toList,r,⟨o,n,I.bO a o hk,hc,hd,by simpa using hs⟩,?_⟩
  have e:=r.length
  simp only[Array.length_toList]at e
  omega
theorem Inv.tuple (I:Inv X pins σ H s) (h:ai X.K H a xs):∃its:List Value,Vals xs its∧IsTup s.heap a its.toArray∧xs.length≤sizeLine:=by
 rcases h with h |⟨o,its,n,hk,hc,hs,hz,r⟩ |h
 ·obtain⟨z,its,r,p,_⟩:=h.ok I.ag
  exact⟨its,r,p,z⟩
 rotate_left
 ·obtain⟨z,its,r,p⟩:=(show aP X.prog X.w H s.heap a (.par xs) from I.ag a _ h)
  exact⟨its,r,p,z⟩
 ·refine⟨its.toList,r,⟨o,I.bO a o hk,hc,n,by simpa using hs⟩,?_⟩
  have e:=r.length
  simp only[Array.length_toList]at e
  omega
theorem Inv.vv (I:Inv X pins σ H s) (h:ah X.K H a xs) (h':ah X.K H a ys):xs=ys:=by
 obtain⟨its,r,⟨o,n,e,_,_,d⟩,_⟩:=I.list h
 obtain⟨its',r',⟨o',n',e',_,_,d'⟩,_⟩:=I.list h'
 rw[e]at e';cases e'
 rw[d]at d'
 injection d' with d1 _
 have:its=its':=by simpa using congrArg Array.toList d1
 subst this
 exact r.inj r'
theorem Inv.qh (I:Inv X pins σ H s) (h:ai X.K H a xs) (h':ai X.K H a ys):xs=ys:=by
 obtain⟨its,r,⟨o,e,_,n,d⟩,_⟩:=I.tuple h
 obtain⟨its',r',⟨o',e',_,n',d'⟩,_⟩:=I.tuple h'
 rw[e]at e';cases e'
 rw[d]at d'
 injection d' with d1 _
 have:its=its':=by simpa using congrArg Array.toList d1
 subst this
 exact r.inj r'
end
abbrev Cx.gm (X:Cx) (E:Value→Shared→Prop):Cx:= {X with xe:=E}
abbrev Cx.dJ (X:Cx):Cx:=X.gm fun _ _=>False
theorem Cx.Ok.gm {X:Cx}(ok:X.Ok) (E:Value→Shared→Prop):(X.gm E).Ok:=
 ⟨ok.mod,ok.kind,ok.glob,ok.blt,ok.above,ok.inj,ok.has,ok.ke,ok.hd,ok.frames,ok.l8,ok.mY,ok.bs,ok.iP,ok.kL,ok.lL,ok.dB,ok.gw⟩
theorem Cx.Ok.iU {X:Cx}{E:Value→Shared→Prop}(ok:(X.gm E).Ok):X.Ok:=
 ⟨ok.mod,ok.kind,ok.glob,ok.blt,ok.above,ok.inj,ok.has,ok.ke,ok.hd,ok.frames,ok.l8,ok.mY,ok.bs,ok.iP,ok.kL,ok.lL,ok.dB,ok.gw⟩
section
variable {X:Cx}{pins:List (Addr×Obj)}{σ:St}{H:Hp}{s:Shared}{E:Value→Shared→Prop}
theorem Inv.gm (I:Inv X pins σ H s) (E:Value→Shared→Prop):Inv (X.gm E) pins σ H s:=⟨I.ok.gm E,I.os,I.bare,I.base,I.loc,I.cell,I.free,I.fI,I.pin,I.ag,I.len⟩
theorem Inv.iU (I:Inv (X.gm E) pins σ H s):Inv X pins σ H s:=⟨I.ok.iU,I.os,I.bare,I.base,I.loc,I.cell,I.free,I.fI,I.pin,I.ag,I.len⟩
theorem SP.iU {D:Ends}{f:Flow}{s':Shared}(h:SP (X.gm E) pins D f s'):SP X pins D f s':=by
 cases f with
 |next=>obtain⟨ak,H',I,q⟩:=h;exact⟨ak,H',I.iU,q⟩
 |brk=>obtain⟨ak,H',I,q⟩:=h;exact⟨ak,H',I.iU,q⟩
 |cont=>obtain⟨ak,H',I,q⟩:=h;exact⟨ak,H',I.iU,q⟩
 |ret u=>obtain⟨v,ak,H',I,r,q⟩:=h;exact⟨v,ak,H',I.iU,r,q⟩
theorem eO.dJ {st:List Stmt}{t:TS}(h:eO X.dJ st t):eO X st t:=fun pins s σ H D I hw=>
 wpAny_mono (h pins s σ H D (I.gm _) hw) (fun _ _ q=>q.iU) fun _ _ z=>False.elim z
end
section
variable {X:Cx}{st:Stmt}{rest:List Stmt}{t u:TS}{e:Expr}{te:TE}{pos:Pos}
def yt:TS:=fun D σ H=>D.nx σ H
def yr (t u:TS):TS:=fun D σ H=>t {D with nx:=u D} σ H
theorem ZD:eO X [] yt:=fun _ _ σ H _ I h=>wpAny_execs_nil ⟨σ,H,I,h⟩
theorem Zd (h1:PS X st t) (h2:eO X rest u):eO X (st::rest) (yr t u):=by
 intro pins s σ H D I h
 refine wpAny_execs_cons (ar (h1 pins s σ H {D with nx:=u D} I h) fun f s1 q=> ?_)
 cases f with
 |next=>
  obtain⟨ak,H',I',q⟩:=q
  exact h2 pins s1 ak H' D I' q
 |ret v=>exact q
 |brk=>exact q
 |cont=>exact q
theorem Zl (h1:PS X st t):eO X [st] t:=by
 intro pins s σ H D I h
 refine wpAny_execs_cons (ar (h1 pins s σ H D I h) fun f s1 q=> ?_)
 cases f with
 |next=>exact wpAny_execs_nil q
 |ret v=>exact q
 |brk=>exact q
 |cont=>exact q
theorem Inv.quiet {pins:List (Addr×Obj)}{σ:St}{H:Hp}{s:Shared}(I:Inv X pins σ H s):interactive X.env=false:=by simp[interactive,I.ok.kind]
def Eb (te:TE):TS:=fun D σ H=>te σ H fun _ H1=>D.nx σ H1
theorem ZK (he:PE X e te) (hs:swapsWith e none pos.line X.env=pure false:=by rfl):PS X (.Expr e pos) (Eb te):=by
 intro pins s σ H D I h
 exact wpAny_Expr_any (ar (he pins s σ H _ I h) fun v s1 ⟨x,H1,I1,r1,q1⟩=> ⟨σ,H1,I1,q1⟩) I.quiet hs
def DL (te:TE):TS:=fun D σ H=>te σ H D.rt
theorem ZC (he:PE X e te):PS X (.Return (some e) pos) (DL te):=by
 intro pins s σ H D I h
 exact wpAny_Return_some (ar (he pins s σ H _ I h) fun v s1 ⟨x,H1,I1,r1,q1⟩=> ⟨x,σ,H1,I1,r1,q1⟩)
def DW (c:TT) (t u:TS):TS:=fun D σ H=>c σ H fun b H1=>if b=true then t D σ H1 else u D σ H1
theorem ZS {c:Expr}{a b:List Stmt}{tc:TT}(hc:PT X c tc) (ha:eO X a t) (hb:eO X b u):PS X (.If c a b pos) (DW tc t u):=by
 intro pins s σ H D I h
 refine wpAny_If (ar (hc pins s σ H _ I h) fun d s1 ⟨H1,I1,q1⟩=> ?_)
 cases d with
 |true=>exact ha pins s1 σ H1 D I1 q1
 |false=>exact hb pins s1 σ H1 D I1 q1
def DU:TS:=fun _ _ _=>False
theorem Zy {Em:List Stmt} :eO X Em DU:=fun _ _ _ _ _ _ h=>h.elim
end
abbrev TG:=V→St→Hp→(St→Hp→Prop)→Prop
abbrev lT:=List V→St→Hp→(St→Hp→Prop)→Prop
def PG (X:Cx) (target:Expr) (t:TG):Prop:=
 ∀(pins:List (Addr×Obj)) (s:Shared) (σ:St) (H:Hp) (v:V) (u:Value) (Q:St→Hp→Prop),Inv X pins σ H s→RelV v u→t v σ H Q→
  wpAny (model X.prog X.w) X.A (assign target X.env u) (fun _ s'=> ∃ak H',Inv X pins ak H' s'∧Q ak H') X.xe s
def sQ (X:Cx) (ts:List Expr) (t:lT):Prop:=
 ∀(pins:List (Addr×Obj)) (s:Shared) (σ:St) (H:Hp) (vs:List V) (us:List Value) (Q:St→Hp→Prop),Inv X pins σ H s→Vals vs us→t vs σ H Q→
  wpAny (model X.prog X.w) X.A (assignInOrder ((assignEach ts X.env).map (·.2)) us) (fun _ s'=> ∃ak H',Inv X pins ak H' s'∧Q ak H') X.xe s
abbrev xD:=V→V→V→Hp→(Hp→Prop)→Prop
def CN (X:Cx) (t:xD):Prop:=
 ∀(pins:List (Addr×Obj)) (s:Shared) (σ:St) (H:Hp) (o i v:V) (ov iv u:Value) (Q:Hp→Prop),Inv X pins σ H s→RelV o ov→RelV i iv→RelV v u→t o i v H Q→
  wpAny (model X.prog X.w) X.A (setItem ov iv u) (fun _ s'=> ∃H',Inv X pins σ H' s'∧Q H') X.xe s
section
variable {X:Cx}{pos:Pos}
def fb (i:Nat):TG:=fun v σ H Q=>Q (σ.set i (some v)) H
theorem ZB {i:Nat}{x:Str}(hN:X.N.Nodup) (hi:X.N[i]? =some x) (hx:Loc X.env.scope x) (hf:X.fn x=true∨X.env.scope.names.lookup x=some .local:=by first |exact .inl rfl |exact .inr rfl |assumption):PG X (.Name x pos) (fb i):=by
 intro pins s σ H v u Q I r h
 exact wpAny_assign_Name (Ya I hN hi hx r (fun s' I'=> ⟨_,H,I',h⟩) hf)
def mV:lT:=fun vs σ H Q=>vs=[]∧Q σ H
def hX (t:TG) (u:lT):lT:=fun vs σ H Q=> ∃v r,vs=v::r∧t v σ H fun ak H'=>u r ak H' Q
theorem Z2:sQ X [] mV:=by
 intro pins s σ H vs us Q I r h
 obtain⟨e,h⟩:=h
 subst e
 cases r
 exact assignInOrder_nil ⟨σ,H,I,h⟩
theorem Zt {e:Expr}{es:List Expr}{t:TG}{u:lT}(h1:PG X e t) (h2:sQ X es u)
  (hs:(assignEach (e::es) X.env).map (·.2)=assign e X.env::(assignEach es X.env).map (·.2):=by rfl):sQ X (e::es) (hX t u):=by
 intro pins s σ H vs us Q I r h
 obtain⟨v,vr,e1,h⟩:=h
 subst e1
 cases r with
 |cons r rr=>
  rw[hs]
  refine assignInOrder_cons (ar (h1 pins s σ H _ _ _ I r h) fun _ s1 ⟨De,H1,I1,q1⟩=> ?_)
  exact h2 pins s1 De H1 _ _ Q I1 rr q1
def mU (K:PySem.W.Frag) (n:Nat) (t:lT):TG:=fun v σ H Q=> ∃a xs,v=.ref a∧ai K H a xs∧xs.length=n∧t xs σ H Q
theorem Yf {es:List Expr}{k:Nat}{t:lT}{n:Nat}(hc:X.calm=true) (h:sQ X es t)
  (hn:(assignEach es X.env).length=n:=by rfl) (kX:(assignEach es X.env).findIdx? (·.1)=none:=by rfl):PG X (.Tuple es k pos) (mU X.K n t):=by
 intro pins s σ H v u Q I r hw
 obtain⟨a,xs,e1,hq,hl,hw⟩:=hw
 subst e1
 cases r
 obtain⟨its,rv,ht,hz⟩:=I.tuple hq
 refine assign_Tuple_tuple (I.ok.hd hc) ht (by simp[hn,←hl,rv.length]) kX fun h' hx=> ?_
 have I1:Inv X pins σ H {s with heap:=h'} :=I.kept (t':=s.toks) fun b o e=>hx b o (Nat.ne_of_lt (Heap.lt_size e)) e
 exact h pins _ σ H xs _ Q I1 (by simpa using rv) hw
def Ky (to ti:TE) (t:xD):TG:=fun v σ H Q=>to σ H fun o H1=>ti σ H1 fun i H2=>t o i v H2 fun H3=>Q σ H3
theorem Cd {o i:Expr}{to ti:TE}{t:xD}(ho:PE X o to) (hi:PE X i ti) (hs:CN X t)
    (ha:∀v,assign (.Subscript o i pos) X.env v=(do
      let ov ←holding [v] (eval o X.env)
      let iv ←holding [v,ov] (eval i X.env)
      standAt pos
      holding [v,ov,iv] (setItem ov iv v)
      release [v,ov,iv] []):=by intro _;rfl):PG X (.Subscript o i pos) (Ky to ti t):=by
  intro pins s σ H v u Q I r h
  rw[ha]
  refine wpAny_bind (wpAny_holding (ar (ho pins s σ H _ I h) fun ov s1 ⟨x,H1,I1,r1,q1⟩=> ?_))
  refine wpAny_bind (wpAny_holding (ar (hi pins s1 σ H1 _ I1 q1) fun iv s2 ⟨y,H2,I2,r2,q2⟩=> ?_))
  refine wpAny_bind (wpAny_standAt (wpAny_bind (wpAny_holding (ar (hs pins s2 σ H2 x y v ov iv u _ I2 r1 r2 r q2) fun _ s3 ⟨H3,I3,q3⟩=> ?_))))
  exact wpAny_release ⟨σ,H3,I3,q3⟩
def nW (te:TE) (g:TG):TS:=fun D σ H=>te σ H fun x H1=>g x σ H1 D.nx
theorem Jv {tg e:Expr}{te:TE}{g:TG}(he:PE X e te) (hg:PG X tg g) (hs:swapsWithSole [tg] e pos.line X.env=pure false:=by rfl) (hw:swappedStores [tg] e X.env=pure none:=by rfl)
  (h1:(assignEach [tg] X.env).map (·.2)=[assign tg X.env]:=by rfl):PS X (.Assign [tg] e pos) (nW te g):=by
 intro pins s σ H D I h
 refine wpAny_Assign_stores (ar (he pins s σ H _ I h) fun v s1 ⟨x,H1,I1,r1,q1⟩=> ?_) hs hw
 rw[h1]
 exact ar (hg pins s1 σ H1 x v _ I1 r1 q1) fun _ s2 q=>q
theorem Zo {i:Nat}{x:Str}{e:Expr}{te:TE}{pos':Pos}(hN:X.N.Nodup) (hi:X.N[i]? =some x) (hx:Loc X.env.scope x) (he:PE X e te) (hs:swapsWith e (some (.Name x pos')) pos.line X.env=pure false:=by rfl) (hf:X.fn x=true∨X.env.scope.names.lookup x=some .local:=by first |exact .inl rfl |exact .inr rfl |assumption):
  PS X (.Assign [.Name x pos'] e pos) (nW te (fb i)):=by
 intro pins s σ H D I h
 refine wpAny_Assign_Name (ar (he pins s σ H _ I h) fun v s1 ⟨y,H1,I1,r1,q1⟩=> ?_) hs
 exact Ya I1 hN hi hx r1 (fun s2 I2=> ⟨_,H1,I2,q1⟩) hf
def DP (i j:Nat) (ta:TA):TS:=fun D σ H=>ta σ H fun vs H1=> ∃v w,vs=[v,w]∧D.nx ((σ.set i (some v)).set j (some w)) H1
theorem Ce {i j:Nat}{x y:Str}{a b:Expr}{ta:TA}{px py pt:Pos}{kt k2 kH} (hc:X.calm=true) (hN:X.N.Nodup) (hi:X.N[i]? =some x) (hj:X.N[j]? =some y) (cJ:i≠j)
  (hx:X.env.scope.names.lookup x=some .local) (hy:X.env.scope.names.lookup y=some .local) (ha:PA X [a,b] ta)
  (hw:swappedStores [.Tuple [.Name x px,.Name y py] kt pt] (.Tuple [a,b] k2 kH) X.env=pure (some [x,y]))
  (hs:swapsWithSole [.Tuple [.Name x px,.Name y py] kt pt] (.Tuple [a,b] k2 kH) pos.line X.env=pure false:=by rfl):
  PS X (.Assign [.Tuple [.Name x px,.Name y py] kt pt] (.Tuple [a,b] k2 kH) pos) (DP i j ta):=by
 intro pins s σ H D I h
 rw[exec_Assign_arm]
 refine wpAny_bind (wpAny_standAt ?_)
 rw[hs]
 refine wpAny_bind (wpAny_pure ?_)
 rw[if_neg (by decide)]
 refine wpAny_bind (Tuple_ (ar (ha _ pins s σ H _ I h) fun us s1 ⟨vs,H1,I1,r1,q1⟩=> ?_))
 obtain⟨v,w,e1,q1⟩:=q1
 subst e1
 obtain⟨u1,u2,rfl,rv,fS⟩:∃u1 u2,us=[u1,u2]∧RelV v u1∧RelV w u2:=by
  cases r1 with
  |cons p q=>
   cases q with
   |cons p' q'=>
    cases q'
    exact⟨_,_,rfl,p,p'⟩
 refine wpAny_newObj_type ?_ (by show 2≤sizeLine;decide)
 have I2:Inv X pins σ H1 {s1 with heap:=s1.heap.push {cls:=.type "tuple",data:=.seq [u1,u2].toArray} } :=I1.kept (t':=s1.toks) fun b o e=>Heap.get?_push_of_some _ e
 rw[hw]
 refine wpAny_bind (wpAny_pure ?_)
 show wpAny (model X.prog X.w) X.A (do rule "assign.swapped-stores";let items ←unpackItems (.ref s1.heap.objs.size) 2 none;assignInOrder [fun v=>bindName X.env y v,fun v=>bindName X.env x v] items.reverse;pure Flow.next) _ _ _
 refine wpAny_bind (wpAny_rule (wpAny_bind (unpackItems_tuple (items:= #[u1,u2]) (I.ok.hd hc) (IsTup.new s1.heap _) fun h' jb=> ?_)))
 have I3:=I2.kept (h':=h') (t':=s1.toks) fun b o e=>jb b o (Nat.ne_of_lt (Heap.lt_size e)) e
 show wpAny _ _ (assignInOrder [fun v=>bindName X.env y v,fun v=>bindName X.env x v] [u2,u1] >>=fun _=>pure Flow.next) _ _ _
 refine wpAny_bind (assignInOrder_cons (wpAny_bindName (Ya I3 hN hj (.inl hy) fS (fun s2 I4=> ?_) (.inr hy))))
 refine assignInOrder_cons (wpAny_bindName (Ya I4 hN hi (.inl hx) rv (fun s3 I5=>assignInOrder_nil (wpAny_pure ?_)) (.inr hx)))
 rw[List.set_comm _ _ (Ne.symm cJ)]at I5
 exact⟨_,H1,I5,q1⟩
end
structure It where
 go:Nat→Hp→Prop
 nP:Nat→Hp→V→Hp→Prop
 stop:Nat→Hp→Prop
def cb (X:Cx) (pins:List (Addr×Obj)) (H:Hp) (b:Addr):Prop:=
 H b=none∧b≠X.env.locals∧b∉X.fs∧(b∈X.ex∨X.bS.heap.objs.size≤b)∧(∀x c,X.env.cells.lookup x=some c→c≠b)∧∀p∈X.pn++pins,p.1≠b
theorem Inv.j9 {X:Cx}{pins:List (Addr×Obj)}{σ:St}{H H':Hp}{s:Shared}{b:Addr}(I:Inv X pins σ H s) (hb:s.heap.objs.size≤b) (hn:H' b=none):cb X pins H' b:=by
 refine⟨hn,Nat.ne_of_gt (Nat.lt_of_lt_of_le I.lt hb),I.FG hb,.inr (Nat.le_trans I.sz hb),fun x c e z=> ?_,fun p hp z=> ?_⟩
 ·obtain⟨v,q⟩:=I.cell x c e
  exact absurd (Nat.lt_of_lt_of_le q.lt (by rw[z];exact hb)) (Nat.lt_irrefl _)
 ·exact absurd (Nat.lt_of_lt_of_le (Heap.lt_size (I.pin p hp).1) (by rw[z];exact hb)) (Nat.lt_irrefl _)
structure Turn (P:Program) (w:World) (K:PySem.W.Frag) (tg:Expr) (J:It) (fp:List Addr) (it:Addr) (tn:Nat→Heap→Prop):Prop where
 mem:it∈fp
 obj:∀i h,tn i h→∀b∈fp,∃o,h.get? b=some o∧∀v,o.data≠.cell v
 keep:∀i h h',tn i h→(∀b∈fp,∀o,h.get? b=some o→h'.get? b=some o)→tn i h'
 item:∀(X:Cx),X.prog=P→X.w=w→X.K=K→X.calm=true→∀(i:Nat) (pins:List (Addr×Obj)) (s:Shared) (σ:St) (H:Hp) (E:Value→Shared→Prop),Inv X pins σ H s→(∀b∈fp,cb X pins H b)→tn i s.heap→J.go i H→
  wpAny (model P w) X.A (pyNext (.ref it)) (fun r s1=> ∃u,r=some u∧
   wpAny (model P w) X.A (letOwnedTupleGo tg (.ref it) u) (fun _ s2=> ∃x H',Inv X pins σ H' s2∧RelV x u∧J.nP i H x H'∧tn (i+1) s2.heap∧∀b∈fp,H' b=none) E s1) E s
 done:∀(X:Cx),X.prog=P→X.w=w→X.K=K→X.calm=true→∀(i:Nat) (pins:List (Addr×Obj)) (s:Shared) (σ:St) (H:Hp) (E:Value→Shared→Prop),Inv X pins σ H s→(∀b∈fp,cb X pins H b)→tn i s.heap→J.stop i H→
  wpAny (model P w) X.A (pyNext (.ref it)) (fun r s1=>r=none∧Inv X pins σ H s1) E s
 self:∀(A:Around) (i:Nat) (s:Shared) (Q:Value→Shared→Prop) (E:Value→Shared→Prop),tn i s.heap→Q (.ref it) s→wpAny (model P w) A (pyIter (.ref it)) Q E s
abbrev TI:=St→Hp→(It→Hp→Prop)→Prop
def CO (X:Cx) (pins:List (Addr×Obj)) (σ:St) (tg:Expr) (R:It→Hp→Prop) (kO:Value) (s2:Shared):Prop:=
 ∃(it:Addr) (fp:List Addr) (tn:Nat→Heap→Prop) (J:It) (H':Hp),kO=.ref it∧Inv X pins σ H' s2∧Turn X.prog X.w X.K tg J fp it tn∧tn 0 s2.heap∧(∀b∈fp,cb X pins H' b)∧R J H'
def PI (X:Cx) (tg iter:Expr) (wi:TI):Prop:=
 ∀(pins:List (Addr×Obj)) (s:Shared) (σ:St) (H:Hp) (R:It→Hp→Prop),Inv X pins σ H s→wi σ H R→
  wpAny (model X.prog X.w) X.A (eval iter X.env) (fun v s1=>wpAny (model X.prog X.w) X.A (pyIter v) (CO X pins σ tg R) X.xe s1) X.xe s
theorem xy {M:Model}{A:Around}{E:Value→Shared→Prop}{s:Shared}{tg:Expr}{it:Addr}{u:Value}{o:Obj}{n:String}{vs:Array Value}{Q:Unit→Shared→Prop}(ho:s.heap.get? it=some o) (hc:o.cls=.type n) (hd:o.data=.fields vs)
    (hn:["enumerate", "zip", "dict_itemiterator", "dict_reverseitemiterator", "odict_iterator", "itertools.zip_longest", "itertools.pairwise"].contains n=false) (hQ:Q () s):wpAny M A (letOwnedTupleGo tg (.ref it) u) Q E s:=by
  unfold letOwnedTupleGo
  cases tg<;>first
    |exact wpAny_pure hQ
    |(cases u<;>first
        |exact wpAny_pure hQ
        |(refine wpAny_bind (wpAny_load ho ?_)
          rw[hc,hd]
          show wpAny M A (if (["enumerate", "zip", "dict_itemiterator", "dict_reverseitemiterator", "odict_iterator", "itertools.zip_longest", "itertools.pairwise"].contains n&&vs[0]? ==some (rawInt _))=true then _ else _) Q E s
          rw[if_neg (by intro h;rw[hn,Bool.false_and]at h;cases h)]
          exact wpAny_pure hQ))
def nE (K:PySem.W.Frag) (a:Addr):It:=
 ⟨fun i H=> ∃xs x,ah K H a xs∧xs[i]? =some x,fun i H x H'=>H'=H∧∀xs,ah K H a xs→xs[i]? =some x,fun i H=> ∃xs,ah K H a xs∧xs.length≤i⟩
def xJ (K:PySem.W.Frag) (a:Addr):It:=
 ⟨fun i H=> ∃xs x,ai K H a xs∧xs[i]? =some x,fun i H x H'=>H'=H∧∀xs,ai K H a xs→xs[i]? =some x,fun i H=> ∃xs,ai K H a xs∧xs.length≤i⟩
def km (lo:Int) (n:Nat):It:=⟨fun i _=>i<n,fun i H x H'=>H'=H∧x=.int (lo+i),fun i _=>n≤i⟩
theorem O7 {P:Program}{w:World}{K:PySem.W.Frag}{tg:Expr}(a it:Addr):Turn P w K tg (nE K a) [it] it (fun i h=>h.IsListIter it a i) where
 mem:=by simp
 obj:=fun i h st b hb=>by
  have e:b=it:=by simpa using hb
  subst e
  obtain⟨o,e,c,d⟩:=st
  exact⟨o,e,fun v z=>by rw[d]at z;cases z⟩
 keep:=fun i h h' st k=>st.at fun o e=>k it (by simp) o e
 item:=by
  intro X hP hw hK hc i pins s σ H E I hf st hg
  subst hP hw hK
  obtain⟨xs,x,hq,hx⟩:=hg
  obtain⟨its,rv,p,hz⟩:=I.list hq
  obtain⟨u,hu,ru⟩:=rv.get hx
  obtain⟨f0,f1,f2,f3,f4,f5⟩:=hf it (by simp)
  refine wpAny_pyNext_list_item st p.isList (x:=u) (by simpa using hu) fun h' aa sb=> ?_
  have I1:Inv X pins σ H {s with heap:=h'} :=I.turned (t':=s.toks) (fun b o hb e=> (sb.2 b hb).trans e) f0 f1 f3 f4 f5
  obtain⟨o,e,c,d⟩:=id aa
  exact⟨u,rfl,xy (s:= {s with heap:=h'}) e c d (by decide) ⟨x,H,I1,ru,⟨rfl,fun ys hy=>by rw[I.vv hy hq];exact hx⟩,aa,fun b hb=> (hf b hb).1⟩⟩
 done:=by
  intro X hP hw hK hc i pins s σ H E I hf st hg
  subst hP hw hK
  obtain⟨xs,hq,hx⟩:=hg
  obtain⟨its,rv,p,hz⟩:=I.list hq
  obtain⟨f0,f1,f2,f3,f4,f5⟩:=hf it (by simp)
  have hl:=rv.length
  exact wpAny_pyNext_list_end (I.ok.hd hc) st p.isList (by simp;omega) fun h' eb=> ⟨rfl,I.turned (t':=s.toks) (fun b o hb e=>eb b o hb e) f0 f1 f3 f4 f5⟩
 self:=fun _ _ _ _ _ st h=>wpAny_pyIter_listiter st h
theorem UK {P:Program}{w:World}{K:PySem.W.Frag}{tg:Expr}(a it:Addr):Turn P w K tg (xJ K a) [it] it (fun i h=>h.IsTupleIter it a i) where
 mem:=by simp
 obj:=fun i h st b hb=>by
  have e:b=it:=by simpa using hb
  subst e
  obtain⟨o,e,c,d⟩:=st
  exact⟨o,e,fun v z=>by rw[d]at z;cases z⟩
 keep:=fun i h h' st k=>st.at fun o e=>k it (by simp) o e
 item:=by
  intro X hP hw hK hc i pins s σ H E I hf st hg
  subst hP hw hK
  obtain⟨xs,x,hq,hx⟩:=hg
  obtain⟨its,rv,p,hz⟩:=I.tuple hq
  obtain⟨u,hu,ru⟩:=rv.get hx
  obtain⟨f0,f1,f2,f3,f4,f5⟩:=hf it (by simp)
  refine wpAny_pyNext_tuple_item st (show s.heap.IsTuple a its.toArray from p) (x:=u) (by simpa using hu) fun h' aa sb=> ?_
  have I1:Inv X pins σ H {s with heap:=h'} :=I.turned (t':=s.toks) (fun b o hb e=> (sb.2 b hb).trans e) f0 f1 f3 f4 f5
  obtain⟨o,e,c,d⟩:=id aa
  exact⟨u,rfl,xy (s:= {s with heap:=h'}) e c d (by decide) ⟨x,H,I1,ru,⟨rfl,fun ys hy=>by rw[I.qh hy hq];exact hx⟩,aa,fun b hb=> (hf b hb).1⟩⟩
 done:=by
  intro X hP hw hK hc i pins s σ H E I hf st hg
  subst hP hw hK
  obtain⟨xs,hq,hx⟩:=hg
  obtain⟨its,rv,p,hz⟩:=I.tuple hq
  obtain⟨f0,f1,f2,f3,f4,f5⟩:=hf it (by simp)
  have hl:=rv.length
  exact wpAny_pyNext_tuple_end (I.ok.hd hc) st (show s.heap.IsTuple a its.toArray from p) (by simp;omega) fun h' eb=> ⟨rfl,I.turned (t':=s.toks) (fun b o hb e=>eb b o hb e) f0 f1 f3 f4 f5⟩
 self:=fun _ _ _ _ _ st h=>wpAny_pyIter_tupleiter st h
theorem UL {P:Program}{w:World}{K:PySem.W.Frag}{tg:Expr}(it:Addr) (lo:Int) (n:Nat):Turn P w K tg (km lo n) [it] it (fun i h=>IsRangeIter h it (lo+(i:Nat)*1) ((n:Int) - (i:Nat)) 1) where
 mem:=by simp
 obj:=fun i h st b hb=>by
  have e:b=it:=by simpa using hb
  subst e
  exact⟨_,st,fun v z=>by
   have z':Data.fields _=Data.cell v:=z
   cases z'⟩
 keep:=fun i h h' st k=>k it (by simp) _ st
 item:=by
  intro X hP hw hK hc i pins s σ H E I hf st hg
  subst hP hw hK
  obtain⟨f0,f1,f2,f3,f4,f5⟩:=hf it (by simp)
  have W:=Walks.range (prog:=X.prog) (w:=X.w) (I.ok.hd hc) it lo 1 n
  refine W.item i s _ _ hg st fun v h' tk hv aa kk=> ?_
  obtain⟨t,rfl⟩:=hv
  have I1:Inv X pins σ H {s with heap:=h',toks:=tk} :=I.turned (fun b o hb e=>kk b o (by simpa using hb) e) f0 f1 f3 f4 f5
  refine⟨_,rfl,xy (s:= {s with heap:=h',toks:=tk}) (n:= "range_iterator") aa rfl rfl (by decide) ⟨.int (lo+i),H,I1,⟨t,?_⟩,⟨rfl,rfl⟩,aa,fun b hb=> (hf b hb).1⟩⟩
  rw[Int.mul_one]
 done:=by
  intro X hP hw hK hc i pins s σ H E I hf st hg
  subst hP hw hK
  obtain⟨f0,f1,f2,f3,f4,f5⟩:=hf it (by simp)
  exact wpAny_pyNext_range_end (I.ok.hd hc) st (by have:n≤i:=hg;omega) fun h' eb=> ⟨rfl,I.turned (t':=s.toks) (fun b o hb e=>eb b o hb e) f0 f1 f3 f4 f5⟩
 self:=fun _ _ _ _ _ st h=>wpAny_pyIter_rangeiter st h
section
variable {X:Cx}{tg:Expr}
def GL (K:PySem.W.Frag) (tl:TE):TI:=fun σ H R=>tl σ H fun x H1=> ∃a,x=.ref a∧(∃xs,ah K H1 a xs)∧R (nE K a) H1
def GI (K:PySem.W.Frag) (tl:TE):TI:=fun σ H R=>tl σ H fun x H1=> ∃a,x=.ref a∧(∃xs,ai K H1 a xs)∧R (xJ K a) H1
theorem Yl {l:Expr}{tl:TE}(hl:PE X l tl):PI X tg l (GL X.K tl):=by
 intro pins s σ H R I h
 refine ar (hl pins s σ H _ I h) fun v s1 ⟨x,H1,I1,r1,q1⟩=> ?_
 obtain⟨a,e,⟨xs,hq⟩,q⟩:=q1
 subst e
 cases r1
 obtain⟨its,rv,p,hz⟩:=I1.list hq
 refine wpAny_pyIter_list p.isList ?_
 refine⟨s1.heap.objs.size,[s1.heap.objs.size],_,_,H1,rfl,I1.kept (t':=s1.toks) fun b o e=>Heap.get?_push_of_some _ e,O7 a _,⟨_,Heap.get?_push_size _ rfl,rfl,rfl⟩,fun b hb=> ?_,q⟩
 have e:b=s1.heap.objs.size:=by simpa using hb
 subst e
 exact I1.j9 (Nat.le_refl _) (I1.ag.fresh (Nat.le_refl _))
theorem UT {l:Expr}{tl:TE}(hl:PE X l tl):PI X tg l (GI X.K tl):=by
 intro pins s σ H R I h
 refine ar (hl pins s σ H _ I h) fun v s1 ⟨x,H1,I1,r1,q1⟩=> ?_
 obtain⟨a,e,⟨xs,hq⟩,q⟩:=q1
 subst e
 cases r1
 obtain⟨its,rv,p,hz⟩:=I1.tuple hq
 refine wpAny_pyIter_tuple (show s1.heap.IsTuple a its.toArray from p) ?_
 refine⟨s1.heap.objs.size,[s1.heap.objs.size],_,_,H1,rfl,I1.kept (t':=s1.toks) fun b o e=>Heap.get?_push_of_some _ e,UK a _,⟨_,Heap.get?_push_size _ rfl,rfl,rfl⟩,fun b hb=> ?_,q⟩
 have e:b=s1.heap.objs.size:=by simpa using hb
 subst e
 exact I1.j9 (Nat.le_refl _) (I1.ag.fresh (Nat.le_refl _))
theorem Uh {pins:List (Addr×Obj)}{σ:St}{H:Hp}{s:Shared}{R:It→Hp→Prop}{E:Value→Shared→Prop}{lo hi:Int}{t u v:Tok}{tk:Nat}(I:Inv X pins σ H s) (h1: -(2^62)≤lo) (h2:lo<2^62) (h3: -(2^62)≤hi) (h4:hi<2^62)
  (q:R (km lo (hi - lo).toNat) H):wpAny (model X.prog X.w) X.A (pyIter (.ref s.heap.objs.size)) (CO X pins σ tg R) E {s with heap:=s.heap.push {cls:=.type "range",data:=.fields #[.int lo t,.int hi u,.int 1 v]},toks:=tk} :=by
 refine wpAny_pyIter_range (IsRange.new ..) (small_one h1 h2 h3 h4) ?_
 have I1:Inv X pins σ H {s with heap:=s.heap.push {cls:=.type "range",data:=.fields #[.int lo t,.int hi u,.int 1 v]},toks:=tk} :=I.kept fun b o e=>Heap.get?_push_of_some _ e
 refine⟨(s.heap.push {cls:=.type "range",data:=.fields #[.int lo t,.int hi u,.int 1 v]}).objs.size,[(s.heap.push {cls:=.type "range",data:=.fields #[.int lo t,.int hi u,.int 1 v]}).objs.size],_,_,H,rfl,
  I1.kept (t':=tk) fun b o e=>Heap.get?_push_of_some _ e,UL _ lo (hi - lo).toNat,?_,fun b hb=> ?_,q⟩
 ·have e1:lo+((0:Nat):Int)*1=lo:=by simp
  have e2:(((hi - lo).toNat:Nat):Int) - ((0:Nat):Int)=Builtin.Range.rangeSize lo hi 1:=by rw[rangeSize_one];split<;>omega
  show IsRangeIter _ _ (lo+((0:Nat):Int)*1) ((((hi - lo).toNat:Nat):Int) - ((0:Nat):Int)) 1
  rw[e1,e2]
  exact Heap.get?_push_size _ rfl
 ·have e:b=(s.heap.push {cls:=.type "range",data:=.fields #[.int lo t,.int hi u,.int 1 v]}).objs.size:=by simpa using hb
  subst e
  exact I1.j9 (Nat.le_refl _) (I1.ag.fresh (Nat.le_refl _))
def GK (ta:TA):TI:=fun σ H R=>ta σ H fun vs H1=> ∃j:Int,vs=[.int j]∧ -(2^62)≤j∧j<2^62∧R (km 0 j.toNat) H1
def GJ (ta:TA):TI:=fun σ H R=>ta σ H fun vs H1=> ∃i j:Int,vs=[.int i,.int j]∧(-(2^62)≤i∧i<2^62∧ -(2^62)≤j∧j<2^62)∧R (km i (j - i).toNat) H1
theorem Z1 {a:Expr}{ta:TA}{p pos:Pos}(hg:Gl X "range") (hm:X.mg "range" =none) (ha:PA X [a] ta) (hs:starEach [a] X.env=[(false,eval a X.env)]:=by rfl):PI X tg (.Call (.Name "range" p) [a] [] pos) (GK ta):=by
 intro pins s σ H R I h
 refine Call_ (YM I hg hm boot_range (PyProof.Rows.callWith_type1 (ar (ha pos pins s σ H _ I h) fun us s1 ⟨vs,H1,I1,r1,q1⟩=> ?_) hs rfl))
 obtain⟨j,e,q1,q2,q⟩:=q1
 subst e
 cases r1 with
 |cons r rr=>
  cases rr
  obtain⟨t,rfl⟩:=r
  exact call_range_1 (Uh I1 (by omega) (by omega) q1 q2 (by simpa using q))
theorem WA {a b:Expr}{ta:TA}{p pos:Pos}(hg:Gl X "range") (hm:X.mg "range" =none) (ha:PA X [a,b] ta) (hs:starEach [a,b] X.env=[(false,eval a X.env),(false,eval b X.env)]:=by rfl) (iG:starEach [b] X.env=[(false,eval b X.env)]:=by rfl):
  PI X tg (.Call (.Name "range" p) [a,b] [] pos) (GJ ta):=by
 intro pins s σ H R I h
 refine Call_ (YM I hg hm boot_range (PyProof.Rows.callWith_type1 (ar (ha pos pins s σ H _ I h) fun us s1 ⟨vs,H1,I1,r1,q1⟩=> ?_) (by rw[hs,iG]) (by rw[iG];rfl)))
 obtain⟨i,j,e,⟨q1,q2,q3,q4⟩,q⟩:=q1
 subst e
 cases r1 with
 |cons r rr=>
  cases rr with
  |cons r' rr=>
   cases rr
   obtain⟨t,rfl⟩:=r
   obtain⟨t',rfl⟩:=r'
   exact call_range_2 (Uh I1 q1 q2 q3 q4 q)
def DZ (wi:TI) (g:TG) (tb:TS):TS:=fun D σ H=>wi σ H fun J H1=> ∃W:Nat→Nat→St→Hp→Prop,(∃m,W 0 m σ H1)∧∀i m σ H,W i m σ H→
 (J.stop i H∧D.nx σ H)∨(J.go i H∧∃N:St→Hp→Prop,(∀ak H',N ak H'→∃m',m'<m∧W (i+1) m' ak H')∧∀x H',J.nP i H x H'→g x σ H' fun aS H2=>tb {D with nx:=N,ct:=N,bk:=D.nx} aS H2)
def i6 (fp:List Addr) (h:Heap):List (Addr×Obj):=fp.filterMap fun b=> (h.get? b).map fun o=> (b,o)
theorem Z0 {fp:List Addr}{h:Heap}{b:Addr}{o:Obj}(hb:b∈fp) (e:h.get? b=some o):(b,o)∈i6 fp h:=List.mem_filterMap.mpr ⟨b,hb,by rw[e];rfl⟩
theorem Jy {fp:List Addr}{h:Heap}{p:Addr×Obj}(hp:p∈i6 fp h):p.1∈fp∧h.get? p.1=some p.2:=by
 obtain⟨b,hb,e⟩:=List.mem_filterMap.mp hp
 cases q:h.get? b with
 |none=>rw[q]at e;cases e
 |some o=>
  rw[q]at e
  have e':(b,o)=p:=Option.some.inj e
  subst e'
  exact⟨hb,q⟩
theorem Inv.pinned {pins:List (Addr×Obj)}{σ:St}{H:Hp}{s:Shared}{fp:List Addr}(I:Inv X pins σ H s) (hf:∀b∈fp,cb X pins H b) (ho:∀b∈fp,∃o,s.heap.get? b=some o∧∀v,o.data≠.cell v):Inv X (pins++i6 fp s.heap) σ H s:=
 I.zE fun p hp=> (List.mem_append.mp hp).elim (fun z=>I.pin p (List.mem_append_right _ z)) fun z=>by
  obtain⟨hb,e⟩:=Jy z
  obtain⟨f0,f1,f2,_⟩:=hf p.1 hb
  obtain⟨o,e',d⟩:=ho p.1 hb
  rw[e]at e';cases e'
  exact⟨e,f0,f1,f2,d⟩
theorem Inv.iV {pins pl:List (Addr×Obj)}{σ:St}{H:Hp}{s:Shared}(I:Inv X (pins++pl) σ H s):Inv X pins σ H s:=I.zE fun p hp=>I.pin p (List.mem_append_right _ (List.mem_append_left _ hp))
theorem Yb {iter:Expr}{body:List Stmt}{wi:TI}{g:TG}{tb:TS}{pos:Pos}(hp:PassesOwn (model X.prog X.w) X.A X.env X.xe) (hc:X.calm=true) (hi:PI X tg iter wi) (hg:PG X tg g) (hb:eO X body tb)
  (hs:∀x,foldedSetIterable iter X.env x=pure x:=by intro _;rfl):PS X (.For tg iter body [] pos) (DZ wi g tb):=by
 intro pins s σ H D I h
 refine wpAny_For (ar (hi pins s σ H _ I h) fun v s1 h1=>ar h1 fun kO s2 h2=> ?_) hs
 obtain⟨it,fp,tn,J,H2,e,I2,T,aj,f2,W,⟨m0,w0⟩,turn⟩:=h2
 subst e
 have stat:∀{H':Hp},(∀b∈fp,H' b=none)→∀b∈fp,cb X pins H' b:=fun hn b hb=> ⟨hn b hb,(f2 b hb).2⟩
 refine codeAny_forLoop_any (fun n s'=> ∃i ak H',Inv X pins ak H' s'∧tn i s'.heap∧(∀b∈fp,H' b=none)∧W i n ak H') ?_ m0 ⟨0,σ,H2,I2,aj,fun b hb=> (f2 b hb).1,w0⟩
 rintro n s3 ⟨i,gE,H3,I3,aF,r6,w3⟩
 rcases turn i n gE H3 w3 with ⟨stop,qn⟩ |⟨go,N,hN,step⟩
 ·refine wpAny_passesOwn hp (ar (T.done X rfl rfl rfl hc i pins s3 gE H3 X.xe I3 (stat r6) aF stop) fun r s4 ⟨hr,I4⟩=> ?_)
  subst hr
  exact wpAny_execs_nil ⟨gE,H3,I4,qn⟩
 ·refine wpAny_passesOwn hp (ar (T.item X rfl rfl rfl hc i pins s3 gE H3 X.xe I3 (stat r6) aF go) fun r s4 ⟨u,hr,h4⟩=> ?_)
  subst hr
  refine wpAny_passesOwn hp (ar h4 fun _ s5 ⟨x,H5,I5,r5,y5,dG,wM⟩=> ?_)
  have xO:=I5.pinned (stat wM) (T.obj _ _ dG)
  refine wpAny_passesOwn hp (ar (hg _ s5 gE H5 x u _ xO r5 (step x H5 y5)) fun _ s6 ⟨nM,H6,I6,q6⟩=> ?_)
  refine wpAny_passesOwn hp (ar (hb _ s6 nM H6 _ I6 q6) fun f s7 q7=> ?_)
  have again:∀{dE:St}{H7:Hp},Inv X (pins++i6 fp s5.heap) dE H7 s7→N dE H7→∃m,m<n∧∃i ak H',Inv X pins ak H' s7∧tn i s7.heap∧(∀b∈fp,H' b=none)∧W i m ak H':=fun {dE H7} I7 n7=>by
   obtain⟨m',hm,w7⟩:=hN dE H7 n7
   refine⟨m',hm,i+1,dE,H7,I7.iV,T.keep _ _ _ dG fun b hb o e=> (I7.pin (b,o) (List.mem_append_right _ (List.mem_append_right _ (Z0 hb e)))).1,fun b hb=> ?_,w7⟩
   obtain⟨o,e,d⟩:=T.obj _ _ dG b hb
   exact(I7.pin (b,o) (List.mem_append_right _ (List.mem_append_right _ (Z0 hb e)))).2.1
  cases f with
  |next=>obtain⟨dE,H7,I7,n7⟩:=q7;exact again I7 n7
  |cont=>obtain⟨dE,H7,I7,n7⟩:=q7;exact again I7 n7
  |brk=>obtain⟨dE,H7,I7,q7⟩:=q7;exact⟨dE,H7,I7.iV,q7⟩
  |ret v=>obtain⟨x7,dE,H7,I7,r7,q7⟩:=q7;exact⟨x7,dE,H7,I7.iV,r7,q7⟩
end
theorem YN {K:PySem.W.Frag}{a:Addr}{xs:List V}{g:TG}{tb:TS}{D:Ends}{σ:St}{H:Hp}(Pv:Nat→St→Hp→Prop) (h0:Pv 0 σ H) (hl:∀i σ H,i≤xs.length→Pv i σ H→ah K H a xs)
  (hs:∀i x σ H,xs[i]? =some x→Pv i σ H→g x σ H fun aS H2=>tb {D with nx:=Pv (i+1),ct:=Pv (i+1),bk:=D.nx} aS H2) (hd:∀σ H,Pv xs.length σ H→D.nx σ H):
  ∃W:Nat→Nat→St→Hp→Prop,(∃m,W 0 m σ H)∧∀i m σ H,W i m σ H→
   ((nE K a).stop i H∧D.nx σ H)∨((nE K a).go i H∧∃N:St→Hp→Prop,(∀ak H',N ak H'→∃m',m'<m∧W (i+1) m' ak H')∧∀x H',(nE K a).nP i H x H'→g x σ H' fun aS H2=>tb {D with nx:=N,ct:=N,bk:=D.nx} aS H2):=by
 refine⟨fun i m σ H=>m=xs.length - i∧i≤xs.length∧Pv i σ H,⟨xs.length,by simp,Nat.zero_le _,h0⟩,?_⟩
 rintro i m σ H ⟨rfl,hi,p⟩
 have q:=hl i σ H hi p
 by_cases aC:i<xs.length
 ·refine .inr ⟨⟨xs,xs[i],q,by simp[aC]⟩,Pv (i+1),fun ak H' p'=> ⟨xs.length - (i+1),by omega,rfl,aC,p'⟩,fun x H' y=> ?_⟩
  obtain⟨e,y⟩:=y
  subst e
  exact hs i x σ _ (y xs q) p
 ·have e:i=xs.length:=by omega
  subst e
  exact .inl ⟨⟨xs,q,Nat.le_refl _⟩,hd σ H p⟩
theorem Z3 {lo:Int}{n:Nat}{g:TG}{tb:TS}{D:Ends}{σ:St}{H:Hp}(Pv:Nat→St→Hp→Prop) (h0:Pv 0 σ H)
  (hs:∀i σ H,i<n→Pv i σ H→g (.int (lo+i)) σ H fun aS H2=>tb {D with nx:=Pv (i+1),ct:=Pv (i+1),bk:=D.nx} aS H2) (hd:∀σ H,Pv n σ H→D.nx σ H):
  ∃W:Nat→Nat→St→Hp→Prop,(∃m,W 0 m σ H)∧∀i m σ H,W i m σ H→
   ((km lo n).stop i H∧D.nx σ H)∨((km lo n).go i H∧∃N:St→Hp→Prop,(∀ak H',N ak H'→∃m',m'<m∧W (i+1) m' ak H')∧∀x H',(km lo n).nP i H x H'→g x σ H' fun aS H2=>tb {D with nx:=N,ct:=N,bk:=D.nx} aS H2):=by
 refine⟨fun i m σ H=>m=n - i∧i≤n∧Pv i σ H,⟨n,by simp,Nat.zero_le _,h0⟩,?_⟩
 rintro i m σ H ⟨rfl,hi,p⟩
 by_cases aC:i<n
 ·refine .inr ⟨aC,Pv (i+1),fun ak H' p'=> ⟨n - (i+1),by omega,rfl,aC,p'⟩,fun x H' y=> ?_⟩
  obtain⟨e,y⟩:=y
  subst e y
  exact hs i σ _ aC p
 ·have e:i=n:=by omega
  subst e
  exact .inl ⟨Nat.le_refl _,hd σ H p⟩
abbrev R2:=V→V→Hp→VK→Prop
def ba (X:Cx) (f:Value→Value→Sem Value) (r:R2):Prop:=
 ∀(pins:List (Addr×Obj)) (s:Shared) (σ:St) (H:Hp) (x y:V) (v u:Value) (Q:VK),Inv X pins σ H s→RelV x v→RelV y u→r x y H Q→
  wpAny (model X.prog X.w) X.A (f v u) (EP X pins σ Q) X.xe s
def xC (X:Cx) (f:Value→Sem Value) (r:V→Hp→VK→Prop):Prop:=
 ∀(pins:List (Addr×Obj)) (s:Shared) (σ:St) (H:Hp) (x:V) (v:Value) (Q:VK),Inv X pins σ H s→RelV x v→r x H Q→
  wpAny (model X.prog X.w) X.A (f v) (EP X pins σ Q) X.xe s
def dD (X:Cx) (f:Value) (r:List V→Hp→VK→Prop):Prop:=
 ∀(pins:List (Addr×Obj)) (s:Shared) (σ:St) (H:Hp) (xs:List V) (us:List Value) (Q:VK),Inv X pins σ H s→Vals xs us→r xs H Q→
  wpAny (model X.prog X.w) X.A (call f us) (EP X pins σ Q) X.xe s
def jA (r:R2) (ta tb:TE):TE:=fun σ H Q=>ta σ H fun x H1=>tb σ H1 fun y H2=>r x y H2 Q
def DI (r:V→Hp→VK→Prop) (ta:TE):TE:=fun σ H Q=>ta σ H fun x H1=>r x H1 Q
def rI (C:Int→Int→Prop) (g:Int→Int→V):R2:=fun x y H Q=> ∃i j,x=.int i∧y=.int j∧C i j∧Q (g i j) H
def jJ (g:Int→Int→V):R2:=fun x y H Q=> ∃i j,x=.int i∧y=.int j∧Q (g i j) H
def rU (g:Int→V):V→Hp→VK→Prop:=fun x H Q=> ∃i,x=.int i∧Q (g i) H
section
variable {X:Cx}{a b c:Expr}{ta tb tc:TE}{pos:Pos}
theorem xh (ha:PE X a ta) (hb:PE X b tb) {pins:List (Addr×Obj)}{s:Shared}{σ:St}{H:Hp}{R:V→V→Hp→Prop}(I:Inv X pins σ H s)
  (h:ta σ H fun x H1=>tb σ H1 fun y H2=>R x y H2) {Q:Value→Shared→Prop}{f:Value→Value→Sem Value}
  (hf:∀v u s2 x y H2,Inv X pins σ H2 s2→RelV x v→RelV y u→R x y H2→wpAny (model X.prog X.w) X.A (f v u) Q X.xe s2):
  wpAny (model X.prog X.w) X.A (eval a X.env) (fun v aK=>wpAny (model X.prog X.w) X.A (eval b X.env) (fun u tR=>wpAny (model X.prog X.w) X.A (f v u) Q X.xe tR) X.xe aK) X.xe s:=by
 refine ar (ha pins s σ H _ I h) fun v s1 ⟨x,H1,I1,r1,q1⟩=> ?_
 refine ar (hb pins s1 σ H1 _ I1 q1) fun u s2 ⟨y,H2,I2,r2,q2⟩=> ?_
 exact hf v u s2 x y H2 I2 r1 r2 q2
theorem Zn {op:Operator}{r:R2}(ho:ba X (binaryOp op) r) (ha:PE X a ta) (hb:PE X b tb):PE X (.BinOp a op b pos) (jA r ta tb):=by
 intro pins s σ H Q I h
 exact wpAny_BinOp (xh ha hb I h fun v u s2 x y H2 I2 rx ry q=>ho pins s2 σ H2 x y v u Q I2 rx ry q)
theorem MG {op:UnaryOp}{r:V→Hp→VK→Prop}(ho:xC X (unaryOp op) r) (ha:PE X a ta):PE X (.UnaryOp op a pos) (DI r ta):=by
 intro pins s σ H Q I h
 exact UnaryOp_ (ar (ha pins s σ H _ I h) fun v s1 ⟨x,H1,I1,r1,q1⟩=>ho pins s1 σ H1 x v Q I1 r1 q1)
theorem qX {f:Value→Value→Sem Value}{C:Int→Int→Prop}{g:Int→Int→Int}
  (rule:∀(i j:Int) (t u:Tok) (s:Shared) (Q:Value→Shared→Prop) (E:Value→Shared→Prop),C i j→Q (.int (g i j) s.toks) {s with toks:=s.toks+1}→wpAny (model X.prog X.w) X.A (f (.int i t) (.int j u)) Q E s):
  ba X f (rI C fun i j=> .int (g i j)):=by
 intro pins s σ H x y v u Q I rx ry h
 obtain⟨i,j,rfl,rfl,hc,q⟩:=h
 obtain⟨t,rfl⟩:=rx
 obtain⟨t',rfl⟩:=ry
 exact rule i j t t' s _ _ hc ⟨.int (g i j),H,I.tok _,⟨_,rfl⟩,q⟩
theorem zI {f:Value→Value→Sem Value}{g:Int→Int→Int}
  (rule:∀(i j:Int) (t u:Tok) (s:Shared) (Q:Value→Shared→Prop) (E:Value→Shared→Prop),Q (.int (g i j) s.toks) {s with toks:=s.toks+1}→wpAny (model X.prog X.w) X.A (f (.int i t) (.int j u)) Q E s):
  ba X f (jJ fun i j=> .int (g i j)):=by
 intro pins s σ H x y v u Q I rx ry h
 obtain⟨i,j,rfl,rfl,q⟩:=h
 obtain⟨t,rfl⟩:=rx
 obtain⟨t',rfl⟩:=ry
 exact rule i j t t' s _ _ ⟨.int (g i j),H,I.tok _,⟨_,rfl⟩,q⟩
theorem qY {f:Value→Value→Sem Value}{g:Int→Int→Bool}
  (rule:∀(i j:Int) (t u:Tok) (s:Shared) (Q:Value→Shared→Prop) (E:Value→Shared→Prop),Q (.bool (g i j)) s→wpAny (model X.prog X.w) X.A (f (.int i t) (.int j u)) Q E s):
  ba X f (jJ fun i j=> .bl (g i j)):=by
 intro pins s σ H x y v u Q I rx ry h
 obtain⟨i,j,rfl,rfl,q⟩:=h
 obtain⟨t,rfl⟩:=rx
 obtain⟨t',rfl⟩:=ry
 exact rule i j t t' s _ _ ⟨.bl (g i j),H,I,rfl,q⟩
def P9 (i j:Int):Prop:=0<j∧j<1073741824
def P8 (i j:Int):Prop:=0≤j∧j≤1000000∧i.natAbs<2^64
def xT (i j:Int):Prop:=(-(2^64)<i∧i<2^64)∨(-(2^64)<j∧j<2^64)
theorem xT.ok {i j:Int}(h:xT i j):IntMulOk i j:=by
 rcases h with ⟨h1,h2⟩ |⟨h1,h2⟩
 ·exact .of_left (intBits_le_64 h1 h2)
 ·exact .of_right (intBits_le_64 h1 h2)
theorem ZZ:ba X (binaryOp .Add) (jJ fun i j=> .int (i+j)):=zI fun _ _ _ _ _ _ _ q=>add_int q
theorem Yd:ba X (binaryOp .Sub) (jJ fun i j=> .int (i - j)):=zI fun _ _ _ _ _ _ _ q=>sub_int q
theorem JY:ba X (binaryOp .Mult) (rI xT fun i j=> .int (i*j)):=qX fun _ _ _ _ _ _ _ hc q=>mul_int q hc.ok
theorem CG:ba X (binaryOp .FloorDiv) (rI P9 fun i j=> .int (i/j)):=qX fun i j _ _ _ _ _ hc q=>by
 have h1:(0:Int)<j:=hc.1
 have h2:j<1073741824:=hc.2
 exact floordiv_int (by omega) (by rw[Int.fdiv_eq_ediv_of_nonneg i (by omega)];exact q) (.inl (PyProof.noPylong_small (by omega)))
theorem Ys:ba X (binaryOp .Mod) (rI (fun _ j=>0<j) fun i j=> .int (i%j)):=qX fun i j _ _ _ _ _ hc q=>by
 have h1:(0:Int)<j:=hc
 exact mod_int' (by omega) (by rw[Int.fmod_eq_emod_of_nonneg i (by omega)];exact q)
theorem WT:ba X (binaryOp .Pow) (rI P8 fun i j=> .int (i^j.toNat)):=qX fun _ _ _ _ _ _ _ hc q=>pow_int_small hc.1 hc.2.1 hc.2.2 q
theorem Dr {f:Value→Sem Value}{g:Int→Int}
  (rule:∀(i:Int) (t:Tok) (s:Shared) (Q:Value→Shared→Prop) (E:Value→Shared→Prop),Q (.int (g i) s.toks) {s with toks:=s.toks+1}→wpAny (model X.prog X.w) X.A (f (.int i t)) Q E s):
  xC X f (rU fun i=> .int (g i)):=by
 intro pins s σ H x v Q I rx h
 obtain⟨i,rfl,q⟩:=h
 obtain⟨t,rfl⟩:=rx
 exact rule i t s _ _ ⟨.int (g i),H,I.tok _,⟨_,rfl⟩,q⟩
theorem NQ:xC X (unaryOp .USub) (rU fun i=> .int (-i)):=Dr fun _ _ _ _ _ q=>neg_int q
end
def jB:V→V→Bool
 | .af,.af=>true | .af,.int _=>true | .int _,.af=>true | .af,.bl _=>true | .bl _,.af=>true | .af,.str _=>true | .str _,.af=>true
 | .int _,.int _=>true | .bl _,.bl _=>true | .str _,.str _=>true | .gC _,.gC _=>true
 | .int _,.str _=>true | .str _,.int _=>true | .bl _,.str _=>true | .str _,.bl _=>true
 |_,_=>false
def Fd:R2:=fun x y H Q=>jB x y=true∧Q (.bl (decide (x=y))) H
def Fb:R2:=fun x y H Q=>jB x y=true∧Q (.bl (!decide (x=y))) H
theorem Cv {i j:Int} :decide (V.int i=V.int j)=(i==j):=by
 rw[Bool.eq_iff_iff]
 simp
theorem Cp {i j:Bool} :decide (V.bl i=V.bl j)=(i==j):=by
 rw[Bool.eq_iff_iff]
 simp
theorem Cw {i j:Str} :decide (V.str i=V.str j)=(i==j):=by
 rw[Bool.eq_iff_iff]
 simp
theorem Cu {i j:Array UInt8} :decide (V.gC i=V.gC j)=(i.toList==j.toList):=by
 rw[Bool.eq_iff_iff]
 cases i
 cases j
 simp
section
variable {X:Cx}{a b c:Expr}{ta tb tc:TE}{pos:Pos}
theorem ZF {pins:List (Addr×Obj)}{σ:St}{H:Hp}{s:Shared}{Q:VK}{k k':Bool}(I:Inv X pins σ H s) (q:Q (.bl k) H) (e:k=k'):EP X pins σ Q (.bool k') s:=by
 subst e
 exact⟨.bl k,H,I,rfl,q⟩
theorem JD:ba X (compareOp .Eq) Fd:=by
 intro pins s σ H x y v u Q I rx ry h
 obtain⟨hs,q⟩:=h
 cases x with
 |af=>
  cases rx
  cases y with
  |af=>cases ry;exact PySem.EqNone.eq_none_none (ZF I q (by simp))
  |bl j=>cases ry;exact PySem.EqNone.eq_none_bool (ZF I q (by simp))
  |int j=>obtain⟨t',rfl⟩:=ry;exact PySem.EqNone.eq_none_int (ZF I q (by simp))
  |str j=>obtain⟨t',rfl⟩:=ry;exact PySem.EqNone.eq_none_str (ZF I q (by simp))
  |_=>exact absurd (show false=true from hs) Bool.false_ne_true
 |bl i=>
  cases rx
  cases y with
  |af=>cases ry;exact PySem.EqNone.eq_bool_none (ZF I q (by simp))
  |bl j=>cases ry;exact eq_bool (ZF I q Cp)
  |str j=>obtain⟨t',rfl⟩:=ry;exact PySem.EqMixed.eq_bool_str (ZF I q (by simp))
  |_=>exact absurd (show false=true from hs) Bool.false_ne_true
 |int i=>
  obtain⟨t,rfl⟩:=rx
  cases y with
  |af=>cases ry;exact PySem.EqNone.eq_int_none (ZF I q (by simp))
  |int j=>obtain⟨t',rfl⟩:=ry;exact eq_int (ZF I q Cv)
  |str j=>obtain⟨t',rfl⟩:=ry;exact PySem.EqMixed.eq_int_str (ZF I q (by simp))
  |_=>exact absurd (show false=true from hs) Bool.false_ne_true
 |str i=>
  obtain⟨t,rfl⟩:=rx
  cases y with
  |af=>cases ry;exact PySem.EqNone.eq_str_none (ZF I q (by simp))
  |bl j=>cases ry;exact PySem.EqMixed.eq_str_bool (ZF I q (by simp))
  |int j=>obtain⟨t',rfl⟩:=ry;exact PySem.EqMixed.eq_str_int (ZF I q (by simp))
  |str j=>obtain⟨t',rfl⟩:=ry;exact eq_str (ZF I q Cw)
  |_=>exact absurd (show false=true from hs) Bool.false_ne_true
 |gC i=>
  obtain⟨t,rfl⟩:=rx
  cases y with
  |gC j=>obtain⟨t',rfl⟩:=ry;exact PySem.W.eq_bytes (ZF I q Cu)
  |_=>exact absurd (show false=true from hs) Bool.false_ne_true
 |_=>cases y<;>exact absurd (show false=true from hs) Bool.false_ne_true
theorem sO:ba X (compareOp .NotEq) Fb:=by
 intro pins s σ H x y v u Q I rx ry h
 obtain⟨hs,q⟩:=h
 cases x with
 |af=>
  cases rx
  cases y with
  |af=>cases ry;exact PySem.EqNone.ne_none_none (ZF I q (by simp))
  |bl j=>cases ry;exact PySem.EqNone.ne_none_bool (ZF I q (by simp))
  |int j=>obtain⟨t',rfl⟩:=ry;exact PySem.EqNone.ne_none_int (ZF I q (by simp))
  |str j=>obtain⟨t',rfl⟩:=ry;exact PySem.EqNone.ne_none_str (ZF I q (by simp))
  |_=>exact absurd (show false=true from hs) Bool.false_ne_true
 |bl i=>
  cases rx
  cases y with
  |af=>cases ry;exact PySem.EqNone.ne_bool_none (ZF I q (by simp))
  |bl j=>cases ry;exact ne_bool (ZF I q (congrArg not Cp))
  |str j=>obtain⟨t',rfl⟩:=ry;exact PySem.EqMixed.ne_bool_str (ZF I q (by simp))
  |_=>exact absurd (show false=true from hs) Bool.false_ne_true
 |int i=>
  obtain⟨t,rfl⟩:=rx
  cases y with
  |af=>cases ry;exact PySem.EqNone.ne_int_none (ZF I q (by simp))
  |int j=>obtain⟨t',rfl⟩:=ry;exact ne_int (ZF I q (congrArg not Cv))
  |str j=>obtain⟨t',rfl⟩:=ry;exact PySem.EqMixed.ne_int_str (ZF I q (by simp))
  |_=>exact absurd (show false=true from hs) Bool.false_ne_true
 |str i=>
  obtain⟨t,rfl⟩:=rx
  cases y with
  |af=>cases ry;exact PySem.EqNone.ne_str_none (ZF I q (by simp))
  |bl j=>cases ry;exact PySem.EqMixed.ne_str_bool (ZF I q (by simp))
  |int j=>obtain⟨t',rfl⟩:=ry;exact PySem.EqMixed.ne_str_int (ZF I q (by simp))
  |str j=>obtain⟨t',rfl⟩:=ry;exact ne_str (ZF I q (congrArg not Cw))
  |_=>exact absurd (show false=true from hs) Bool.false_ne_true
 |gC i=>
  obtain⟨t,rfl⟩:=rx
  cases y with
  |gC j=>obtain⟨t',rfl⟩:=ry;exact PySem.W.ne_bytes (ZF I q (congrArg not Cu))
  |_=>exact absurd (show false=true from hs) Bool.false_ne_true
 |_=>cases y<;>exact absurd (show false=true from hs) Bool.false_ne_true
theorem B5:ba X (compareOp .Lt) (jJ fun i j=> .bl (decide (i<j))):=qY fun _ _ _ _ _ _ _ q=>lt_int q
theorem xr:ba X (compareOp .LtE) (jJ fun i j=> .bl (decide (i≤j))):=qY fun _ _ _ _ _ _ _ q=>le_int q
theorem xq:ba X (compareOp .Gt) (jJ fun i j=> .bl (decide (j<i))):=qY fun _ _ _ _ _ _ _ q=>gt_int q
theorem BZ:ba X (compareOp .GtE) (jJ fun i j=> .bl (decide (j≤i))):=qY fun _ _ _ _ _ _ _ q=>ge_int q
theorem ba.or {f:Value→Value→Sem Value}{r r':R2}(h:ba X f r) (h':ba X f r'):ba X f (fun x y H Q=>r x y H Q∨r' x y H Q):=by
 intro pins s σ H x y v u Q I rx ry q
 rcases q with q |q
 ·exact h pins s σ H x y v u Q I rx ry q
 ·exact h' pins s σ H x y v u Q I rx ry q
theorem cq (b:Expr) {op:CmpOp}(h:op≠.In:=by decide) (h2:op≠.NotIn:=by decide):behindInMarks op b=false:=by
 have e1:(op==CmpOp.In)=false:=by cases op<;>first |rfl |exact absurd rfl h
 have e2:(op==CmpOp.NotIn)=false:=by cases op<;>first |rfl |exact absurd rfl h2
 cases b<;>simp[behindInMarks,e1,e2]
theorem Ym {op:CmpOp}{r:R2}(ho:ba X (compareOp op) r) (ha:PE X a ta) (hb:PE X b tb) (hm:behindInMarks op b=false):PE X (.Compare a [op] [b] pos) (jA r ta tb):=by
 intro pins s σ H Q I h
 exact wpAny_Compare1 (xh ha hb I h fun v u s2 x y H2 I2 rx ry q=>ho pins s2 σ H2 x y v u Q I2 rx ry q) hm
def yq (t:TE):TT:=fun σ H Q=>t σ H fun x H'=> ∃k,x=.bl k∧Q k H'
theorem ZR {op:CmpOp}{r:R2}(ho:ba X (compareOp op) r) (ha:PE X a ta) (hb:PE X b tb) (hm:behindInMarks op b=false):PT X (.Compare a [op] [b] pos) (yq (jA r ta tb)):=by
 intro pins s σ H Q I h
 refine wpAny_isTrue_Compare1 (ar (ha pins s σ H _ I h) fun v s1 ⟨x,H1,I1,r1,q1⟩=>ar (hb pins s1 σ H1 _ I1 q1) fun u s2 ⟨y,H2,I2,r2,q2⟩=>
  ar (ho pins s2 σ H2 x y v u _ I2 r1 r2 q2) fun c s3 ⟨z,H3,I3,r3,k,e,q3⟩=> ?_) hm
 subst e
 cases r3
 exact wpAny_truthy_bool ⟨H3,I3,q3⟩
def yx (r r':R2) (ta tb tc:TE):TE:=fun σ H Q=>ta σ H fun x H1=>tb σ H1 fun y H2=>r x y H2 fun z H3=> ∃k,z=.bl k∧
 (if k=true then tc σ H3 fun w' H4=>r' y w' H4 Q else Q (.bl false) H3)
theorem NT {op kJ:CmpOp}{r r':R2}(ho:ba X (compareOp op) r) (cH:ba X (compareOp kJ) r') (ha:PE X a ta) (hb:PE X b tb) (hc:PE X c tc)
  (hm:lastMarks [op,kJ] [b,c]=false:=by with_unfolding_all rfl):PE X (.Compare a [op,kJ] [b,c] pos) (yx r r' ta tb tc):=by
 intro pins s σ H Q I h
 refine Compare_chain (ar (ha pins s σ H _ I h) fun v s1 ⟨x,H1,I1,r1,q1⟩=>chain_link (ar (hb pins s1 σ H1 _ I1 q1) fun u s2 ⟨y,H2,I2,r2,q2⟩=>
  ar (ho pins s2 σ H2 x y v u _ I2 r1 r2 q2) fun d s3 ⟨z,H3,I3,r3,k,e,q3⟩=> ?_)) hm
 subst e
 cases r3
 refine wpAny_truthy_bool ?_
 cases k with
 |false=>exact ite_ff ⟨.bl false,H3,I3,rfl,q3⟩
 |true=>exact ite_tt (chain_last (ar (hc pins s3 σ H3 _ I3 q3) fun w' s4 ⟨z',H4,I4,r4,q4⟩=>cH pins s4 σ H4 y z' u w' Q I4 r2 r4 q4))
theorem NY {op kJ:CmpOp}{r r':R2}(ho:ba X (compareOp op) r) (cH:ba X (compareOp kJ) r') (ha:PE X a ta) (hb:PE X b tb) (hc:PE X c tc)
  (hm:lastMarks [op,kJ] [b,c]=false:=by with_unfolding_all rfl):PT X (.Compare a [op,kJ] [b,c] pos) (yq (yx r r' ta tb tc)):=by
 intro pins s σ H Q I h
 refine isTrue_chain (ar (ha pins s σ H _ I h) fun v s1 ⟨x,H1,I1,r1,q1⟩=>test_link (ar (hb pins s1 σ H1 _ I1 q1) fun u s2 ⟨y,H2,I2,r2,q2⟩=>
  ar (ho pins s2 σ H2 x y v u _ I2 r1 r2 q2) fun d s3 ⟨z,H3,I3,r3,k,e,q3⟩=> ?_)) hm
 subst e
 cases r3
 refine wpAny_truthy_bool ?_
 cases k with
 |false=>
  obtain⟨k',e',q'⟩:=q3
  cases e'
  exact ite_ff ⟨H3,I3,q'⟩
 |true=>
  refine ite_tt (test_last (ar (hc pins s3 σ H3 _ I3 q3) fun w' s4 ⟨z',H4,I4,r4,q4⟩=>ar (cH pins s4 σ H4 y z' u w' _ I4 r2 r4 q4) fun d' s5 ⟨z2,H5,I5,r5,k2,e2,q5⟩=> ?_))
  subst e2
  cases r5
  exact wpAny_truthy_bool ⟨H5,I5,q5⟩
theorem rC:(sizeLine:Nat)<2^63:=by rw[sizeLine_eq];decide
theorem vals1 {x:V}{us:List Value}(r:Vals [x] us):∃u,us=[u]∧RelV x u:=by
 cases r with
 |cons r1 r2=>cases r2;exact⟨_,rfl,r1⟩
theorem vals2 {x y:V}{us:List Value}(r:Vals [x,y] us):∃u w',us=[u,w']∧RelV x u∧RelV y w':=by
 cases r with
 |cons r1 r2=>
  cases r2 with
  |cons r3 r4=>cases r4;exact⟨_,_,rfl,r1,r3⟩
theorem WH (hc:X.calm=true):dD X (.builtin "max") (fun xs H Q=> ∃i j,xs=[.int i,.int j]∧Q (.int (if j>i then j else i)) H):=by
 intro pins s σ H xs us Q I r h
 obtain⟨i,j,rfl,q⟩:=h
 obtain⟨u,w',rfl,⟨t,rfl⟩,⟨t',rfl⟩⟩:=vals2 r
 refine max_two_ints (I.ok.hd hc) fun h' tk k=> ⟨_,H,I.kept k,?_,q⟩
 by_cases hj:j>i
 ·rw[if_pos hj,if_pos hj];exact⟨_,rfl⟩
 ·rw[if_neg hj,if_neg hj];exact⟨_,rfl⟩
theorem Pc (hc:X.calm=true):dD X (.builtin "min") (fun xs H Q=> ∃i j,xs=[.int i,.int j]∧Q (.int (if j<i then j else i)) H):=by
 intro pins s σ H xs us Q I r h
 obtain⟨i,j,rfl,q⟩:=h
 obtain⟨u,w',rfl,⟨t,rfl⟩,⟨t',rfl⟩⟩:=vals2 r
 refine min_two_ints (I.ok.hd hc) fun h' tk k=> ⟨_,H,I.kept k,?_,q⟩
 by_cases hj:j<i
 ·rw[if_pos hj,if_pos hj];exact⟨_,rfl⟩
 ·rw[if_neg hj,if_neg hj];exact⟨_,rfl⟩
theorem Pb:dD X (.type "int") (fun xs H Q=> (∃i,xs=[.int i]∧Q (.int i) H)∨∃k,xs=[.bl k]∧Q (.int (if k then 1 else 0)) H):=by
 intro pins s σ H xs us Q I r h
 rcases h with ⟨i,rfl,q⟩ |⟨k,rfl,q⟩
 ·obtain⟨u,rfl,t,rfl⟩:=vals1 r
  exact call_int_int ⟨.int i,H,I,⟨_,rfl⟩,q⟩
 ·obtain⟨u,rfl,r1⟩:=vals1 r
  cases r1
  exact call_int_bool ⟨.int (if k then 1 else 0),H,I.tok _,⟨_,rfl⟩,q⟩
end
structure xF (h:Heap) (x dx C:Addr) (mA:Str→Option Value):Prop where
 obj:h.get? x=some (PySem.W.instObj C dx)
 ns:h.Ns1 dx mA
 ne:dx≠x
theorem ON {h:Heap}{dx:Addr}{mA:Str→Option Value}(n:h.Ns1 dx mA):∃od,h.get? dx=some od∧∀name,PySem.W.lookIn name od=some (mA name):=by
 obtain⟨o,es,ep,ho,hd,hk,_,hm⟩:=n
 refine⟨o,ho,fun name=> ?_⟩
 have e:=hm name
 unfold nsFind findBy at e
 rw[←Array.find?_toList]at e
 unfold PySem.W.lookIn
 rw[hd]
 dsimp only
 split
 ·rename_i y q
  rw[q]at e
  exact congrArg some e
 ·rename_i q
  rw[q]at e
  have a:es.toList.any (·.refKey)=false:=by
   rw[List.any_eq_false]
   intro y hy
   obtain⟨z,t,Ig⟩:=hk y (Array.mem_toList_iff.mp hy)
   simp[DictEntry.refKey,Ig]
  have a':¬es.toList.any (·.refKey)=true:=by rw[a];exact Bool.false_ne_true
  rw[if_neg a']
  exact congrArg some e
theorem xF.look {h:Heap}{x dx C:Addr}{mA:Str→Option Value}(I:xF h x dx C mA):∃od,PySem.W.InstAt h x (PySem.W.instObj C dx) C (some od)∧∀name,PySem.W.lookIn name od=some (mA name):=
 let ⟨od,ho,hl⟩:=ON I.ns
 ⟨od,⟨I.obj,rfl,rfl,ho⟩,hl⟩
section
variable {P:Program}{w:World}{H H':Hp}{h h':Heap}{a C dx:Addr}{fs KG:List (Str×V)}
theorem Nq (ag:bg P w H h) (e:H a=some (.ins C dx fs)):∃mA,xF h a dx C mA∧(∀f,jo (fs.lookup f) (mA f))∧PySem.Within mA (fs.map (·.1))∧fs.length≤1000∧H dx=some (.own a):=by
 obtain⟨d,z,ne,ob,mA,n,r,q⟩:=(show aP P w H h a (.ins C dx fs) from ag a _ e)
 exact⟨mA,⟨ob,n,ne⟩,r,q,z,d⟩
end
structure xS (K:PySem.W.Frag) (C:Addr):Prop where
 pg:PySem.W.plainGet K C Str.empty=true
 hd:PySem.W.hasDictIn K C=true
 po:PySem.W.plainOver K C=true
 sa:PySem.W.findIn K (.ref C) "__setattr__" =some (some (.builtin "object.__setattr__"))
theorem xS.get {K:PySem.W.Frag}{C:Addr}(c:xS K C) (f:Str):PySem.W.plainGet K C f=true:=c.pg
structure Rc (K:PySem.W.Frag) (C:Addr) (f:Str) (v:V) (u:Value):Prop where
 at_:PySem.W.findIn K (.ref C) f=some (some u)
 rel:RelV v u
 get:PySem.W.specialIn K u "__get__" =some none
 cp:PySem.W.copiedNames.contains f=false
structure Meth (K:PySem.W.Frag) (C:Addr) (m:Str) (f:Addr):Prop where
 at_:PySem.W.findIn K (.ref C) m=some (some (.ref f))
 fn:PySem.W.isFn K (.ref f)=true
 kp:PySem.W.keepIn K (.ref f)=true
section
variable {X:Cx}{pins:List (Addr×Obj)}{σ:St}{H:Hp}{s:Shared}{A:Around}{E:Value→Shared→Prop}{Q:Value→Shared→Prop}{c:Value}{b:Bool}
inductive dX (K:PySem.W.Frag) (H:Hp):V→Value→Prop where
 |af:dX K H .af (.type "NoneType")
 |bl (x:Bool):dX K H (.bl x) (.type "bool")
 |int (i:Int):dX K H (.int i) (.type "int")
 |str (x:Str):dX K H (.str x) (.type "str")
 |ig (x:UInt64):dX K H (.ig x) (.type "float")
 |lst {a:Addr}{xs:List V} (e:H a=some (.lst xs)):dX K H (.ref a) (.type "list")
 |aT {a:Addr}{o:Obj}{xs:List V} (e:H a=some (.aT o (.lst xs))):dX K H (.ref a) (.type "list")
 |tup {a:Addr}{xs:List V} (e:H a=some (.tup xs)):dX K H (.ref a) (.type "tuple")
 |dK {a:Addr}{kvs:List (Key×V)} (e:H a=some (.dK kvs)):dX K H (.ref a) (.type "dict")
 |dT {a:Addr}{kvs:List (List Key×V)} (e:H a=some (.dT kvs)):dX K H (.ref a) (.type "dict")
 |ins {a C dx:Addr}{fs:List (Str×V)} (e:H a=some (.ins C dx fs)) (cl:xS K C) (ha:PySem.W.findIn K (.ref C) "__class__" =some (some (.builtin "object.__class__")))
  (hn:PySem.W.specialIn K (.builtin "object.__class__") "__get__" =some (some (.builtin "getset_descriptor.__get__"))) (Ak:PySem.W.takesIn K (.builtin "object.__class__")=some true)
  (hm:PySem.W.mroIn K C (.type "object")=some true):dX K H (.ref a) (.ref C)
theorem Pj {x:V}{u t:Value}(I:Inv X pins σ H s) (rx:RelV x u) (ty:dX X.K H x t) (e:PySem.W.kitOne X.K t c=some b) (h:∀tk,Q (.bool b) {s with toks:=tk}):
  wpAny (model X.prog X.w) A (call (.builtin "isinstance") [u,c]) Q E s:=by
 cases ty with
 |af=>cases (show u=Value.none from rx);exact PySem.W.kia_one PySem.W.kitx_none I.bO True.intro e (fun z=>nomatch z) h
 |bl y=>cases (show u=Value.bool y from rx);exact PySem.W.kia_one PySem.W.kitx_bool I.bO True.intro e (fun z=>nomatch z) h
 |int i=>obtain⟨t,q⟩:=(show ∃t,u=Value.int i t from rx);cases q;exact PySem.W.kia_one PySem.W.kitx_int I.bO True.intro e (fun z=>nomatch z) h
 |str y=>obtain⟨t,q⟩:=(show ∃t,u=Value.str y t from rx);cases q;exact PySem.W.kia_one PySem.W.kitx_str I.bO True.intro e (fun z=>nomatch z) h
 |ig y=>obtain⟨t,q⟩:=(show ∃t,u=Value.float y t from rx);cases q;exact PySem.W.kia_one PySem.W.kitx_float I.bO True.intro e (fun z=>nomatch z) h
 | @lst a xs ea=>
  cases (show u=Value.ref a from rx)
  obtain⟨_,_,n,_,h1⟩:=(show aP X.prog X.w H s.heap a (.lst xs) from I.ag a _ ea)
  exact PySem.W.kia_one PySem.W.kitx_list I.bO ⟨_,h1,rfl⟩ e (fun z=>nomatch z) h
 | @aT a ob xs ea=>
  cases (show u=Value.ref a from rx)
  obtain⟨_,_,_,n,_,h1⟩:=(show aP X.prog X.w H s.heap a (.aT ob (.lst xs)) from I.ag a _ ea)
  exact PySem.W.kia_one PySem.W.kitx_list I.bO ⟨_,h1,rfl⟩ e (fun z=>nomatch z) h
 | @tup a xs ea=>
  cases (show u=Value.ref a from rx)
  obtain⟨_,_,_,p,_⟩:=(show aP X.prog X.w H s.heap a (.tup xs) from I.ag a _ ea)
  obtain⟨o,h1,h2,_⟩:=p
  exact PySem.W.kia_one PySem.W.kitx_tuple I.bO ⟨o,h1,h2⟩ e (fun z=>nomatch z) h
 | @dK a kvs ea=>
  cases (show u=Value.ref a from rx)
  obtain⟨_,_,vs,_,p⟩:=(show aP X.prog X.w H s.heap a (.dK kvs) from I.ag a _ ea)
  obtain⟨o,es,ep,h1,h2,_⟩:=p
  exact PySem.W.kia_one PySem.W.kitx_dict I.bO ⟨o,h1,h2.1⟩ e (fun z=>nomatch z) h
 | @dT a kvs ea=>
  cases (show u=Value.ref a from rx)
  obtain⟨_,_,xs,_,o,es,ep,h1,h2,_⟩:=(show aP X.prog X.w H s.heap a (.dT kvs) from I.ag a _ ea)
  exact PySem.W.kia_one PySem.W.kitx_dict I.bO ⟨o,h1,h2.1⟩ e (fun z=>nomatch z) h
 | @ins a C dx fs ea cl ha hn Ak hm=>
  cases (show u=Value.ref a from rx)
  obtain⟨mA,O,_⟩:=Nq I.ag ea
  obtain⟨od,J,_⟩:=O.look
  exact PySem.W.kia_one (PySem.W.kitx_own (cl.get _) cl.hd ha hn Ak hm) I.bO J e (fun z=>nomatch z) h
end
structure bL (k:Nat) (A:Around):Prop where
 hd:A.handled=none
 dp:A.depth+3*k+5<recursionLimit
 un:A.units+16*k+200<cLine
 gd:A.guards=some []
theorem bL.mono {j k:Nat}{A:Around}(r:bL k A) (h:j≤k):bL j A:=⟨r.hd,by have:=r.dp;omega,by have:=r.un;omega,r.gd⟩
theorem bL.deeper {k:Nat}{A:Around}(r:bL (k+1) A) (env:Env):bL k (A.deeper env):=
 ⟨r.hd,by have:=r.dp;show A.depth+1+3*k+5<_;omega,by have:=r.un;show A.units+3+16*k+200<_;omega,r.gd⟩
theorem bL.depth {k:Nat}{A:Around}(r:bL k A):A.depth<recursionLimit:=by have:=r.dp;omega
theorem bL.units {k:Nat}{A:Around}(r:bL k A):A.units+64<cLine:=by have:=r.un;omega
theorem bL.tL {k:Nat}{A:Around}(r:bL k A):A.units<cLine:=by have:=r.un;omega
def nV:TA:=fun _ H Q=>Q [] H
def l7 (ta:TE) (tr:TA):TA:=fun σ H Q=>ta σ H fun x H1=>tr σ H1 fun xs H2=>Q (x::xs) H2
section
variable {X:Cx}{e:Expr}{es:List Expr}{te:TE}{t:TA}{pos:Pos}
theorem Zb:PA X [] nV:=fun _ _ _ _ H Q I h=>Calls.spliced_nil ⟨[],H,I,.nil,h⟩
theorem Za (ha:PE X e te) (hr:PA X es t) (hs:starEach (e::es) X.env=(false,eval e X.env)::starEach es X.env:=by rfl):PA X (e::es) (l7 te t):=by
 intro pos pins s σ H Q I h
 rw[hs]
 show wpAny _ _ (spliced ((false,eval e X.env)::backTo pos (starEach es X.env))) _ _ s
 refine Calls.spliced_cons (ar (ha pins s σ H _ I h) fun u s1 ⟨x,H1,I1,r1,q1⟩=> ?_)
 exact ar (hr pos pins s1 σ H1 _ I1 q1) fun us s2 ⟨xs,H2,I2,r2,q2⟩=> ⟨x::xs,H2,I2,.cons r1 r2,q2⟩
def qi (t:TA):TE:=fun σ H Q=>t σ H fun xs H1=>xs.length≤sizeLine∧∀p,H1 p=none→Q (.ref p) (upd H1 p (.tup xs))
def yu (t:TA):TE:=fun σ H Q=>t σ H fun xs H1=>xs.length≤sizeLine∧∀p,H1 p=none→Q (.ref p) (upd H1 p (.lst xs))
theorem Zz {x1} (h:PA X es t):PE X (.Tuple es x1 pos) (qi t):=by
 intro pins s σ H Q I hq
 refine wpAny_Tuple_spliced (ar (h pos pins s σ H _ I hq) fun us s1 ⟨xs,H1,I1,r,z,q⟩=> ⟨by rw[←r.length];exact z,?_⟩)
 have hf:H1 s1.heap.objs.size=none:=I1.ag.fresh (Nat.le_refl _)
 refine⟨.ref s1.heap.objs.size,upd H1 s1.heap.objs.size (.tup xs),I1.laid (t':=s1.toks) (fun b u e=>Heap.get?_push_of_some _ e) (Nat.le_refl _) ?_,rfl,q _ hf⟩
 exact⟨z,us,r,⟨_,Heap.get?_push_size _ rfl,rfl,_,rfl⟩,_,Heap.get?_push_size _ rfl,rfl⟩
theorem ZA (h:PA X es t):PE X (.List es pos) (yu t):=by
 intro pins s σ H Q I hq
 refine wpAny_List_spliced (ar (h pos pins s σ H _ I hq) fun us s1 ⟨xs,H1,I1,r,z,q⟩=> ⟨by rw[←r.length];exact z,?_⟩)
 have hf:H1 s1.heap.objs.size=none:=I1.ag.fresh (Nat.le_refl _)
 refine⟨.ref s1.heap.objs.size,upd H1 s1.heap.objs.size (.lst xs),I1.laid (t':=s1.toks) (fun b u e=>Heap.get?_push_of_some _ e) (Nat.le_refl _) ?_,rfl,q _ hf⟩
 exact⟨z,us,0,r,Heap.get?_push_size _ rfl⟩
end
abbrev Sp:=List V→Hp→VK→XK→Prop
abbrev iw:=List Env→Hp→Shared→XK→Value→Shared→Prop
structure pW (P:Program) (w:World) (K:PySem.W.Frag) (mg:Str→Option Value) (base:Heap) (A:Around) (outer:List Env) (s:Shared) (H:Hp):Prop where
 frames:A.frames=some outer
 mod:Mod K mg base
 bs:∀b o,base.get? b=some o→s.heap.get? b=some o∧H b=none
 iP:base.objs.size≤s.heap.objs.size
 dB:s.heap.FunFrames base outer
 gw:∀b∈aQ outer,H b=none
 ag:bg P w H s.heap
 bare:AllBare s.gens
def CE (outer:List Env) (P:Program) (w:World) (H:Hp) (s:Shared) (Q:VK) (u:Value) (s':Shared):Prop:=
 ∃v H',s'.os=s.os∧AllBare s'.gens∧Un (aQ outer) [] H H' s.heap s'.heap∧bg P w H' s'.heap∧RelV v u∧Q v H'
def CR (CX:iw) (outer:List Env) (P:Program) (w:World) (H:Hp) (s:Shared) (Q:VK) (E:XK) (r:Result) (s':Shared):Prop:=
 match r with
 | .ok (.ret u)=>CE outer P w H s Q u s'
 | .ok _=>False
 | .error e=>CX outer H s E e s'
structure aA (P:Program) (w:World) (K:PySem.W.Frag) (mg:Str→Option Value) (base:Heap) (CX:iw) (k:Nat) (f:Addr) (fd:FuncData) (ps:List Str) (sp:Sp):Prop where
 len:∀vs H Q E,sp vs H Q E→vs.length=ps.length
 run:∀(A:Around) (outer:List Env) (s:Shared) (H:Hp) (args:Args) (us:List Value) (vs:List V) (Q:VK) (E:XK),bL k A→pW P w K mg base A outer s H→BindsTo s fd args (ps.zip us)→Vals vs us→sp vs H Q E→
  codeAny (model P w) A (.call (.ref f) args) (CR CX outer P w H s Q E) s
section
variable {X:Cx}{pins:List (Addr×Obj)}{σ:St}{H:Hp}{s s':Shared}
theorem Inv.BD (I:Inv X pins σ H s):pW X.prog X.w X.K X.mg X.base X.A X.stack s H:=
 ⟨I.ok.frames,I.ok.mod,I.bs,Nat.le_trans I.ok.iP I.sz,I.stack,I.nY,I.ag,I.bare⟩
theorem Inv.after {Q:VK}{u:Value}(I:Inv X pins σ H s) (h:CE X.stack X.prog X.w H s Q u s'):EP X pins σ Q u s':=by
 obtain⟨v,H',os,bare,un,ag,r,q⟩:=h
 obtain⟨hh,g,d,t,Fy⟩:=s'
 obtain rfl:Fy=s.os:=os
 exact⟨v,H',I.call (h':=hh) (g':=g) (d':=d) (t':=t) (ch:=[]) un ag bare (fun b z=>absurd z (by simp)),r,q⟩
end
def tQ (sp:Sp) (kc:List V) (E:XK) (t:TA):TE:=fun σ H Q=>t σ H fun vs H1=>sp (vs++kc) H1 Q E
def Binds (K:PySem.W.Frag) (fd:FuncData) (ps:List Str) (ds:List Value):Prop:=
 ∀(s:Shared) (us:List Value),K.In s.heap→(us++ds).length=ps.length→BindsTo s fd ⟨us,[]⟩ (ps.zip (us++ds))
theorem Binds.all {K:PySem.W.Frag}{fd:FuncData}{ps:List Str}(h:∀us:List Value,us.length=ps.length→bindArgs fd ⟨us,[]⟩=pure (ps.zip us)):Binds K fd ps []:=fun s us _ hl=>by
 rw[List.append_nil]at hl ⊢
 exact .of_eq (h us hl)
def Passes (CX:iw) (X:Cx) (E:XK):Prop:=∀(pins:List (Addr×Obj)) (σ:St) (H:Hp) (s:Shared) (e:Value) (s':Shared),Inv X pins σ H s→CX X.stack H s E e s'→X.xe e s'
section
variable {X:Cx}{CX:iw}{k:Nat}{f C:Addr}{fd:FuncData}{ps:List Str}{sp:Sp}{kc:List V}{ds:List Value}{E:XK}{x m:Str}{p pos apos:Pos}{e o:Expr}{es:List Expr}{ta:TE}{t:TA}
theorem NM {pins:List (Addr×Obj)}{σ:St}{H:Hp}{s:Shared}{Q:VK}{us:List Value}{vs:List V}(F:aA X.prog X.w X.K X.mg X.base CX k f fd ps sp) (hr:bL k X.A) (hb:Binds X.K fd ps ds) (hd:Vals kc ds) (hx:Passes CX X E)
  (I:Inv X pins σ H s) (r:Vals vs us) (h:sp (vs++kc) H Q E):wpAny (model X.prog X.w) X.A (call (.ref f) us) (EP X pins σ Q) X.xe s:=by
 have r2:Vals (vs++kc) (us++ds):=r.append hd
 have hl:(us++ds).length=ps.length:=by rw[←r2.length];exact F.len _ _ _ _ h
 refine wpAny_call (codeAny_mono (F.run X.A X.stack s H ⟨us,[]⟩ (us++ds) (vs++kc) Q E hr I.BD (hb s us I.bO hl) r2 h) fun r s' hq=> ?_)
 cases r with
 |error e=>exact hx pins σ H s e s' I hq
 |ok fl=>
  cases fl with
  |ret u=>exact I.after hq
  |next=>exact False.elim hq
  |brk=>exact False.elim hq
  |cont=>exact False.elim hq
theorem YT (F:aA X.prog X.w X.K X.mg X.base CX k f fd ps sp) (hr:bL k X.A) (hg:Gl X x) (hm:X.mg x=some (.ref f)) (hk:PySem.W.keepIn X.K (.ref f)=true) (hb:Binds X.K fd ps ds) (hd:Vals kc ds) (hx:Passes CX X E)
  (ha:PA X (e::es) t) (jf:(x==("__debug__" :Str))=false:=by decide) (he:starEach (e::es) X.env=(false,eval e X.env)::starEach es X.env:=by rfl) (dj:(backTo pos (starEach es X.env)).any (·.1)=false:=by rfl):
  PE X (.Call (.Name x p) (e::es) [] pos) (tQ sp kc E t):=by
 intro pins s σ H Q I h
 refine wpAny_Call_Name_kw (Jj I hg hm ?_ jf)
 refine PySem.W.callWith_K (h₀:=X.base) I.ok.mod.mC hk (ar (ha pos pins s σ H _ I h) fun us s1 ⟨vs,H1,I1,r,q⟩=> ⟨I1.bO,?_⟩) he dj
 exact NM F hr hb hd hx I1 r q
structure Mk (K:PySem.W.Frag) (C f:Addr):Prop where
 makes:PySem.W.makesIn K C=true
 init:PySem.W.findIn K (.ref C) "__init__" =some (some (.ref f))
 fn:PySem.W.isFn K (.ref f)=true
 kp:PySem.W.keepIn K (.ref C)=true
end
section
variable {X:Cx}{CX:iw}{k:Nat}{f C:Addr}{fd:FuncData}{ps ks:List Str}{sp:Sp}{E:XK}{x m:Str}{p pos apos QA:Pos}{e o:Expr}{es:List Expr}{Qz:List Keyword}{te ta:TE}{t tk:TA}{nm:Option Str}
structure Q8 (K:PySem.W.Frag) (fd:FuncData) (ps ks:List Str) (g:List Value→List Value→List Value) (gV:List V→List V→List V):Prop where
 to:∀(s:Shared) (us ws:List Value),K.In s.heap→(g us ws).length=ps.length→BindsTo s fd ⟨us,ks.zip ws⟩ (ps.zip (g us ws))
 rel:∀{vs:List V}{us:List Value}{zs:List V}{ws:List Value},Vals vs us→Vals zs ws→Vals (gV vs zs) (g us ws)
variable {g:List Value→List Value→List Value}{gV:List V→List V→List V}
end
structure bu (N P:List Str) (sc:Scope):Prop where
 kind:sc.kind=.function
 co:sc.isCoroutine=false
 gen:sc.isGenerator=false
 nd:N.Nodup
 pre:N.take P.length=P
 par:∀x∈P,sc.names.lookup x=some .local∨sc.names.lookup x=some .cell
 FH:∀y∈sc.names,y.2≠.free
theorem WI {kindOf:Str→Option NameKind}{x:Str} :∀{binds:List (Str×Value)}{m:Str→Option Value},(∀v,(x,v)∉binds)→bindL kindOf binds m x=m x
 | [],_,_=>rfl
 |(n,v)::r,m,h=>by
  unfold bindL
  rw[WI fun w hw=>h w (List.mem_cons_of_mem _ hw)]
  split
  ·have:x≠n:=by rintro rfl;exact h v List.mem_cons_self
   simp[this]
  ·rfl
theorem WK {kindOf:Str→Option NameKind}{x:Str} :∀{binds:List (Str×Value)}{m:Str→Option Value},(∀v,(x,v)∉binds)→bindC kindOf binds m x=m x
 | [],_,_=>rfl
 |(n,v)::r,m,h=>by
  unfold bindC
  rw[WK fun w hw=>h w (List.mem_cons_of_mem _ hw)]
  split
  ·rfl
  ·have:x≠n:=by rintro rfl;exact h v List.mem_cons_self
   simp[this]
theorem WJ {kindOf:Str→Option NameKind}{x:Str}{v:Value} :∀{P:List Str}{vs:List Value}{i:Nat}{m:Str→Option Value},P.Nodup→P[i]? =some x→vs[i]? =some v→kindOf x=some .local→
  bindL kindOf (P.zip vs) m x=some v
 | [],_,_,_,_,h,_,_=>by simp at h
 |_::_,[],_,_,_,_,h,_=>by simp at h
 |p::P,w::vs,0,m,nd,h1,h2,hk=>by
  simp at h1 h2;subst h1;subst h2
  show bindL kindOf ((p,w)::P.zip vs) m p=_
  unfold bindL
  rw[WI fun v hv=> (List.nodup_cons.mp nd).1 (List.of_mem_zip hv).1,if_pos hk]
  simp
 |p::P,w::vs,i+1,m,nd,h1,h2,hk=>by
  show bindL kindOf ((p,w)::P.zip vs) m x=_
  unfold bindL
  exact WJ (i:=i) (List.nodup_cons.mp nd).2 (by simpa using h1) (by simpa using h2) hk
theorem WL {kindOf:Str→Option NameKind}{x:Str}{v:Value} :∀{P:List Str}{vs:List Value}{i:Nat}{m:Str→Option Value},P.Nodup→P[i]? =some x→vs[i]? =some v→kindOf x≠some .local→
  bindC kindOf (P.zip vs) m x=some v
 | [],_,_,_,_,h,_,_=>by simp at h
 |_::_,[],_,_,_,_,h,_=>by simp at h
 |p::P,w::vs,0,m,nd,h1,h2,hk=>by
  simp at h1 h2;subst h1;subst h2
  show bindC kindOf ((p,w)::P.zip vs) m p=_
  unfold bindC
  rw[WK fun v hv=> (List.nodup_cons.mp nd).1 (List.of_mem_zip hv).1,if_neg hk]
  simp
 |p::P,w::vs,i+1,m,nd,h1,h2,hk=>by
  show bindC kindOf ((p,w)::P.zip vs) m x=_
  unfold bindC
  exact WL (i:=i) (List.nodup_cons.mp nd).2 (by simpa using h1) (by simpa using h2) hk
def start (N:List Str) (vs:List V):St:=vs.map some++List.replicate (N.length - vs.length) none
def bJ (CX:iw) (P:Program) (w:World) (K:PySem.W.Frag) (mg:Str→Option Value) (base:Heap) (N:List Str) (qual:Str) (scope:Scope) (f:Addr) (cd:Value) (A:Around) (outer:List Env) (s:Shared) (H:Hp) (E:XK):Cx where
 prog:=P
 w:=w
 K:=K
 mg:=mg
 base:=base
 A:=A.deeper (envOfC qual scope s.heap.objs.size f cd)
 N:=N
 bS:=s
 js:=H
 env:=envOfC qual scope s.heap.objs.size f cd
 outer:=outer
 stack:=envOfC qual scope s.heap.objs.size f cd::outer
 ex:=[]
 calm:=true
 fn:=fun _=>true
 pn:=[]
 xe:=fun e s'=>wpAny (model P w) (A.deeper (envOfC qual scope s.heap.objs.size f cd)) (leaving (envOfC qual scope s.heap.objs.size f cd) e) (fun _ eE=>CX outer H s E e eE) (fun e' eE=>CX outer H s E e' eE) s'
theorem UE {sc:Scope}{n:Nat}{x:Str}(h:sc.names.lookup x=some .cell):∃c,(cellsFrom n sc.names []).lookup x=some c:=by
 have q:=PySem.W.cellsFrom_some sc.names n [] (.inl h)
 exact Option.isSome_iff_exists.mp q
theorem Ph {CX:iw}{P:Program}{w:World}{K:PySem.W.Frag}{mg:Str→Option Value}{base:Heap}{N ps:List Str}{qual:Str}{scope:Scope}{f:Addr}{cd:Value}{A:Around}{outer:List Env}{s s1:Shared}{H:Hp}{E:XK}{us:List Value}{vs:List V}
  (S:bu N ps scope) (hd:A.handled=none) (e0:pW P w K mg base A outer s H) (hl:vs.length=ps.length) (r:Vals vs us)
  (x:InCallC s s.heap.objs.size (bindL (envOfC qual scope s.heap.objs.size f cd).kindOf (ps.zip us) fun _=>none) (cellsFrom (s.heap.objs.size+1) scope.names []) (bindC (envOfC qual scope s.heap.objs.size f cd).kindOf (ps.zip us) fun _=>none) s1):
  Inv (bJ CX P w K mg base N qual scope f cd A outer s H E) [] (start N vs) H s1:=by
 have dj:ps.length≤N.length:=by have:=congrArg List.length S.pre;rw[List.length_take]at this;omega
 obtain⟨h1,tk,rfl,hk⟩:=x.done
 have cw:∀b:Addr,b∉(bJ CX P w K mg base N qual scope f cd A outer s H E).ex:=fun b z=>absurd (show b∈([]:List Addr) from z) (by simp)
 refine⟨⟨e0.mod,S.kind,rfl,rfl,Nat.le_refl _,fun y z c h1 h2=> ?_,fun y hy=> ?_,fun y c _ h=> ?_,fun _=>hd,Around.frames_deeper e0.frames,.inr ⟨rfl,rfl⟩,fun b z=>absurd z (cw b),e0.bs,e0.iP,fun b _ _=>cw b,fun b z=>absurd z (cw b),e0.dB,e0.gw⟩,
  rfl,e0.bare,Un.kept hk,⟨_,x.toInCall.ns,fun i y v h1 h2 h3=> ?_⟩,fun y c h=> ⟨_,x.cell y c h⟩,e0.ag.fresh (Nat.le_refl _),fun y c h=> ?_,fun p hp=>absurd (show p∈([]:List (Addr×Obj)) from hp) (by simp),e0.ag.kept hk,?_⟩
 ·exact name_of_addr x.apart (PySem.mem_of_lookup h1) (PySem.mem_of_lookup h2)
 ·have hy:scope.names.lookup y=some .cell∨scope.names.lookup y=some .free:=hy
  rcases hy with hy |hy
  ·exact UE hy
  ·exact absurd rfl (S.FH _ (PySem.mem_of_lookup hy))
 ·exact Nat.le_of_lt (x.above y c (PySem.mem_of_lookup h))
 ·have hi:i<vs.length:=by
   unfold start at h2
   by_cases hi:i<vs.length
   ·exact hi
   ·rw[List.getElem?_append_right (by simpa using hi)]at h2
    rw[List.getElem?_replicate]at h2
    split at h2<;>cases h2
  have ha:vs[i]? =some v:=by
   unfold start at h2
   rw[List.getElem?_append_left (by simpa using hi),List.getElem?_map]at h2
   cases e:vs[i]? with
   |none=>rw[e]at h2;cases h2
   |some a=>rw[e]at h2;cases h2;rfl
  obtain⟨u,hu,rv⟩:=r.get ha
  have hp:ps[i]? =some y:=by
   rw[←S.pre,List.getElem?_take_of_lt (by omega)];exact h1
  have zQ:ps.Nodup:=by rw[←S.pre];exact S.nd.sublist (List.take_sublist _ _)
  refine⟨u,rv,?_⟩
  rcases S.par y (List.mem_of_getElem? hp) with k |k
  ·exact .inl ⟨k,WJ zQ hp hu k⟩
  ·obtain⟨c,e⟩:=UE (n:=s.heap.objs.size+1) k
   refine .inr ⟨.inl k,c,e,?_⟩
   have q:=x.cell y c e
   rw[WL zQ hp hu (by show scope.names.lookup y≠_;rw[k];decide)]at q
   exact q
 ·exact e0.ag.fresh (Nat.le_of_lt (x.above y c (PySem.mem_of_lookup h)))
 ·unfold start
  show _=N.length
  rw[List.length_append,List.length_map,List.length_replicate]
  omega
theorem xx {CX:iw}{P:Program}{w:World}{K:PySem.W.Frag}{mg:Str→Option Value}{base:Heap}{k:Nat}{f:Addr}{name qual:Str}{params:Arguments}{body:List Stmt}{scope:Scope}{dV kV doc pm ao ct oc:Value}{an od:Option Addr}
    {eU:Array (Option Value)}{N ps:List Str}{sp:Sp} (lk:K.lookup f=some ⟨oc,od,.func (PySem.W.fnOf name qual params body scope dV kV doc pm an ao ct),eU⟩) (cE:PySem.W.codeIn K ao qual=true) (S:bu N ps scope)
    (len:∀vs H Q E,sp vs H Q E→vs.length=ps.length)
    (wu:∀(A:Around) (outer:List Env) (s:Shared) (H:Hp) (vs:List V) (Q:VK) (E:XK),bL k (A.deeper (envOfC qual scope s.heap.objs.size f ao))→sp vs H Q E→
      ∃t,eO (bJ CX P w K mg base N qual scope f ao A outer s H E) body t∧t {nx:=fun _ H'=>Q .af H',rt:=Q} (start N vs) H):
    aA P w K mg base CX (k+1) f (PySem.W.fnOf name qual params body scope dV kV doc pm an ao ct) ps sp:=by
  refine⟨len,fun A outer s H args us vs Q E hr e0 hb r dh=> ?_⟩
  have hl:=len _ _ _ _ dh
  have KX:K.In s.heap:=e0.mod.mC.keeps fun b o e=> (e0.bs b o e).1
  have lim:s.heap.NoLimit:=e0.mod.nolimit.keeps fun b o e=> (e0.bs b o e).1
  have Ie:∀y∈ps.zip us,scope.names.lookup y.1=some .local∨(scope.names.lookup y.1=some .cell∧((cellsFrom (s.heap.objs.size+1) scope.names []).lookup y.1).isSome=true):=fun⟨n,v⟩ hy=>by
    rcases S.par n (List.of_mem_zip hy).1 with q |q
    · exact .inl q
    · exact .inr ⟨q,PySem.W.cellsFrom_some _ _ _ (.inl q)⟩
  refine codeAny_call_function hr.depth (KX _ _ lk) rfl S.co S.gen rfl (PySem.W.codeRec_of KX cE) (hb _ _ _ _ ?_)
  refine wpAny_newFunctionEnv_cells S.kind Ie fun env he s1 x=> ?_
  subst he
  refine⟨lim.keeps x.toInCall.keep,codeAny_func ?_⟩
  obtain⟨t,ht,hq⟩:=wu A outer s H vs Q E (hr.deeper _) dh
  have I:Inv (bJ CX P w K mg base N qual scope f ao A outer s H E) [] (start N vs) H s1:=Ph S hr.hd e0 hl r x
  refine wpAny_mono (ht [] s1 (start N vs) H _ I hq) (fun fl s' hs=> ?_) fun e s' hs=>hs
  have fin:∀{ak:St}{H':Hp}{v:V}{u:Value},Inv (bJ CX P w K mg base N qual scope f ao A outer s H E) [] ak H' s'→RelV v u→Q v H'→CE outer P w H s Q u s':=
    fun {ak H' v u} J rv q=> ⟨v,H',J.os,J.bare,J.base,J.ag,rv,q⟩
  cases fl with
  |ret u=>
   obtain⟨v,ak,H',J,rv,q⟩:=hs
   exact fin J rv q
  |next=>
   obtain⟨ak,H',J,q⟩:=hs
   exact fin (v:=V.af) (u:=Value.none) J rfl q
  |brk=>
   obtain⟨_,_,_,q⟩:=hs
   exact False.elim q
  |cont=>
   obtain⟨_,_,_,q⟩:=hs
   exact False.elim q
section
variable {X:Cx}{x:Str}{p pos:Pos}{e:Expr}{es:List Expr}{t:TA}{id T:String}{r:List V→Hp→VK→Prop}
def yy (r:List V→Hp→VK→Prop) (t:TA):TE:=fun σ H Q=>t σ H fun vs H1=>r vs H1 Q
theorem Zk (hc:dD X (.builtin id) r) (hg:Gl X x) (hm:X.mg x=none) (hv:bootBuiltins x=some (.builtin id)) (ha:PA X (e::es) t) (hn:x≠ "__name__" :=by decide) (jf:(x==("__debug__" :Str))=false:=by decide)
  (he:starEach (e::es) X.env=(false,eval e X.env)::starEach es X.env:=by rfl) (dj:(backTo pos (starEach es X.env)).any (·.1)=false:=by rfl):PE X (.Call (.Name x p) (e::es) [] pos) (yy r t):=by
 intro pins s σ H Q I h
 refine wpAny_Call_Name_kw (YM I hg hm hv ?_ hn jf)
 exact PyProof.Rows.callWith_builtin1 (ar (ha pos pins s σ H _ I h) fun us s1 ⟨vs,H1,I1,r1,q1⟩=>hc pins s1 σ H1 vs us Q I1 r1 q1) he dj
theorem Yp (hc:dD X (.type T) r) (hg:Gl X x) (hm:X.mg x=none) (hv:bootBuiltins x=some (.type T)) (ha:PA X (e::es) t) (hn:x≠ "__name__" :=by decide) (jf:(x==("__debug__" :Str))=false:=by decide)
  (he:starEach (e::es) X.env=(false,eval e X.env)::starEach es X.env:=by rfl) (dj:(backTo pos (starEach es X.env)).any (·.1)=false:=by rfl):PE X (.Call (.Name x p) (e::es) [] pos) (yy r t):=by
 intro pins s σ H Q I h
 refine wpAny_Call_Name_kw (YM I hg hm hv ?_ hn jf)
 exact PyProof.Rows.callWith_type1 (ar (ha pos pins s σ H _ I h) fun us s1 ⟨vs,H1,I1,r1,q1⟩=>hc pins s1 σ H1 vs us Q I1 r1 q1) he dj
end
end L2
namespace HT
open PySem PyProof.Rows
section
open PySem.SeqAt
open PySem.AutoSeq1 (wpAny_loadPart')
open PySem.MeetsSeq PySem.MeetsSeq2 PySem.MeetsSeq3
end
section
variable {prog:Program}{w:World}{A:Around}{E:Value→Shared→Prop}{s:Shared}
theorem Ln {t b:Addr}{vs ws:List Value}{Q:Value→Shared→Prop}(ht:IsTup s.heap t vs.toArray) (hb:IsTup s.heap b ws.toArray) (hv:vs≠[])
  (h1:ws=[]→Q (.ref t) s) (h2:ws≠[]→Q (.ref s.heap.objs.size) {s with heap:=s.heap.push {cls:=.type "tuple",data:=.seq (vs++ws).toArray} })
  (hsz:vs.length+ws.length≤sizeLine):wpAny (model prog w) A (binaryOp .Add (.ref t) (.ref b)) Q E s:=by
 obtain⟨⟨cls,dd,data,sl⟩,ho,hc,n,hd⟩:=id ht
 obtain⟨⟨Lm,sk,data2,kC⟩,ll,lG,n2,hd2⟩:=id hb
 simp only at hc hd lG hd2
 subst hc hd lG hd2
 have e:vs.toArray++ws.toArray=(vs++ws).toArray:=by simp
 by_cases hw:ws=[]
 ·exact concat_meets ⟨_,ho,rfl⟩ ⟨_,ll,rfl⟩ noFill_tuple_add seq_tuple_add PySem.F.slot_tuple_add PySem.F.entry_tuple_add (PySem.F.args_tuple_add_2 _ _)
   (tuple_addW1 t b vs.toArray ws.toArray n n2 dd sk sl kC (by simpa using hv) (by simp[hw])) ⟨ho,ll,h1 hw⟩
 ·refine concat_meets ⟨_,ho,rfl⟩ ⟨_,ll,rfl⟩ noFill_tuple_add seq_tuple_add PySem.F.slot_tuple_add PySem.F.entry_tuple_add (PySem.F.args_tuple_add_2 _ _)
   (tuple_addW2 t b vs.toArray ws.toArray n n2 dd sk sl kC (by simpa using hv) (by simpa using hw) (by rw[List.size_toArray,List.size_toArray];exact hsz)) ⟨ho,ll,?_⟩
  rw[e]
  exact h2 hw
def aE (n d:Nat):Option Int→Nat
 |none=>d
 |some v=>if v<0 then (v+(n:Int)).toNat else min v.toNat n
theorem zj (n d:Nat):aE n d none=d:=rfl
theorem qL (n d k:Nat):aE n d (some (k:Int))=min k n:=by
 show(if (k:Int)<0 then ((k:Int)+(n:Int)).toNat else min (k:Int).toNat n)=min k n
 rw[if_neg (by omega),Int.toNat_natCast]
theorem NN (n d:Nat) (hd:d≤n) (o:Option Int):aE n d o≤n:=by
 cases o with
 |none=>exact hd
 |some v=>
  show(if v<0 then (v+(n:Int)).toNat else min v.toNat n)≤n
  by_cases hv:v<0
  ·rw[if_pos hv];omega
  ·rw[if_neg hv];exact Nat.min_le_right _ _
theorem Cs (v:Int) (n d:Nat):(if v<0 then max (v+(n:Int)) 0 else min v (n:Int))=((aE n d (some v):Nat):Int):=by
 show(if v<0 then max (v+(n:Int)) 0 else min v (n:Int))=(((if v<0 then (v+(n:Int)).toNat else min v.toNat n):Nat):Int)
 by_cases hv:v<0
 ·simp only[if_pos hv];omega
 ·simp only[if_neg hv];omega
theorem U9 (lo hi:Option Int) (n:Nat):Builtin.Slice.sliceAdjust lo hi 1 (n:Int)=(((aE n 0 lo:Nat):Int),((aE n n hi:Nat):Int)):=by
 have h1:¬((1:Int)<0):=by omega
 unfold Builtin.Slice.sliceAdjust
 simp only[h1,if_false]
 refine Prod.ext ?_ ?_
 ·cases lo with
  |none=>rfl
  |some v=>exact Cs v n 0
 ·cases hi with
  |none=>rfl
  |some v=>exact Cs v n n
theorem US (i j:Nat):Builtin.Slice.slicePlaces (i:Int) (j:Int) 1=j - i:=by
 unfold Builtin.Slice.slicePlaces
 have h1:(1:Int)>0:=by omega
 simp only[h1,if_true,Int.ediv_one]
 split<;>omega
theorem JQ {v:Value}{o:Option Int}{Q:Option Int→Shared→Prop}(p:IsPart v o) (h:Q o s):wpAny (model prog w) A (Builtin.Slice.slicePartIndex v) Q E s:=by
 cases p with
 |none=>exact slicePart_none h
 |int i t=>exact slicePart_int h
theorem yO {sl:Addr}{vl vu:Value}{lo hi:Option Int}{n:Nat}{Q:Int×Int×Nat→Shared→Prop}(hs:s.heap.IsSliceOf sl vl vu .none) (pl:IsPart vl lo) (pu:IsPart vu hi)
  (h:Q (((aE n 0 lo:Nat):Int),1,aE n n hi - aE n 0 lo) s):wpAny (model prog w) A (Builtin.Slice.sliceApplied (.ref sl) (pure (n:Int))) Q E s:=by
 obtain⟨os,lj,rX,oT⟩:=id hs
 unfold Builtin.Slice.sliceApplied Builtin.Slice.sliceFields
 refine wpAny_bind (wpAny_bind (wpAny_field lj oT (x:=vl) rfl (wpAny_bind (wpAny_field lj oT (x:=vu) rfl (wpAny_bind (wpAny_field lj oT (x:=.none) rfl (wpAny_pure ?_)))))))
 refine wpAny_bind (slicePart_none ?_)
 show wpAny _ _ (if ((1:Int)==0)=true then _ else _) _ _ s
 rw[if_neg (by decide)]
 refine wpAny_bind (JQ pl (wpAny_bind (JQ pu (wpAny_bind (wpAny_pure ?_)))))
 show wpAny _ _ (match Builtin.Slice.sliceAdjust lo hi 1 (n:Int) with |(lo,hi)=>pure (lo,(1:Int),Builtin.Slice.slicePlaces lo hi 1)) _ _ s
 rw[U9 lo hi n]
 show wpAny _ _ (pure (((aE n 0 lo:Nat):Int),(1:Int),Builtin.Slice.slicePlaces ((aE n 0 lo:Nat):Int) ((aE n n hi:Nat):Int) 1)) _ _ s
 rw[US]
 exact wpAny_pure h
theorem NX (xs:Array Value) (i k:Nat):((List.range k).filterMap fun(m:Nat)=>xs[((i:Int)+(m:Int)*1).toNat]?).toArray=((xs.toList.drop i).take k).toArray:=by
 have e:(fun(m:Nat)=>xs[((i:Int)+(m:Int)*1).toNat]?)=fun m=>xs[i+m]? :=by
  funext m
  have:((i:Int)+(m:Int)*1).toNat=i+m:=by omega
  rw[this]
 rw[e]
 have:=pick_run xs i k
 rw[List.filterMap_map]at this
 have e2:((fun x=>xs[x]?)∘fun x=>i+x)=fun m=>xs[i+m]? :=rfl
 rw[e2]at this
 rw[this]
theorem Kw {t sl:Addr}{items:Array Value}{vl vu:Value}{lo hi:Option Int}{Q:Value→Shared→Prop}(ht:IsTup s.heap t items) (hs:s.heap.IsSliceOf sl vl vu .none) (pl:IsPart vl lo) (pu:IsPart vu hi)
  (hw:¬(aE items.size 0 lo=0∧aE items.size items.size hi=items.size))
  (h:Q (.ref s.heap.objs.size) {s with heap:=s.heap.push {cls:=.type "tuple",data:=.seq ((items.toList.drop (aE items.size 0 lo)).take (aE items.size items.size hi - aE items.size 0 lo)).toArray} })
  (hsz:items.size≤sizeLine):wpAny (model prog w) A (getItem (.ref t) (.ref sl)) Q E s:=by
 have rK:sizeOk (.seq ((items.toList.drop (aE items.size 0 lo)).take (aE items.size items.size hi - aE items.size 0 lo)).toArray):=by
  show((items.toList.drop (aE items.size 0 lo)).take (aE items.size items.size hi - aE items.size 0 lo)).toArray.size≤sizeLine
  rw[List.size_toArray,List.length_take,List.length_drop,Array.length_toList]
  omega
 have hj:aE items.size items.size hi≤items.size:=NN _ _ (Nat.le_refl _) hi
 obtain⟨os,lj,rX,oT⟩:=id hs
 have fZ:s.TypeIs (.ref sl) "slice" :=⟨os,lj,rX⟩
 unfold getItem
 try with_reducible refine wpAny_holding ?_
 first |refine wpAny_bind (wpAny_pure ?_) |skip
 refine wpAny_bind (wpAny_sequenceKey ht.typeIs (by decide) ?_)
 refine wpAny_bind (wpAny_callSpecial?_slot (name:=Str.ofString "__getitem__") ht.typeIs PyProof.Rows.slot_tuple_getitem
  (wpAny_call_entry PyProof.Rows.slot_tuple_getitem ht.typeIs entry_tuple_getitem ?_ (args_tuple_getitem _ _)))
 show wpAny _ _ (Builtin.Tuple.tupleItemsOf (.ref t) >>=_) _ _ s
 refine wpAny_bind (tupleItemsOf_ ht ?_)
 refine wpAny_bind (wpAny_typeOf fZ ?_)
 rw[if_pos (by decide)]
 refine wpAny_bind (yO hs pl pu ?_)
 have iH:¬((((aE items.size 0 lo:Nat):Int)==0&&(1:Int)==1&&(aE items.size items.size hi - aE items.size 0 lo)==items.size)=true):=by
  intro q
  rw[Bool.and_eq_true,Bool.and_eq_true]at q
  have q1:((aE items.size 0 lo:Nat):Int)=0:=eq_of_beq q.1.1
  have q2:aE items.size items.size hi - aE items.size 0 lo=items.size:=eq_of_beq q.2
  exact hw ⟨by omega,by omega⟩
 show wpAny _ _ (if (((aE items.size 0 lo:Nat):Int)==0&&(1:Int)==1&&(aE items.size items.size hi - aE items.size 0 lo)==items.size)=true then _ else _) _ _ s
 rw[if_neg iH,NX]
 first
  |exact wpAny_bind (m:=Builtin.Tuple.tupleExact _) (wpAny_newObj_type (wpAny_pure ⟨_,rfl,wpAny_pure h⟩) rK)
  |exact wpAny_bind (m:=Builtin.Tuple.tupleExact _) (wpAny_newObj_type (wpAny_bind (wpAny_pure (wpAny_pure ⟨_,rfl,wpAny_pure h⟩))) rK)
  |exact wpAny_bind (wpAny_bind (m:=Builtin.Tuple.tupleExact _) (wpAny_newObj_type (wpAny_pure (wpAny_pure ⟨_,rfl,wpAny_pure h⟩)) rK))
  |exact wpAny_bind (wpAny_bind (m:=Builtin.Tuple.tupleExact _) (wpAny_newObj_type (wpAny_pure ⟨_,rfl,wpAny_pure h⟩) rK))
end
end HT
namespace L2
open PySem PySem.Spec PyProof.Rows
abbrev TO:=St→Hp→(Option Int→Hp→Prop)→Prop
def PO (X:Cx) (e:Option Expr) (t:TO):Prop:=
 ∀(pins:List (Addr×Obj)) (s:Shared) (σ:St) (H:Hp) (Q:Option Int→Hp→Prop),Inv X pins σ H s→t σ H Q→
  wpAny (model X.prog X.w) X.A (evalPart e X.env) (fun u s'=> ∃o H',Inv X pins σ H' s'∧IsPart u o∧Q o H') X.xe s
def ql:TO:=fun _ H Q=>Q none H
def qk (t:TE):TO:=fun σ H Q=>t σ H fun x H1=> ∃i,x=.int i∧Q (some i) H1
theorem Wb {ns:List Int} :∀{us:List Value},Vals (ns.map V.int) us→IntsAre us ns:=by
 induction ns with
 |nil=>intro us r;rw[List.map_nil]at r;cases r;exact .nil
 |cons n ns ih=>
  intro us r
  rw[List.map_cons]at r
  cases r with
  |cons r1 r2=>
   obtain⟨t,e⟩:=r1
   subst e
   exact .cons n t (ih r2)
section
variable {X:Cx}{e:Expr}{te:TE}{lo hi:Option Expr}{tl th:TO}{pos p2:Pos}
theorem YE:PO X none ql:=by
 intro pins s σ H Q I h
 rw[evalPart_none]
 exact wpAny_pure ⟨none,H,I,.none,h⟩
theorem YD (h:PE X e te):PO X (some e) (qk te):=by
 intro pins s σ H Q I hw
 rw[evalPart_some]
 refine ar (h pins s σ H _ I hw) fun u s1 ⟨x,H1,I1,r1,q1⟩=> ?_
 obtain⟨i,rfl,q⟩:=q1
 obtain⟨t,rfl⟩:=r1
 exact⟨some i,H1,I1,.int i t,q⟩
def pP (X:Cx) (r:V→Option Int→Option Int→Hp→VK→Prop):Prop:=
 ∀(pins:List (Addr×Obj)) (s:Shared) (σ:St) (H:Hp) (x:V) (v vl vu:Value) (lo hi:Option Int) (sl:Addr) (Q:VK),Inv X pins σ H s→RelV x v→s.heap.IsSliceOf sl vl vu .none→IsPart vl lo→IsPart vu hi→r x lo hi H Q→
  ∃T id,typeLookup (.type T) "__getitem__" =pure (some (.builtin id))∧s.TypeIs v T∧wpAny (model X.prog X.w) X.A (getItem v (.ref sl)) (EP X pins σ Q) X.xe s
def qj (r:V→Option Int→Option Int→Hp→VK→Prop) (te:TE) (tl th:TO):TE:=fun σ H Q=>te σ H fun x H1=>tl σ H1 fun l H2=>th σ H2 fun u H3=>r x l u H3 Q
theorem Yr {r:V→Option Int→Option Int→Hp→VK→Prop}(hr:pP X r) (he:PE X e te) (hl:PO X lo tl) (hu:PO X hi th):PE X (.Subscript e (.Slice lo hi none p2) pos) (qj r te tl th):=by
 intro pins s σ H Q I h
 refine Subscript_ (ar (he pins s σ H _ I h) fun v s1 ⟨x,H1,I1,r1,q1⟩=> ?_)
 refine wpAny_Slice (ar (hl pins s1 σ H1 _ I1 q1) fun vl s2 ⟨l,H2,I2,pl,q2⟩=>ar (hu pins s2 σ H2 _ I2 q2) fun vu s3 ⟨u,H3,I3,pu,q3⟩=> ?_)
 rw[evalPart_none]
 refine wpAny_pure ?_
 have I4:Inv X pins σ H3 {s3 with heap:=s3.heap.push {cls:=.type "slice",data:=.fields #[vl,vu,.none]} } :=I3.kept (t':=s3.toks) fun b ob q=>Heap.get?_push_of_some _ q
 obtain⟨T,id,hT,ht,hg⟩:=hr pins {s3 with heap:=s3.heap.push {cls:=.type "slice",data:=.fields #[vl,vu,.none]} } σ H3 x v vl vu l u s3.heap.objs.size Q I4 r1 (Heap.IsSliceOf.new ..) pl pu q3
 show wpAny (model X.prog X.w) X.A (subscriptTail e (.Slice lo hi none p2) v (.ref s3.heap.objs.size)) (EP X pins σ Q) X.xe {s3 with heap:=s3.heap.push {cls:=.type "slice",data:=.fields #[vl,vu,.none]} }
 exact tail_any (ops:=[.ref s3.heap.objs.size,v]) ht hT hg (by with_unfolding_all rfl)
def cM (xs:List V) (lo hi:Option Int):List V:=(xs.drop (HT.aE xs.length 0 lo)).take (HT.aE xs.length xs.length hi - HT.aE xs.length 0 lo)
theorem JE (xs:List V) (lo hi:Option Int):(cM xs lo hi).length≤xs.length:=by
 unfold cM
 rw[List.length_take,List.length_drop]
 omega
def jI (K:PySem.W.Frag):V→Option Int→Option Int→Hp→VK→Prop:=fun x lo hi H Q=> ∃a xs,x=.ref a∧ai K H a xs∧
 ¬(HT.aE xs.length 0 lo=0∧HT.aE xs.length xs.length hi=xs.length)∧∀p,H p=none→Q (.ref p) (upd H p (.tup (cM xs lo hi)))
theorem Js:pP X (jI X.K):=by
 intro pins s σ H x v vl vu lo hi sl Q I rx hs pl pu h
 obtain⟨a,xs,rfl,hx,hw,q⟩:=h
 cases rx
 obtain⟨its,r,ht,hz⟩:=I.tuple hx
 have hlen:its.toArray.size=xs.length:=by rw[List.size_toArray];exact r.length.symm
 refine⟨"tuple",_,PyProof.Rows.slot_tuple_getitem.lookup,ht.typeIs,?_⟩
 refine HT.Kw ht hs pl pu (by rw[hlen];exact hw) ?_ (by rw[hlen];exact hz)
 rw[hlen]
 refine⟨.ref s.heap.objs.size,_,I.laid (t':=s.toks) (o:=.tup (cM xs lo hi)) (fun b ob q=>Heap.get?_push_of_some _ q) (Nat.le_refl _) ?_,rfl,q _ (I.ag.fresh (Nat.le_refl _))⟩
 exact⟨Nat.le_trans (JE xs lo hi) hz,_,(r.drop (HT.aE xs.length 0 lo)).take (HT.aE xs.length xs.length hi - HT.aE xs.length 0 lo),IsTup.new _ _,_,Heap.get?_push_size _ rfl,rfl⟩
def zy (K:PySem.W.Frag):R2:=fun x y H Q=> ∃a b xs ys,x=.ref a∧y=.ref b∧ai K H a xs∧ai K H b ys∧xs≠[]∧xs.length+ys.length≤sizeLine∧
 (ys=[]→Q (.ref a) H)∧(ys≠[]→∀p,H p=none→Q (.ref p) (upd H p (.tup (xs++ys))))
theorem Vals.vm {xs:List V}{us:List Value}(r:Vals xs us):us=[]↔xs=[]:=by
 cases r with
 |nil=>simp
 |cons _ _=>simp
theorem MW:ba X (binaryOp .Add) (zy X.K):=by
 intro pins s σ H x y v u Q I rx ry h
 obtain⟨a,b,xs,ys,rfl,rfl,ha,hb,hx,hz,q1,q2⟩:=h
 cases rx
 cases ry
 obtain⟨its,r1,p1,_⟩:=I.tuple ha
 obtain⟨kP,r2,p2,_⟩:=I.tuple hb
 refine HT.Ln p1 p2 (fun z=>hx (r1.vm.mp z)) (fun z=> ⟨.ref a,H,I,rfl,q1 (r2.vm.mp z)⟩) (fun z=> ?_) (by rw[←r1.length,←r2.length];exact hz)
 refine⟨.ref s.heap.objs.size,_,I.laid (t':=s.toks) (o:=.tup (xs++ys)) (fun b ob q=>Heap.get?_push_of_some _ q) (Nat.le_refl _) ?_,rfl,q2 (fun w=>z (r2.vm.mpr w)) _ (I.ag.fresh (Nat.le_refl _))⟩
 exact⟨by rw[List.length_append];exact hz,_,r1.append r2,IsTup.new _ _,_,Heap.get?_push_size _ rfl,rfl⟩
end
def ja (n:Nat) (i:Int):Option Nat:=if 0≤i then (if i<n then some i.toNat else none) else if -(n:Int)≤i then some (i+n).toNat else none
def dW {α:Type} (xs:List α) (i:Int):Option α:=(ja xs.length i).bind fun j=>xs[j]?
theorem W1 {n:Nat}{i:Int}{j:Nat}(h:ja n i=some j):seqIndex? i n=some j∧j<n∧ -(n:Int)≤i∧i<n:=by
 unfold ja at h
 by_cases h0:0≤i
 ·rw[if_pos h0]at h
  by_cases h1:i<n
  ·rw[if_pos h1]at h
   have e:i.toNat=j:=Option.some.inj h
   exact⟨by rw[seqIndex_of h0 h1,e],by omega,by omega,h1⟩
  ·rw[if_neg h1]at h;cases h
 ·rw[if_neg h0]at h
  by_cases h1: -(n:Int)≤i
  ·rw[if_pos h1]at h
   have e:(i+n).toNat=j:=Option.some.inj h
   exact⟨by rw[seqIndex_neg (by omega) h1,e],by omega,h1,by omega⟩
  ·rw[if_neg h1]at h;cases h
theorem Cq {α:Type}{xs:List α}{i:Int}{v:α}(h:dW xs i=some v):∃j,seqIndex? i xs.length=some j∧xs[j]? =some v∧j<xs.length∧ -(xs.length:Int)≤i∧i<xs.length:=by
 unfold dW at h
 cases e:ja xs.length i with
 |none=>rw[e]at h;cases h
 |some j=>
  rw[e]at h
  obtain⟨h1,h2,h3,h4⟩:=W1 e
  exact⟨j,h1,h,h2,h3,h4⟩
theorem ZU {α:Type}{xs:List α}{j:Nat}{v:α}(h:xs[j]? =some v):dW xs (j:Int)=some v:=by
 have hj:j<xs.length:=(List.getElem?_eq_some_iff.mp h).1
 have e:ja xs.length (j:Int)=some j:=by
  unfold ja
  rw[if_pos (by omega),if_pos (by omega)];simp
 unfold dW;rw[e];exact h
def Pu (b:Expr):Prop:=∀o i,subscripted b false o i=operate [o,i] (getItem o i)
def sU (X:Cx) (r:R2):Prop:=
 ∀(value slice:Expr) (pins:List (Addr×Obj)) (s:Shared) (σ:St) (H:Hp) (x y:V) (v u:Value) (Q:VK),Inv X pins σ H s→RelV x v→RelV y u→r x y H Q→
  subscripted slice false v u=operate [v,u] (getItem v u)→wpAny (model X.prog X.w) X.A (subscriptTail value slice v u) (EP X pins σ Q) X.xe s
def CP (X:Cx) (id:String) (r:V→List V→Hp→VK→Prop):Prop:=
 ∀(pins:List (Addr×Obj)) (s:Shared) (σ:St) (H:Hp) (x:V) (xs:List V) (v:Value) (us:List Value) (Q:VK),Inv X pins σ H s→RelV x v→Vals xs us→r x xs H Q→
  wpAny (model X.prog X.w) X.A (call (.builtin id) (v::us)) (EP X pins σ Q) X.xe s
section
variable {X:Cx}{a b:Expr}{ta tb:TE}{pos:Pos}
theorem ZL {r:R2}(hr:sU X r) (ha:PE X a ta) (hb:PE X b tb) (hs:Pu b):PE X (.Subscript a b pos) (jA r ta tb):=by
 intro pins s σ H Q I h
 exact Subscript_ (xh ha hb I h fun v u s2 x y H2 I2 rx ry q=>hr a b pins s2 σ H2 x y v u Q I2 rx ry q (hs _ _))
def zw (K:PySem.W.Frag):R2:=fun x y H Q=> ∃p xs i v,x=.ref p∧y=.int i∧ah K H p xs∧dW xs i=some v∧Q v H
def Fc (K:PySem.W.Frag):R2:=fun x y H Q=> ∃p xs i v,x=.ref p∧y=.int i∧ai K H p xs∧dW xs i=some v∧Q v H
theorem ZN:sU X (zw X.K):=by
 intro value slice pins s σ H x y v u Q I rx ry h hs
 obtain⟨p,xs,i,z,rfl,rfl,hq,he,q⟩:=h
 cases rx
 obtain⟨t,rfl⟩:=ry
 obtain⟨its,r,pl,hz⟩:=I.list hq
 obtain⟨j,h1,h2,h3,h4,h5⟩:=Cq he
 obtain⟨w,ew,fS⟩:=r.get h2
 have hl:=r.length
 have hn:=rC
 have fin:EP X pins σ Q w s:=⟨z,H,I,fS,q⟩
 by_cases h0:0≤i
 ·have hj:i.toNat=j:=by
   rw[seqIndex_of h0 h5]at h1
   exact Option.some.inj h1
  exact item_listR pl.isList h0 (by omega) (by rw[hj];simpa using ew) fin hs
 ·have hj:(i+(its.toArray.size:Int)).toNat=j:=by
   rw[seqIndex_neg (by omega) h4]at h1
   rw[List.size_toArray,←hl]
   exact Option.some.inj h1
  exact subscriptTail_builtinR (x:=w) pl.isList.typeIs slot_list_getitem.lookup
   (wpAny_getItem_list_neg (Q:=fun r s'=>r=w∧EP X pins σ Q r s') pl.isList (by omega) (by rw[List.size_toArray]<;>omega) (by omega) (by rw[hj];simpa using ew) ⟨rfl,fin⟩) hs
theorem Ye:sU X (Fc X.K):=by
 intro value slice pins s σ H x y v u Q I rx ry h hs
 obtain⟨p,xs,i,z,rfl,rfl,hq,he,q⟩:=h
 cases rx
 obtain⟨t,rfl⟩:=ry
 obtain⟨its,r,pl,hz⟩:=I.tuple hq
 obtain⟨j,h1,h2,h3,h4,h5⟩:=Cq he
 obtain⟨w,ew,fS⟩:=r.get h2
 have hl:=r.length
 have hn:=rC
 have fin:EP X pins σ Q w s:=⟨z,H,I,fS,q⟩
 exact subscriptTail_builtinR (x:=w) pl.typeIs slot_tuple_getitem.lookup
  (getItem_tuple (j:=j) (Q:=fun r s'=>r=w∧EP X pins σ Q r s') pl (by omega) (by omega) (by rw[List.size_toArray,←hl];exact h1) (by simpa using ew) ⟨rfl,fin⟩) hs
theorem U0 (its:List Value) (n j:Nat) (u:Value):Obj.mapSeq (·.setIfInBounds j u) {cls:=.type "list",data:=.seq its.toArray n} = {cls:=.type "list",data:=.seq (its.set j u).toArray n} :=by
 simp[Obj.mapSeq]
theorem Inv.lst {pins:List (Addr×Obj)}{σ:St}{H:Hp}{s:Shared}{p:Addr}{xs:List V}(I:Inv X pins σ H s) (h:H p=some (.lst xs)):
  ∃(its:List Value) (n:Nat),Vals xs its∧s.heap.get? p=some {cls:=.type "list",data:=.seq its.toArray n}∧xs.length≤sizeLine:=by
 obtain⟨z,its,n,r,e⟩:=I.ag p _ h
 exact⟨its,n,r,e,z⟩
theorem Inv.Gb {pins:List (Addr×Obj)}{σ:St}{H:Hp}{s:Shared}{p:Addr}{xs ys:List V}{its its':List Value}{n n':Nat}{f:Obj→Obj}(I:Inv X pins σ H s) (h:H p=some (.lst xs))
  (ho:s.heap.get? p=some {cls:=.type "list",data:=.seq its.toArray n}) (hf:f {cls:=.type "list",data:=.seq its.toArray n} = {cls:=.type "list",data:=.seq its'.toArray n'}) (r:Vals ys its') (hz:ys.length≤sizeLine) (t:Nat):
  Inv X pins σ (upd H p (.lst ys)) {s with heap:=s.heap.update p f,toks:=t} :=by
 have e:(s.heap.update p f).get? p=some {cls:=.type "list",data:=.seq its'.toArray n'} :=by
  rw[Heap.get?_update_self f ho (by rw[hf]<;>rfl),hf]
 refine I.write (x:=p) (e:=p) (by rw[h];trivial) (.inl rfl) (fun b u hb q=> (Heap.get?_update_other _ _ (Ne.symm hb)).trans q) ⟨_,e⟩ ?_
 exact⟨hz,its',n',r,e⟩
def EW:V→V→V→Hp→(Hp→Prop)→Prop:=fun o i v H Q=> ∃p xs k j,o=.ref p∧i=.int k∧H p=some (.lst xs)∧ja xs.length k=some j∧Q (upd H p (.lst (xs.set j v)))
theorem Ud:CN X EW:=by
 intro pins s σ H o i v ov iv u Q I ro ri rv h
 obtain⟨p,xs,k,j,rfl,rfl,hp,hj,q⟩:=h
 cases ro
 obtain⟨t,rfl⟩:=ri
 obtain⟨its,n,r,ho,hz⟩:=I.lst hp
 obtain⟨h1,h2,h3,h4⟩:=W1 hj
 have hl:=r.length
 have hn:=rC
 have I':Inv X pins σ (upd H p (.lst (xs.set j v))) {s with heap:=s.heap.update p (Obj.mapSeq (·.setIfInBounds j u))} :=
  I.Gb hp ho (U0 its n j u) (r.set rv j) (by rw[List.length_set];exact hz) s.toks
 by_cases h0:0≤k
 ·have hk:k.toNat=j:=by
   rw[seqIndex_of h0 h4]at h1
   exact Option.some.inj h1
  exact PySem.W.ki_setAt ho h0 (by omega) (by rw[List.size_toArray,←hl];exact h4) (by rw[hk];exact⟨_,I',q⟩)
 ·have hk:(k+(its.toArray.size:Int)).toNat=j:=by
   rw[seqIndex_neg (by omega) h3]at h1
   rw[List.size_toArray,←hl]
   exact Option.some.inj h1
  exact PySem.W.ki_setBack ho (by omega) (by rw[List.size_toArray,←hl];exact h3) (by omega) (by rw[hk];exact⟨_,I',q⟩)
theorem WN (lo hi:Option Int) (n:Nat):(sliceBounds lo hi none n).1=((HT.aE n 0 lo:Nat):Int)∧(sliceBounds lo hi none n).2.1=((HT.aE n n hi:Nat):Int)∧(sliceBounds lo hi none n).2.2=1:=by
 refine⟨?_,?_,rfl⟩
 ·cases lo with
  |none=>simp[sliceBounds,HT.aE]
  |some i=>
   simp only[sliceBounds,HT.aE,Option.getD_none,show(1:Int)>0 by decide,if_true]
   by_cases h:i<0
   ·simp only[h,if_true]<;>omega
   ·simp only[h,if_false]<;>omega
 ·cases hi with
  |none=>simp[sliceBounds,HT.aE]
  |some i=>
   simp only[sliceBounds,HT.aE,Option.getD_none,show(1:Int)>0 by decide,if_true]
   by_cases h:i<0
   ·simp only[h,if_true]<;>omega
   ·simp only[h,if_false]<;>omega
theorem Wn (its:List Value) (lo hi:Option Int):slicePick its.toArray lo hi none=((its.drop (HT.aE its.length 0 lo)).take (HT.aE its.length its.length hi - HT.aE its.length 0 lo)).toArray:=by
 obtain⟨h1,h2,h3⟩:=WN lo hi its.toArray.size
 unfold slicePick
 rw[h1,h2,h3]
 simp only[sliceRange_one,pick_run,List.size_toArray]<;>rfl
def EV (K:PySem.W.Frag):V→Option Int→Option Int→Hp→VK→Prop:=fun x lo hi H Q=> ∃a xs,x=.ref a∧ah K H a xs∧∀p,H p=none→Q (.ref p) (upd H p (.lst (cM xs lo hi)))
theorem Nc:pP X (EV X.K):=by
 intro pins s σ H x v vl vu lo hi sl Q I rx hs pl pu h
 obtain⟨a,xs,rfl,hx,q⟩:=h
 cases rx
 obtain⟨its,r,ht,hz⟩:=I.list hx
 have hlen:=r.length
 refine⟨"list",_,slot_list_getitem.lookup,ht.isList.typeIs,?_⟩
 refine wpAny_getItem_list_slice ht.isList hs pl pu .none (by simp) ?_ (by rw[List.size_toArray]<;>omega)
 rw[Wn,←hlen]
 refine⟨.ref s.heap.objs.size,_,I.laid (t':=s.toks) (o:=.lst (cM xs lo hi)) (fun b ob q=>Heap.get?_push_of_some _ q) (Nat.le_refl _) ?_,rfl,q _ (I.ag.fresh (Nat.le_refl _))⟩
 exact⟨Nat.le_trans (JE xs lo hi) hz,_,0,(r.drop (HT.aE xs.length 0 lo)).take (HT.aE xs.length xs.length hi - HT.aE xs.length 0 lo),Heap.get?_push_size _ rfl⟩
def gz:V→Bool
 | .af=>true
 | .bl _=>true
 | .int _=>true
 | .str _=>true
 |_=>false
def dC:V→V→Bool
 | .af,.af=>true
 | .bl a,.bl b=>a==b
 | .bl a,.int b=> (if a then 1 else 0)==b
 | .int a,.bl b=>a==(if b then 1 else 0)
 | .int a,.int b=>a==b
 | .str a,.str b=>a==b
 |_,_=>false
theorem Cj {A:Around}{s:Shared}{y x:V}{u v:Value}(ry:RelV y u) (rx:RelV x v) (fy:gz y=true) (fx:gz x=true):SeqAt.EqAt A s u v (dC y x):=by
 cases y with
 |af=>
  cases ry
  cases x with
  |af=>cases rx;exact SeqAt.EqAt.same _
  |bl b=>cases rx;exact SeqAt.EqAt.none_bool b
  |int b=>obtain⟨t,rfl⟩:=rx;exact SeqAt.EqAt.none_int b t
  |str b=>obtain⟨t,rfl⟩:=rx;exact SeqAt.EqAt.none_str b t
  |_=>exact absurd (show false=true from fx) Bool.false_ne_true
 |bl a=>
  cases ry
  cases x with
  |af=>cases rx;exact SeqAt.EqAt.bool_none a
  |bl b=>cases rx;exact SeqAt.EqAt.bool_bool a b
  |int b=>obtain⟨t,rfl⟩:=rx;exact SeqAt.EqAt.bool_int a b t
  |str b=>obtain⟨t,rfl⟩:=rx;exact SeqAt.EqAt.bool_str a b t
  |_=>exact absurd (show false=true from fx) Bool.false_ne_true
 |int a=>
  obtain⟨t',rfl⟩:=ry
  cases x with
  |af=>cases rx;exact SeqAt.EqAt.int_none a t'
  |bl b=>cases rx;exact SeqAt.EqAt.int_bool a t' b
  |int b=>obtain⟨t,rfl⟩:=rx;exact SeqAt.EqAt.int_int a t' b t
  |str b=>obtain⟨t,rfl⟩:=rx;exact SeqAt.EqAt.int_str a t' b t
  |_=>exact absurd (show false=true from fx) Bool.false_ne_true
 |str a=>
  obtain⟨t',rfl⟩:=ry
  cases x with
  |af=>cases rx;exact SeqAt.EqAt.str_none a t'
  |bl b=>cases rx;exact SeqAt.EqAt.str_bool a t' b
  |int b=>obtain⟨t,rfl⟩:=rx;exact SeqAt.EqAt.str_int a t' b t
  |str b=>obtain⟨t,rfl⟩:=rx;exact SeqAt.EqAt.str_str a t' b t
  |_=>exact absurd (show false=true from fx) Bool.false_ne_true
 |_=>exact absurd (show false=true from fy) Bool.false_ne_true
def jk (x:V) (u:Value):Bool:=match u with
 | .none=>dC .af x
 | .bool b=>dC (.bl b) x
 | .int i _=>dC (.int i) x
 | .str z _=>dC (.str z) x
 |_=>false
theorem Ck {x y:V}{u:Value}(r:RelV y u) (f:gz y=true):jk x u=dC y x:=by
 cases y with
 |af=>cases r;rfl
 |bl b=>cases r;rfl
 |int i=>obtain⟨t,rfl⟩:=r;rfl
 |str z=>obtain⟨t,rfl⟩:=r;rfl
 |_=>exact absurd (show false=true from f) Bool.false_ne_true
theorem W6 {x:V} :∀{xs:List V}{us:List Value},Vals xs us→xs.all gz=true→us.any (jk x)=xs.any fun y=>dC y x
 |_,_,.nil,_=>rfl
 |y::xs,u::us,.cons r t,f=>by
  rw[List.all_cons,Bool.and_eq_true]at f
  rw[List.any_cons,List.any_cons,Ck r f.1,W6 t f.2]
theorem J9 {A:Around}{s:Shared}{x:V}{v:Value}(rx:RelV x v) (fx:gz x=true):∀{xs:List V}{us:List Value},Vals xs us→xs.all gz=true→∀u∈us,SeqAt.EqAt A s u v (jk x u)
 |_,_,.nil,_=>fun u hu=>by cases hu
 |y::xs,u::us,.cons r t,f=>fun u' hu=>by
  rw[List.all_cons,Bool.and_eq_true]at f
  rcases List.mem_cons.mp hu with rfl |hu
  ·rw[Ck r f.1];exact Cj r rx f.1 fx
  ·exact J9 rx fx t f.2 u' hu
def ft (x:V) (xs:List V):Bool:=xs.any fun y=>dC y x
def zx (K:PySem.W.Frag) (neg:Bool):R2:=fun x y H Q=> ∃p xs,y=.ref p∧(ah K H p xs∨ai K H p xs)∧gz x=true∧xs.all gz=true∧Q (.bl (if neg then !ft x xs else ft x xs)) H
theorem WU:ba X (compareOp .NotIn) (zx X.K true):=by
 intro pins s σ H x y v u Q I rx ry h
 obtain⟨p,xs,rfl,hq,fx,fs,q⟩:=h
 cases ry
 rcases hq with hq |hq
 ·obtain⟨its,r,pl,hz⟩:=I.list hq
  refine SeqAt.notIn_listAt (jk x) pl.isList (fun w hw=>J9 rx fx r fs w (by simpa using hw)) ⟨.bl _,H,I,rfl,?_⟩
  rw[show its.toArray.any (jk x)=its.any (jk x) by simp,W6 r fs]
  exact q
 ·obtain⟨its,r,pl,hz⟩:=I.tuple hq
  refine SeqAt.notIn_tupleAt (jk x) pl (fun w hw=>J9 rx fx r fs w (by simpa using hw)) ⟨.bl _,H,I,rfl,?_⟩
  rw[show its.toArray.any (jk x)=its.any (jk x) by simp,W6 r fs]
  exact q
theorem Zp:dD X (.builtin "len") (fun xs H Q=> ∃p ys,xs=[.ref p]∧(ah X.K H p ys∨ai X.K H p ys)∧Q (.int ys.length) H):=by
 intro pins s σ H xs us Q I r h
 obtain⟨p,ys,rfl,hq,q⟩:=h
 obtain⟨u,rfl,rx⟩:=vals1 r
 cases rx
 have hn:=rC
 rcases hq with hq |hq
 ·obtain⟨its,r',pl,hz⟩:=I.list hq
  have hlen:=r'.length
  exact Calls.call_len_list pl.isList (by simp only[List.size_toArray]<;>omega) ⟨.int ys.length,H,I.tok _,⟨s.toks+1,by rw[List.size_toArray,hlen]⟩,q⟩
 ·obtain⟨its,r',pl,hz⟩:=I.tuple hq
  have hlen:=r'.length
  exact len_tuple pl (by simp only[List.size_toArray]<;>omega) ⟨.int ys.length,H,I.tok _,⟨s.toks+1,by rw[List.size_toArray,hlen]⟩,q⟩
theorem W4:dD X (.type "list") (fun xs H Q=> ∃p ys,xs=[.ref p]∧(ah X.K H p ys∨ai X.K H p ys)∧∀l,H l=none→Q (.ref l) (upd H l (.lst ys))):=by
 intro pins s σ H xs us Q I r h
 obtain⟨p,ys,rfl,hq,q⟩:=h
 obtain⟨u,rfl,rx⟩:=vals1 r
 cases rx
 have fin:∀(its:List Value),Vals ys its→ys.length≤sizeLine→∀(h':Heap) (c':Nat),(∀b o',s.heap.get? b=some o'→h'.get? b=some o')→
   h'.get? s.heap.objs.size=some {cls:=.type "list",dict:=none,data:=.seq its.toArray c',slots:= #[]}→EP X pins σ Q (.ref s.heap.objs.size) {s with heap:=h'} :=fun its r' hz h' c' kp e=>
  ⟨.ref s.heap.objs.size,_,I.laid (t':=s.toks) kp (Nat.le_refl _) (show aP X.prog X.w _ h' _ (.lst ys) from ⟨hz,its,c',r',e⟩),rfl,q _ (I.ag.fresh (Nat.le_refl _))⟩
 rcases hq with hq |hq
 ·obtain⟨its,r',pl,hz⟩:=I.list hq
  have hlen:=r'.length
  obtain⟨o,ho,hc,n,hd⟩:=pl.isList
  exact call_list_seq p (.inl rfl) ho hc hd (fun h' c' kp e=>fin its r' hz h' c' kp e) (by simp only[List.size_toArray]<;>omega)
 ·obtain⟨its,r',pl,hz⟩:=I.tuple hq
  have hlen:=r'.length
  obtain⟨o,ho,hc,n,hd⟩:=pl
  exact call_list_seq p (.inr rfl) ho hc hd (fun h' c' kp e=>fin its r' hz h' c' kp e) (by simp only[List.size_toArray]<;>omega)
theorem Wq:dD X (.type "tuple") (fun xs H Q=> ∃p ys,xs=[.ref p]∧((ah X.K H p ys∧∀l,H l=none→Q (.ref l) (upd H l (.tup ys)))∨(ai X.K H p ys∧Q (.ref p) H))):=by
 intro pins s σ H xs us Q I r h
 obtain⟨p,ys,rfl,h⟩:=h
 obtain⟨u,rfl,rx⟩:=vals1 r
 cases rx
 rcases h with ⟨hq,q⟩ |⟨hq,q⟩
 ·obtain⟨its,r',pl,hz⟩:=I.list hq
  have hlen:=r'.length
  refine call_tuple_list pl.isList (fun h' kp=> ?_) (by simp only[List.size_toArray]<;>omega)
  have I1:Inv X pins σ H {s with heap:=h'} :=I.kept (t':=s.toks) kp
  have I2:Inv X pins σ (upd H h'.objs.size (.tup ys)) {s with heap:=h'.push {cls:=.type "tuple",data:=.seq its.toArray} } :=
   I1.laid (t':=s.toks) (fun b o e=>Heap.get?_push_of_some _ e) (Nat.le_refl _) (show aP X.prog X.w _ _ _ (.tup ys) from ⟨hz,its,r',IsTup.new _ _,_,Heap.get?_push_size _ rfl,rfl⟩)
  exact⟨.ref h'.objs.size,_,I2,rfl,q _ (I1.ag.fresh (Nat.le_refl _))⟩
 ·obtain⟨its,r',pl,hz⟩:=I.tuple hq
  exact call_tuple_same pl ⟨.ref p,H,I,rfl,q⟩
def ye (K:PySem.W.Frag) (T:String) (x:V) (H:Hp):Prop:=match x with
 | .str _=>T= "str"
 | .int _=>T= "int"
 | .ref p=> (T= "list" ∧∃xs,ah K H p xs)∨(T= "tuple" ∧((∃o,K.lookup p=some o∧o.cls=.type "tuple" ∧o.dict=none)∨∃xs,H p=some (.tup xs)))∨
   (T= "dict" ∧((∃kvs,H p=some (.dK kvs))∨∃kvs,H p=some (.dT kvs)))∨(T= "set" ∧∃S n,H p=some (.set S n))
 |_=>False
theorem NP {pins:List (Addr×Obj)}{σ:St}{H:Hp}{s:Shared}{T:String}{x:V}{v:Value}(I:Inv X pins σ H s) (r:RelV x v) (ty:ye X.K T x H):
  s.TypeIs v T∧∀a,v=.ref a→∃ob,s.heap.get? a=some ob∧ob.dict=none:=by
 cases x with
 |str z=>
  obtain⟨t,rfl⟩:=r
  cases (show T= "str" from ty)
  exact⟨typeIs_str s z t,fun _ e=>nomatch e⟩
 |int i=>
  obtain⟨t,rfl⟩:=r
  cases (show T= "int" from ty)
  exact⟨typeIs_int s i t,fun _ e=>nomatch e⟩
 |ref p=>
  cases r
  rcases ty with ⟨rfl,xs,hq⟩ |⟨rfl,⟨o,hk,hc,hd⟩ |⟨xs,hx⟩⟩ |⟨rfl,hk⟩ |⟨rfl,S,n,hk⟩
  ·obtain⟨its,_,pl,_⟩:=I.list hq
   refine⟨pl.isList.typeIs,fun a e=> ?_⟩
   cases e
   obtain⟨o,n,e,c,hd,_⟩:=pl
   exact⟨o,e,hd⟩
  ·refine⟨⟨o,I.bO p o hk,hc⟩,fun a e=> ?_⟩
   cases e
   exact⟨o,I.bO _ o hk,hd⟩
  ·obtain⟨_,_,_,⟨o,e,c,_⟩,o2,e2,hd⟩:=(show aP X.prog X.w H s.heap p (.tup xs) from I.ag p _ hx)
   refine⟨⟨o,e,c⟩,fun a e3=> ?_⟩
   cases e3
   exact⟨o2,e2,hd⟩
  ·have z:∃o,s.heap.get? p=some o∧o.ExactDict:=by
    rcases hk with ⟨kvs,hk⟩ |⟨kvs,hk⟩
    ·obtain⟨_,_,_,_,o,_,_,e,ex,_⟩:=I.ag p _ hk
     exact⟨o,e,ex⟩
    ·obtain⟨_,_,_,_,o,_,_,e,ex,_⟩:=I.ag p _ hk
     exact⟨o,e,ex⟩
   obtain⟨o,e,ex⟩:=z
   refine⟨⟨o,e,ex.1⟩,fun a e2=> ?_⟩
   cases e2
   exact⟨o,e,ex.2.1⟩
  ·obtain⟨o,_,_,_,e,ex,_⟩:=I.ag p _ hk
   refine⟨⟨o,e,ex.1⟩,fun a e2=> ?_⟩
   cases e2
   exact⟨o,e,ex.2.1⟩
 |_=>exact False.elim ty
def yz (K:PySem.W.Frag) (T:String) (r:V→List V→Hp→VK→Prop) (to:TE) (t:TA):TE:=fun σ H Q=>to σ H fun x H1=>ye K T x H1∧t σ H1 fun xs H2=>r x xs H2 Q
variable {o e:Expr}{es:List Expr}{to:TE}{t:TA}{name:Str}{apos bD:Pos}{T id:String}{r:V→List V→Hp→VK→Prop}
theorem YH (pa:PlainAttrs T) (slot:Slot T name id) (Hc:typeOf (.builtin id)=pure (.type "method_descriptor")) (hm:CP X id r) (ho:PE X o to) (ha:PA X (e::es) t)
    (wA:attributeBase o name X.env (eval o X.env)=eval o X.env:=by rfl)
    (Iq:((backTo bD (starEach (e::es) X.env)).all (fun x=> !x.1)&&(backToKw bD (keywordEach [] X.env)).all (fun x=>x.1.isSome)
      &&decide ((e::es).length+([]:List Keyword).length+(if ([]:List Keyword).isEmpty then 0 else 1)<30))=true:=by rfl)
    (vZ:(apos.endLine==bD.line)=true:=by rfl) (hs:starEach (e::es) X.env=(false,eval e X.env)::starEach es X.env:=by rfl) (Hy:(backTo bD (starEach es X.env)).any (·.1)=false:=by rfl):
    PE X (.Call (.Attribute o name apos) (e::es) [] bD) (yz X.K T r to t):=by
  intro pins s σ H Q I h
  refine wpAny_Call_method_late wA Iq vZ rfl (ar (ho pins s σ H _ I h) fun v s1 ⟨x,H1,I1,r1,ty,q1⟩=> ?_)
  obtain⟨h1,h2⟩:=NP I1 r1 ty
  refine⟨T,id,pa,slot,Hc,h1,h2,?_⟩
  have hA:=ha bD pins s1 σ H1 _ I1 q1
  rw[hs]at hA ⊢
  refine Calls.callWith_builtin (by show(false||(backTo bD (starEach es X.env)).any (·.1))=false;rw[Hy]<;>rfl) (Calls.evalArgs_plain ?_)
  exact ar hA fun us s2 ⟨vs,H2,I2,r2,q2⟩=>hm pins s2 σ H2 x vs v us Q I2 r1 r2 q2
end
def CQ (X:Cx) (id:String) (r:V→List V→Hp→VK→Prop):Prop:=
 ∀(pins:List (Addr×Obj)) (s:Shared) (σ:St) (H:Hp) (x:V) (xs:List V) (v:Value) (us:List Value) (Q:VK),Inv X pins σ H s→RelV x v→Vals xs us→r x xs H Q→
  wpAny (model X.prog X.w) X.A (call (.builtin id) (v::us)) (EP X pins σ Q) X.xe s
theorem Vals.one:∀{x:V}{us:List Value},Vals [x] us→∃u,us=[u]∧RelV x u
 |_,_,.cons r .nil=> ⟨_,rfl,r⟩
theorem Vals.eraseIdx:∀{xs:List V}{us:List Value}(i:Nat),Vals xs us→Vals (xs.eraseIdx i) (us.eraseIdx i)
 |_,_,_,.nil=> .nil
 |_,_,0,.cons _ t=>t
 |_,_,i+1,.cons r t=> .cons r (Vals.eraseIdx i t)
theorem WE {α:Type} :∀(l:List α) (i:Nat),(l.eraseIdx i).length≤l.length
 | [],_=>Nat.le_refl _
 |_::_,0=>Nat.le_succ _
 |_::r,i+1=>Nat.succ_le_succ (WE r i)
section
variable {X:Cx}{pins:List (Addr×Obj)}{σ:St}{H:Hp}{s:Shared}{l b:Addr}{xs ys zs:List V}
theorem Inv.zW {its its':List Value}{n:Nat}{f:Array Value→Array Value}{t':Nat}(I:Inv X pins σ H s) (hH:H l=some (.lst xs))
  (e:s.heap.get? l=some {cls:=.type "list",data:=.seq its.toArray n}) (hf:f its.toArray=its'.toArray) (hv:Vals ys its') (hz:ys.length≤sizeLine):
  Inv X pins σ (upd H l (.lst ys)) {s with heap:=s.heap.update l (Obj.mapSeq f),toks:=t'} :=by
 have q:=PySem.IsL.update e f
 rw[hf]at q
 refine I.write (x:=l) (e:=l) (by rw[hH];exact trivial) (.inl rfl) (fun b' u hb hu=> (Heap.get?_update_other s.heap (Obj.mapSeq f) (Ne.symm hb)).trans hu) ⟨_,q⟩ ?_
 exact⟨hz,its',_,hv,q⟩
theorem Inv.Gd {its:List Value}{t':Nat}(I:Inv X pins σ H s) (hv:Vals ys its) (hz:ys.length≤sizeLine):
  Inv X pins σ (upd H s.heap.objs.size (.lst ys)) {s with heap:=s.heap.push {cls:=.type "list",data:=.seq its.toArray},toks:=t'} :=
 I.laid (fun _ _ q=>Heap.get?_push_of_some _ q) (Nat.le_refl _) ⟨hz,its,0,hv,Heap.get?_push_size _ rfl⟩
theorem Inv.fresh (I:Inv X pins σ H s):H s.heap.objs.size=none:=I.ag.fresh (Nat.le_refl _)
theorem Inv.rA (I:Inv X pins σ H s) (hH:H l=some (.lst xs)):xs.length≤sizeLine∧∃(its:List Value) (n:Nat),Vals xs its∧xs.length=its.length∧s.heap.get? l=some {cls:=.type "list",data:=.seq its.toArray n} :=by
 obtain⟨z,its,n,r,e⟩:=I.ag l _ hH
 exact⟨z,its,n,r,r.length,e⟩
end
section
variable {X:Cx}
def zz:V→List V→Hp→VK→Prop:=fun x vs H Q=> ∃l xs y,x=.ref l∧vs=[y]∧H l=some (.lst xs)∧xs.length<sizeLine∧Q .af (upd H l (.lst (xs++[y])))
theorem ZW:CQ X "list.append" zz:=by
 intro pins s σ H x vs v us Q I rx rv h
 obtain⟨l,xs,y,rfl,rfl,hH,hz,q⟩:=h
 cases rx
 obtain⟨u,rfl,ru⟩:=rv.one
 obtain⟨z,its,n,r,hl,e⟩:=I.rA hH
 refine call_meets F.slot_list_append ⟨_,e,rfl⟩ F.entry_list_append (F.args_list_append_2 _ _) (PySem.list_append l its.toArray n u (by rw[List.size_toArray];omega)) ⟨e,?_⟩
 refine⟨.af,_,I.zW (its':=its++[u]) hH e (by simp) (r.append (.cons ru .nil)) ?_,rfl,q⟩
 rw[List.length_append,List.length_singleton]
 omega
def EZ:V→List V→Hp→VK→Prop:=fun x vs H Q=> ∃l xs i k y,x=.ref l∧vs=[.int i]∧H l=some (.lst xs)∧ -(2^63)≤i∧i<2^63∧seqIndex? i xs.length=some k∧xs[k]? =some y∧Q y (upd H l (.lst (xs.eraseIdx k)))
theorem Oo:CQ X "list.pop" EZ:=by
 intro pins s σ H x vs v us Q I rx rv h
 obtain⟨l,xs,i,k,y,rfl,rfl,hH,h1,h2,hk,hy,q⟩:=h
 cases rx
 obtain⟨u,rfl,ru⟩:=rv.one
 obtain⟨t,rfl⟩:=ru
 obtain⟨z,its,n,r,hl,e⟩:=I.rA hH
 obtain⟨w,hw,fS⟩:=r.get hy
 refine call_meets F.slot_list_pop ⟨_,e,rfl⟩ F.entry_list_pop (F.args_list_pop_2 _ _)
  (MeetsSeq.list_pop_at l its.toArray n i t k w (fitsIndex_both h1 h2) (by rw[List.size_toArray,←hl];exact hk) (by rw[←Array.getElem?_toList];exact hw) (by rw[List.size_toArray];omega)) ⟨e,?_⟩
 refine⟨y,_,I.zW (its':=its.eraseIdx k) hH e ?_ (r.eraseIdx k) ?_,fS,q⟩
 ·show its.toArray.eraseIdxIfInBounds k=(its.eraseIdx k).toArray
  rw[List.eraseIdxIfInBounds_toArray]
 ·have:=WE xs k
  omega
def Ff:R2:=fun x y H Q=> ∃l b xs zs,x=.ref l∧y=.ref b∧H l=some (.lst xs)∧H b=some (.lst zs)∧xs.length+zs.length≤sizeLine∧∀p,H p=none→Q (.ref p) (upd H p (.lst (xs++zs)))
theorem YG:ba X (binaryOp .Add) Ff:=by
 intro pins s σ H x y v u Q I rx ry h
 obtain⟨l,b,xs,zs,rfl,rfl,hH,hB,hz,q⟩:=h
 cases rx
 cases ry
 obtain⟨z,its,n,r,hl,e⟩:=I.rA hH
 obtain⟨z2,kP,n2,r2,iJ,e2⟩:=I.rA hB
 refine PySem.P.add_list e e2 ?_ (by rw[List.size_toArray,List.size_toArray];omega)
 have ea:its.toArray++kP.toArray=(its++kP).toArray:=by simp
 rw[ea]
 exact⟨.ref _,_,I.Gd (t':=s.toks) (r.append r2) (by rw[List.length_append];omega),rfl,q _ I.fresh⟩
end
end L2
namespace Dc
open PySem PySem.W PySem.Calls PyProof.Rows
theorem JI {P:Params}{h:Heap} :∀(ns:List Int) (vs:List Value),WellAll P h vs (ns.map WData.int)→IntsAre vs ns:=by
 intro ns
 induction ns with
 |nil=>
  intro vs w
  rw[List.map_nil]at w
  cases w
  exact .nil
 |cons n ns ih=>
  intro vs w
  rw[List.map_cons]at w
  cases w with
  |cons a b=>
   cases a
   exact .cons _ _ (ih _ b)
theorem O4 {l:OpenLaw}{n:Nat}(hn:l.most=some n) {P:Params}{h:Heap}{args:List WData}{vals:List Value}
  (rN:l.row.toRowW.claim.pre args=true) (vI:WellAll P h vals args):
  ∃a vs ns,vals=[Value.ref a]∧args=[WData.list (ns.map WData.int)]∧h.get? a=some {cls:=.type "list",data:=.seq vs.toArray}∧IntsAre vs ns∧ns.length≤n:=by
 have Hq:WShape.hasAll [] args [.list .int]=true:=(pre_splitW rN).1
 have hc:l.pre.holds [] {args:=args} =true:=(pre_splitW rN).2
 obtain⟨d,r,rfl,h1,h2⟩:=hasAllW_cons Hq
 obtain rfl:=hasAllW_nil h2
 obtain⟨xs,rfl,h3⟩:=hasW_list h1
 obtain⟨ns,rfl⟩:=items_int h3
 have hlen:ns.length≤n:=by
  unfold OpenLaw.pre at hc
  have h4:(WTm.not (.lt (.lit (.int (n:Int))) (.len (.arg 0)))).holds [] {args:=[.list (ns.map .int)]} =true:=by
   have h4:=(holds_andW hc).1
   rw[hn]at h4
   exact h4
  have h5:=condW_of h4 (w_not (w_lt w_lit (w_len_list (w_arg rfl))))
  rw[List.length_map]at h5
  refine Nat.le_of_not_lt fun q=> ?_
  have q':(n:Int)< ((ns.length:Nat):Int):=by omega
  first
   |(rw[decide_eq_true q']at h5;exact absurd h5 (by decide))
   |(simp at h5;omega)
 cases vI with
 |cons w1 w2=>
  cases w2
  cases w1 with
  |list ho oZ=>exact⟨_,_,ns,rfl,rfl,ho,JI ns _ oZ,hlen⟩
theorem O2 (l:OpenLaw) (args:List WData):l.row.toRowW.claim.post args (.bool true) args=true:=
 postW_of (r:=l.row.toRowW) (X:=(true==true))
  (show WShape.has [] (.bool true) .bool=true by first |rfl |decide |simp[WShape.has,WShape.arms,WShape.armsAll])
  (show(WTm.eq .res (.lit (.bool true))).value [] {args:=args,res:=some (.bool true),after:=args} =some (.bool (true==true)) from w_eq_bool (w_res rfl) w_lit) rfl
theorem LG {l:OpenLaw}{n:Nat}{q:Program}{loose:List Str}{XP:(Str→Option Value)→Heap→Prop}{YP:World→Heap→Prop}{d:DefRec}
    (hn:l.most=some n) (wm:d.params.defaults=[])
    (call:∀(w:World) (bS aK:Shared) (mg mb:Str→Option Value) (fa:Addr) (o:Obj) (pm cd doc:Value) (a:Addr) (vs:List Value) (ns:List Int),
      Ground q loose [] XP w bS mg mb aK.heap→YP w aK.heap→
      aK.heap.get? fa=some o→o.data=.func (docDef d.name d.params d.body d.scope pm cd doc)→aK.heap.CodeRec cd d.name→mg d.name=some (.ref fa)→
      aK.heap.get? a=some {cls:=.type "list",data:=.seq vs.toArray}→IntsAre vs ns→ns.length≤n→aK.gens= #[]→
      codeAny (model l.prog w) callerA (.call (.ref fa) ⟨[.ref a],[]⟩) (fun r s'=>r=.ok (.ret (.bool true))∧OldK aK.heap s'.heap∧s'.os=aK.os∧AllBare s'.gens) aK):
    WalkO q loose XP YP l.row.toRowW d [] (fun f vs=>PySem.call f vs):=by
  intro w bS aK mg mb G Y fa o pm cd doc dV kV ho hd cE hD hmg hg args vals as rN QM QG vI vY
  obtain rfl:dV=.none:=Dflts.none hD wm
  obtain rfl:kV=.none:=Dflts.noKw hD
  obtain⟨a,vs,ns,rfl,rfl,vV,hints,hlen⟩:=O4 hn rN vI
  refine enter_call (codeAny_mono (call w bS aK mg mb fa o pm cd doc a vs ns G Y ho (fd_plain hd) cE hmg vV hints hlen hg) fun r s' hq=> ?_)
  obtain⟨rfl,h2,h3,h4⟩:=hq
  exact⟨.inl ⟨.bool true,.bool true,[],rfl,fun _=>rfl,.bool true,O2 l _,fun _=> ⟨List.Pairwise.nil,fun _ hm=> (nomatch hm)⟩⟩,h2,h3,h4⟩
end Dc
namespace L2
open PySem PySem.Spec PyProof.Rows
theorem Wv:∀{vs:List Value}{ns:List Int},IntsAre vs ns→Vals (ns.map V.int) vs
 |_,_,.nil=> .nil
 |_,_,.cons n t h=> .cons ⟨t,rfl⟩ (Wv h)
def eK (s:Stmt):Arguments:=match s with
 | .FunctionDef _ a _ _ _ _ _ _ _ _=>a
 |_=> {posonlyargs:=[],args:=[],vararg:=none,kwonlyargs:=[],kw_defaults:=[],kwarg:=none,defaults:=[]}
def bI (s:Stmt):List Stmt:=match s with
 | .FunctionDef _ _ b _ _ _ _ _ _ _=>b
 |_=> []
def ay (s:Stmt):Scope:=match s with
 | .FunctionDef _ _ _ _ _ _ sc _ _ _=>sc
 |_=> {kind:=.function,names:=[],isGenerator:=false,isCoroutine:=false}
abbrev aG:iw:=fun _ _ _ _ _ _=>False
abbrev E0:XK:=fun _ _ _=>False
theorem Fw {X:Cx} :Passes aG X E0:=fun _ _ _ _ _ _ _ h=>h.elim
structure aH (K:PySem.W.Frag) (x qual:Str) (st:Stmt) (f:Addr) (fd:FuncData):Prop where
 ex:∃(oc:Value) (od:Option Addr) (kV doc pm:Value) (an:Option Addr) (ao ct:Value) (eU:Array (Option Value)),
  fd=PySem.W.fnOf x qual (eK st) (bI st) (ay st) .none kV doc pm an ao ct∧K.lookup f=some ⟨oc,od,.func fd,eU⟩∧PySem.W.codeIn K ao qual=true
 kp:PySem.W.keepIn K (.ref f)=true
section
variable {P:Program}{w:World}{K:PySem.W.Frag}{mg:Str→Option Value}{base:Heap}
theorem aH.ok {x qual:Str}{st:Stmt}{f:Addr}{fd:FuncData}{N ps:List Str}{k:Nat}{sp:Sp}(F:aH K x qual st f fd) (S:bu N ps (ay st)) (len:∀vs H Q E,sp vs H Q E→vs.length=ps.length)
    (wu:∀(ao:Value) (A:Around) (outer:List Env) (s:Shared) (H:Hp) (vs:List V) (Q:VK) (E:XK),bL k (A.deeper (envOfC qual (ay st) s.heap.objs.size f ao))→sp vs H Q E→
      ∃t,eO (bJ aG P w K mg base N qual (ay st) f ao A outer s H E).dJ (bI st) t∧t {nx:=fun _ H'=>Q .af H',rt:=Q} (start N vs) H):aA P w K mg base aG (k+1) f fd ps sp:=by
  obtain⟨oc,od,kV,doc,pm,an,ao,ct,eU,rfl,lk,cE⟩:=F.ex
  refine xx lk cE S len fun A outer s H vs Q E hr dh=> ?_
  obtain⟨t,h,q⟩:=wu ao A outer s H vs Q E hr dh
  exact⟨t,h.dJ,q⟩
theorem aH.binds {x qual:Str}{st:Stmt}{f:Addr}{fd:FuncData}{ps:List Str}(F:aH K x qual st f fd)
  (h:∀(kV doc pm:Value) (an:Option Addr) (ao ct:Value) (us:List Value),us.length=ps.length→bindArgs (PySem.W.fnOf x qual (eK st) (bI st) (ay st) .none kV doc pm an ao ct) ⟨us,[]⟩=pure (ps.zip us)):Binds K fd ps []:=by
 obtain⟨oc,od,kV,doc,pm,an,ao,ct,eU,rfl,lk,cE⟩:=F.ex
 exact .all (h kV doc pm an ao ct)
theorem LQ {x qual:Str}{st:Stmt}{f:Addr}{oc:Value}{od an:Option Addr}{eU:Array (Option Value)}{kV doc pm ao ct:Value}(l:K.lookup f=some ⟨oc,od,.func (PySem.W.fnOf x qual (eK st) (bI st) (ay st) .none kV doc pm an ao ct),eU⟩)
  (c:PySem.W.codeIn K ao qual=true) (k:PySem.W.keepIn K (.ref f)=true):aH K x qual st f (PySem.W.fnOf x qual (eK st) (bI st) (ay st) .none kV doc pm an ao ct):=⟨⟨oc,od,kV,doc,pm,an,ao,ct,eU,rfl,l,c⟩,k⟩
end
theorem sJ {A:Around}{k:Nat}(hr:bL k A):A.units+1<cLine:=Nat.lt_of_le_of_lt (Nat.add_le_add_left (by decide:1≤64) _) hr.units
theorem uo {n:Nat}(h:n≤1000):n<sizeLine:=Nat.lt_of_le_of_lt h (by decide)
section
variable {X:Cx}
theorem pv (i:Nat) {x:Str}{pos:Pos}(hN:X.N[i]? =some x:=by rfl) (hv:pO X.env.scope x:=by first |exact Or.inl rfl |exact Or.inr (Or.inl rfl) |exact Or.inr (Or.inr rfl)) (hd:(x==("__debug__" :Str))=false:=by decide)
  (cE:(x==("__classdict__" :Str))=false:=by decide):PE X (.Name x pos) (jz i):=Yc hN hv hd cE
end
theorem aM {A B:Prop}(h:B):if false=true then A else B:=by
 rw[if_neg Bool.false_ne_true]
 exact h
theorem aX {A B:Prop}(h:A):if true=true then A else B:=by
 rw[if_pos rfl]
 exact h
theorem rH {c A B:Prop} [Decidable c] (h1:c→A) (h2:¬c→B):if c then A else B:=by
 by_cases h:c
 ·rw[if_pos h]
  exact h1 h
 ·rw[if_neg h]
  exact h2 h
def ae (H H':Hp):Prop:=∀b o,H b=some o→H' b=some o
theorem ae.refl (H:Hp):ae H H:=fun _ _ h=>h
theorem ae.trans {H H1 H2:Hp}(a:ae H H1) (b:ae H1 H2):ae H H2:=fun c o h=>b c o (a c o h)
theorem ae.free {H H':Hp}(e:ae H H') {l:Addr}(h:H' l=Option.none):H l=Option.none:=by
 cases q:H l with
 |none=>rfl
 |some o=>
  rw[e l o q]at h
  cases h
section
variable {κ:Type} [DecidableEq κ]
def bE (kvs:List (κ×V)) (k:κ):Option V:=(kvs.find? fun kv=>decide (kv.1=k)).map (·.2)
def putK (kvs:List (κ×V)) (k:κ) (v:V):List (κ×V):=
 if (kvs.any fun kv=>decide (kv.1=k))=true then kvs.map (fun kv=>if kv.1=k then (kv.1,v) else kv) else kvs++[(k,v)]
theorem ZV {p:κ×V}{r:List (κ×V)}{k:κ}(e:p.1=k):bE (p::r) k=some p.2:=by simp[bE,List.find?_cons,e]
theorem ZX {p:κ×V}{r:List (κ×V)}{k:κ}(e:¬p.1=k):bE (p::r) k=bE r k:=by simp[bE,List.find?_cons,e]
theorem Yq (k:κ):∀kvs:List (κ×V),(kvs.any fun kv=>decide (kv.1=k))=(bE kvs k).isSome
 | []=>rfl
 |p::r=>by
  rw[List.any_cons]
  by_cases e:p.1=k
  ·simp only[ZV e,decide_eq_true e,Bool.true_or,Option.isSome_some]
  ·rw[ZX e,decide_eq_false e,Bool.false_or];exact Yq k r
theorem Ub (k j:κ) (y:V):∀kvs:List (κ×V),bE (kvs.map fun kv=>if kv.1=k then (kv.1,y) else kv) j=(bE kvs j).map fun x=>if j=k then y else x
 | []=>rfl
 |p::r=>by
  have ih:=Ub k j y r
  rw[List.map_cons]
  by_cases h:p.1=k
  ·rw[if_pos h]
   by_cases e:p.1=j
   ·rw[ZV (p:=(p.1,y)) e,ZV e,Option.map_some,if_pos (e.symm.trans h)]
   ·rw[ZX (p:=(p.1,y)) e,ZX e,ih]
  ·rw[if_neg h]
   by_cases e:p.1=j
   ·rw[ZV (p:=p) e,ZV e,Option.map_some,if_neg (fun z=>h (e.trans z))]
   ·rw[ZX (p:=p) e,ZX e,ih]
theorem Ww (k j:κ) (y:V):∀kvs:List (κ×V),bE kvs k=none→bE (kvs++[(k,y)]) j=if j=k then some y else bE kvs j
 | [],_=>by
  by_cases e:k=j
  ·rw[if_pos e.symm];exact ZV (p:=(k,y)) e
  ·rw[if_neg (fun z=>e z.symm)];exact ZX (p:=(k,y)) e
 |p::r,hn=>by
  rw[List.cons_append]
  have hk:¬p.1=k:=fun z=>by rw[ZV z]at hn;cases hn
  rw[ZX hk]at hn
  have ih:=Ww k j y r hn
  by_cases e:p.1=j
  ·rw[ZV e,ZV e,if_neg (fun z=>hk (e.trans z))]
  ·rw[ZX e,ZX e,ih]
theorem N9 (kvs:List (κ×V)) (k j:κ) (y:V):bE (putK kvs k y) j=if j=k then some y else bE kvs j:=by
 unfold putK
 by_cases a:(kvs.any fun kv=>decide (kv.1=k))=true
 ·rw[if_pos a,Ub]
  rw[Yq]at a
  by_cases e:j=k
  ·obtain⟨x,hx⟩:=Option.isSome_iff_exists.mp a
   rw[if_pos e,e,hx,Option.map_some,if_pos rfl]
  ·rw[if_neg e]
   cases bE kvs j with
   |none=>rfl
   |some x=>rw[Option.map_some,if_neg e]
 ·rw[if_neg a]
  refine Ww k j y kvs ?_
  rw[Yq]at a
  cases q:bE kvs k with
  |none=>rfl
  |some x=>rw[q]at a;exact(a rfl).elim
theorem YL (kvs:List (κ×V)) (k:κ) (v:V):(putK kvs k v).length≤kvs.length+1:=by
 unfold putK
 split
 ·rw[List.length_map];omega
 ·rw[List.length_append,List.length_cons,List.length_nil];omega
theorem NZ {kvs:List (κ×V)}{k:κ}(v:V) (h:bE kvs k=none):putK kvs k v=kvs++[(k,v)]:=by
 unfold putK
 rw[Yq,h]
 exact if_neg (by decide)
theorem jo.vD {o:Option V}{u:Option Value}(r:jo o u):o.isSome=u.isSome:=by
 cases o with
 |none=>cases u with
  |none=>rfl
  |some _=>exact(show False from r).elim
 |some _=>cases u with
  |none=>exact(show False from r).elim
  |some _=>rfl
theorem jo.getD {o:Option V}{u:Option Value}{d:V}{d':Value}(r:jo o u) (rd:RelV d d'):RelV (o.getD d) (u.getD d'):=by
 cases o with
 |none=>cases u with
  |none=>exact rd
  |some _=>exact(show False from r).elim
 |some _=>cases u with
  |none=>exact(show False from r).elim
  |some _=>exact r
theorem KV.val {kvs:List (κ×V)}{vs:List (κ×Value)}(r:KV kvs vs) (k:κ):jo (bE kvs k) (valueAt vs k):=by
 unfold KV at r
 induction r with
 |nil=>exact True.intro
 | @cons p q ps qs h t ih=>
  obtain⟨h1,h2⟩:=h
  by_cases e:p.1=k
  ·have e':q.1=k:=h1.symm.trans e
   have b:valueAt (q::qs) k=some q.2:=by simp[valueAt,List.find?_cons,e']
   rw[ZV e,b];exact h2
  ·have e':¬q.1=k:=fun z=>e (h1.trans z)
   have b:valueAt (q::qs) k=valueAt qs k:=by simp[valueAt,List.find?_cons,e']
   rw[ZX e,b];exact ih
theorem KV.any {kvs:List (κ×V)}{vs:List (κ×Value)}(r:KV kvs vs) (k:κ):(kvs.any fun kv=>decide (kv.1=k))=vs.any fun kv=>decide (kv.1=k):=by
 unfold KV at r
 induction r with
 |nil=>rfl
 |cons h t ih=>rw[List.any_cons,List.any_cons,ih,h.1]
theorem KV.uW {kvs:List (κ×V)}{vs:List (κ×Value)}(r:KV kvs vs) (k:κ) {y:V}{u:Value}(ry:RelV y u):
  KV (kvs.map fun kv=>if kv.1=k then (kv.1,y) else kv) (vs.map fun kv=>if kv.1=k then (kv.1,u) else kv):=by
 unfold KV at r ⊢
 induction r with
 |nil=>exact .nil
 | @cons p q ps qs h t ih=>
  rw[List.map_cons,List.map_cons]
  refine .cons ?_ ih
  obtain⟨h1,h2⟩:=h
  by_cases e:p.1=k
  ·rw[if_pos e,if_pos (h1.symm.trans e)];exact⟨h1,ry⟩
  ·rw[if_neg e,if_neg (fun z=>e (h1.trans z))];exact⟨h1,h2⟩
theorem KV.put {kvs:List (κ×V)}{vs:List (κ×Value)}(r:KV kvs vs) (k:κ) {y:V}{u:Value}(ry:RelV y u):KV (putK kvs k y) (stored vs k u):=by
 unfold putK stored
 rw[r.any k]
 by_cases e:(vs.any fun kv=>decide (kv.1=k))=true
 ·rw[if_pos e,if_pos e];exact r.uW k ry
 ·rw[if_neg e,if_neg e];exact Paired.snoc r ⟨rfl,ry⟩
theorem KV.length {kvs:List (κ×V)}{vs:List (κ×Value)}(r:KV kvs vs):kvs.length=vs.length:=Paired.length r
end
theorem sN {P:Program}{w:World}{k:Key}{u:Value}(r:RelV (kV k) u):(eF P w).is k u=true:=by
 cases k with
 |inl i=>obtain⟨t,e⟩:=(show ∃t,u=Value.int i t from r);subst e;exact Uq P w i t
 |inr x=>obtain⟨t,e⟩:=(show ∃t,u=Value.str x t from r);subst e;exact Up P w x t
theorem WF {P:Program}{w:World} :∀{ks:List Key}{us:List Value},Vals (ks.map kV) us→ItemsAre (eF P w) ks us
 | [],_,r=>by rw[List.map_nil]at r;cases r;exact .nil
 |k::ks,_,r=>by
  rw[List.map_cons]at r
  cases r with
  |cons h t=>exact .cons (sN h) (WF t)
abbrev KT (H:Hp):List (List Key×V)→List (List Key×Addr×Value)→Prop:=Paired fun p q=>p.1=q.1∧H q.2.1=some (.tup (p.1.map kV))∧RelV p.2 q.2.2
theorem KT.val {H:Hp}{kvs:List (List Key×V)}{xs:List (List Key×Addr×Value)}(r:KT H kvs xs) (k:List Key):jo (bE kvs k) ((atKey xs k).map (·.2)):=by
 induction r with
 |nil=>exact True.intro
 | @cons p q ps qs h t ih=>
  obtain⟨h1,_,h2⟩:=h
  by_cases e:p.1=k
  ·have e':q.1=k:=h1.symm.trans e
   have b:atKey (q::qs) k=some q.2:=by simp[atKey,List.find?_cons,e']
   rw[ZV e,b];exact h2
  ·have e':¬q.1=k:=fun z=>e (h1.trans z)
   have b:atKey (q::qs) k=atKey qs k:=by simp[atKey,List.find?_cons,e']
   rw[ZX e,b];exact ih
theorem KT.uW {H:Hp}{kvs:List (List Key×V)}{xs:List (List Key×Addr×Value)}(r:KT H kvs xs) (k:List Key) {y:V}{u:Value}(ry:RelV y u):
  KT H (kvs.map fun kv=>if kv.1=k then (kv.1,y) else kv) (xs.map (putAt k u)):=by
 induction r with
 |nil=>exact .nil
 | @cons p q ps qs h t ih=>
  rw[List.map_cons,List.map_cons]
  refine .cons ?_ ih
  obtain⟨h1,h2,h3⟩:=h
  unfold putAt
  by_cases e:p.1=k
  ·rw[if_pos e,if_pos (h1.symm.trans e)];exact⟨h1,h2,ry⟩
  ·rw[if_neg e,if_neg (fun z=>e (h1.trans z))];exact⟨h1,h2,h3⟩
theorem KT.put {H:Hp}{kvs:List (List Key×V)}{xs:List (List Key×Addr×Value)}(r:KT H kvs xs) (k:List Key) {b:Addr}{y:V}{u:Value}(hb:H b=some (.tup (k.map kV))) (ry:RelV y u):
  KT H (putK kvs k y) (storedH xs k b u):=by
 have e:(kvs.any fun kv=>decide (kv.1=k))=(atKey xs k).isSome:=by
  rw[Yq,(r.val k).vD,Option.isSome_map]
 unfold putK storedH
 rw[e]
 by_cases q:(atKey xs k).isSome=true
 ·rw[if_pos q,if_pos q];exact r.uW k ry
 ·rw[if_neg q,if_neg q];exact Paired.snoc r ⟨rfl,hb,ry⟩
theorem KT.keeps {H H':Hp}{kvs:List (List Key×V)}{xs:List (List Key×Addr×Value)}(r:KT H kvs xs) (ht:∀b ys,H b=some (.tup ys)→H' b=some (.tup ys)):KT H' kvs xs:=
 Paired.cu r fun _ _ z=> ⟨z.1,ht _ _ z.2.1,z.2.2⟩
section
variable {P:Program}{w:World}{H:Hp}{h:Heap}{a:Addr}
theorem B8 {u:HO}(ok:bg P w H h) (e:Rd H a u):aP P w H h a u:=e.ok ok
theorem sy {kvs:List (Key×V)}(ok:bg P w H h) (e:Rd H a (.dK kvs)):kvs.length≤sizeLine∧(a==sysModules)=false∧∃vs,KV kvs vs∧h.DictOf (eF P w) a vs:=
 show aP P w H h a (.dK kvs) from B8 ok e
theorem Mr {kvs:List (Key×V)}(ok:bg P w H h) (e:H a=some (.dK kvs)):kvs.length≤sizeLine∧(a==sysModules)=false∧∃vs,KV kvs vs∧h.DictOf (eF P w) a vs:=sy ok (.inl e)
theorem W0 {ks:List Key}(ok:bg P w H h) (e:H a=some (.tup (ks.map kV))):(tupleKind (eF P w)).is h ks a:=by
 obtain⟨_,its,r,⟨o,h1,h2,n,h3⟩,_⟩:=(show aP P w H h a (.tup (ks.map kV)) from ok a _ e)
 exact⟨o,its.toArray,n,h1,h2,h3,by simpa using WF r⟩
theorem sH {kvs:List (List Key×V)}(ok:bg P w H h) (e:Rd H a (.dT kvs)):kvs.length≤sizeLine∧(a==sysModules)=false∧
  ∃xs,KT H kvs xs∧h.DictOfH (tupleKind (eF P w)) a xs:=by
 obtain⟨z,y,xs,r,o,es,ep,h1,h2,h3,h4,h5⟩:=(show aP P w H h a (.dT kvs) from B8 ok e)
 refine⟨z,y,xs,r,o,es,ep,h1,h2,h3,h4,fun x hx=> ?_,h5⟩
 have all:∀{l:List (List Key×V)}{m:List (List Key×Addr×Value)},KT H l m→∀x∈m,(tupleKind (eF P w)).is h x.1 x.2.1:=by
  intro l m q
  induction q with
  |nil=>intro x hx;exact nomatch hx
  | @cons p q ps qs hq t ih=>
   intro x hx
   rcases List.mem_cons.mp hx with e |hx
   ·subst e
    exact W0 ok (by rw[←hq.1];exact hq.2.1)
   ·exact ih x hx
 exact all r x hx
theorem Ms {kvs:List (List Key×V)}(ok:bg P w H h) (e:H a=some (.dT kvs)):kvs.length≤sizeLine∧(a==sysModules)=false∧
  ∃xs,KT H kvs xs∧h.DictOfH (tupleKind (eF P w)) a xs:=sH ok (.inl e)
end
def ju (H:Hp) (a:Addr) (y:V) (r:Option V):Prop:=
 (∃kvs k,Rd H a (.dK kvs)∧y=kV k∧r=bE kvs k)∨∃kvs k b,Rd H a (.dT kvs)∧y=.ref b∧H b=some (.tup (k.map kV))∧r=bE kvs k
def nJ (H:Hp) (a:Addr) (y v:V) (H':Hp):Prop:=
 (∃kvs k,H a=some (.dK kvs)∧y=kV k∧kvs.length<sizeLine∧H'=upd H a (.dK (putK kvs k v)))∨
 ∃kvs k b,H a=some (.dT kvs)∧y=.ref b∧H b=some (.tup (k.map kV))∧kvs.length<sizeLine∧H'=upd H a (.dT (putK kvs k v))
theorem ju.t {H:Hp}{a b:Addr}{kvs:List (List Key×V)}{k:List Key}(e:H a=some (.dT kvs)) (eb:H b=some (.tup (k.map kV))):ju H a (.ref b) (bE kvs k):=.inr ⟨kvs,k,b,.inl e,rfl,eb,rfl⟩
theorem nJ.t {H:Hp}{a b:Addr}{kvs:List (List Key×V)}{k:List Key}{v:V}(e:H a=some (.dT kvs)) (eb:H b=some (.tup (k.map kV))) (hl:kvs.length<sizeLine):
  nJ H a (.ref b) v (upd H a (.dT (putK kvs k v))):=.inr ⟨kvs,k,b,e,rfl,eb,hl,rfl⟩
section
variable {X:Cx}{pins:List (Addr×Obj)}{σ:St}{H:Hp}{s:Shared}{a:Addr}{y v:V}{u r:Value}{o:Option V}{A:Around}{E:Value→Shared→Prop}
theorem Inv.big (I:Inv X pins σ H s):sysModules<s.heap.objs.size:=by
 have h:mainGlobals<s.heap.objs.size:=(I.mod.glob.keeps I.bk).lt
 exact Nat.lt_trans (by decide) h
theorem K7 {Q:Value→Shared→Prop}(hu:A.units+1<cLine) (I:Inv X pins σ H s) (g:ju H a y o) (ry:RelV y u) (h:∀s',Inv X pins σ H s'→Q (.bool o.isSome) s'):
  wpAny (model X.prog X.w) A (compareOp .In u (.ref a)) Q E s:=by
 rcases g with ⟨kvs,k,e,ey,l⟩ |⟨kvs,k,b,e,ey,eb,l⟩
 ·subst ey
  obtain⟨z,hd,vs,rel,dd⟩:=sy I.ag e
  refine wpAny_in_of (sN ry) hd dd.mapOf ?_
  rw[←(rel.val k).vD,←l]
  exact h _ (I.tok _)
 ·subst ey
  cases (show u=Value.ref b from ry)
  obtain⟨z,hd,xs,rel,dd⟩:=sH I.ag e
  refine wpAny_in_heap (tupleKind_room_in1 hu) (W0 I.ag eb) hd dd ?_
  have q:=(rel.val k).vD
  rw[Option.isSome_map]at q
  rw[←q,←l]
  exact h _ (I.tok _)
theorem Ct {h':Heap}{t':Nat}{ob:HO}(I:Inv X pins σ H s) (mu:pR (H a)) (hs:Heap.SameBut a s.heap h') (he:∃q,h'.get? a=some q) (new:aP X.prog X.w (upd H a ob) h' a ob):
  Inv X pins σ (upd H a ob) {s with heap:=h',toks:=t'} :=
 I.write (x:=a) (e:=a) mu (.inl rfl) (fun b q hb z=> (hs.2 b hb).trans z) he new
theorem MP {P:Program}{w:World}{H':Hp}{h':Heap}{kvs:List (Key×V)}{vs:List (Key×Value)}(z:kvs.length≤sizeLine) (hd:(a==sysModules)=false) (rel:KV kvs vs) (dd:h'.DictOf (eF P w) a vs):
  aP P w H' h' a (.dK kvs):=⟨z,hd,vs,rel,dd⟩
theorem Pe {H':Hp}{Q:Unit→Shared→Prop}(hu:A.units+1<cLine) (I:Inv X pins σ H s) (g:nJ H a y v H') (ry:RelV y u) (rv:RelV v r) (h:∀s',Inv X pins σ H' s'→Q () s'):
  wpAny (model X.prog X.w) A (setItem (.ref a) u r) Q E s:=by
 rcases g with ⟨kvs,k,e,ey,l,eH⟩ |⟨kvs,k,b,e,ey,eb,l,eH⟩
 ·subst ey eH
  obtain⟨z,hd,vs,rel,dd⟩:=Mr I.ag e
  have hz:vs.length≤sizeLine:=by rw[←rel.length];exact z
  have hl:(putK kvs k v).length≤sizeLine:=by have:=YL kvs k v;omega
  refine wpAny_setItem_pairs (hsz:=hz) (sN ry) dd fun h' sr hs=>h _ ?_
  have he:∃q,h'.get? a=some q:=let ⟨q,_,_,hq,_⟩:=sr;⟨q,hq⟩
  exact Ct I (by rw[e];exact True.intro) hs he (MP hl hd (rel.put k rv) sr)
 ·subst ey eH
  cases (show u=Value.ref b from ry)
  obtain⟨z,hd,xs,rel,dd⟩:=Ms I.ag e
  have hz:xs.length≤sizeLine:=by rw[←Paired.length rel];exact z
  have hl:(putK kvs k v).length≤sizeLine:=by have:=YL kvs k v;omega
  refine wpAny_setItem_heap (hsz:=hz) (tupleKind_room_in1 hu) (W0 I.ag eb) dd fun h' sr hs=>h _ ?_
  obtain⟨q,es,ep,hq,h2,h3,h4,_,h5⟩:=sr
  refine Ct I (by rw[e];exact True.intro) hs ⟨q,hq⟩ ⟨hl,hd,_,(rel.put k eb rv).keeps fun c ys ec=> ?_,q,es,ep,hq,h2,h3,h4,h5⟩
  rw[Zg (Z7 ec e (fun z=>nomatch z))]
  exact ec
end
def Ee (ty td:TE):TE:=fun σ H Q=>ty σ H fun y H1=>td σ H1 fun x H2=> ∃a o,x=.ref a∧ju H2 a y o∧Q (.bl o.isSome) H2
def EN (td ty tv:TE):TS:=fun D σ H=>tv σ H fun v H1=>td σ H1 fun x H2=>ty σ H2 fun y H3=> ∃a H4,x=.ref a∧nJ H3 a y v H4∧D.nx σ H4
section
variable {X:Cx}{o i e value:Expr}{pos pos' Qc:Pos}{td ty tv:TE}
theorem Mm (hu:X.A.units+1<cLine) (hi:PE X i ty) (ho:PE X o td):PC X .In i o (Ee ty td):=by
 intro pins s σ H Q I h
 refine ar (hi pins s σ H _ I h) fun iv s1 ⟨y,H1,I1,ry,q1⟩=>ar (ho pins s1 σ H1 _ I1 q1) fun u s2 ⟨x,H2,I2,rx,a,ov,ex,g,q2⟩=> ?_
 subst ex
 obtain rfl:u=Value.ref a:=rx
 exact K7 hu I2 g ry fun s3 I3=> ⟨.bl ov.isSome,H2,I3,rfl,q2⟩
theorem CI (hu:X.A.units+1<cLine) (ho:PE X o td) (hi:PE X i ty) (hv:PE X value tv) (hs:swapsWith value (some (.Subscript o i pos')) pos.line X.env=pure false):
  PS X (.Assign [.Subscript o i pos'] value pos) (EN td ty tv):=by
 intro pins s σ H D I h
 refine wpAny_Assign_Subscript (ar (hv pins s σ H _ I h) fun r s1 ⟨v,H1,I1,rv,q1⟩=>ar (ho pins s1 σ H1 _ I1 q1) fun u s2 ⟨x,H2,I2,rx,q2⟩=>ar (hi pins s2 σ H2 _ I2 q2) fun iv s3 ⟨y,H3,I3,ry,a,H4,ex,g,q3⟩=> ?_) hs
 subst ex
 obtain rfl:u=Value.ref a:=rx
 exact Pe hu I3 g ry rv fun s4 I4=> ⟨σ,H4,I4,q3⟩
end
theorem OJ {P:Program}{w:World}{H:Hp}(h:Heap) (hb:sysModules<h.objs.size):aP P w H (h.push {cls:=.type "dict",data:=.dict #[]}) h.objs.size (.dK []):=
 ⟨Nat.zero_le _,beq_eq_false_iff_ne.mpr (Ne.symm (Nat.ne_of_lt hb)),[],.nil,Heap.DictOf.new h⟩
theorem Oc {P:Program}{w:World}{H:Hp}(h:Heap) (hb:sysModules<h.objs.size):aP P w H (h.push {cls:=.type "dict",data:=.dict #[]}) h.objs.size (.dT []):=
 ⟨Nat.zero_le _,beq_eq_false_iff_ne.mpr (Ne.symm (Nat.ne_of_lt hb)),[],.nil,_, #[],0,Heap.get?_push_size _ rfl,⟨rfl,rfl,rfl⟩,rfl,rfl,List.nodup_nil⟩
def Ed:TE:=fun _ H Q=> ∀p,H p=none→Q (.ref p) (upd H p (.dK []))
def Ec:TE:=fun _ H Q=> ∀p,H p=none→Q (.ref p) (upd H p (.dT []))
section
variable {X:Cx}{pos:Pos}
theorem Uj:PE X (.Dict [] [] pos) Ed:=fun pins s σ H Q I h=>
 wpAny_Dict_empty ⟨.ref s.heap.objs.size,_,I.laid (a:=s.heap.objs.size) (o:=.dK []) (t':=s.toks) (fun _ _ q=>Heap.get?_push_of_some _ q) (Nat.le_refl _) (OJ s.heap I.big),rfl,h _ (I.ag.fresh (Nat.le_refl _))⟩
theorem Ui:PE X (.Dict [] [] pos) Ec:=fun pins s σ H Q I h=>
 wpAny_Dict_empty ⟨.ref s.heap.objs.size,_,I.laid (a:=s.heap.objs.size) (o:=.dT []) (t':=s.toks) (fun _ _ q=>Heap.get?_push_of_some _ q) (Nat.le_refl _) (Oc s.heap I.big),rfl,h _ (I.ag.fresh (Nat.le_refl _))⟩
end
structure M1 (X:Cx) (o:Expr) (m:Str) (apos:Pos) (e:Expr) (bD:Pos):Prop where
 base:attributeBase o m X.env (eval o X.env)=eval o X.env
 Br:((backTo bD (starEach [e] X.env)).all (fun x=> !x.1)&&(backToKw bD (keywordEach [] X.env)).all (fun x=>x.1.isSome)
  &&decide (([e]:List Expr).length+([]:List Keyword).length+(if ([]:List Keyword).isEmpty then 0 else 1)<30))=true
 line:(apos.endLine==bD.line)=true
 trees:backTo bD (starEach [e] X.env)=[(false,eval e X.env)]
structure M2 (X:Cx) (o:Expr) (m:Str) (apos:Pos) (e f:Expr) (bD:Pos):Prop where
 base:attributeBase o m X.env (eval o X.env)=eval o X.env
 Br:((backTo bD (starEach [e,f] X.env)).all (fun x=> !x.1)&&(backToKw bD (keywordEach [] X.env)).all (fun x=>x.1.isSome)
  &&decide (([e,f]:List Expr).length+([]:List Keyword).length+(if ([]:List Keyword).isEmpty then 0 else 1)<30))=true
 line:(apos.endLine==bD.line)=true
 trees:backTo bD (starEach [e,f] X.env)=[(false,eval e X.env),(false,eval f X.env)]
def CU (H:Hp) (a:Addr):Prop:=(∃kvs,Rd H a (.dK kvs))∨∃kvs,Rd H a (.dT kvs)
theorem LR {X:Cx}{pins:List (Addr×Obj)}{σ:St}{H:Hp}{s:Shared}{a:Addr}(I:Inv X pins σ H s) (d:CU H a):
  s.TypeIs (.ref a) "dict" ∧(∀b,Value.ref a=.ref b→∃ob,s.heap.get? b=some ob∧ob.dict=none)∧(a==sysModules)=false:=by
 rcases d with ⟨kvs,e⟩ |⟨kvs,e⟩
 ·obtain⟨_,hd,vs,_,dd⟩:=sy I.ag e
  refine⟨dd.typeIs,fun b q=> ?_,hd⟩
  cases q
  obtain⟨ob,_,_,h1,h2,_⟩:=dd
  exact⟨ob,h1,h2.2.1⟩
 ·obtain⟨_,hd,xs,_,dd⟩:=sH I.ag e
  refine⟨dd.typeIs,fun b q=> ?_,hd⟩
  cases q
  obtain⟨ob,_,_,h1,h2,_⟩:=dd
  exact⟨ob,h1,h2.2.1⟩
section
variable {X:Cx}{pins:List (Addr×Obj)}{σ:St}{H:Hp}{s:Shared}{a:Addr}{y d:V}{u r:Value}{o:Option V}{A:Around}{E:Value→Shared→Prop}
theorem MO {Q:Value→Shared→Prop}(hu:A.units+1<cLine) (I:Inv X pins σ H s) (g:ju H a y o) (ry:RelV y u) (rd:RelV d r) (h:∀w' s',Inv X pins σ H s'→RelV (o.getD d) w'→Q w' s'):
  wpAny (model X.prog X.w) A (call (.builtin "dict.get") [.ref a,u,r]) Q E s:=by
 rcases g with ⟨kvs,k,e,ey,l⟩ |⟨kvs,k,b,e,ey,eb,l⟩
 ·subst ey
  obtain⟨z,hd,vs,rel,dd⟩:=sy I.ag e
  refine call_meetsIn PySem.F.slot_dict_get dd.typeIs PySem.F.entry_dict_get (PySem.F.args_dict_get_3 _ _ _) (meets_dict_get_default (eF X.prog X.w) a (sN ry) hd r) ⟨_,dd.mapOf,h _ _ (I.tok _) ?_⟩
  rw[l]
  exact(rel.val k).getD rd
 ·subst ey
  cases (show u=Value.ref b from ry)
  obtain⟨z,hd,xs,rel,dd⟩:=sH I.ag e
  refine call_meetsIn PySem.F.slot_dict_get dd.typeIs PySem.F.entry_dict_get (PySem.F.args_dict_get_3 _ _ _) (meetsH_dict_get_default (tupleKind (eF X.prog X.w)) a b hd r) ⟨tupleKind_room_in1 hu,k,xs,W0 I.ag eb,dd,h _ _ (I.tok _) ?_⟩
  rw[l]
  exact(rel.val k).getD rd
end
def Ef (td ty tx:TE):TE:=fun σ H Q=>td σ H fun x H1=> ∃a,x=.ref a∧CU H1 a∧ty σ H1 fun y H2=>tx σ H2 fun z H3=> ∃o,ju H3 a y o∧Q (o.getD z) H3
section
variable {X:Cx}{o e f:Expr}{apos bD:Pos}{td ty tx:TE}
theorem Uk (hu:X.A.units+1<cLine) (ho:PE X o td) (he:PE X e ty) (hf:PE X f tx) (m:M2 X o "get" apos e f bD):PE X (.Call (.Attribute o "get" apos) [e,f] [] bD) (Ef td ty tx):=by
 intro pins s σ H Q I h
 refine wpAny_Call_method m.base m.Br m.line PySem.F.plainAttrs_dict PySem.F.slot_dict_get PySem.F.type_dict_get (ar (ho pins s σ H _ I h) fun u s1 ⟨x,H1,I1,rx,a,ex,d,q1⟩=> ?_)
 subst ex
 obtain rfl:u=Value.ref a:=rx
 obtain⟨t1,t2,_⟩:=LR I1 d
 refine⟨t1,t2,?_⟩
 rw[m.trees]
 refine Calls.callWith_builtin rfl (Calls.evalArgs_plain (Calls.spliced_cons (ar (he pins s1 σ H1 _ I1 q1) fun iv s2 ⟨y,H2,I2,ry,q2⟩=>
  Calls.spliced_cons (ar (hf pins s2 σ H2 _ I2 q2) fun fv s3 ⟨z,H3,I3,rz,ov,g,q3⟩=>Calls.spliced_nil ?_))))
 exact MO hu I3 g ry rz fun w' s4 I4 fS=> ⟨_,H3,I4,fS,q3⟩
end
section
variable {κ:Type} [DecidableEq κ]
theorem N8 {kvs:List (κ×V)}{k:κ}(h:bE kvs k=none):¬k∈kvs.map (·.1):=by
 intro m
 obtain⟨p,hp,e⟩:=List.mem_map.mp m
 have q:(kvs.any fun kv=>decide (kv.1=k))=true:=List.any_eq_true.mpr ⟨p,hp,decide_eq_true e⟩
 rw[Yq,h]at q
 exact absurd q (by simp)
theorem Ng {kvs:List (κ×V)}{k:κ}{v:V}(h:bE kvs k=some v):k∈kvs.map (·.1):=by
 have q:(kvs.any fun kv=>decide (kv.1=k))=true:=by
  rw[Yq,h]
  all_goals rfl
 obtain⟨p,hp,e⟩:=List.any_eq_true.mp q
 exact List.mem_map.mpr ⟨p,hp,of_decide_eq_true e⟩
theorem WW:∀{l:List κ}{k:κ},l.Nodup→¬k∈l→(l++[k]).Nodup
 | [],k,_,_=>by simp
 |a::r,k,h,hk=>by
  obtain⟨h1,h2⟩:=List.nodup_cons.mp h
  show(a::(r++[k])).Nodup
  refine List.nodup_cons.mpr ⟨fun m=> ?_,WW h2 fun m=>hk (List.mem_cons.mpr (Or.inr m))⟩
  rcases List.mem_append.mp m with q |q
  ·exact h1 q
  ·exact hk (List.mem_cons.mpr (Or.inl (List.mem_singleton.mp q).symm))
end
def cF (scope:Scope) (env:Env):List (Str×Addr):=scope.names.foldl (fun cs y=>if y.2==.free then (y.1,(env.cells.lookup y.1).getD 0)::cs else cs) []
theorem Yi {scope:Scope}{env:Env}(h:∀y∈scope.names,y.2=.free→∃c,env.cells.lookup y.1=some c):closureFor scope env=pure (cF scope env):=by
 unfold closureFor cF
 have key:∀(l:List (Str×NameKind)) (cs:List (Str×Addr)),(∀y∈l,y.2=.free→∃c,env.cells.lookup y.1=some c)→
   (forIn l cs (fun x r=>match x with |(name,kind)=>if (kind==NameKind.free)=true then do let c ←cellOf env name;pure (ForInStep.yield ((name,c)::r)) else pure (ForInStep.yield r)):Sem (List (Str×Addr)))
    =pure (l.foldl (fun cs y=>if y.2==.free then (y.1,(env.cells.lookup y.1).getD 0)::cs else cs) cs):=by
  intro l
  induction l with
  |nil=>intro cs _;rfl
  |cons y l ih=>
   intro cs hl
   obtain⟨n,k⟩:=y
   rw[List.forIn_cons,List.foldl_cons]
   by_cases hk:k=.free
   ·subst hk
    obtain⟨c,hc⟩:=hl (n,.free) List.mem_cons_self rfl
    have aZ:env.cells.lookup n=some c:=hc
    have e1:cellOf env n=pure c:=by unfold cellOf;rw[aZ]
    simp only[beq_self_eq_true,if_true,e1,aZ,Option.getD_some,pure_bind]
    exact ih _ fun y hy=>hl y (List.mem_cons_of_mem _ hy)
   ·have hb:(k==NameKind.free)=false:=by simpa using hk
    simp only[hb,Bool.false_eq_true,if_false,pure_bind]
    exact ih _ fun y hy=>hl y (List.mem_cons_of_mem _ hy)
 simp only[key scope.names [] h,pure_bind]
 all_goals rfl
theorem Yt {scope:Scope}{env:Env}{x:Str}{c:Addr}(h:(cF scope env).lookup x=some c):c=(env.cells.lookup x).getD 0∧(x,NameKind.free)∈scope.names:=by
 unfold cF at h
 have key:∀(l:List (Str×NameKind)) (cs:List (Str×Addr)),(l.foldl (fun cs y=>if y.2==.free then (y.1,(env.cells.lookup y.1).getD 0)::cs else cs) cs).lookup x=some c→
   (c=(env.cells.lookup x).getD 0∧(x,NameKind.free)∈l)∨cs.lookup x=some c:=by
  intro l
  induction l with
  |nil=>intro cs h;exact .inr h
  |cons y l ih=>
   intro cs h
   obtain⟨n,k⟩:=y
   rw[List.foldl_cons]at h
   rcases ih _ h with ⟨h1,h2⟩ |h'
   ·exact .inl ⟨h1,List.mem_cons_of_mem _ h2⟩
   ·by_cases hk:k=.free
    ·subst hk
     simp only[beq_self_eq_true,if_true]at h'
     rw[List.lookup_cons]at h'
     cases hx:x==n with
     |true=>
      rw[hx]at h'
      have e:x=n:=by simpa using hx
      subst e
      have e':(env.cells.lookup x).getD 0=c:=Option.some.inj h'
      exact .inl ⟨e'.symm,List.mem_cons_self⟩
     |false=>rw[hx]at h';exact .inr h'
    ·have hb:(k==NameKind.free)=false:=by simpa using hk
     simp only[hb,Bool.false_eq_true,if_false]at h'
     exact .inr h'
 rcases key _ _ h with h |h
 ·exact h
 ·simp at h
theorem Wf {scope:Scope}{env:Env}{x:Str}(h:(x,NameKind.free)∈scope.names):∃c,(cF scope env).lookup x=some c:=by
 unfold cF
 have key:∀(l:List (Str×NameKind)) (cs:List (Str×Addr)),((x,NameKind.free)∈l∨∃c,cs.lookup x=some c)→∃c,(l.foldl (fun cs y=>if y.2==.free then (y.1,(env.cells.lookup y.1).getD 0)::cs else cs) cs).lookup x=some c:=by
  intro l
  induction l with
  |nil=>
   intro cs h
   rcases h with h |h
   ·simp at h
   ·exact h
  |cons y l ih=>
   intro cs h
   obtain⟨n,k⟩:=y
   rw[List.foldl_cons]
   refine ih _ ?_
   by_cases hk:k=.free
   ·subst hk
    simp only[beq_self_eq_true,if_true]
    rw[List.lookup_cons]
    cases hx:x==n with
    |true=>exact .inr ⟨_,rfl⟩
    |false=>
     rcases h with h |h
     ·rcases List.mem_cons.mp h with e |h
      ·have e1:x=n:=congrArg Prod.fst e
       simp[e1]at hx
      ·exact .inl h
     ·exact .inr h
   ·have hb:(k==NameKind.free)=false:=by simpa using hk
    simp only[hb,Bool.false_eq_true,if_false]
    rcases h with h |h
    ·rcases List.mem_cons.mp h with e |h
     ·exact absurd (congrArg Prod.snd e).symm hk
     ·exact .inl h
    ·exact .inr h
 exact key _ _ (.inl h)
def rl (env:Env) (y:Str×NameKind):Str×NameKind:=if (y.2==NameKind.free&&env.scope.kind==.function&&env.kindOf y.1==some .cell) then (y.1,NameKind.cell) else y
theorem Cf (env:Env) (y:Str×NameKind):(rl env y).1=y.1:=by unfold rl;split<;>rfl
theorem M9 {env:Env}{y:Str×NameKind}(h:y.2=.free):(rl env y).2=.cell∨(rl env y).2=.free:=by
 unfold rl;split
 ·exact .inl rfl
 ·exact .inr h
theorem NL {env:Env}{y:Str×NameKind}(h:y.2≠.free):rl env y=y:=by
 have hb:(y.2==NameKind.free)=false:=by simpa using h
 unfold rl;rw[hb];simp
theorem Y1 (scope:Scope) (env:Env):(relabel scope env).names=scope.names.map (rl env):=rfl
theorem WO {scope:Scope}{env:Env}{x:Str}(hc:∀y∈scope.names,y.2≠.cell) (h:(relabel scope env).names.lookup x=some .cell∨(relabel scope env).names.lookup x=some .free):(x,NameKind.free)∈scope.names:=by
 rw[Y1]at h
 have key:∀(l:List (Str×NameKind)),(∀y∈l,y.2≠.cell)→(∃k,(k=NameKind.cell∨k=.free)∧(l.map (rl env)).lookup x=some k)→(x,NameKind.free)∈l:=by
  intro l
  induction l with
  |nil=>rintro _ ⟨k,_,h⟩;simp at h
  |cons y l ih=>
   rintro hl ⟨k',cI,h⟩
   obtain⟨n,k⟩:=y
   have e1:(rl env (n,k))=(n,(rl env (n,k)).2):=Prod.ext (Cf env _) rfl
   rw[List.map_cons,e1,List.lookup_cons]at h
   cases hx:x==n with
   |true=>
    have e:x=n:=by simpa using hx
    subst e
    by_cases hk:k=.free
    ·subst hk;exact List.mem_cons_self
    ·rw[hx]at h
     rw[NL (env:=env) (y:=(x,k)) hk]at h
     have e:k=k':=Option.some.inj h
     subst e
     rcases cI with z |z
     ·exact absurd z (hl _ List.mem_cons_self)
     ·exact absurd z hk
   |false=>
    rw[hx]at h
    exact List.mem_cons_of_mem _ (ih (fun y hy=>hl y (List.mem_cons_of_mem _ hy)) ⟨k',cI,h⟩)
 refine key _ hc ?_
 rcases h with h |h
 ·exact⟨_,.inl rfl,h⟩
 ·exact⟨_,.inr rfl,h⟩
theorem Y0 {scope:Scope}{env:Env}{x:Str}(h:scope.names.lookup x=some .free):(relabel scope env).names.lookup x=some .cell∨(relabel scope env).names.lookup x=some .free:=by
 rw[Y1]
 have key:∀(l:List (Str×NameKind)),l.lookup x=some .free→(l.map (rl env)).lookup x=some .cell∨(l.map (rl env)).lookup x=some .free:=by
  intro l
  induction l with
  |nil=>intro h;simp at h
  |cons y l ih=>
   intro h
   obtain⟨n,k⟩:=y
   have e1:(rl env (n,k))=(n,(rl env (n,k)).2):=Prod.ext (Cf env _) rfl
   rw[List.map_cons,e1,List.lookup_cons]
   rw[List.lookup_cons]at h
   cases hx:x==n with
   |true=>
    rw[hx]at h
    have e:k=.free:=Option.some.inj h
    rcases M9 (env:=env) (y:=(n,k)) e with z |z
    ·exact .inl (congrArg some z)
    ·exact .inr (congrArg some z)
   |false=>rw[hx]at h;exact ih h
 exact key _ h
def aV (X:Cx) (N':List Str) (scope:Scope) (C:Addr) (s2:Shared) (H2:Hp) (fp:List Addr):Cx:=
 {X with N:=N',bS:=s2,js:=H2,env:=compEnvC scope (cF scope X.env) C X.env,outer:=X.stack,stack:=X.stack,ex:=fp,fn:=fun _=>false,pn:=[],xe:=fun _ _=>False}
def pK (so si:Scope) (N N':List Str) (ts:Nat) (bj:List Nat):Bool:=
 decide (si.kind=.function)&&si.names.all (fun y=>y.2 !=.cell)&&si.names.all (fun y=>y.2 !=.local||si.names.lookup y.1==some .local)
 &&si.names.all (fun y=>y.2 !=.free||so.names.lookup y.1==some .cell||so.names.lookup y.1==some .free)
 &&decide N'.Nodup&&decide (N'.length=ts+bj.length)
 &&(List.range bj.length).all (fun k=> (N'[ts+k]? ==(bj[k]?.bind fun j=>N[j]?))&&(N'[ts+k]?.isSome)&&(N'[ts+k]?.all fun x=>so.names.lookup x !=some .local&&si.names.lookup x==some .free))
def jl (ts:Nat) (bj:List Nat) (σ:St):St:=List.replicate ts none++bj.map fun j=> (σ[j]?).join
structure xR (X:Cx) (N':List Str) (ts:Nat) (bj:List Nat) (scope:Scope):Prop where
 kind:scope.kind=.function
 i9:∀y∈scope.names,y.2≠.cell
 names:∀y∈scope.names,y.2=.local→scope.names.lookup y.1=some .local
 free:∀y∈scope.names,y.2=.free→X.env.kindOf y.1=some .cell∨X.env.kindOf y.1=some .free
 nd:N'.Nodup
 len:N'.length=ts+bj.length
 Lo:∀k j,bj[k]? =some j→∃x,N'[ts+k]? =some x∧X.N[j]? =some x∧X.env.kindOf x≠some .local∧scope.names.lookup x=some .free
theorem Y7 {x:Str}{k:NameKind} :∀{l:List (Str×NameKind)},l.lookup x=some k→(x,k)∈l
 | [],h=>by simp at h
 |(n,j)::l,h=>by
  rw[List.lookup_cons]at h
  cases hx:x==n with
  |true=>
   rw[hx]at h
   have e:x=n:=by simpa using hx
   have e':j=k:=Option.some.inj h
   subst e e'
   exact List.mem_cons_self
  |false=>rw[hx]at h;exact List.mem_cons_of_mem _ (Y7 h)
theorem We {X:Cx}{N':List Str}{ts:Nat}{bj:List Nat}{scope:Scope}(h:pK X.env.scope scope X.N N' ts bj=true):xR X N' ts bj scope:=by
 unfold pK at h
 simp only[Bool.and_eq_true]at h
 obtain⟨⟨⟨⟨⟨⟨h1,h2⟩,h3⟩,h4⟩,h5⟩,h6⟩,h7⟩:=h
 refine⟨of_decide_eq_true h1,fun y hy z=> ?_,fun y hy z=> ?_,fun y hy z=> ?_,of_decide_eq_true h5,of_decide_eq_true h6,fun k j hk=> ?_⟩
 ·have q:=List.all_eq_true.mp h2 y hy
  rw[z]at q;exact absurd q (by decide)
 ·have q:=List.all_eq_true.mp h3 y hy
  rw[z]at q
  simpa using q
 ·have q:=List.all_eq_true.mp h4 y hy
  rw[z]at q
  simpa[Env.kindOf] using q
 ·have aC:k<bj.length:=(List.getElem?_eq_some_iff.mp hk).1
  have q:=List.all_eq_true.mp h7 k (List.mem_range.mpr aC)
  simp only[Bool.and_eq_true]at q
  obtain⟨⟨q1,q2⟩,q3⟩:=q
  obtain⟨x,hx⟩:=Option.isSome_iff_exists.mp q2
  rw[hx]at q1 q3
  rw[hk]at q1
  have e1:some x=X.N[j]? :=by simpa using q1
  have uY:(X.env.scope.names.lookup x !=some .local&&scope.names.lookup x==some .free)=true:=q3
  simp only[Bool.and_eq_true]at uY
  refine⟨x,hx,e1.symm,?_,by simpa using uY.2⟩
  have z:=uY.1
  intro e
  have e':X.env.scope.names.lookup x=some .local:=e
  rw[e']at z
  exact absurd z (by decide)
section
variable {X:Cx}{pins:List (Addr×Obj)}{σ:St}{H:Hp}{s:Shared}
theorem Nr {N':List Str}{ts:Nat}{bj:List Nat}{scope:Scope}{fp:List Addr}{h':Heap}{t':Nat}{m:Str→Option Value}{C:Addr}(S:xR X N' ts bj scope) (I:Inv X pins σ H s) (hf:∀b∈fp,cb X pins H b)
  (ho:∀b∈fp,∃o,s.heap.get? b=some o) (hC:s.heap.objs.size≤C) (hn:h'.Ns C m) (k:∀b o,s.heap.get? b=some o→h'.get? b=some o):
  Inv (aV X N' scope C s H fp) [] (jl ts bj σ) H {s with heap:=h',toks:=t'} :=by
 have sub:∀x c,(cF scope X.env).lookup x=some c→X.env.cells.lookup x=some c:=fun x c e=>by
  obtain⟨e1,e2⟩:=Yt e
  obtain⟨c',aZ⟩:=I.ok.has x (S.free _ e2 rfl)
  rw[aZ]at e1
  rw[aZ,e1];rfl
 have gq:∀b o,s.heap.get? b=some o→b≠C:=fun b o e=>Nat.ne_of_lt (Nat.lt_of_lt_of_le (Heap.lt_size e) hC)
 refine⟨⟨I.ok.mod,?_,I.ok.glob,I.ok.blt,hC,fun x y c e1 e2=>I.ok.inj x y c (sub x c e1) (sub y c e2),fun x hx=> ?_,fun x c z _=>absurd z Bool.false_ne_true,I.ok.hd,I.ok.frames,.inl rfl,fun b hb=> ?_,fun b o e=>I.bs b o e,Nat.le_trans I.ok.iP I.sz,fun b o e hb=> ?_,fun b hb=> ?_,I.stack,I.nY⟩,
  rfl,I.bare,Un.kept k,⟨m,hn,fun i x v e1 e2 e3=> ?_⟩,fun x c e=> ?_,I.ag.fresh hC,fun x c e=>I.fI x c (sub x c e),fun p hp=>absurd (show p∈([]:List (Addr×Obj)) from hp) (by simp),I.ag.kept k,?_⟩
 ·show(relabel scope X.env).kind=.function
  exact S.kind
 ·exact Wf (WO S.i9 hx)
 ·obtain⟨o,e⟩:=ho b hb
  refine⟨gq b o e,fun x c ec=> ?_⟩
  exact(hf b hb).2.2.2.2.1 x c (sub x c ec)
 ·obtain⟨e1,e2⟩:=I.bs b o e
  obtain⟨f0,f1,f2,f3,f4,f5⟩:=hf b hb
  rcases f3 with z |z
  ·exact I.ok.kL b o e z
  ·exact absurd (Nat.lt_of_lt_of_le (Heap.lt_size (I.ok.bs b o e).1) z) (Nat.lt_irrefl _)
 ·intro z
  obtain⟨f0,f1,f2,f3,f4,f5⟩:=hf b hb
  rcases List.mem_cons.mp (I.qp b z) with q |q
  ·exact f1 q
  ·exact f2 q
 ·-- the Qw values
  have hlen:¬i<ts:=fun aC=>by
   unfold jl at e2
   rw[List.getElem?_append_left (by simpa using aC),List.getElem?_replicate]at e2
   split at e2<;>cases e2
  have pJ:(bj.map fun j=> (σ[j]?).join)[i - ts]? =some (some v):=by
   unfold jl at e2
   rw[List.getElem?_append_right (by simpa using hlen),List.length_replicate]at e2
   exact e2
  rw[List.getElem?_map]at pJ
  cases hc:bj[i - ts]? with
  |none=>rw[hc]at pJ;cases pJ
  |some j=>
   rw[hc]at pJ
   have sf:(σ[j]?).join=some v:=Option.some.inj pJ
   have e4:σ[j]? =some (some v):=by
    cases q:σ[j]? with
    |none=>rw[q]at sf;cases sf
    |some o=>rw[q]at sf;exact congrArg some sf
   obtain⟨x',n1,n2,n3,n4⟩:=S.Lo _ _ hc
   have ei:ts+(i - ts)=i:=by omega
   rw[ei]at n1
   have ex:x=x':=by
    have lN:N'[i]? =some x:=e1
    rw[n1]at lN;exact(Option.some.inj lN).symm
   subst ex
   obtain⟨mX,QK,hl⟩:=I.loc
   have Dj:pO X.env.scope x:=by
    rcases S.free _ (Y7 n4) rfl with z |z
    ·exact .inr (.inl z)
    ·exact .inr (.inr z)
   obtain⟨u,ru,lk⟩:=hl j x v n2 e4 Dj
   refine⟨u,ru,?_⟩
   rcases lk with ⟨z,_⟩ |⟨z,c,ec,jX⟩
   ·exact absurd z n3
   ·obtain⟨c',aZ⟩:=Wf (env:=X.env) (Y7 n4)
    have:=sub x c' aZ
    rw[ec]at this
    cases this
    refine .inr ⟨?_,c,aZ,jX.keeps k⟩
    exact Y0 n4
 ·obtain⟨v,z⟩:=I.cell x c (sub x c e)
  exact⟨v,z.keeps k⟩
 ·show(jl ts bj σ).length=N'.length
  unfold jl
  rw[List.length_append,List.length_replicate,List.length_map,S.len]
end
def AccAt (h:Heap) (D:Addr) (ys:List V):Prop:=ys.length≤sizeLine∧∃(its:List Value) (n:Nat),Vals ys its∧h.get? D=some {cls:=.type "list",data:=.seq its.toArray n}
theorem AccAt.keep {h h':Heap}{D:Addr}{ys:List V}(a:AccAt h D ys) (k:∀o,h.get? D=some o→h'.get? D=some o):AccAt h' D ys:=by
 obtain⟨z,its,n,r,e⟩:=a
 exact⟨z,its,n,r,k _ e⟩
abbrev TC:=List V→St→Hp→(List V→St→Hp→Prop)→Prop
def nD (Y:Cx) (D:Addr) (m:Sem PySem.Fin→Sem PySem.Fin) (t:TC):Prop:=
 ∀(pins:List (Addr×Obj)) (s:Shared) (σ:St) (H:Hp) (ys:List V) (Q:List V→St→Hp→Prop) (k:Sem PySem.Fin) (R:PySem.Fin→Shared→Prop),Inv Y pins σ H s→cb Y pins H D→AccAt s.heap D ys→t ys σ H Q→
  (∀s' cf ak H',Inv Y pins ak H' s'→cb Y pins H' D→AccAt s'.heap D cf→Q cf ak H'→wpAny (model Y.prog Y.w) Y.A k R (fun _ _=>False) s')→wpAny (model Y.prog Y.w) Y.A (m k) R (fun _ _=>False) s
def yn (ifs:List Expr) (env:Env):Sem Bool:=forIn ifs true fun c r=>if r=true then do let ok ←isTrue c env (eval c env);pure (ForInStep.yield ok) else pure (ForInStep.yield r)
def lV (Y:Cx) (ifs:List Expr) (t:TT):Prop:=
 ∀(pins:List (Addr×Obj)) (s:Shared) (σ:St) (H:Hp) (Q:Bool→Hp→Prop),Inv Y pins σ H s→t σ H Q→wpAny (model Y.prog Y.w) Y.A (yn ifs Y.env) (TP Y pins σ Q) Y.xe s
def DK:TT:=fun _ H Q=>Q true H
section
variable {Y:Cx}{D:Addr}
theorem YC:lV Y [] DK:=fun pins s σ H Q I h=>wpAny_tests_nil ⟨H,I,h⟩
theorem YS {c:Expr}{t:TT}(hc:PT Y c t):lV Y [c] t:=fun pins s σ H Q I h=>wpAny_tests_one (hc pins s σ H Q I h)
def Ea (te:TE):TC:=fun ys σ H Q=>te σ H fun v H1=>ys.length<sizeLine∧Q (ys++[v]) σ H1
theorem AccAt.i9 {h:Heap}{ys:List V}(a:AccAt h D ys):∀b∈[D],∃o,h.get? b=some o∧∀v,o.data≠.cell v:=fun b hb=>by
 have e:b=D:=by simpa using hb
 subst e
 obtain⟨z,its,n,r,e⟩:=a
 exact⟨_,e,fun v z=>by
  have z':Data.seq its.toArray n=Data.cell v:=z
  cases z'⟩
theorem AccAt.through {h:Heap}{pins:List (Addr×Obj)}{ak:St}{H':Hp}{s':Shared}{ys:List V}(a:AccAt h D ys) (I:Inv Y (pins++i6 [D] h) ak H' s'):AccAt s'.heap D ys∧H' D=none:=by
 obtain⟨z,its,n,r,e⟩:=a
 have q:=I.pin (D,_) (List.mem_append_right _ (List.mem_append_right _ (Z0 (List.mem_singleton.mpr rfl) e)))
 exact⟨⟨z,its,n,r,q.1⟩,q.2.1⟩
theorem ZT {elt:Expr}{te:TE}(hx:Y.xe=fun _ _=>False) (he:PE Y elt te):
    nD Y D (fun k=> (do let _ ←call (.builtin "list.append") [.ref D,←eval elt Y.env]) >>=fun _=>k) (Ea te):=by
  intro pins s σ H ys Q k R I f a h hk
  refine wpAny_bind (wpAny_mono (Q:=fun _ s'=> ∃cf ak H',Inv Y pins ak H' s'∧cb Y pins H' D∧AccAt s'.heap D cf∧Q cf ak H') ?_ (fun _ s' ⟨cf,ak,H',q1,q2,q3,q4⟩=>hk s' cf ak H' q1 q2 q3 q4) fun _ _ z=>z)
  have I':=I.pinned (fp:=[D]) (fun b hb=>by have e:b=D:=by simpa using hb
                                            subst e;exact f) a.i9
  refine wpAny_bind (wpAny_mono (he _ s σ H _ I' h) (fun u s1 ⟨v,H1,I1,ru,hz,q⟩=> ?_) fun e s1 z=>by rw[hx]at z;exact z)
  obtain⟨a1,n1⟩:=a.through I1
  have f1:cb Y pins H1 D:=⟨n1,f.2⟩
  obtain⟨z,its,n,r,e⟩:=a1
  have hl:=r.length
  refine wpAny_bind (call_meets F.slot_list_append ⟨_,e,rfl⟩ F.entry_list_append (F.args_list_append_2 _ _) (PySem.list_append D its.toArray n u (by rw[List.size_toArray];omega)) ⟨e,wpAny_pure ?_⟩)
  have q2:=PySem.IsL.update e (·.push u)
  obtain⟨f0,g1,g2,g3,g4,g5⟩:=f1
  have I2:Inv Y pins σ H1 {s1 with heap:=s1.heap.update D (Obj.mapSeq (·.push u))} :=I1.iV.turned (t':=s1.toks) (it:=D) (fun b o hb eb=> (Heap.get?_update_other s1.heap _ (Ne.symm hb)).trans eb) f0 g1 g3 g4 g5
  refine⟨ys++[v],σ,H1,I2,⟨f0,g1,g2,g3,g4,g5⟩,⟨by rw[List.length_append,List.length_singleton];omega,its++[u],(if ((its.toArray.push u).size==its.toArray.size)=true then n else n+1),r.append (.cons ru .nil),?_⟩,q⟩
  have e3:its.toArray.push u=(its++[u]).toArray:=by simp
  rw[←e3]
  exact q2
def inner (elt:Expr) (gens:List Comprehension) (scope:Scope) (pos:Pos) (d:Nat) (acc:Value) (env:Env) (k:Sem PySem.Fin):Sem PySem.Fin:=
 match gens[d+1]? with
 |some g'=>eval g'.iter env >>=fun x=>standAt g'.iter.pos >>=fun _=>foldedSetIterable g'.iter env x >>=fun x=>holding [x] (pyIter x) >>=fun kO=>
  runOwn (.compStart (.ListComp elt gens scope pos) (d+1) kO acc env) env >>=fun _=>k
 |none=> (do let _ ←call (.builtin "list.append") [acc,←eval elt env]) >>=fun _=>k
set_option maxHeartbeats 400000 in
theorem UD (elt tg iter:Expr) (ifs:List Expr) (gens:List Comprehension) (scope:Scope) (pos:Pos) (d:Nat) (it acc:Value) (env:Env) (hg:gens[d]? =some ⟨tg,iter,ifs,0⟩) (h2:∀g',gens[d+1]? =some g'→g'.is_async=0):
  compTurn (.ListComp elt gens scope pos) d it acc env=(standAt iter.pos >>=fun _=>pyNext it >>=fun r=>match r with
   |none=>pure (.done .next)
   |some v=>letOwnedTupleGo tg it v >>=fun _=>assign tg env v >>=fun _=>yn ifs env >>=fun ok=>
    if ok=true then inner elt gens scope pos d acc env (again (.compLoop (.ListComp elt gens scope pos) d it acc env)) else again (.compLoop (.ListComp elt gens scope pos) d it acc env)):=by
 unfold compTurn inner
 dsimp only
 rw[hg]
 generalize hn:gens[d+1]? =o
 cases o with
 |none=>rfl
 |some g'=>
  have e:=h2 g' hn
  obtain⟨t',i',f',a'⟩:=g'
  have e':a'=0:=e
  subst e'
  rfl
def gF (g:TG) (tt:TT) (ti:TC) (J:It):TC:=fun ys σ H Q=> ∃W:Nat→Nat→List V→St→Hp→Prop,(∃m,W 0 m ys σ H)∧∀i m ys σ H,W i m ys σ H→
 (J.stop i H∧Q ys σ H)∨(J.go i H∧∃N:List V→St→Hp→Prop,(∀cf ak H',N cf ak H'→∃m',m'<m∧W (i+1) m' cf ak H')∧
  ∀x H',J.nP i H x H'→g x σ H' fun aS H2=>tt aS H2 fun b H3=>if b=true then ti ys aS H3 N else N ys aS H3)
theorem Pd {elt tg iter:Expr}{ifs:List Expr}{gens:List Comprehension}{scope:Scope}{pos:Pos}{d:Nat}{it:Addr}{fp:List Addr}{tn:Nat→Heap→Prop}{J:It}{g:TG}{tt:TT}{ti:TC}{pins:List (Addr×Obj)}{s:Shared}{σ:St}{H:Hp}{ys:List V}{Q:List V→St→Hp→Prop}
    (hx:Y.xe=fun _ _=>False) (hc:Y.calm=true) (hg:gens[d]? =some ⟨tg,iter,ifs,0⟩) (T:Turn Y.prog Y.w Y.K tg J fp it tn) (hf:∀b∈fp,cb Y pins H b) (st:tn 0 s.heap) (hD:D∉fp)
    (h2:∀g',gens[d+1]? =some g'→g'.is_async=0) (pg:PG Y tg g) (pt:lV Y ifs tt) (pi:nD Y D (inner elt gens scope pos d (.ref D) Y.env) ti)
    (I:Inv Y pins σ H s) (f:cb Y pins H D) (a:AccAt s.heap D ys) (h:gF g tt ti J ys σ H Q):
    codeAny (model Y.prog Y.w) Y.A (.compLoop (.ListComp elt gens scope pos) d (.ref it) (.ref D) Y.env) (fun r s'=>match r with
      | .ok _=> ∃cf ak H',Inv Y pins ak H' s'∧cb Y pins H' D∧AccAt s'.heap D cf∧Q cf ak H'
      | .error _=>False) s:=by
  obtain⟨W,⟨m0,w0⟩,turn⟩:=h
  have stat:∀{H':Hp},(∀b∈fp,H' b=none)→∀b∈fp,cb Y pins H' b:=fun hn b hb=> ⟨hn b hb,(hf b hb).2⟩
  refine codeAny_loop rfl (fun n s'=> ∃i cf ak H',Inv Y pins ak H' s'∧cb Y pins H' D∧AccAt s'.heap D cf∧tn i s'.heap∧(∀b∈fp,H' b=none)∧W i n cf ak H') (fun n s3 hI=> ?_) m0 ⟨0,ys,σ,H,I,f,a,st,fun b hb=> (hf b hb).1,w0⟩
  obtain⟨i,nO,gE,H3,I3,f3,a3,aF,r6,w3⟩:=hI
  show wpAny _ Y.A ((compTurn (.ListComp elt gens scope pos) d (.ref it) (.ref D) Y.env).onRaise (fun x=>do noteFrame x Y.env;theTreesLotGoes x)) _ _ s3
  refine wpAny_noted (wpAny_mono (E:=fun _ _=>False) ?_ (fun _ _ q=>q) fun _ _ z=>z.elim)
  rw[UD elt tg iter ifs gens scope pos d (.ref it) (.ref D) Y.env hg h2]
  refine wpAny_bind (wpAny_standAt (wpAny_bind ?_))
  have aD:∀{h h':Heap},(∀b o,b∉fp→h.get? b=some o→h'.get? b=some o)→∀{zs},AccAt h D zs→AccAt h' D zs:=fun k _ q=>q.keep fun o e=>k D o hD e
  have CV:=I3.pinned (fp:=[D]) (fun b hb=>by have e:b=D:=by simpa using hb
                                             subst e;exact f3) a3.i9
  have yH:∀b∈fp,cb Y (pins++i6 [D] s3.heap) H3 b:=fun b hb=>by
    obtain⟨g0,g1,g2,g3,g4,g5⟩:=stat r6 b hb
    refine⟨g0,g1,g2,g3,g4,fun p hp=> ?_⟩
    rcases List.mem_append.mp hp with z |z
    · exact g5 p (List.mem_append_left _ z)
    · rcases List.mem_append.mp z with z |z
      · exact g5 p (List.mem_append_right _ z)
      · intro q
        have e:p.1=D:=by simpa using (Jy z).1
        exact hD (by rw[←e,q];exact hb)
  rcases turn i n nO gE H3 w3 with ⟨stop,qn⟩ |⟨go,N,hN,step⟩
  · refine wpAny_mono (T.done Y rfl rfl rfl hc i _ s3 gE H3 (fun _ _=>False) CV yH aF stop) (fun r s4 ⟨hr,I4⟩=> ?_) fun _ _ z=>z
    subst hr
    obtain⟨a4,n4⟩:=a3.through I4
    exact wpAny_pure ⟨nO,gE,H3,I4.iV,f3,a4,qn⟩
  · refine wpAny_mono (T.item Y rfl rfl rfl hc i _ s3 gE H3 (fun _ _=>False) CV yH aF go) (fun r s4 ⟨u,hr,h4⟩=> ?_) fun _ _ z=>z
    subst hr
    refine wpAny_bind (wpAny_mono h4 (fun _ s5 ⟨x,H5,I5,r5,y5,dG,wM⟩=> ?_) fun _ _ z=>z)
    obtain⟨a5,n5⟩:=a3.through I5
    have f5:cb Y pins H5 D:=⟨n5,f3.2⟩
    have HE:∀b∈D::fp,∃o,s5.heap.get? b=some o∧∀v,o.data≠.cell v:=fun b hb=>by
      rcases List.mem_cons.mp hb with e |hb
      · exact a5.i9 b (by simp[e])
      · exact T.obj _ _ dG b hb
    have xO:=I5.iV.pinned (fp:=D::fp) (fun b hb=>by
      rcases List.mem_cons.mp hb with e |hb
      · rw[e];exact f5
      · exact stat wM b hb) HE
    refine wpAny_bind (wpAny_mono (pg _ s5 gE H5 x u _ xO r5 (step x H5 y5)) (fun _ s6 ⟨nM,H6,I6,q6⟩=> ?_) fun _ _ z=>by rw[hx]at z;exact z)
    refine wpAny_bind (wpAny_mono (pt _ s6 nM H6 _ I6 q6) (fun b s7 ⟨H7,I7,q7⟩=> ?_) fun _ _ z=>by rw[hx]at z;exact z)
    have zH:∀{dE:St}{H7:Hp}{s7:Shared},Inv Y (pins++i6 (D::fp) s5.heap) dE H7 s7→AccAt s7.heap D nO∧H7 D=none:=fun {dE H7 s7} J=>by
      obtain⟨z,its,n,r,e⟩:=id a5
      have q:=J.pin (D,_) (List.mem_append_right _ (List.mem_append_right _ (Z0 List.mem_cons_self e)))
      exact⟨⟨z,its,n,r,q.1⟩,q.2.1⟩
    have zG:∀{dE:St}{H7:Hp}{s7:Shared},Inv Y (pins++i6 (D::fp) s5.heap) dE H7 s7→tn (i+1) s7.heap∧∀b∈fp,H7 b=none:=fun {dE H7 s7} J=>by
      refine⟨T.keep _ _ _ dG fun b hb o e=> (J.pin (b,o) (List.mem_append_right _ (List.mem_append_right _ (Z0 (List.mem_cons_of_mem _ hb) e)))).1,fun b hb=> ?_⟩
      obtain⟨o,e,dd⟩:=T.obj _ _ dG b hb
      exact(J.pin (b,o) (List.mem_append_right _ (List.mem_append_right _ (Z0 (List.mem_cons_of_mem _ hb) e)))).2.1
    cases b with
    |false=>
     simp only[Bool.false_eq_true,if_false]at q7 ⊢
     obtain⟨m',hm,w7⟩:=hN _ _ _ q7
     obtain⟨a7,n7⟩:=zH I7
     obtain⟨t7,r7⟩:=zG I7
     exact wpAny_pure ⟨rfl,m',hm,i+1,nO,nM,H7,I7.iV,⟨n7,f3.2⟩,a7,t7,r7,w7⟩
    |true=>
     simp only[if_true]at q7 ⊢
     obtain⟨a7,n7⟩:=zH I7
     obtain⟨t7,r7⟩:=zG I7
     have Py:=I7.iV.pinned (fp:=fp) (stat r7) (T.obj _ _ t7)
     have f7:cb Y (pins++i6 fp s7.heap) H7 D:=by
       obtain⟨g0,g1,g2,g3,g4,g5⟩:=f3
       refine⟨n7,g1,g2,g3,g4,fun p hp=> ?_⟩
       rcases List.mem_append.mp hp with z |z
       · exact g5 p (List.mem_append_left _ z)
       · rcases List.mem_append.mp z with z |z
         · exact g5 p (List.mem_append_right _ z)
         · intro q
           exact hD (by rw[←q];exact(Jy z).1)
     refine pi _ s7 nM H7 nO N _ _ Py f7 a7 q7 fun s8 Df pZ H8 I8 f8 a8 q8=> ?_
     obtain⟨m',hm,w8⟩:=hN _ _ _ q8
     refine wpAny_pure ⟨rfl,m',hm,i+1,Df,pZ,H8,I8.iV,⟨f8.1,f3.2⟩,a8,T.keep _ _ _ t7 fun b hb o e=> (I8.pin (b,o) (List.mem_append_right _ (List.mem_append_right _ (Z0 hb e)))).1,fun b hb=> ?_,w8⟩
     obtain⟨o,e,dd⟩:=T.obj _ _ t7 b hb
     exact(I8.pin (b,o) (List.mem_append_right _ (List.mem_append_right _ (Z0 hb e)))).2.1
theorem U7 {elt tg iter:Expr}{ifs:List Expr}{gens:List Comprehension}{scope:Scope}{pos:Pos}{d:Nat}{it:Addr}{R:Result→Shared→Prop}{s:Shared}{A:Around}{prog:Program}{w:World}{env:Env}{acc:Value}{fp:List Addr}{tn:Nat→Heap→Prop}{J:It}{K:PySem.W.Frag}
  (hg:gens[d]? =some ⟨tg,iter,ifs,0⟩) (T:Turn prog w K tg J fp it tn) {i:Nat} (st:tn i s.heap) (h:codeAny (model prog w) A (.compLoop (.ListComp elt gens scope pos) d (.ref it) acc env) R s):
  codeAny (model prog w) A (.compStart (.ListComp elt gens scope pos) d (.ref it) acc env) R s:=by
 refine codeAny_of_tree ?_
 show wpAny _ _ ((compStart (.ListComp elt gens scope pos) d (.ref it) acc env).onRaise (fun x=>do noteFrame x env;standAt theWindowsPlace)) _ _ s
 refine wpAny_notedAt ?_
 have Io:(clausesOf (.ListComp elt gens scope pos))[d]? =some ⟨tg,iter,ifs,0⟩:=hg
 unfold compStart
 rw[Io]
 show wpAny _ _ (ask >>=_) _ _ s
 refine wpAny_bind (wpAny_askSetting (wpAny_ite ?_))
 split
 ·first
   |exact wpAny_bind (wpAny_pure (wpAny_pure (And.intro rfl h)))
   |exact wpAny_pure (And.intro rfl h)
 ·refine wpAny_bind (wpAny_rule ?_)
  show wpAny _ _ (standAt iter.pos >>=_) _ _ s
  exact wpAny_bind (wpAny_standAt (wpAny_bind (T.self A i s _ _ st (wpAny_pure (And.intro rfl h)))))
end
section
variable {X:Cx}{pins:List (Addr×Obj)}{σ:St}{H H':Hp}{s s':Shared}
theorem Wg {N':List Str}{scope:Scope}{C D:Addr}{fp:List Addr}{ak:St}{ys:List V}{pl:List (Addr×Obj)}{h':Heap}(I:Inv X pins σ H s) (hf:∀b∈fp,cb X pins H b) (hC:s.heap.objs.size≤C) (hD:s.heap.objs.size≤D) (jh:D≠C)
  (J:Inv (aV X N' scope C s H fp) pl ak H' s') (n:H' D=none) (a:AccAt s'.heap D ys) (sb:Heap.SameBut C s'.heap h'):Inv X pins σ (upd H' D (.lst ys)) {s' with heap:=h'} :=by
 have gq:∀b o,s.heap.get? b=some o→b≠C:=fun b o e=>Nat.ne_of_lt (Nat.lt_of_lt_of_le (Heap.lt_size e) hC)
 have FT:∀b o,s.heap.get? b=some o→b≠D:=fun b o e=>Nat.ne_of_lt (Nat.lt_of_lt_of_le (Heap.lt_size e) hD)
 have vq:∀b o,H b=some o→b≠D:=fun b o e=>Nat.ne_of_lt (Nat.lt_of_lt_of_le (I.ag.lt e) hD)
 have fC:H' C=none:=J.free
 have u:Un (aQ X.stack) fp H H' s.heap s'.heap:=J.base
 refine I.BP (s':= {s' with heap:=h'}) (ch:=fp) J.os ⟨fun b o e nb hb hx=> (sb.2 b (gq b o e)).trans (u.keep b o e nb hb hx),fun b o e nb hb hx=> ?_,fun b o e nb hx=>by rw[Zg (FT b o e)];exact u.free b o e nb hx,fun b o e hx=> ?_,
  fun b xs e=>by rw[Zg (vq b _ e)];exact u.fO b xs e,fun b o xs e=>by rw[Zg (vq b _ e)];exact u.fH b o xs e,fun b ps e=>by rw[Zg (vq b _ e)];exact u.fh b ps e⟩ (fun b v e=> ?_) J.bare fun b hb=> ?_
 ·obtain⟨sl,q⟩:=u.slot b o e nb hb hx
  exact⟨sl,(sb.2 b (gq b o e)).trans q⟩
 ·obtain⟨o',q⟩:=u.there b o e hx
  exact⟨o',(sb.2 b (gq b o e)).trans q⟩
 ·by_cases hb:b=D
  ·subst hb
   rw[Zc]at e
   cases e
   obtain⟨z,its,k,r,q⟩:=a
   exact⟨z,its,k,r,(sb.2 b jh).trans q⟩
  ·rw[Zg hb]at e
   refine(J.ag b v e).bz (fun c w hc q=> (sb.2 c ?_).trans q) (fun c q=>by rw[Zg (Ze q n)];exact q) fun c xs q=>by rw[Zg (Ze q n)];exact q
   rcases hc with z |z
   ·rw[z];exact Ze e fC
   ·exact Ze z fC
 ·obtain⟨f0,f1,f2,f3,f4,f5⟩:=hf b hb
  exact⟨f3,f1,f4,f5⟩
theorem Y9 {elt tg iter:Expr}{ifs:List Expr}{rest:List Comprehension}{scope:Scope}{pos:Pos}{N':List Str}{ts:Nat}{bj:List Nat}{it:Addr}{fp:List Addr}{tn:Nat→Heap→Prop}{J:It}{g:TG}{tt:TT}{ti:TC}{Q:List V→Hp→Prop}{E:Value→Shared→Prop}{RR:Value→Addr→Result→Shared→Prop}
  (S:xR X N' ts bj scope) (hc:X.calm=true) (I:Inv X pins σ H s) (T:Turn X.prog X.w X.K tg J fp it tn) (st:tn 0 s.heap) (hf:∀b∈fp,cb X pins H b)
  (h2:∀g',(Comprehension.mk tg iter ifs 0::rest)[0+1]? =some g'→g'.is_async=0)
  (pg:∀C,PG (aV X N' scope C s H fp) tg g) (pt:∀C,lV (aV X N' scope C s H fp) ifs tt)
  (pi:∀C D,nD (aV X N' scope C s H fp) D (inner elt (⟨tg,iter,ifs,0⟩::rest) scope pos 0 (.ref D) (aV X N' scope C s H fp).env) ti)
  (h:gF g tt ti J [] (jl ts bj σ) H fun ys _ H2=>Q ys H2)
  (IW:∀C D s' ak H' ys fl,s.heap.objs.size≤C→s.heap.objs.size≤D→D≠C→Inv (aV X N' scope C s H fp) [] ak H' s'→H' D=none→AccAt s'.heap D ys→Q ys H'→RR (.ref D) C (.ok fl) s'):
  wpAny (model X.prog X.w) X.A (newList []) (fun acc Ek=>wpAny (model X.prog X.w) X.A (newFunctionEnv scope X.env.globals (cF scope X.env) [] X.env.qual none .none (some X.env)) (fun BN Ej=>
   codeAny (model X.prog X.w) X.A (.compStart (.ListComp elt (⟨tg,iter,ifs,0⟩::rest) scope pos) 0 (.ref it) acc {BN with scope:=relabel scope X.env}) (RR acc BN.locals) Ej) E Ek) E s:=by
 refine wpAny_newObj_type (wpAny_newFunctionEnv S.i9 (by intro y hy;simp at hy) (fun oB vW rM=> ?_) S.kind)
 dsimp only at vW rM ⊢
 generalize wH:s.heap.push {cls:=.type "list",dict:=none,data:=.seq ([]:List Value).toArray} =h0 at vW rM ⊢
 have hC:h0.objs.size=s.heap.objs.size+1:=by rw[←wH,Heap.size_push]
 have jh:s.heap.objs.size≠h0.objs.size:=by rw[hC];exact Nat.ne_of_lt (Nat.lt_succ_self _)
 have wJ:s.heap.objs.size≤h0.objs.size:=by rw[hC];exact Nat.le_succ _
 have gq:∀b o,s.heap.get? b=some o→b≠h0.objs.size:=fun b o e=>Nat.ne_of_lt (Nat.lt_of_lt_of_le (Heap.lt_size e) wJ)
 have old:∀b o,s.heap.get? b=some o→oB.get? b=some o:=fun b o e=>rM.extBut b o (gq b o e) (Heap.get?_push_of_some _ (wH▸Heap.get?_push_of_some _ e))
 have wF:oB.get? s.heap.objs.size=some {cls:=.type "list",data:=.seq ([]:List Value).toArray 0} :=rM.extBut _ _ jh (Heap.get?_push_of_some _ (wH▸Heap.get?_push_size _ rfl))
 have ho:∀b∈fp,∃o,s.heap.get? b=some o:=fun b hb=>let ⟨o,e,_⟩:=T.obj _ _ st b hb;⟨o,e⟩
 have I1:Inv (aV X N' scope h0.objs.size s H fp) [] (jl ts bj σ) H {s with heap:=oB,toks:=s.toks+([]:List (Str×Value)).length} :=Nr S I hf ho wJ vW old
 have fresh:=I.ag.fresh (a:=s.heap.objs.size) (Nat.le_refl _)
 have KH:∀b∈fp,cb (aV X N' scope h0.objs.size s H fp) [] H b:=fun b hb=>by
  obtain⟨f0,f1,f2,f3,f4,f5⟩:=hf b hb
  refine⟨f0,(I1.ok.mY b hb).1,I1.ok.lL b hb,.inl hb,(I1.ok.mY b hb).2,fun p hp=>absurd (show p∈([]:List (Addr×Obj)) from hp) (by simp)⟩
 have fD:cb (aV X N' scope h0.objs.size s H fp) [] H s.heap.objs.size:=by
  refine⟨fresh,jh,fun z=> ?_,.inr (Nat.le_refl _),fun x c e z=> ?_,fun p hp=>absurd (show p∈([]:List (Addr×Obj)) from hp) (by simp)⟩
  ·obtain⟨_,o,cH,_⟩:=I.stack.mem z
   exact absurd (Heap.lt_size cH) (Nat.lt_irrefl _)
  ·obtain⟨e1,e2⟩:=Yt e
   obtain⟨c',aZ⟩:=I.ok.has x (S.free _ e2 rfl)
   obtain⟨v,q⟩:=I.cell x c' aZ
   rw[aZ]at e1
   have e3:c=c':=e1
   have l:=q.lt
   rw[←e3,z]at l
   exact absurd l (Nat.lt_irrefl _)
 have aD:AccAt oB s.heap.objs.size []:=⟨Nat.zero_le _,[],0,.nil,wF⟩
 have Kh:s.heap.objs.size∉fp:=fun z=>by obtain⟨o,e⟩:=ho _ z;exact absurd (Heap.lt_size e) (Nat.lt_irrefl _)
 have aw:tn 0 oB:=T.keep _ _ _ st fun b _ o e=>old b o e
 have run:=U7 (elt:=elt) (gens:=⟨tg,iter,ifs,0⟩::rest) (scope:=scope) (pos:=pos) (d:=0) rfl T aw
  (Pd (Y:=aV X N' scope h0.objs.size s H fp) (D:=s.heap.objs.size) (Q:=fun ys _ H2=>Q ys H2) (elt:=elt) (gens:=⟨tg,iter,ifs,0⟩::rest) (scope:=scope) (pos:=pos) (d:=0) rfl hc rfl T KH aw Kh h2 (pg _) (pt _) (pi _ _) I1 fD aD h)
 refine codeAny_mono run fun r s' hr=> ?_
 cases r with
 |error e=>exact hr.elim
 |ok fl=>
  obtain⟨cf,ak,H',q1,q2,q3,q4⟩:=hr
  exact IW _ _ s' ak H' cf fl wJ (Nat.le_refl _) jh q1 q2.1 q3 q4
end
def yw (wi:TI) (ts:Nat) (bj:List Nat) (g:TG) (tt:TT) (ti:TC):TE:=fun σ H Q=>wi σ H fun J H1=>gF g tt ti J [] (jl ts bj σ) H1 fun ys _ H2=> ∀p,H2 p=none→Q (.ref p) (upd H2 p (.lst ys))
section
variable {X:Cx}{elt tg iter:Expr}{ifs:List Expr}{rest:List Comprehension}{scope:Scope}{pos:Pos}{wi:TI}{g:TG}{tt:TT}{ti:TC}
theorem Yu (N':List Str) (ts:Nat) (bj:List Nat) (hi:PI X tg iter wi) (pg:∀C s H fp,PG (aV X N' scope C s H fp) tg g) (pt:∀C s H fp,lV (aV X N' scope C s H fp) ifs tt)
  (pi:∀C s H fp D,nD (aV X N' scope C s H fp) D (inner elt (⟨tg,iter,ifs,0⟩::rest) scope pos 0 (.ref D) (aV X N' scope C s H fp).env) ti)
  (ok:pK X.env.scope scope X.N N' ts bj=true:=by rfl) (hc:X.calm=true:=by rfl) (h2:∀g',(Comprehension.mk tg iter ifs 0::rest)[0+1]? =some g'→g'.is_async=0:=by(intro g' h;cases h<;>rfl))
  (hs:∀x,foldedSetIterable iter X.env x=pure x:=by intro _;rfl):
  PE X (.ListComp elt (⟨tg,iter,ifs,0⟩::rest) scope pos) (yw wi ts bj g tt ti):=by
 intro pins s σ H Q I h
 have S:=We ok
 rw[eval_ListComp]
 refine wpAny_comprehension_free (use:=none) rfl hs (Yi fun y hy e=>I.ok.has _ (S.free y hy e)) S.kind S.names (ar (hi pins s σ H _ I h) fun v s1 h1=>ar h1 fun kO s2 mT=> ?_)
 obtain⟨it,fp,tn,J,H2,e,I2,T,aj,f2,q2⟩:=mT
 subst e
 refine Y9 (RR:=fun acc C=>compPost (model X.prog X.w) X.A X.xe none _ acc C) S hc I2 T aj f2 h2 (fun C=>pg C _ _ _) (fun C=>pt C _ _ _) (fun C D=>pi C _ _ _ D) q2 ?_
 intro C D s' ak H' ys fl hC hD jh J' n a q
 obtain⟨m,hn,_⟩:=J'.loc
 exact⟨m,hn,fun h' sb=> ⟨.ref D,_,Wg I2 f2 hC hD jh J' n a sb,rfl,q D n⟩⟩
theorem JL (N':List Str) (ts:Nat) (bj:List Nat) {i:Nat}{x:Str}{px yK:Pos}(hN:X.N.Nodup) (fX:X.N[i]? =some x) (hx:Loc X.env.scope x) (hi:PI X tg iter wi) (pg:∀C s H fp,PG (aV X N' scope C s H fp) tg g) (pt:∀C s H fp,lV (aV X N' scope C s H fp) ifs tt)
  (pi:∀C s H fp D,nD (aV X N' scope C s H fp) D (inner elt (⟨tg,iter,ifs,0⟩::rest) scope pos 0 (.ref D) (aV X N' scope C s H fp).env) ti)
  (vO:swapsWith (.ListComp elt (⟨tg,iter,ifs,0⟩::rest) scope pos) (some (.Name x px)) yK.line X.env=pure true:=by rfl)
  (ok:pK X.env.scope scope X.N N' ts bj=true:=by rfl) (hc:X.calm=true:=by rfl) (h2:∀g',(Comprehension.mk tg iter ifs 0::rest)[0+1]? =some g'→g'.is_async=0:=by(intro g' h;cases h<;>rfl))
  (hs:∀x,foldedSetIterable iter X.env x=pure x:=by intro _;rfl) (fG:X.fn x=true∨X.env.scope.names.lookup x=some .local:=by first |exact .inl rfl |exact .inr rfl |assumption):
  PS X (.Assign [.Name x px] (.ListComp elt (⟨tg,iter,ifs,0⟩::rest) scope pos) yK) (nW (yw wi ts bj g tt ti) (fb i)):=by
 intro pins s σ H D I h
 have S:=We ok
 rw[exec_Assign_Name_used _ _ _ _ vO]
 refine wpAny_bind (wpAny_standAt (wpAny_bind ?_))
 show wpAny _ X.A (do let _ ←comprehension (.ListComp elt (⟨tg,iter,ifs,0⟩::rest) scope pos) scope X.env _ (newList []) false (eval iter X.env) (some (assign (.Name x px) X.env))) _ _ s
 refine wpAny_bind (wpAny_mono (wpAny_comprehension_free (use:=some (assign (.Name x px) X.env)) (Q:=fun _ s'=> ∃ak H',Inv X pins ak H' s'∧D.nx ak H') rfl hs (Yi fun y hy e=>I.ok.has _ (S.free y hy e)) S.kind S.names
  (ar (hi pins s σ H _ I h) fun v s1 h1=>ar h1 fun kO s2 mT=> ?_)) (fun _ s' hq=>wpAny_pure (wpAny_pure hq)) fun _ _ e=>e)
 obtain⟨it,fp,tn,J,H2,e,I2,T,aj,f2,q2⟩:=mT
 subst e
 refine Y9 (RR:=fun acc C=>compPost (model X.prog X.w) X.A X.xe (some (assign (.Name x px) X.env)) _ acc C) S hc I2 T aj f2 h2 (fun C=>pg C _ _ _) (fun C=>pt C _ _ _) (fun C D=>pi C _ _ _ D) q2 ?_
 intro C B s' ak H' ys fl hC hB Bj J' n a q
 obtain⟨m,hn,_⟩:=J'.loc
 have IX:Inv X pins σ (upd H' B (.lst ys)) s':=Wg I2 f2 hC hB Bj J' n a (Heap.SameBut.refl C s'.heap)
 have fC:=I2.j9 (H':=upd H' B (.lst ys)) (b:=C) hC (by rw[Zg (Ne.symm Bj)];exact J'.free)
 obtain⟨f0,f1,QW,f3,f4,f5⟩:=fC
 show wpAny _ X.A (assign (.Name x px) X.env (.ref B)) _ _ s'
 refine wpAny_assign_Name (Wy (v:=.ref B) (u:=.ref B) IX hN fX hx rfl (fun eE Pz ⟨c,sb,iM⟩=> ?_) fG)
 have Kj:C≠c:=by
  rcases iM with z |z
  ·rw[z];exact f1
  ·exact(f4 x c z).symm
 refine⟨m,Heap.Ns.sameBut hn sb Kj,fun h' EL=> ?_⟩
 refine⟨σ.set i (some (.ref B)),_,Pz.turned (t':=eE.toks) (it:=C) (fun b o hb e=> (EL.2 b hb).trans e) f0 f1 f3 f4 f5,q B n⟩
end
section
variable {X:Cx}
theorem ZE {c:String} :dD X (.builtin "isinstance") (fun xs H Q=> ∃x t b,xs=[x,.ty c]∧dX X.K H x t∧PySem.W.kitOne X.K t (.type c)=some b∧Q (.bl b) H):=by
 intro pins s σ H xs us Q I r h
 obtain⟨x,t,b,rfl,ty,e,q⟩:=h
 obtain⟨u,v,rfl,ru,rv⟩:=vals2 r
 cases rv
 exact Pj I ru ty e fun tk=> ⟨.bl b,H,I.tok tk,rfl,q⟩
theorem Jr (hc:X.calm=true:=by rfl):dD X (.builtin "all") (fun xs H Q=> ∃(p:Addr) (bs:List Bool),xs=[.ref p]∧ah X.K H p (bs.map V.bl)∧Q (.bl (bs.all id)) H):=by
 intro pins s σ H xs us Q I r h
 obtain⟨p,bs,rfl,hp,q⟩:=h
 obtain⟨u,rfl,ru⟩:=vals1 r
 cases ru
 obtain⟨its,rv,pl,hz⟩:=I.list hp
 have hb:∀(i:Nat) (v:Value),its.toArray[i]? =some v→v=.bool (bs.getD i false):=fun i v e=>by
  have e':its[i]? =some v:=by simpa using e
  have hl:=rv.length
  have hi:i<its.length:=(List.getElem?_eq_some_iff.mp e').1
  have bT:i< (bs.map V.bl).length:=by omega
  obtain⟨u,hu,ru⟩:=rv.get (i:=i) (x:=(bs.map V.bl)[i]) (by simp)
  rw[e']at hu
  cases hu
  rw[List.getElem_map]at ru
  have fY:i<bs.length:=by simpa using bT
  have e2:bs.getD i false=bs[i]:=by simp[List.getD_eq_getElem?_getD,fY]
  rw[e2]
  exact ru
 refine call_all_walk (wpAny_pyIter_list pl.isList ?_)
 have bP:p≠s.heap.objs.size:=Nat.ne_of_lt (by obtain⟨o,n,e,_⟩:=pl;exact Heap.lt_size e)
 refine⟨s.heap.objs.size,_,_,_,_,_,fun i=>bs.getD i false,rfl,Walks.list (A:=X.A.in1) (show X.A.in1.handled=none from I.ok.hd hc) s.heap.objs.size p bP its.toArray,⟨⟨_,Heap.get?_push_size _ rfl,rfl,rfl⟩,pl.isList.at fun o e=>Heap.get?_push_of_some _ e⟩,fun i v s' Q' E' hP hQ=> ?_,fun h' tk hk=> ?_⟩
 ·rw[hb i v hP]
  exact wpAny_truthy_bool hQ
 ·have e:(List.range its.toArray.size).all (fun i=>bs.getD i false)=bs.all id:=by
   have hl:its.toArray.size=bs.length:=by have:=rv.length;rw[List.length_map]at this;simpa using this.symm
   rw[hl,Bool.eq_iff_iff,List.all_eq_true,List.all_eq_true]
   constructor
   ·intro h b hb
    obtain⟨i,hi,e⟩:=List.mem_iff_getElem.mp hb
    have:=h i (List.mem_range.mpr hi)
    rw[List.getD_eq_getElem?_getD,List.getElem?_eq_getElem hi,Option.getD_some,e]at this
    exact this
   ·intro h i hi
    have bT:=List.mem_range.mp hi
    rw[List.getD_eq_getElem?_getD,List.getElem?_eq_getElem bT,Option.getD_some]
    exact h _ (List.getElem_mem bT)
  rw[e]
  refine⟨.bl (bs.all id),H,I.kept fun b o eb=>hk b o ?_ (Heap.get?_push_of_some _ eb),rfl,q⟩
  intro z
  have e1:b=s.heap.objs.size:=by simpa using z
  exact absurd (Heap.lt_size eb) (by rw[e1];exact Nat.lt_irrefl _)
def me (ns:List Int):Nat:=(PyProof.Rows.firstMet (fun i=>ns.getD i 0) ns.length).length
theorem Wr (hc:X.calm=true:=by rfl):dD X (.type "set") (fun xs H Q=> ∃(p:Addr) (ns:List Int),xs=[.ref p]∧ah X.K H p (ns.map V.int)∧ns.length≤1000∧∀q S,H q=none→Q (.ref q) (upd H q (.set S (me ns)))):=by
 intro pins s σ H xs us Q I r h
 obtain⟨p,ns,rfl,hp,hn,q⟩:=h
 obtain⟨u,rfl,ru⟩:=vals1 r
 cases ru
 obtain⟨its,rv,pl,hz⟩:=I.list hp
 have hl:=rv.length
 rw[List.length_map]at hl
 refine call_set_list (I.ok.hd hc) pl.isList (Wb rv) (by rw[List.size_toArray,←hl];unfold scanBound;omega) fun h' tk hs hk=> ?_
 have e:its.toArray.size=ns.length:=by simp[hl]
 rw[e]at hs
 exact⟨.ref s.heap.objs.size,_,I.laid (a:=s.heap.objs.size) (o:=.set _ (me ns)) (fun b o eb=>hk b o (Heap.lt_size eb) eb) (Nat.le_refl _) hs,rfl,q _ _ I.fresh⟩
theorem Wt:dD X (.builtin "len") (fun xs H Q=> ∃p S n,xs=[.ref p]∧H p=some (.set S n)∧Q (.int n) H):=by
 intro pins s σ H xs us Q I r h
 obtain⟨p,S,n,rfl,hp,q⟩:=h
 obtain⟨u,rfl,ru⟩:=vals1 r
 cases ru
 obtain⟨o,es,ep,t,h1,h2,h3,h4,h5,h6,h7,h8⟩:=(show aP X.prog X.w H s.heap p (.set S n) from I.ag p _ hp)
 refine call_len_set h1 h2 h3 h7 (by have:scanBound=4096:=rfl;omega) ⟨.int n,H,I.tok _,⟨_,by rw[h8]⟩,q⟩
theorem UF:dD X (.type "range") (fun xs H Q=> ∃j:Int,xs=[.int j]∧∀q,H q=none→Q (.ref q) (upd H q (.fT 0 j))):=by
 intro pins s σ H xs us Q I r h
 obtain⟨j,rfl,q⟩:=h
 obtain⟨u,rfl,ru⟩:=vals1 r
 obtain⟨t,rfl⟩:=ru
 refine call_range_1 ?_
 exact⟨.ref s.heap.objs.size,_,I.laid (a:=s.heap.objs.size) (o:=.fT 0 j) (fun b o eb=>Heap.get?_push_of_some _ eb) (Nat.le_refl _) ⟨_,_,_,Heap.get?_push_size _ rfl⟩,rfl,q _ I.fresh⟩
def upTo (n:Nat):List V:=(List.range n).map fun(i:Nat)=>V.int (i:Int)
theorem W2 {acc:Array Value}{n:Nat}(h:ItemsOf (fun i v=> ∃t,v=.int (0+i*1) t) acc n):Vals (upTo n) acc.toList:=by
 obtain⟨h1,h2⟩:=h
 obtain⟨l⟩:=acc
 have h1:l.length=n:=h1
 have h2:∀(j:Nat) (v:Value),l[j]? =some v→∃t,v=.int (j:Int) t:=fun j v e=>by
  obtain⟨t,q⟩:=h2 j v (by simpa using e)
  exact⟨t,by rw[q];congr 1;omega⟩
 have key:∀(l:List Value) (k:Nat),(∀(j:Nat) (v:Value),l[j]? =some v→∃t,v=.int ((k+j:Nat):Int) t)→Vals ((List.range' k l.length).map fun(i:Nat)=>V.int (i:Int)) l:=by
  intro l
  induction l with
  |nil=>intro k _;exact .nil
  |cons v l ih=>
   intro k h
   rw[List.length_cons,List.range'_succ,List.map_cons]
   obtain⟨t,e⟩:=h 0 v rfl
   refine .cons ⟨t,by rw[e];simp⟩ (ih (k+1) fun j w q=> ?_)
   obtain⟨t',e'⟩:=h (j+1) w (by simpa using q)
   exact⟨t',by rw[e'];congr 1;omega⟩
 have:=key l 0 (fun j v e=>by simpa using h2 j v e)
 unfold upTo
 rw[←h1,List.range_eq_range']
 exact this
theorem Ws (hc:X.calm=true:=by rfl):dD X (.type "list") (fun xs H Q=> ∃(p:Addr) (j:Int),xs=[.ref p]∧H p=some (.fT 0 j)∧0≤j∧j≤1000∧∀q,H q=none→Q (.ref q) (upd H q (.lst (upTo j.toNat)))):=by
 intro pins s σ H xs us Q I r h
 obtain⟨p,j,rfl,hp,h0,h1,q⟩:=h
 obtain⟨u,rfl,ru⟩:=vals1 r
 cases ru
 obtain⟨t,u,v,e⟩:=(show aP X.prog X.w H s.heap p (.fT 0 j) from I.ag p _ hp)
 refine call_list_range (n:=j.toNat) (I.ok.hd hc) e (small_one (by omega) (by omega) (by omega) (by omega)) (by rw[rangeSize_one];split<;>omega) (by omega) fun h' tk acc c' hk hS wF=> ?_
 have r2:=W2 wF
 have hlen:(upTo j.toNat).length≤sizeLine:=by unfold upTo;rw[List.length_map,List.length_range,sizeLine_eq];omega
 exact⟨.ref s.heap.objs.size,_,I.laid (a:=s.heap.objs.size) (o:=.lst (upTo j.toNat)) hk (Nat.le_refl _) ⟨hlen,acc.toList,c',r2,by simpa using hS⟩,rfl,q _ I.fresh⟩
theorem OB:ba X (binaryOp .Add) (fun x y H Q=> ∃a b ys,x=.ref a∧y=.ref b∧ai X.K H a []∧ai X.K H b ys∧Q (.ref b) H):=by
 intro pins s σ H x y u v Q I rx ry h
 obtain⟨a,b,ys,rfl,rfl,ha,hb,q⟩:=h
 cases rx
 cases ry
 obtain⟨its,rv,pl,hz⟩:=I.tuple ha
 obtain⟨kP,eR,cT,az⟩:=I.tuple hb
 cases rv
 obtain⟨⟨cls,dd,data,sl⟩,ho,lF,n,hd⟩:=id pl
 obtain⟨⟨Lm,sk,data2,kC⟩,ll,lG,n2,hd2⟩:=id cT
 simp only at lF hd lG hd2
 subst lF hd lG hd2
 exact concat_meets ⟨_,ho,rfl⟩ ⟨_,ll,rfl⟩ noFill_tuple_add seq_tuple_add PySem.F.slot_tuple_add PySem.F.entry_tuple_add (PySem.F.args_tuple_add_2 _ _)
   (tuple_addW0 a b #[] kP.toArray n n2 dd sk sl kC rfl) ⟨ho,ll,⟨.ref b,H,I,rfl,q⟩⟩
end
theorem J5 {K:PySem.W.Frag}{a:Addr}{xs:List V}{g:TG}{tt:TT}{ti:TC}{ys:List V}{σ:St}{H:Hp}{Q:List V→St→Hp→Prop}(Pv:Nat→List V→St→Hp→Prop) (h0:Pv 0 ys σ H)
  (hl:∀i ys σ H,i≤xs.length→Pv i ys σ H→ai K H a xs)
  (hs:∀i x ys σ H,xs[i]? =some x→Pv i ys σ H→g x σ H fun aS H2=>tt aS H2 fun b H3=>if b=true then ti ys aS H3 (Pv (i+1)) else Pv (i+1) ys aS H3)
  (hd:∀ys σ H,Pv xs.length ys σ H→Q ys σ H):gF g tt ti (xJ K a) ys σ H Q:=by
 refine⟨fun i m ys σ H=>m=xs.length - i∧i≤xs.length∧Pv i ys σ H,⟨xs.length,by simp,Nat.zero_le _,h0⟩,?_⟩
 rintro i m ys σ H ⟨rfl,hi,p⟩
 have q:=hl i ys σ H hi p
 by_cases aC:i<xs.length
 ·refine .inr ⟨⟨xs,xs[i],q,by simp[aC]⟩,Pv (i+1),fun cf ak H' p'=> ⟨xs.length - (i+1),by omega,rfl,aC,p'⟩,fun x H' y=> ?_⟩
  obtain⟨e,y⟩:=y
  subst e
  exact hs i x ys σ _ (y xs q) p
 ·have e:i=xs.length:=by omega
  subst e
  exact .inl ⟨⟨xs,q,Nat.le_refl _⟩,hd ys σ H p⟩
theorem YV {K:PySem.W.Frag}{a:Addr}{xs:List V}{g:TG}{tt:TT}{ti:TC}{ys:List V}{σ:St}{H:Hp}{Q:List V→St→Hp→Prop}(Pv:Nat→List V→St→Hp→Prop) (h0:Pv 0 ys σ H)
  (hl:∀i ys σ H,i≤xs.length→Pv i ys σ H→ah K H a xs)
  (hs:∀i x ys σ H,xs[i]? =some x→Pv i ys σ H→g x σ H fun aS H2=>tt aS H2 fun b H3=>if b=true then ti ys aS H3 (Pv (i+1)) else Pv (i+1) ys aS H3)
  (hd:∀ys σ H,Pv xs.length ys σ H→Q ys σ H):gF g tt ti (nE K a) ys σ H Q:=by
 refine⟨fun i m ys σ H=>m=xs.length - i∧i≤xs.length∧Pv i ys σ H,⟨xs.length,by simp,Nat.zero_le _,h0⟩,?_⟩
 rintro i m ys σ H ⟨rfl,hi,p⟩
 have q:=hl i ys σ H hi p
 by_cases aC:i<xs.length
 ·refine .inr ⟨⟨xs,xs[i],q,by simp[aC]⟩,Pv (i+1),fun cf ak H' p'=> ⟨xs.length - (i+1),by omega,rfl,aC,p'⟩,fun x H' y=> ?_⟩
  obtain⟨e,y⟩:=y
  subst e
  exact hs i x ys σ _ (y xs q) p
 ·have e:i=xs.length:=by omega
  subst e
  exact .inl ⟨⟨xs,q,Nat.le_refl _⟩,hd ys σ H p⟩
theorem J6 {lo:Int}{n:Nat}{g:TG}{tt:TT}{ti:TC}{ys:List V}{σ:St}{H:Hp}{Q:List V→St→Hp→Prop}(Pv:Nat→List V→St→Hp→Prop) (h0:Pv 0 ys σ H)
  (hs:∀i ys σ H,i<n→Pv i ys σ H→g (.int (lo+i)) σ H fun aS H2=>tt aS H2 fun b H3=>if b=true then ti ys aS H3 (Pv (i+1)) else Pv (i+1) ys aS H3)
  (hd:∀ys σ H,Pv n ys σ H→Q ys σ H):gF g tt ti (km lo n) ys σ H Q:=by
 refine⟨fun i m ys σ H=>m=n - i∧i≤n∧Pv i ys σ H,⟨n,by simp,Nat.zero_le _,h0⟩,?_⟩
 rintro i m ys σ H ⟨rfl,hi,p⟩
 by_cases aC:i<n
 ·refine .inr ⟨aC,Pv (i+1),fun cf ak H' p'=> ⟨n - (i+1),by omega,rfl,aC,p'⟩,fun x H' y=> ?_⟩
  obtain⟨e,y⟩:=y
  subst e y
  exact hs i ys σ _ aC p
 ·have e:i=n:=by omega
  subst e
  exact .inl ⟨Nat.le_refl _,hd ys σ H p⟩
theorem pb {X:Cx}{N':List Str}{scope:Scope}{C:Addr}{s:Shared}{H:Hp}{fp:List Addr}(i:Nat) {x:Str}{pos:Pos}(hN:N'.Nodup:=by decide+kernel) (hi:N'[i]? =some x:=by rfl) (hx:(relabel scope X.env).names.lookup x=some .local:=by rfl):
  PG (aV X N' scope C s H fp) (.Name x pos) (fb i):=ZB (X:=aV X N' scope C s H fp) hN hi (.inl hx) (.inr hx)
def Def (P:Program) (w:World) (K:PySem.W.Frag) (mg:Str→Option Value) (base:Heap) (k:Nat) (x:Str) (ps:List Str) (sp:Sp):Prop:=
 ∃f fd,aA P w K mg base aG k f fd ps sp∧mg x=some (.ref f)∧PySem.W.keepIn K (.ref f)=true∧Binds K fd ps []
section
variable {X:Cx}{k:Nat}{x:Str}{ps:List Str}{sp:Sp}{e:Expr}{es:List Expr}{t:TA}{p pos:Pos}
theorem Zj (d:Def X.prog X.w X.K X.mg X.base k x ps sp) (hr:bL k X.A) (ha:PA X (e::es) t) (hg:Gl X x:=by rfl) (jf:(x==("__debug__" :Str))=false:=by decide)
  (he:starEach (e::es) X.env=(false,eval e X.env)::starEach es X.env:=by rfl) (dj:(backTo pos (starEach es X.env)).any (·.1)=false:=by rfl):
  PE X (.Call (.Name x p) (e::es) [] pos) (tQ sp [] E0 t):=by
 obtain⟨f,fd,F,hm,hk,hb⟩:=d
 exact YT F hr hg hm hk hb .nil Fw ha jf he dj
end
def ck (K:PySem.W.Frag) (H:Hp) (x:V):Prop:=∃T,dX K H x (.type T)
def whole:V→Bool
 | .int _=>true
 |_=>false
def bM:V→Int→Int→Bool
 | .int i,a,b=>decide (a≤i)&&decide (i≤b)
 |_,_,_=>false
def tN:Option HO→Option (List V)
 |some (.tup xs)=>some xs
 |_=>none
def aY (H:Hp):V→Option (List V)
 | .ref a=>tN (H a)
 |_=>none
theorem Zw {H:Hp}{a:Addr} :aY H (.ref a)=tN (H a):=rfl
theorem Zx {H:Hp}{a:Addr}{xs:List V}(h:H a=some (.tup xs)):aY H (.ref a)=some xs:=by rw[Zw,h];rfl
theorem O5 {o:Option HO}{xs:List V}(h:tN o=some xs):o=some (.tup xs):=by
 cases o with
 |none=>cases h
 |some o=>cases o<;>first |(cases h;rfl) |cases h
theorem ZM {H:Hp}{x:V}{xs:List V}(h:aY H x=some xs):∃a,x=.ref a∧H a=some (.tup xs):=by
 cases x with
 |ref a=>exact⟨a,rfl,O5 h⟩
 |_=>cases h
theorem ae.aY {H H':Hp}(s:ae H H') {x:V}{xs:List V}(h:L2.aY H x=some xs):L2.aY H' x=some xs:=by
 obtain⟨a,rfl,q⟩:=ZM h
 exact Zx (s _ _ q)
theorem ae.gN {K:PySem.W.Frag}{H H':Hp}(s:ae H H') {x:V}(h:ck K H x):ck K H' x:=by
 obtain⟨T,t⟩:=h
 cases t with
 |af=>exact⟨_,.af⟩
 |bl y=>exact⟨_,.bl y⟩
 |int i=>exact⟨_,.int i⟩
 |str y=>exact⟨_,.str y⟩
 |ig y=>exact⟨_,.ig y⟩
 |lst e=>exact⟨_,.lst (s _ _ e)⟩
 |aT e=>exact⟨_,.aT (s _ _ e)⟩
 |tup e=>exact⟨_,.tup (s _ _ e)⟩
 |dK e=>exact⟨_,.dK (s _ _ e)⟩
 |dT e=>exact⟨_,.dT (s _ _ e)⟩
def vE:V→Bool
 | .int _=>true
 | .bl _=>true
 |_=>false
def Ac:V→Bool
 | .bl _=>true
 |_=>false
theorem Nu {K:PySem.W.Frag}{H:Hp}{x:V}{T:String}(t:dX K H x (.type T)):PySem.W.kitOne K (.type T) (.type "int")=some (vE x):=by cases t<;>rfl
theorem Oi {K:PySem.W.Frag}{H:Hp}{x:V}{T:String}(t:dX K H x (.type T)):PySem.W.kitOne K (.type T) (.type "bool")=some (Ac x):=by cases t<;>rfl
theorem OM {K:PySem.W.Frag}{H:Hp}{x:V}{T:String}(t:dX K H x (.type T)):PySem.W.kitOne K (.type T) (.type "tuple")=some (aY H x).isSome:=by
 cases t with
 |tup e=>rw[Zx e];rfl
 |lst e=>rw[Zw,e];rfl
 |aT e=>rw[Zw,e];rfl
 |dK e=>rw[Zw,e];rfl
 |dT e=>rw[Zw,e];rfl
 |_=>rfl
theorem Uv (x:V):whole x=(vE x&& !Ac x):=by cases x<;>rfl
def DO (i j k:Nat) (ta:TA):TS:=fun D σ H=>ta σ H fun vs H1=> ∃v w z,vs=[v,w,z]∧D.nx (((σ.set k (some z)).set j (some w)).set i (some v)) H1
theorem WS {X:Cx}{pos:Pos}{i j k:Nat}{x y z:Str}{a b c:Expr}{ta:TA}{px py pz pt:Pos}{kt k2 kH} (hc:X.calm=true) (hN:X.N.Nodup) (hi:X.N[i]? =some x) (hj:X.N[j]? =some y) (hk:X.N[k]? =some z)
  (hx:X.env.scope.names.lookup x=some .local) (hy:X.env.scope.names.lookup y=some .local) (hz:X.env.scope.names.lookup z=some .local) (ha:PA X [a,b,c] ta)
  (hw:swappedStores [.Tuple [.Name x px,.Name y py,.Name z pz] kt pt] (.Tuple [a,b,c] k2 kH) X.env=pure (some [x,y,z]):=by rfl)
  (hs:swapsWithSole [.Tuple [.Name x px,.Name y py,.Name z pz] kt pt] (.Tuple [a,b,c] k2 kH) pos.line X.env=pure false:=by rfl):
  PS X (.Assign [.Tuple [.Name x px,.Name y py,.Name z pz] kt pt] (.Tuple [a,b,c] k2 kH) pos) (DO i j k ta):=by
 intro pins s σ H D I h
 rw[exec_Assign_arm]
 refine wpAny_bind (wpAny_standAt ?_)
 rw[hs]
 refine wpAny_bind (wpAny_pure ?_)
 rw[if_neg (by decide)]
 refine wpAny_bind (Tuple_ (ar (ha _ pins s σ H _ I h) fun us s1 ⟨vs,H1,I1,r1,q1⟩=> ?_))
 obtain⟨v,w,t,e1,q1⟩:=q1
 subst e1
 obtain⟨u1,u2,u3,rfl,rv,fS,rt⟩:∃u1 u2 u3,us=[u1,u2,u3]∧RelV v u1∧RelV w u2∧RelV t u3:=by
  cases r1 with
  |cons p q=>
   cases q with
   |cons p' q'=>
    cases q' with
    |cons Fx Fg=>
     cases Fg
     exact⟨_,_,_,rfl,p,p',Fx⟩
 refine wpAny_newObj_type ?_ (by show 3≤sizeLine;decide)
 have I2:Inv X pins σ H1 {s1 with heap:=s1.heap.push {cls:=.type "tuple",data:=.seq [u1,u2,u3].toArray} } :=I1.kept (t':=s1.toks) fun b o e=>Heap.get?_push_of_some _ e
 rw[hw]
 refine wpAny_bind (wpAny_pure ?_)
 show wpAny (model X.prog X.w) X.A (do rule "assign.swapped-stores";let items ←unpackItems (.ref s1.heap.objs.size) 3 none;assignInOrder [fun v=>bindName X.env z v,fun v=>bindName X.env y v,fun v=>bindName X.env x v] items.reverse;pure Flow.next) _ _ _
 refine wpAny_bind (wpAny_rule (wpAny_bind (unpackItems_tuple (items:= #[u1,u2,u3]) (I.ok.hd hc) (IsTup.new s1.heap _) fun h' jb=> ?_)))
 have I3:=I2.kept (h':=h') (t':=s1.toks) fun b o e=>jb b o (Nat.ne_of_lt (Heap.lt_size e)) e
 show wpAny _ _ (assignInOrder [fun v=>bindName X.env z v,fun v=>bindName X.env y v,fun v=>bindName X.env x v] [u3,u2,u1] >>=fun _=>pure Flow.next) _ _ _
 refine wpAny_bind (assignInOrder_cons (wpAny_bindName (Ya I3 hN hk (.inl hz) rt (fun s2 I4=> ?_) (.inr hz))))
 refine assignInOrder_cons (wpAny_bindName (Ya I4 hN hj (.inl hy) fS (fun s3 I5=> ?_) (.inr hy)))
 refine assignInOrder_cons (wpAny_bindName (Ya I5 hN hi (.inl hx) rv (fun s4 I6=>assignInOrder_nil (wpAny_pure ?_)) (.inr hx)))
 exact⟨_,H1,I6,q1⟩
def aq (p:Addr) (H H':Hp):Prop:=∀b o,H b=some o→b≠p→H' b=some o
theorem aq.refl (p:Addr) (H:Hp):aq p H H:=fun _ _ h _=>h
theorem aq.trans {p:Addr}{H H1 H2:Hp}(a:aq p H H1) (b:aq p H1 H2):aq p H H2:=fun c o h n=>b c o (a c o h n) n
theorem ae.x {p:Addr}{H H1:Hp}(a:ae H H1):aq p H H1:=fun c o h _=>a c o h
theorem aq.upd {p:Addr}{H:Hp}{o:HO} :aq p H (L2.upd H p o):=fun b u h n=>by rw[Zg n];exact h
theorem Cb {X:Cx}(hu:X.A.units<cLine):ba X (compareOp .Eq) (fun x y H Q=> ∃(a b:Addr) (xs:List V),x=.ref a∧y=.ref b∧ah X.K H a xs∧ah X.K H b []∧Q (.bl xs.isEmpty) H):=by
 intro pins s σ H x y u v Q I rx ry h
 obtain⟨a,b,xs,rfl,rfl,ha,hb,q⟩:=h
 cases rx
 cases ry
 obtain⟨its,rv,pl,hz⟩:=I.list ha
 obtain⟨kP,eR,cT,az⟩:=I.list hb
 cases eR
 cases rv with
 |nil=>exact SeqAt.eq_listAt (e:=fun _=>true) pl.isList cT.isList rfl hu (fun j h1 h2=>absurd h2 (by simp)) ⟨.bl true,H,I,rfl,q⟩
 |cons r t=>exact SeqAt.eq_list_lengthsAt pl.isList cT.isList (by simp) hu ⟨.bl false,H,I,rfl,q⟩
theorem Cc {X:Cx}(hu:X.A.units<cLine):ba X (compareOp .NotEq) (fun x y H Q=> ∃(a b:Addr) (xs:List V),x=.ref a∧y=.ref b∧ah X.K H a xs∧ah X.K H b []∧Q (.bl (!xs.isEmpty)) H):=by
 intro pins s σ H x y u v Q I rx ry h
 obtain⟨a,b,xs,rfl,rfl,ha,hb,q⟩:=h
 cases rx
 cases ry
 obtain⟨its,rv,pl,hz⟩:=I.list ha
 obtain⟨kP,eR,cT,az⟩:=I.list hb
 cases eR
 cases rv with
 |nil=>exact SeqAt.RcNeAt.lists (e:=fun _=>true) pl.isList cT.isList rfl hu (fun j h1 h2=>absurd h2 (by simp)) _ _ _ _ ⟨.bl false,H,I,rfl,q⟩
 |cons r t=>exact SeqAt.RcNeAt.lists_lengths pl.isList cT.isList (by simp) hu _ _ _ _ ⟨.bl true,H,I,rfl,q⟩
section
variable {prog:Program}{w:World}{A:Around}{E:Value→Shared→Prop}{s:Shared}
theorem UY {j t:Addr}{i:Nat}{its:Array Value}{x:Value}{Q:Value→Shared→Prop}(h1:s.heap.IsTupleIter j t i) (h2:s.heap.IsTuple t its) (hx:its[i]? =some x)
  (k:∀h',h'.IsTupleIter j t (i+1)→Heap.SameBut j s.heap h'→Q x {s with heap:=h'}):wpAny (model prog w) A (Builtin.SmallTypes.nextOf (.ref j)) Q E s:=by
 obtain⟨o,eo,co,dO⟩:=id h1
 obtain⟨ot,et,_,nt,dt⟩:=h2
 unfold Builtin.SmallTypes.nextOf
 refine wpAny_bind (wpAny_callSpecial?_slot (name:=Str.ofString "__next__") h1.typeIs F.slot_tuple_iterator_next (wpAny_call_entry F.slot_tuple_iterator_next h1.typeIs F.entry_tuple_iterator_next ?_ (F.args_tuple_iterator_next_1 _)))
 show wpAny _ _ (field (.ref j) 0 >>=_) _ _ s
 refine wpAny_bind (wpAny_field eo dO (x:=.ref t) rfl ?_)
 show wpAny _ _ (if (Value.ref t==Value.none)=true then _ else _) _ _ s
 rw[if_neg (show ¬((Value.ref t==Value.none)=true) from Bool.false_ne_true)]
 show wpAny _ _ (field (.ref j) 1 >>=_) _ _ s
 refine wpAny_bind (wpAny_field eo dO (x:=.int i 0) rfl ?_)
 show wpAny _ _ (seqItems? (.ref t) >>=_) _ _ s
 refine wpAny_bind (wpAny_seqItems et dt ?_)
 simp only[Int.toNat_natCast,hx]
 refine wpAny_bind (wpAny_setField eo dO (by simp) (wpAny_pure ⟨x,rfl,wpAny_pure (k _ ⟨_,Heap.get?_update_self _ eo (Obj.isFreed_of_fields (Obj.data_mapFields dO _)),(Obj.cls_mapFields ..).trans co,?_⟩ (Heap.SameBut.update ..))⟩))
 rw[Obj.data_mapFields dO]
 simp[rawInt]
theorem OT {j t:Addr}{i:Nat}{its:Array Value}{Q:Value→Shared→Prop}(hh:A.handled=none) (h1:s.heap.IsTupleIter j t i) (h2:s.heap.IsTuple t its) (hx:its[i]? =none)
  (k:∀h' e,Heap.ExtBut j s.heap h'→(∃o,h'.get? e=some o∧o.cls=.type "StopIteration")→E (.ref e) {s with heap:=h'}):wpAny (model prog w) A (Builtin.SmallTypes.nextOf (.ref j)) Q E s:=by
 obtain⟨o,eo,co,dO⟩:=id h1
 obtain⟨ot,et,_,nt,dt⟩:=h2
 unfold Builtin.SmallTypes.nextOf
 refine wpAny_bind (wpAny_callSpecial?_slot (name:=Str.ofString "__next__") h1.typeIs F.slot_tuple_iterator_next (wpAny_call_entry F.slot_tuple_iterator_next h1.typeIs F.entry_tuple_iterator_next ?_ (F.args_tuple_iterator_next_1 _)))
 show wpAny _ _ (field (.ref j) 0 >>=_) _ _ s
 refine wpAny_bind (wpAny_field eo dO (x:=.ref t) rfl ?_)
 show wpAny _ _ (if (Value.ref t==Value.none)=true then _ else _) _ _ s
 rw[if_neg (show ¬((Value.ref t==Value.none)=true) from Bool.false_ne_true)]
 show wpAny _ _ (field (.ref j) 1 >>=_) _ _ s
 refine wpAny_bind (wpAny_field eo dO (x:=.int i 0) rfl ?_)
 show wpAny _ _ (seqItems? (.ref t) >>=_) _ _ s
 refine wpAny_bind (wpAny_seqItems et dt ?_)
 simp only[Int.toNat_natCast,hx]
 refine wpAny_bind (wpAny_rule (wpAny_bind (wpAny_setField eo dO (by simp) ?_)))
 show wpAny _ _ (newExc (.type "StopIteration") [] >>=_) _ _ _
 refine wpAny_bind ?_
 simp only[newExc,newTuple]
 refine wpAny_bind (wpAny_newObj_type ?_ (by size_fits))
 refine wpAny_bind (m:=firstArgMember _ _) (wpAny_of_eq (a:=Value.none) (by first |rfl |(simp only[firstArgMember];rfl)) (wpAny_newObj_type ?_ (by size_fits)))
 simp only[raiseNew]
 refine wpAny_bind (wpAny_handled ?_)
 first |rw[show A.in1.handled=none from hh] |rw[hh]
 exact wpAny_bind (wpAny_pure (wpAny_throw (k _ _ (((Heap.SameBut.update ..).extBut.push _).push _) ⟨_,Heap.get?_push_size _ rfl,rfl⟩)))
end
theorem BI {prog:Program}{w:World}{A:Around}(hh:A.handled=none) (j t:Addr) (bP:t≠j) (its:Array Value):
  Draws prog w A j [j,t] its.size (fun i v=>its[i]? =some v) (fun i h=>h.IsTupleIter j t i∧h.IsTuple t its) where
 live:=fun _ _ st=>let ⟨o,ho,_⟩:=st.1;⟨o,ho⟩
 frame:=fun _ _ _ st hk=> ⟨st.1.at fun o e=>hk j (by simp) o e,st.2.at fun o e=>hk t (by simp) o e⟩
 item:=fun i s Q E hi st hQ=>UY st.1 st.2 (x:=its[i]) (by simp[hi]) fun h' a b=>hQ _ h' s.toks (by simp[hi]) ⟨a,st.2.extBut b.extBut bP⟩ b
 done:=fun s Q E st hE=>OT hh st.1 st.2 (by simp) hE
section
variable {prog:Program}{w:World}{A:Around}{E:Value→Shared→Prop}{s:Shared}
theorem Pf (l:Addr) (its:Array Value) (n:Nat) (dU:Option Addr) (sl:Array (Option Value)):
  Meets (Builtin.«enumerate.__new__» ⟨[.type "enumerate",.ref l],[]⟩) (fun _ R s=>s.heap.get? l=some {cls:=.type "tuple",dict:=dU,data:=.seq its n,slots:=sl}∧
   R (.ok (.ret (.ref (s.heap.push {cls:=.type "tuple_iterator",data:=.fields #[.ref l,.int 0 0]}).objs.size)))
    {s with heap:=(s.heap.push {cls:=.type "tuple_iterator",data:=.fields #[.ref l,.int 0 0]}).push {cls:=.type "enumerate",data:=.fields #[.none,.bool false,.ref s.heap.objs.size,rawInt 0,.none,.none]} }):=
 .of_wp fun prog w A R s h=>by
  obtain⟨hp,g,d,tk,os⟩:=s
  obtain⟨hl,h⟩:=h
  have Hl:=sub_enumerate
  have hL:Heap.IsTuple (Shared.heap ⟨hp,g,d,tk,os⟩) l its:=⟨_,hl,rfl,n,rfl⟩
  wp_walk using AutoSeq1.wpAny_loadPart' hl
  refine wpAny_stack_any fun st=>wpAny_pure ?_
  split
  ·rename_i c _ _ _ _ _
   cases (c==Value.type "enumerate")<;> (wp_walk using AutoSeq1.wpAny_loadPart' hl,wpAny_pyIter_tuple hL;exact⟨_,rfl,h⟩)
  ·wp_walk using AutoSeq1.wpAny_loadPart' hl,wpAny_pyIter_tuple hL
   exact⟨_,rfl,h⟩
theorem U8 {l:Addr}{its:Array Value}{Q:Value→Shared→Prop}(hL:s.heap.IsTuple l its)
  (h:∀h',IsEnum h' (s.heap.objs.size+1) s.heap.objs.size 0 .none→h'.IsTupleIter s.heap.objs.size l 0→(∀b o,s.heap.get? b=some o→h'.get? b=some o)→Q (.ref (s.heap.objs.size+1)) {s with heap:=h'}):
  wpAny (model prog w) A (call (.type "enumerate") [.ref l]) Q E s:=by
 obtain⟨⟨c,dU,dt,sl⟩,hl,hc,n,hd⟩:=hL
 replace hc:c=.type "tuple" :=hc
 replace hd:dt=.seq its n:=hd
 subst hc hd
 refine callType_new F.called_enumerate (by decide) (F.typeCall_enumerate_1 _) (F.newCall_enumerate_1 _) (fun obj=>F.args_object_init_2 obj _) F.entry_enumerate_new (Pf l its n dU sl) ⟨hl,?_⟩
 have hz:(s.heap.push {cls:=.type "tuple_iterator",data:=.fields #[.ref l,.int 0 0]}).objs.size=s.heap.objs.size+1:=Heap.size_push ..
 show _∧_
 rw[hz]
 have he:IsEnum ((s.heap.push {cls:=.type "tuple_iterator",data:=.fields #[.ref l,.int 0 0]}).push {cls:=.type "enumerate",data:=.fields #[.none,.bool false,.ref s.heap.objs.size,rawInt 0,.none,.none]}) (s.heap.objs.size+1) s.heap.objs.size 0 .none:=by
  have q:=Heap.get?_push_size (s.heap.push {cls:=.type "tuple_iterator",data:=.fields #[.ref l,.int 0 0]}) (o:= {cls:=.type "enumerate",data:=.fields #[.none,.bool false,.ref s.heap.objs.size,rawInt 0,.none,.none]}) rfl
  rw[hz]at q
  exact q
 exact⟨⟨_,he,rfl⟩,h _ he ⟨_,Heap.get?_push_of_some _ (Heap.get?_push_size _ rfl),rfl,rfl⟩ fun b o x=>Heap.get?_push_of_some _ (Heap.get?_push_of_some _ x)⟩
end
def xK (K:PySem.W.Frag) (t:Addr):It:=
 ⟨fun i H=> ∃xs x,ai K H t xs∧xs[i]? =some x,fun i H x H'=> ∃(T:Addr) (y:V),x=.ref T∧H T=none∧H'=upd H T (.par [.int (i:Int),y])∧∀xs,ai K H t xs→xs[i]? =some y,fun i H=> ∃xs,ai K H t xs∧xs.length=i⟩
theorem O6 {P:Program}{w:World}{K:PySem.W.Frag}{elts:List Expr}{kk:Nat}{pos:Pos}(t e j:Addr) (rS:e≠j) (Am:t≠e) (Al:t≠j):
  Turn P w K (.Tuple elts kk pos) (xK K t) [e,j] e (fun i h=> (∃old,IsEnum h e j i old)∧h.IsTupleIter j t i) where
 mem:=by simp
 obj:=fun i h st b hb=>by
  obtain⟨⟨old,he⟩,o,ho,hc,hd⟩:=st
  rcases List.mem_cons.mp hb with rfl |hb
  ·exact⟨_,he,fun v z=>by cases z⟩
  ·rw[List.mem_singleton.mp hb]
   exact⟨o,ho,fun v z=>by rw[hd]at z;cases z⟩
 keep:=fun i h h' st k=> ⟨let ⟨old,he⟩:=st.1;⟨old,k e (by simp) _ he⟩,st.2.at fun o q=>k j (by simp) o q⟩
 item:=by
  intro X hP hw hK hc i pins s σ H E I hf st hg
  subst hP hw hK
  obtain⟨xs,x,hq,hx⟩:=hg
  obtain⟨its,rv,p,hz⟩:=I.tuple hq
  obtain⟨u,hu,ru⟩:=rv.get hx
  have hl:=rv.length
  have jd:i<its.toArray.size:=by
   have:=(List.getElem?_eq_some_iff.mp hu).1
   simpa using this
  have W:=WalksT.enumerateD (prog:=X.prog) (w:=X.w) (A:=X.A) (BI (A:=X.A.in1) (show X.A.in1.handled=none from I.ok.hd hc) j t Al its.toArray) e rS (by simp[rS,Am.symm]) (by simp)
  have hT:s.heap.IsTuple t its.toArray:=p
  refine W.item i s _ _ jd ⟨st.1,st.2,hT⟩ fun T vals h' tk hP fZ pe jQ hk=> ⟨_,rfl,W.go elts kk pos i T _ _ _ jQ fun dk da jW=> ?_⟩
  obtain⟨tO,x2,kU,rfl⟩:=hP
  have oC:its[i]? =some x2:=by simpa using kU
  rw[hu]at oC
  cases oC
  have hW:H T=none:=I.ag.fresh fZ
  have both:∀b o,b∉[e,j]→s.heap.get? b=some o→dk.get? b=some o:=fun b o hb q=>jW b o hb (hk b o hb q)
  have mP:T∉[e,j]:=W.apart _ _ _ jQ
  have pf:dk.IsTuple T #[.int i tO,u]:=pe.at fun o q=>jW T o mP q
  have neT:∀b o,s.heap.get? b=some o→b≠T:=fun b o q=>Nat.ne_of_lt (Nat.lt_of_lt_of_le (Heap.lt_size q) fZ)
  have cA:∀b o,H b=some o→b≠T:=fun b o q=>Ze q hW
  have bN:∀b o,H b=some o→b∉[e,j]:=fun b o q z=>by
   have:=(hf b z).1
   rw[this]at q;cases q
  refine⟨.ref T,upd H T (.par [.int (i:Int),x]),?_,rfl,⟨T,x,rfl,hW,rfl,fun ys hy=>by rw[I.qh hy hq];exact hx⟩,⟨da.1,da.2.1⟩,fun b hb=> ?_⟩
  ·refine(show Inv X pins σ (upd H T (.par [.int (i:Int),x])) {s with heap:=dk,toks:=tk} from ?_)
   refine I.call (g':=s.gens) (d':=s.drawn) (t':=tk) (h':=dk) (ch:=[e,j]) ⟨fun b o q _ _ hx=>both b o hx q,fun b o q _ _ hx=> ⟨o.slots,both b o hx q⟩,fun b o q n hx=>by rw[Zg (neT b o q)];exact n,fun b o q hx=> ⟨o,both b o hx q⟩,
    fun b ys q=>by rw[Zg (cA b _ q)];exact q,fun b o u q=>by rw[Zg (cA b _ q)];exact q,fun b ps q=> ⟨#[],by rw[Zg (cA b _ q),q];simp⟩⟩ (fun b v q=> ?_) I.bare fun b hb=> ?_
   ·by_cases hb:b=T
    ·subst hb
     rw[Zc]at q
     cases q
     exact⟨by show 2≤sizeLine;decide,[.int i tO,u],.cons ⟨tO,rfl⟩ (.cons ru .nil),pf⟩
    ·rw[Zg hb]at q
     refine(I.ag b v q).bz (fun c z aZ q'=>both c z ?_ q') (fun c q'=>by rw[Zg (cA c _ q')];exact q') fun c ys q'=>by rw[Zg (cA c _ q')];exact q'
     rcases aZ with z' |z'
     ·rw[z'];exact bN b v q
     ·exact bN c _ z'
   ·obtain⟨f0,f1,f2,f3,f4,f5⟩:=hf b hb
    exact⟨f3,f1,f4,f5⟩
  ·rw[Zg (fun z=>mP (by rw[←z];exact hb))]
   exact(hf b hb).1
 done:=by
  intro X hP hw hK hc i pins s σ H E I hf st hg
  subst hP hw hK
  obtain⟨xs,hq,hx⟩:=hg
  obtain⟨its,rv,p,hz⟩:=I.tuple hq
  have hl:=rv.length
  have W:=WalksT.enumerateD (prog:=X.prog) (w:=X.w) (A:=X.A) (BI (A:=X.A.in1) (show X.A.in1.handled=none from I.ok.hd hc) j t Al its.toArray) e rS (by simp[rS,Am.symm]) (by simp)
  have hn:i=its.toArray.size:=by rw[List.size_toArray];omega
  have hT:s.heap.IsTuple t its.toArray:=p
  rw[hn]at st
  refine W.done s _ _ ⟨st.1,st.2,hT⟩ fun h' tk hk=> ⟨rfl,?_⟩
  have bN:∀b o,H b=some o→b∉[e,j]:=fun b o q z=>by
   have:=(hf b z).1
   rw[this]at q;cases q
  refine I.call (g':=s.gens) (d':=s.drawn) (t':=tk) (h':=h') (ch:=[e,j]) ⟨fun b o q _ _ hx=>hk b o hx q,fun b o q _ _ hx=> ⟨o.slots,hk b o hx q⟩,fun b o q n hx=>n,fun b o q hx=> ⟨o,hk b o hx q⟩,fun b ys q=>q,fun b o u q=>q,fun b ps q=> ⟨#[],by rw[q];simp⟩⟩ (fun b v q=> ?_) I.bare fun b hb=> ?_
  ·refine(I.ag b v q).bz (fun c z aZ q'=>hk c z ?_ q') (fun _ q'=>q') fun _ _ q'=>q'
   rcases aZ with z' |z'
   ·rw[z'];exact bN b v q
   ·exact bN c _ z'
  ·obtain⟨f0,f1,f2,f3,f4,f5⟩:=hf b hb
   exact⟨f3,f1,f4,f5⟩
 self:=fun A i s Q E st h=>let ⟨old,he⟩:=st.1;wpAny_pyIter_enum he h
section
variable {X:Cx}{elts:List Expr}{kk:Nat}{tp:Pos}
def GO (K:PySem.W.Frag) (ta:TA):TI:=fun σ H R=>ta σ H fun vs H1=> ∃t,vs=[.ref t]∧(∃xs,ai K H1 t xs)∧R (xK K t) H1
theorem M5 {a:Expr}{ta:TA}{p pos:Pos}(hg:Gl X "enumerate") (hm:X.mg "enumerate" =none) (ha:PA X [a] ta) (hs:starEach [a] X.env=[(false,eval a X.env)]:=by rfl):PI X (.Tuple elts kk tp) (.Call (.Name "enumerate" p) [a] [] pos) (GO X.K ta):=by
 intro pins s σ H R I h
 refine Call_ (YM I hg hm boot_enumerate (PyProof.Rows.callWith_type1 (ar (ha pos pins s σ H _ I h) fun us s1 ⟨vs,H1,I1,r1,q1⟩=> ?_) hs rfl))
 obtain⟨t,e,⟨xs,hq⟩,q⟩:=q1
 subst e
 obtain⟨u,rfl,ru⟩:=vals1 r1
 cases ru
 obtain⟨its,rv,pl,hz⟩:=I1.tuple hq
 have hT:s1.heap.IsTuple t its.toArray:=pl
 have ht:t<s1.heap.objs.size:=by obtain⟨o,ho,_⟩:=hT;exact Heap.lt_size ho
 refine U8 hT fun h' he hj hk=>wpAny_pyIter_enum he ?_
 have I2:Inv X pins σ H1 {s1 with heap:=h'} :=I1.kept (t':=s1.toks) hk
 refine⟨s1.heap.objs.size+1,[s1.heap.objs.size+1,s1.heap.objs.size],_,_,H1,rfl,I2,O6 t _ _ (Nat.succ_ne_self _) (Nat.ne_of_lt (Nat.lt_succ_of_lt ht)) (Nat.ne_of_lt ht),⟨⟨_,he⟩,hj⟩,fun b hb=> ?_,q⟩
 have jZ:s1.heap.objs.size≤b:=by
  rcases List.mem_cons.mp hb with z |z
  ·rw[z];exact Nat.le_succ _
  ·rw[List.mem_singleton.mp z];exact Nat.le_refl _
 exact I1.j9 jZ (I1.ag.fresh jZ)
end
theorem OQ {K:PySem.W.Frag}{a:Addr}{xs:List V}{g:TG}{tt:TT}{ti:TC}{ys:List V}{σ:St}{H:Hp}{Q:List V→St→Hp→Prop}(Pv:Nat→List V→St→Hp→Prop) (h0:Pv 0 ys σ H)
  (hl:∀i ys σ H,i≤xs.length→Pv i ys σ H→ai K H a xs)
  (hs:∀i x T ys σ H,xs[i]? =some x→H T=none→Pv i ys σ H→g (.ref T) σ (upd H T (.par [.int (i:Int),x])) fun aS H2=>tt aS H2 fun b H3=>if b=true then ti ys aS H3 (Pv (i+1)) else Pv (i+1) ys aS H3)
  (hd:∀ys σ H,Pv xs.length ys σ H→Q ys σ H):gF g tt ti (xK K a) ys σ H Q:=by
 refine⟨fun i m ys σ H=>m=xs.length - i∧i≤xs.length∧Pv i ys σ H,⟨xs.length,by simp,Nat.zero_le _,h0⟩,?_⟩
 rintro i m ys σ H ⟨rfl,hi,p⟩
 have q:=hl i ys σ H hi p
 by_cases aC:i<xs.length
 ·refine .inr ⟨⟨xs,xs[i],q,by simp[aC]⟩,Pv (i+1),fun cf ak H' p'=> ⟨xs.length - (i+1),by omega,rfl,aC,p'⟩,fun x H' y=> ?_⟩
  obtain⟨T,z,e1,e2,e3,e4⟩:=y
  subst e1 e3
  exact hs i z T ys σ H (e4 xs q) e2 p
 ·have e:i=xs.length:=by omega
  subst e
  exact .inl ⟨⟨xs,q,rfl⟩,hd ys σ H p⟩
structure Fl (P:Program) (w:World) (outer:List Env) (H:Hp) (s:Shared) (e C:Addr) (H':Hp) (s':Shared):Prop where
 os:s'.os=s.os
 bare:AllBare s'.gens
 un:Un (aQ outer) [] H H' s.heap s'.heap
 ag:bg P w H' s'.heap
 wO:∃B a0,Heap.FlyingW B outer e (.ref C) a0 s'.heap∧(∀b o,s.heap.get? b=some o→b∉aQ outer→∃u,B.get? b=some u)∧∀b o,H' b=some o→∃u,B.get? b=some u
def bB (P:Program) (w:World):iw:=fun outer H s E ev s'=> ∃e C H',ev=.ref e∧Fl P w outer H s e C H' s'∧E (.ref e) (some C) H'
section
variable {P:Program}{w:World}{base:Heap}{env:Env}{outer:List Env}{s0 s1 s2:Shared}{H0 H1 H2:Hp}{e C L:Addr}{A:Around}
theorem YX {B h1 h2:Heap}{H:Hp}(x:bg P w H h1) (bR:∀b o,H b=some o→∃u,B.get? b=some u) (k1:B.StaysIn h1) (k2:B.StaysIn h2):bg P w H h2:=fun a o ha=>
  (x a o ha).bz (fun b u hb hq=>by
    have:∃u',B.get? b=some u':=by
      rcases hb with rfl |hb
      · exact bR _ _ ha
      · exact bR _ _ hb
    obtain⟨u',hu⟩:=this
    have e1:=k1 b u' hu
    rw[hq]at e1
    cases e1
    exact k2 b _ hu) (fun _ q=>q) fun _ _ q=>q
theorem JP {B h':Heap}(u0:Un (aQ outer) [] H0 H1 s0.heap s1.heap) (u1:Un (aQ (env::outer)) [] H1 H2 s1.heap s2.heap) (hf:env.frame=some L) (ab:s0.heap.objs.size≤L) (fu:s0.heap.FunFrames base outer) (fz:∀b∈aQ outer,H0 b=none)
  (bR:∀b o,s1.heap.get? b=some o→b∉aQ (env::outer)→∃u,B.get? b=some u) (k1:B.StaysIn s2.heap) (k2:B.StaysIn h') (up:s2.heap.UpToSlots h'):Un (aQ outer) [] H0 H2 s0.heap h':=by
 have mH:∀b,b∈aQ (env::outer)↔b=L∨b∈aQ outer:=fun b=>by
  show b∈(env::outer).filterMap (·.frame)↔_
  rw[List.filterMap_cons_some (f:=fun(x:Env)=>x.frame) (a:=env) (b:=L) hf,List.mem_cons]
  exact Iff.rfl
 have out:∀b o,s0.heap.get? b=some o→b∉aQ outer→b∉aQ (env::outer):=fun b o hb hn hm=>by
  rcases (mH b).mp hm with q |q
  ·rw[q]at hb
   exact absurd (Nat.lt_of_lt_of_le (Heap.lt_size hb) ab) (Nat.lt_irrefl _)
  ·exact hn q
 have vC:∀b o u,s2.heap.get? b=some o→B.get? b=some u→h'.get? b=some o:=fun b o u hb hu=>by
  have e1:=k1 b u hu
  rw[hb]at e1
  cases e1
  exact k2 b _ hu
 have md:∀b o,s0.heap.get? b=some o→b∈aQ outer→∃sl,h'.get? b=some {o with slots:=sl} :=fun b o hb hm=>by
  obtain⟨_,o',cH,nf⟩:=fu.mem hm
  rw[hb]at cH
  cases cH
  obtain⟨Et,e1⟩:=u0.slot b o hb (fz b hm) hm (by simp)
  have n1:=u0.free b o hb (fz b hm) (by simp)
  obtain⟨kC,e2⟩:=u1.slot b _ e1 n1 ((mH b).mpr (.inr hm)) (by simp)
  obtain⟨Es,e3⟩:=up b _ e2 nf
  exact⟨Es,e3⟩
 refine⟨fun b o hb hn AA _=> ?_,fun b o hb hn hm _=>md b o hb hm,fun b o hb hn hx=> ?_,fun b o hb _=> ?_,fun b xs hb=>u1.fO b xs (u0.fO b xs hb),fun b o u hb=>u1.fH b o u (u0.fH b o u hb),fun b ps hb=> ?_⟩
 ·have e1:=u0.keep b o hb hn AA (by simp)
  have n1:=u0.free b o hb hn (by simp)
  have hJ:=out b o hb AA
  have e2:=u1.keep b o e1 n1 hJ (by simp)
  obtain⟨u,hu⟩:=bR b o e1 hJ
  exact vC b o u e2 hu
 ·obtain⟨o1,e1⟩:=u0.there b o hb (by simp)
  have n1:=u0.free b o hb hn (by simp)
  exact u1.free b o1 e1 n1 (by simp)
 ·by_cases hm:b∈aQ outer
  ·obtain⟨sl,q⟩:=md b o hb hm
   exact⟨_,q⟩
  ·obtain⟨o1,e1⟩:=u0.there b o hb (by simp)
   obtain⟨u,hu⟩:=bR b o1 e1 (out b o hb hm)
   exact⟨u,k2 b u hu⟩
 ·obtain⟨m1,q1⟩:=u0.fh b ps hb
  obtain⟨m2,q2⟩:=u1.fh b _ q1
  exact⟨m1++m2,by rw[q2,Array.append_assoc]⟩
end
theorem Fv {P:Program}{w:World}{K:PySem.W.Frag}{mg:Str→Option Value}{base:Heap}{N:List Str}{qual:Str}{scope:Scope}{f:Addr}{cd:Value}{A:Around}{outer:List Env}{s:Shared}{H:Hp}{E:XK} :
  Passes (bB P w) (bJ (bB P w) P w K mg base N qual scope f cd A outer s H E) E:=by
 intro pins σ H1 s1 ev s2 I h
 obtain⟨e,C,H',rfl,F,hE⟩:=h
 obtain⟨B,a0,fl,bR,fJ⟩:=F.wO
 refine wpAny_leaves_onW (L:=s.heap.objs.size) I.ok.frames rfl fl fun h' lJ up=> ?_
 refine⟨e,C,H',rfl,⟨F.os.trans I.os,F.bare,JP (base:=base) (L:=s.heap.objs.size) I.base F.un rfl (Nat.le_refl _) I.ok.dB I.ok.gw bR fl.1 lJ.1 up,YX F.ag fJ fl.1 lJ.1,B,a0,lJ,fun b o hb hn=> ?_,fJ⟩,hE⟩
 obtain⟨o1,e1⟩:=I.base.there b o hb (by simp[bJ])
 refine bR b o1 e1 fun hm=> ?_
 have dA:b∈(envOfC qual scope s.heap.objs.size f cd::outer).filterMap (·.frame):=hm
 rw[List.filterMap_cons_some (f:=fun(x:Env)=>x.frame) (a:=envOfC qual scope s.heap.objs.size f cd) (b:=s.heap.objs.size) rfl]at dA
 rcases List.mem_cons.mp dA with q |q
 ·rw[q]at hb
  exact absurd (Heap.lt_size hb) (Nat.lt_irrefl _)
 ·exact hn q
theorem Np {K:PySem.W.Frag}{h:Heap}{C:Addr}{pL:List Value}{newId:String}(X:K.In h) (q:PySem.W.excIn K C pL newId=true):
  ∃bm N nm qn bs hdct sn sub ab col dd k0 k1 k2 k3 k5 mN,h.get? C=some (excClassObj nm qn C N bs bm hdct sn sub ab col dd k0 k1 k2 k3 k5 newId)∧h.Ns N mN∧mN "__init__" =none∧OwnTail h pL bm:=by
 unfold PySem.W.excIn at q
 split at q
 ·rename_i dd cd sl lk
  split at q
  ·rename_i c2 bm j0 j1 j2 j3 nn j5 em es
   rw[Bool.and_eq_true,Bool.and_eq_true,Bool.and_eq_true,Bool.and_eq_true,Bool.and_eq_true]at q
   obtain⟨⟨⟨⟨⟨q1,q2⟩,q3⟩,q4⟩,q5⟩,q6⟩:=q
   have z1:=beq_iff_eq.mp q1
   have z2:=beq_iff_eq.mp q2
   have z6:=beq_iff_eq.mp q6
   subst z1 z2
   have ob:=X _ _ lk
   have z3:cd.hasDel=false:=by revert q3;cases cd.hasDel<;>simp
   have zs:sl= #[j0,j1,j2,j3,some (.builtin nn),j5]:=by
    apply Array.toList_inj.mp
    rw[es]
   refine⟨bm,cd.ns,cd.name,cd.qualname,cd.bases,cd.hasDict,cd.slotNames,cd.subclasses,cd.abstract,cd.collection,dd,j0,j1,j2,j3,j5,h.nsMap cd.ns,?_,.of_isNs (PySem.W.isNs_of_in X q5),PySem.W.nsMap_none_of_in X q5 z6,PySem.W.tail_of_in X q4⟩
   rw[ob,zs]
   obtain⟨a1,a2,a3,a4,a5,a6,a7,a8,a9,a10,a11⟩:=cd
   cases em
   cases z3
   rfl
  ·cases q
 ·cases q
def DN (C:Addr) (E:XK) (ta:TA):TS:=fun _ σ H=>ta σ H fun vs H1=>vs.length≤sizeLine∧∀e,E (.ref e) (some C) H1
theorem Ur {P:Program}{w:World}{K:PySem.W.Frag}{mg:Str→Option Value}{base:Heap}{N:List Str}{qual:Str}{scope:Scope}{f:Addr}{cd:Value}{A:Around}{outer:List Env}{s s1:Shared}{H H1:Hp}{E:XK}
  {pins:List (Addr×Obj)}{σ:St}{h':Heap}{e C:Addr}{vs:List Value} (I:Inv (bJ (bB P w) P w K mg base N qual scope f cd A outer s H E) pins σ H1 s1) (mk:Heap.MadeExcOf s1.heap h' e (.ref C) vs) (hE:E (.ref e) (some C) H1):
  (bJ (bB P w) P w K mg base N qual scope f cd A outer s H E).xe (.ref e) {s1 with heap:=h'} :=by
 have rQ:∀env∈(envOfC qual scope s.heap.objs.size f cd::outer),∀b,env.frame=some b→b∈aQ (envOfC qual scope s.heap.objs.size f cd::outer):=fun env he b hb=>List.mem_filterMap.mpr ⟨env,he,hb⟩
 have st:=I.stack
 refine wpAny_leaves_madeW (L:=s.heap.objs.size) (base:=PySem.W.hideAll s1.heap (aQ (envOfC qual scope s.heap.objs.size f cd::outer))) (h:=s1.heap) I.ok.frames rfl (fun b o q=>PySem.W.of_hideAll _ q) (PySem.W.funFrames_hide st rQ) mk fun h2 t fl tp _ up=> ?_
 have bR:∀b o,s1.heap.get? b=some o→b∉aQ (envOfC qual scope s.heap.objs.size f cd::outer)→∃u,(PySem.W.hideAll s1.heap (aQ (envOfC qual scope s.heap.objs.size f cd::outer))).get? b=some u:=fun b o hb hn=> ⟨o,PySem.W.hideAll_get _ hb hn⟩
 have fJ:∀b o,H1 b=some o→∃u,(PySem.W.hideAll s1.heap (aQ (envOfC qual scope s.heap.objs.size f cd::outer))).get? b=some u:=fun b o hb=>by
  have hl:=I.ag.lt hb
  have hx:∃u,s1.heap.get? b=some u:=by
   have ok:=I.ag b o hb
   cases o with
   |lst xs=>obtain⟨_,_,_,_,q⟩:=ok;exact⟨_,q⟩
   |tup xs=>obtain⟨_,_,_,⟨ob,q,_⟩,_⟩:=ok;exact⟨_,q⟩
   |par xs=>obtain⟨_,_,_,ob,q,_⟩:=ok;exact⟨_,q⟩
   |dK kvs=>obtain⟨_,_,_,_,ob,_,_,q,_⟩:=ok;exact⟨_,q⟩
   |dT kvs=>obtain⟨_,_,_,_,ob,_,_,q,_⟩:=ok;exact⟨_,q⟩
   |set S n=>obtain⟨ob,_,_,_,q,_⟩:=ok;exact⟨_,q⟩
   |ins C dx fs=>obtain⟨_,_,_,q,_⟩:=ok;exact⟨_,q⟩
   |own y=>exact ok
   |xd fs=>obtain⟨_,⟨_,_,_,q,_⟩,_⟩:=ok;exact⟨_,q⟩
   |fT lo hi=>obtain⟨_,_,_,q⟩:=ok;exact⟨_,q⟩
   |aT ob u=>exact⟨_,ok.1⟩
   |cg ps=>exact⟨_,(show s1.heap.get? b=some _ from ok)⟩
   |met f y=>exact⟨_,(show s1.heap.get? b=some _ from ok)⟩
   |ext φ=>exact ok.2.1
  obtain⟨u,hu⟩:=hx
  exact bR b u hu fun hm=>by
   have:=I.nY b hm
   rw[this]at hb
   cases hb
 have k1:Heap.StaysIn (PySem.W.hideAll s1.heap (aQ (envOfC qual scope s.heap.objs.size f cd::outer))) h':=fun b o q=>mk.keeps b o (PySem.W.of_hideAll _ q)
 refine⟨e,C,H1,rfl,⟨I.os,I.bare,JP (s1:=s1) (s2:= {s1 with heap:=h'}) (base:=base) (L:=s.heap.objs.size) I.base (Un.kept mk.keeps) rfl (Nat.le_refl _) I.ok.dB I.ok.gw bR k1 fl.1 up,YX (I.ag.kept mk.keeps) fJ k1 fl.1,_,_,fl,fun b o hb hn=> ?_,fJ⟩,hE⟩
 obtain⟨o1,e1⟩:=I.base.there b o hb (by simp[bJ])
 refine bR b o1 e1 fun hm=> ?_
 have dA:b∈(envOfC qual scope s.heap.objs.size f cd::outer).filterMap (·.frame):=hm
 rw[List.filterMap_cons_some (f:=fun(x:Env)=>x.frame) (a:=envOfC qual scope s.heap.objs.size f cd) (b:=s.heap.objs.size) rfl]at dA
 rcases List.mem_cons.mp dA with q |q
 ·rw[q]at hb
  exact absurd (Heap.lt_size hb) (Nat.lt_irrefl _)
 ·exact hn q
theorem JU {P:Program}{w:World}{K:PySem.W.Frag}{mg:Str→Option Value}{base:Heap}{N:List Str}{qual:Str}{scope:Scope}{f:Addr}{cd:Value}{A:Around}{outer:List Env}{s:Shared}{H:Hp}{E:XK}{x:Str}{C:Addr}{B newId GF:String}{pL:List Value}
  {lK:Expr}{rest:List Expr}{np bD pos:Pos}{ta:TA} (FB:ExcBaseFacts B newId GF pL) (hmg:mg x=some (.ref C)) (hex:PySem.W.excIn K C pL newId=true) (hg:Gl (bJ (bB P w) P w K mg base N qual scope f cd A outer s H E) x)
  (ha:PA (bJ (bB P w) P w K mg base N qual scope f cd A outer s H E) (lK::rest) ta)
  (he:starEach (lK::rest) (envOfC qual scope s.heap.objs.size f cd)=(false,eval lK (envOfC qual scope s.heap.objs.size f cd))::starEach rest (envOfC qual scope s.heap.objs.size f cd):=by rfl)
  (dj:(backTo bD (starEach rest (envOfC qual scope s.heap.objs.size f cd))).any (·.1)=false:=by rfl) (hd:(x==("__debug__" :Str))=false:=by decide):
  PS (bJ (bB P w) P w K mg base N qual scope f cd A outer s H E) (.Raise (some (.Call (.Name x np) (lK::rest) [] bD)) none pos) (DN C E ta):=by
 intro pins s1 σ H1 D I h
 obtain⟨bm,Nn,nm,qn,bs,hdct,sn,sub,ab,col,dd,k0,k1,k2,k3,k5,mN,hC,hN,HH,T⟩:=Np I.mod.mC hex
 refine wpAny_Raise_call_subT (C:=C) (nm:=nm) (q:=qn) (N:=Nn) (bs:=bs) (bm:=bm) (hdct:=hdct) (sn:=sn) (sub:=sub) (ab:=ab) (col:=col) (dd:=dd) (k0:=k0) (k1:=k1) (k2:=k2) (k3:=k3) (k5:=k5)
  FB (mN:=mN) (T.hasType FB.hasBase) (I.ok.hd rfl) ?_ HH (Jj I hg hmg ⟨rfl,?_⟩ hd)
 ·show(backTo bD (starEach (lK::rest) (envOfC qual scope s.heap.objs.size f cd))).any (·.1)=false
  rw[he]
  show(false||(backTo bD (starEach rest (envOfC qual scope s.heap.objs.size f cd))).any (·.1))=false
  rw[dj]
  rfl
 ·have q:=ha bD pins s1 σ H1 _ I h
  show wpAny _ _ (evalArgs (.ref C) true (backTo bD (starEach (lK::rest) (envOfC qual scope s.heap.objs.size f cd))) []) _ _ _
  have q':wpAny (model P w) (A.deeper (envOfC qual scope s.heap.objs.size f cd)) (spliced (backTo bD (starEach (lK::rest) (envOfC qual scope s.heap.objs.size f cd)))) _ _ s1:=q
  rw[he]at q' ⊢
  refine Calls.evalArgs_plain (wpAny_mono q' (fun us s2 h2=> ?_) fun _ _ y=>y)
  obtain⟨vs,H2,I2,r,hz,hE⟩:=h2
  refine⟨rfl,by rw[←r.length];exact hz,I2.bk _ _ hC,hN.keeps I2.bk,T.keeps I2.bk,fun h' e mk=> ?_⟩
  exact Ur I2 mk (hE e)
section
variable {X:Cx}
def DY (ta tb:TE):TE:=fun σ H Q=>ta σ H fun v H1=> ∃x,v=.str x∧(Str.empty++x).length≤sizeLine∧tb σ H1 fun u H2=> ∃n:Int,u=.int n∧n.natAbs.log2<1920∧(Str.empty++x++(Str.ofString (toString n))).length≤sizeLine∧∀z,Q (.str z) H2
theorem M3 {a b:Expr}{ta tb:TE}{p pos:Pos}(ha:PE X a ta) (hb:PE X b tb):PE X (.JoinedStr [a,.FormattedValue b (-1) none p] pos) (DY ta tb):=by
 intro pins s σ H Q I h
 refine JoinedStr_many (joinParts_cons (wpAny_mono (ha pins s σ H _ I h) (fun u s1 h1=> ?_) fun _ _ y=>y))
 obtain⟨v,H1,I1,r1,x,rfl,hz,h2⟩:=h1
 obtain⟨t,rfl⟩:=r1
 refine⟨hz,joinParts_cons (FormattedValue_plain (wpAny_mono (hb pins s1 σ H1 _ I1 h2) (fun u s2 h3=> ?_) fun _ _ y=>y))⟩
 obtain⟨v,H2,I2,r2,n,rfl,hn,az,q⟩:=h3
 obtain⟨t2,rfl⟩:=r2
 refine formatField_int_small hn ⟨az,?_⟩
 refine joinParts_nil ?_ az
 exact⟨.str _,H2,(I2.tok _).tok _,⟨_,rfl⟩,q _⟩
end
section
variable {P:Program}{w:World}{K:PySem.W.Frag}{mg:Str→Option Value}{base:Heap}
theorem aH.i8 {x qual:Str}{st:Stmt}{f:Addr}{fd:FuncData}{N ps:List Str}{k:Nat}{sp:Sp}(F:aH K x qual st f fd) (S:bu N ps (ay st)) (len:∀vs H Q E,sp vs H Q E→vs.length=ps.length)
    (hb:∀(ao:Value) (A:Around) (outer:List Env) (s:Shared) (H:Hp) (vs:List V) (Q:VK) (E:XK),bL k (A.deeper (envOfC qual (ay st) s.heap.objs.size f ao))→sp vs H Q E→
      ∃t,eO (bJ (bB P w) P w K mg base N qual (ay st) f ao A outer s H E) (bI st) t∧t {nx:=fun _ H'=>Q .af H',rt:=Q} (start N vs) H):aA P w K mg base (bB P w) (k+1) f fd ps sp:=by
  obtain⟨oc,od,kV,doc,pm,an,ao,ct,eU,rfl,lk,cE⟩:=F.ex
  exact xx lk cE S len fun A outer s H vs Q E hr dh=>hb ao A outer s H vs Q E hr dh
def bV (P:Program) (w:World) (K:PySem.W.Frag) (mg:Str→Option Value) (base:Heap) (k:Nat) (x:Str) (ps:List Str) (sp:Sp):Prop:=
 ∃f fd,aA P w K mg base (bB P w) k f fd ps sp∧mg x=some (.ref f)∧PySem.W.keepIn K (.ref f)=true∧Binds K fd ps []
theorem Z4 {N:List Str}{qual:Str}{scope:Scope}{f:Addr}{cd:Value}{A:Around}{outer:List Env}{s:Shared}{H:Hp}{E:XK}{k:Nat}{x:Str}{ps:List Str}{sp:Sp}{e:Expr}{es:List Expr}{t:TA}{p pos:Pos}
  (d:bV P w K mg base k x ps sp) (hr:bL k (A.deeper (envOfC qual scope s.heap.objs.size f cd))) (ha:PA (bJ (bB P w) P w K mg base N qual scope f cd A outer s H E) (e::es) t) (hg:Gl (bJ (bB P w) P w K mg base N qual scope f cd A outer s H E) x:=by rfl)
  (jf:(x==("__debug__" :Str))=false:=by decide)
  (he:starEach (e::es) (envOfC qual scope s.heap.objs.size f cd)=(false,eval e (envOfC qual scope s.heap.objs.size f cd))::starEach es (envOfC qual scope s.heap.objs.size f cd):=by rfl)
  (dj:(backTo pos (starEach es (envOfC qual scope s.heap.objs.size f cd))).any (·.1)=false:=by rfl):
  PE (bJ (bB P w) P w K mg base N qual scope f cd A outer s H E) (.Call (.Name x p) (e::es) [] pos) (tQ sp [] E t):=by
 obtain⟨g,fd,F,hm,hk,hb⟩:=d
 exact YT F hr hg hm hk hb .nil Fv ha jf he dj
end
end L2
namespace L2
open PySem PySem.Spec PyProof.Rows PySem.Builtin PySem.Builtin.ObjectAttr PySem.Builtin.Getset_descriptor
def ka (e C:Addr):HO:=.ext fun h=> ∃o,h.get? e=some o∧o.cls=.ref C
structure lZ (K:PySem.W.Frag) (C:Addr):Prop where
 ga:PySem.W.findIn K (.ref C) "__getattribute__" =some (some (.builtin "BaseException.__getattribute__"))
 hook:PySem.W.findIn K (.ref C) "__getattr__" =some none
 cl:PySem.W.findIn K (.ref C) "__class__" =some (some (.builtin "object.__class__"))
 ob:PySem.W.mroIn K C (.type "object")=some true
 bx:PySem.W.mroIn K C (.type "BaseException")=some true
 cls:(PySem.W.clsIn K C).isSome=true
section
variable {prog:Program}{w:World}{A:Around}{E:Value→Shared→Prop}{s:Shared}{K:PySem.W.Frag}{e C:Addr}{o:Obj}{R:Result→Shared→Prop}
theorem JA {M:Model}{h:Heap}(hx:h.get? e=some o) (hc:o.cls=.ref C):PySem.W.Looks M h (typeOf (.ref e)) (.ref C):=hc▸(PySem.W.Looks.ld hx).andThen .now
theorem Og {tp:Value}(X:K.In s.heap) (hx:s.heap.get? e=some o) (hc:o.cls=.ref C) (Z:lZ K C) (h:R (.ok (.ret (.ref C))) s):
  codeAny (model prog w) A (.call (.builtin "getset_descriptor.__get__") ⟨[.builtin "object.__class__",.ref e,tp],[]⟩) R s:=by
 obtain⟨h0,g0,d0,t0,o0⟩:=s
 have LT:=JA (M:=model prog w) hx hc
 have LM:=PySem.W.looks_mroIn (M:=model prog w) X Z.ob
 refine codeAny_call_builtin PySem.W.KF.slot_gs.plain PySem.W.KF.entry_gs (PySem.W.KF.slot_gs.check _ _ _ _ _ _ _ _ PySem.W.KF.type_class (PySem.W.KF.args_gs _ _ _) ?_)
 unfold Builtin.«getset_descriptor.__get__» descrGet
 rw[PySem.W.dga_obj]
 refine wpAny_bind (wpAny_pure ?_)
 unfold descrGetter descrCheckInstance descrNameAndClass isInstance
 simp only[PySem.W.KF.owner_class]
 repeat lk
 refine⟨Code.quiet_builtin _ (by decide+kernel),codeAny_builtin PySem.W.KF.entry_class ?_⟩
 unfold Builtin.«object.__class__» shownTypeOf
 repeat lk
 exact h
theorem Pg {tk:Tok}{Q:PySem.Fin→Shared→Prop}(X:K.In s.heap) (hx:s.heap.get? e=some o) (hc:o.cls=.ref C) (Z:lZ K C) (hq:Q (.done (.ret (.ref C))) s):
  wpAny (model prog w) A (Builtin.«object.__getattribute__» ⟨[.ref e,.str "__class__" tk],[]⟩) Q E s:=by
 obtain⟨h0,g0,d0,t0,o0⟩:=s
 have LT:=JA (M:=model prog w) hx hc
 have LC:=PySem.W.looks_findIn (M:=model prog w) X Z.cl
 have QP:(⟨h0,g0,d0,t0,o0⟩:Shared).TypeIs (.builtin "object.__class__") "getset_descriptor" :=F.typeOf_object_class
 have f5:=F.typeOf_object_class
 have f6:=F.slot_gs_get.lookup
 have f7:=F.slot_gs_set.lookup
 repeat (any_goals (first |assumption |with_reducible refine LT.at ?_ |with_reducible refine LC.at ?_ |wp_step))
 refine Og (s:=⟨h0,g0,d0,t0,o0⟩) X hx hc Z ?_
 exact wpAny_pure hq
theorem Of {tk:Tok}(X:K.In s.heap) (hx:s.heap.get? e=some o) (hc:o.cls=.ref C) (Z:lZ K C) (hq:R (.ok (.ret (.ref C))) s):
  codeAny (model prog w) A (.call (.builtin "BaseException.__getattribute__") ⟨[.ref e,.str "__class__" tk],[]⟩) R s:=by
 refine codeAny_call_builtin F.attr_ValueError.ga.plain F.entry_bexc_ga ?_
 obtain⟨h0,g0,d0,t0,o0⟩:=s
 have LT:=JA (M:=model prog w) hx hc
 have LB:=PySem.W.looks_mroIn (M:=model prog w) X Z.bx
 have hk:builtinKind "BaseException.__getattribute__" =some .slot:=by decide+kernel
 have dh:splitId "BaseException.__getattribute__" =some ("BaseException", "__getattribute__"):=by decide+kernel
 have ha:=F.args_bexc_ga (.ref e) (.str "__class__" tk)
 simp only[checkBuiltinCall,hk,dh]
 have LI:PySem.W.Looks (model prog w) h0 (isInstance (.ref e) (.type "BaseException")) true:=LT.andThen LB
 refine wpAny_bind (LI.at ?_)
 repeat (first |exact Pg (s:=⟨h0,g0,d0,t0,o0⟩) X hx hc Z hq |assumption |wp_step)
theorem Oe {Q:Option Value→Shared→Prop}(X:K.In s.heap) (hx:s.heap.get? e=some o) (hc:o.cls=.ref C) (Z:lZ K C) (hq:Q (some (.ref C)) {s with toks:=s.toks+1}):
  wpAny (model prog w) A (getAttr? (.ref e) "__class__") Q E s:=by
 obtain⟨h0,g0,d0,t0,o0⟩:=s
 have LT:=JA (M:=model prog w) hx hc
 have L1:=PySem.W.looks_findIn (M:=model prog w) X Z.ga
 have L2:=PySem.W.looks_findIn (M:=model prog w) X Z.hook
 have f3:=F.attr_ValueError.ga.bind (.ref e)
 have kU:(Value.builtin "BaseException.__getattribute__" ==Value.builtin "object.__getattribute__")=false:=by decide+kernel
 have vH:(onTheHeap (Value.ref C)&&Value.builtin "BaseException.__getattribute__" ==Value.builtin "object.__getattribute__")=false:=by rw[kU];rfl
 unfold getAttr? getAttrBy? getAttrBy
 refine wpAny_bind (wpAny_mkText (wpAny_bind (wpAny_attempt (wpAny_holding (wpAny_bind (LT.at (wpAny_bind (L1.at ?_))))))))
 repeat (any_goals (first |assumption |with_reducible refine L2.at ?_ |wp_step))
 refine Of (s:=⟨h0,g0,d0,t0+1,o0⟩) X hx hc Z ?_
 repeat (any_goals (first |assumption |wp_step))
theorem Oj (Z:lZ K C):PySem.W.KitX K (.ref e) (.ref C) (fun h=> ∃o,h.get? e=some o∧o.cls=.ref C) where
 ty:=fun M h _ ⟨o,hx,hc⟩=>JA hx hc
 it:=fun M h X _=>by
  obtain⟨cd,cE⟩:=Option.isSome_iff_exists.mp Z.cls
  unfold PySem.W.clsIn at cE
  split at cE
  ·rename_i lk
   intro A2 Q2 E2 s2 k q
   unfold isType loadHead
   exact wpAny_bind (wpAny_loadPart (k _ _ (X _ _ lk)) (wpAny_pure q))
  ·cases cE
 ne:=fun h tp dd its n sl X Aj=>by
  obtain⟨cd,cE⟩:=Option.isSome_iff_exists.mp Z.cls
  refine Bool.eq_false_iff.mpr fun q=> ?_
  have z:C=tp:=Value.ref.inj (beq_iff_eq.mp q)
  rw[←z]at Aj
  unfold PySem.W.clsIn at cE
  split at cE
  ·rename_i lk
   have y:=(X _ _ lk).symm.trans Aj
   cases y
  ·cases cE
 ca:=fun X ⟨o,hx,hc⟩ k=>Oe X hx hc Z k
end
section
variable {X:Cx}
theorem Zs:dD X (.builtin "isinstance") (fun xs H Q=> ∃e C y c b,xs=[.ref e,y]∧H e=some (ka e C)∧lZ X.K C∧(∀u,RelV y u→u=c)∧PySem.W.kitOne X.K (.ref C) c=some b∧Q (.bl b) H):=by
 rintro pins s σ H vs us Q I r ⟨e,C,y,c,b,rfl,he,Z,hy,hk,q⟩
 cases r with
 |cons r1 r2=>
  cases r2 with
  |cons r3 r4=>
   cases r4
   rw[hy _ r3]
   rw[show _=Value.ref e from r1]
   obtain⟨p,_,_⟩:=(show aP X.prog X.w H s.heap e (ka e C) from I.ag e _ he)
   exact PySem.W.kia_one (Oj Z) I.bO p hk (fun z=>nomatch z) fun tk=> ⟨.bl b,H,I.tok _,rfl,q⟩
end
end L2
namespace L2
open PySem PySem.Spec PyProof.Rows
abbrev Cx.dw (X:Cx) (e:Value):Cx:= {X with A:=X.A.mark (some e),calm:=false,xe:=fun _ _=>False}
section
variable {X:Cx}{pins:List (Addr×Obj)}{σ:St}{H H':Hp}{s s':Shared}
theorem Inv.dw (I:Inv X pins σ H s) (e:Value):Inv (X.dw e) pins σ H s:=
 ⟨⟨I.ok.mod,I.ok.kind,I.ok.glob,I.ok.blt,I.ok.above,I.ok.inj,I.ok.has,I.ok.ke,fun h=>Bool.noConfusion h,I.ok.frames,I.ok.l8,I.ok.mY,I.ok.bs,I.ok.iP,I.ok.kL,I.ok.lL,I.ok.dB,I.ok.gw⟩,I.os,I.bare,I.base,I.loc,I.cell,I.free,I.fI,I.pin,I.ag,I.len⟩
theorem Inv.Dq {e:Value}(I:Inv (X.dw e) pins σ H s) (hd:X.calm=true→X.A.handled=none):Inv X pins σ H s:=
 ⟨⟨I.ok.mod,I.ok.kind,I.ok.glob,I.ok.blt,I.ok.above,I.ok.inj,I.ok.has,I.ok.ke,hd,I.ok.frames,I.ok.l8,I.ok.mY,I.ok.bs,I.ok.iP,I.ok.kL,I.ok.lL,I.ok.dB,I.ok.gw⟩,I.os,I.bare,I.base,I.loc,I.cell,I.free,I.fI,I.pin,I.ag,I.len⟩
theorem Inv.BO {e C:Addr}{B h':Heap}{o:Obj}(I:Inv X pins σ H s) (un:Un (aQ X.stack) [] H H' s.heap s'.heap) (os:s'.os=s.os) (bare:AllBare s'.gens) (ag:bg X.prog X.w H' s'.heap)
  (bR:∀b o,s.heap.get? b=some o→b∉aQ X.stack→∃u,B.get? b=some u) (fJ:∀b o,H' b=some o→∃u,B.get? b=some u) (be:B.get? e=none) (k1:B.StaysIn s'.heap) (k2:B.StaysIn h') (up:s'.heap.UpToSlots h')
  (he:h'.get? e=some o) (hc:o.cls=.ref C) (hd:∃vs,o.data=.fields vs):Inv X pins σ (upd H' e (ka e C)) {s' with heap:=h'}∧H' e=none:=by
 have n0:H' e=none:=by
  cases q:H' e with
  |none=>rfl
  |some u=>
   obtain⟨u',hu⟩:=fJ e u q
   rw[be]at hu
   cases hu
 have md:∀b o,s.heap.get? b=some o→b∈aQ X.stack→∃sl,h'.get? b=some {o with slots:=sl} :=fun b o hb hm=>by
  obtain⟨_,o',cH,nf⟩:=I.stack.mem hm
  rw[hb]at cH
  cases cH
  obtain⟨Et,e1⟩:=un.slot b o hb (I.nY b hm) hm (by simp)
  obtain⟨kC,e2⟩:=up b _ e1 nf
  exact⟨kC,e2⟩
 have FF:∀b u,s.heap.get? b=some u→b≠e:=fun b u hb z=>by
  rw[z]at hb
  by_cases hm:e∈aQ X.stack
  ·obtain⟨_,o',cH,nf⟩:=I.stack.mem hm
   rw[hb]at cH
   cases cH
   obtain⟨sl,q⟩:=md e u hb hm
   rw[he]at q
   cases q
   obtain⟨vs,hv⟩:=hd
   exact nf vs hv
  ·obtain⟨u',hu⟩:=bR e u hb hm
   rw[be]at hu
   cases hu
 have vC:∀b o u,s'.heap.get? b=some o→B.get? b=some u→h'.get? b=some o:=fun b o u hb hu=>by
  have e1:=k1 b u hu
  rw[hb]at e1
  cases e1
  exact k2 b _ hu
 refine⟨I.BP (s':= {s' with heap:=h'}) (ch:=[]) os ⟨fun b u hb hn hf _=> ?_,fun b u hb hn hm _=>md b u hb hm,fun b u hb hn _=> ?_,fun b u hb _=> ?_,fun b xs hb=> ?_,fun b u v hb=> ?_,fun b ps hb=> ?_⟩ ?_ bare (fun b hb=>absurd hb (by simp)),n0⟩
 ·have e1:=un.keep b u hb hn hf (by simp)
  obtain⟨u',hu⟩:=bR b u hb hf
  exact vC b u u' e1 hu
 ·rw[Zg (FF b u hb)]
  exact un.free b u hb hn (by simp)
 ·by_cases hm:b∈aQ X.stack
  ·obtain⟨sl,q⟩:=md b u hb hm
   exact⟨_,q⟩
  ·obtain⟨u',hu⟩:=bR b u hb hm
   exact⟨u',k2 b u' hu⟩
 ·have q:=un.fO b xs hb
  rw[Zg (Ze q n0)]
  exact q
 ·have q:=un.fH b u v hb
  rw[Zg (Ze q n0)]
  exact q
 ·obtain⟨m,q⟩:=un.fh b ps hb
  exact⟨m,by rw[Zg (Ze q n0)];exact q⟩
 ·intro b u hb
  by_cases iN:b=e
  ·subst iN
   rw[Zc]at hb
   cases hb
   refine⟨⟨o,he,hc⟩,⟨o,he⟩,fun h1 h2 p k=> ?_⟩
   obtain⟨o1,q1,q2⟩:=p
   exact⟨o1,k _ q1,q2⟩
  ·rw[Zg iN]at hb
   have x:=YX ag fJ k1 k2 b u hb
   refine x.bz (fun c w' iM q=>q) (fun c q=> ?_) fun c xs q=> ?_
   ·rw[Zg (Ze q n0)];exact q
   ·rw[Zg (Ze q n0)];exact q
end
def DJ (X:Cx) (ic ie:Nat) (cS:Addr) (k:Nat) (ts:TS):TS:=fun D σ H=> ∃f fd sp,σ[ic]? =some (some (.ref f))∧(∀s,bg X.prog X.w H s→PySem.W.FnAt f s)∧aA X.prog X.w X.K X.mg X.base (bB X.prog X.w) k f fd [] sp∧(∀s,BindsTo s fd ⟨[],[]⟩ [])∧
 sp [] H (fun _ _=>False) fun ev c H'=> ∃e C,ev=.ref e∧c=some C∧PySem.W.exmOne X.K (.ref C) (.ref cS)=some true∧(H' e=none→ts {nx:=fun ak H2=>D.nx (ak.set ie none) H2,rt:=fun _ _=>False} (σ.set ie (some (.ref e))) (upd H' e (ka e C)))
theorem UR {X:Cx}{ic ie k:Nat}{c n S:Str}{cS:Addr}{b0:Stmt}{yD:List Stmt}{ts:TS}{p1 p2 p3 p4 p5 p6:Pos}(AU:X.calm=true) (kX:X.stack=X.env::X.outer) (je:X.env.frame=some X.env.locals) (hN:X.N.Nodup) (Ii:X.N[ic]? =some c) (GU:pO X.env.scope c)
  (rR:X.N[ie]? =some n) (mI:X.env.scope.names.lookup n=some .local) (hS:X.mg S=some (.ref cS)) (Il:Gl X S) (hr:bL k X.A) (Hm:∀e,eO (X.dw (.ref e)) (b0::yD) ts)
  (ID:(c==("__debug__" :Str))=false:=by decide) (IC:(c==("__classdict__" :Str))=false:=by decide) (IE:(S==("__debug__" :Str))=false:=by decide)
  (vO:swapsWith (.Call (.Name c p1) [] [] p2) none p3.line X.env=pure false:=by rfl):
  PS X (.Try [.Expr (.Call (.Name c p1) [] [] p2) p3] [.ExceptHandler (some (.Name S p4)) (some n) (b0::yD) p5] [] [] p6) (DJ X ic ie cS k ts):=by
 intro pins s σ H D I h
 obtain⟨f,fd,sp,kS,fG,F,hb,dh⟩:=h
 refine wpAny_Try_except ?_
 refine wpAny_execs_cons (wpAny_Expr_any ?_ I.quiet vO)
 refine wpAny_Call_Name_kw ?_
 have nm:=Yc (X:=X.gm (fun _ _=>False)) (i:=ic) (x:=c) (pos:=p1) Ii GU ID IC pins s σ H (fun v H2=>v=.ref f∧H2=H) (I.gm _) ⟨_,kS,rfl,rfl⟩
 refine wpAny_mono nm (fun u s1 h1=> ?_) (fun _ _ z=>z.elim)
 obtain⟨v,H1,I1,r1,rfl,rfl⟩:=h1
 have I1:=I1.iU
 obtain rfl:u=Value.ref f:=r1
 refine PySem.W.callWith_F0 (fG _ I1.ag) ?_
 refine wpAny_call (codeAny_mono (F.run X.A X.stack s1 H1 ⟨[],[]⟩ [] [] _ _ hr I1.BD (hb s1) .nil dh) fun r s2 hq=> ?_)
 cases r with
 |ok fl=>
  cases fl with
  |ret u=>obtain⟨_,_,_,_,_,_,_,z⟩:=hq;exact z.elim
  |next=>exact hq.elim
  |brk=>exact hq.elim
  |cont=>exact hq.elim
 |error ev=>
  obtain⟨e,C,H2,rfl,FL,e',C',q1,q2,hx,hk⟩:=hq
  cases q1
  cases q2
  obtain⟨B,a0,fl,bR,fJ⟩:=FL.wO
  rw[kX]at fl
  show wpAny (model X.prog X.w) X.A (noteFrame (.ref e) X.env) _ X.xe s2
  have wN:X.A.frames=some (X.env::X.outer):=by rw[←kX];exact I.ok.frames
  refine wpAny_looks_onW (L:=X.env.locals) wN je fl fun h4 held yd=> ?_
  refine wpAny_landsW held fun h5 wQ yc=> ?_
  have gf:∃o vs,h5.get? e=some o∧o.cls=.ref C∧o.data=.fields vs:=by
   obtain⟨oe,vs,g1,g2,g3,_⟩:=wQ.first
   exact⟨oe,vs,g1,g2,g3⟩
  obtain⟨o5,tK,Bm,Bl,KD⟩:=gf
  have c5:=I1.BO (h':=h5) FL.un FL.os FL.bare FL.ag bR fJ fl.2.1 fl.1 wQ.1 (yd.trans yc) Bm Bl ⟨_,KD⟩
  have I5:=c5.1.dw (.ref e)
  refine wpAny_handleBy_cons (codeAny_handlers_test ?_) (by intro q;cases q)
  refine Jj (X:=X.dw (.ref e)) I5 Il hS ?_ IE
  have LX:=PySem.W.exm_one (M:=model X.prog X.w) (c:=.ref cS) (e:=e) I5.bO (JA Bm Bl) hx
  refine LX.at ?_
  refine codeAny_handlers_suite_as ?_
  refine lands_againW (s:= {s2 with heap:=h5}) wQ fun h6 Bq Dp=> ?_
  obtain⟨o6,nU,KC,KA,Kz,_⟩:=Bq.first
  obtain⟨I6,n6⟩:=I1.BO (h':=h6) FL.un FL.os FL.bare FL.ag bR fJ fl.2.1 fl.1 Bq.1 ((yd.trans yc).trans Dp) KC KA ⟨_,Kz⟩
  have I6:=I6.dw (.ref e)
  have He:=hk n6
  refine Ya (X:=X.dw (.ref e)) (i:=ie) I6 hN rR (.inl mI) (v:=.ref e) (u:=.ref e) rfl (fun s7 I7=> ?_) (.inr mI)
  refine wpAny_mono (Hm e pins s7 _ _ _ I7 He) (fun KI s8 h8=> ?_) fun _ _ z=>z.elim
  cases KI with
  |ret u=>obtain⟨_,_,_,_,_,z⟩:=h8;exact z.elim
  |brk=>obtain⟨_,_,_,z⟩:=h8;exact z.elim
  |cont=>obtain⟨_,_,_,z⟩:=h8;exact z.elim
  |next=>
   obtain⟨pZ,H8,I8,q8⟩:=h8
   have I8:=I8.Dq (fun z=>I.ok.hd z)
   obtain⟨m8,AB,HZ⟩:=I8.loc
   have wt:(X.env.scope.kind==.class||(X.env.scope.kind==.module&&X.env.locals !=X.env.globals))=false:=by rw[I8.ok.kind];rfl
   refine wpAny_nameGoes_keeps mI AB wt fun h9 v9 HI kY=> ?_
   have st:=Ya (M:=model X.prog X.w) (A:=X.A) (E:=fun _ _=>False) (X:=X) (i:=ie) I8 hN rR (.inl mI) (v:=.af) (u:=.none) rfl (Q:=fun _ _=>True) (fun _ _=>trivial) (.inr mI)
   refine⟨pZ.set ie none,H8,?_,q8⟩
   have aC:ie<pZ.length:=by rw[I8.len];exact(List.getElem?_eq_some_iff.mp rR).1
   obtain⟨oL,_,_,hoL,_⟩:=id AB
   have gB:=I8.gB
   refine⟨I8.ok,I8.os,I8.bare,⟨fun b o eb nb hb hx=> ?_,fun b o eb nb hb hx=> ?_,I8.base.free,fun b o eb hx=> ?_,I8.base.fO,I8.base.fH,I8.base.fh⟩,⟨_,HI,fun j y v' e1 e2 e3=> ?_⟩,fun y cc ec=> ?_,I8.free,I8.fI,fun p hp=> ?_,fun b ob eb=> ?_,by simpa using I8.len⟩
   ·exact(kY.2 b (Nat.ne_of_lt (Nat.lt_of_lt_of_le (Heap.lt_size eb) I8.ok.above))).trans (I8.base.keep b o eb nb hb hx)
   ·obtain⟨sl,q⟩:=I8.base.slot b o eb nb hb hx
    exact⟨sl,(kY.2 b (Nat.ne_of_lt (Nat.lt_of_lt_of_le (Heap.lt_size eb) I8.ok.above))).trans q⟩
   ·obtain⟨o',q⟩:=I8.base.there b o eb hx
    exact⟨o',(kY.2 b (Nat.ne_of_lt (Nat.lt_of_lt_of_le (Heap.lt_size eb) I8.ok.above))).trans q⟩
   ·by_cases hj:j=ie
    ·subst hj
     rw[List.getElem?_set_self aC]at e2
     cases e2
    ·rw[List.getElem?_set_ne (Ne.symm hj)]at e2
     obtain⟨u',r',q⟩:=HZ j y v' e1 e2 e3
     refine⟨u',r',?_⟩
     rcases q with ⟨kk,q⟩ |⟨kk,c',ec,z⟩
     ·refine .inl ⟨kk,?_⟩
      have ne:y≠n:=fun z=>hj (JZ hN e1 (z▸rR))
      simp[ne,q]
     ·exact .inr ⟨kk,c',ec,z.sameBut kY (gB y c' ec)⟩
   ·obtain⟨w',z⟩:=I8.cell y cc ec
    exact⟨w',z.sameBut kY (gB y cc ec)⟩
   ·obtain⟨e1,n1,ne1,FP,d1⟩:=I8.pin p hp
    exact⟨(kY.2 p.1 ne1).trans e1,n1,ne1,FP,d1⟩
   ·refine(I8.ag b ob eb).bz (fun cc w' iM q=> (kY.2 cc ?_).trans q) (fun _ q=>q) fun _ _ q=>q
    rintro rfl
    rcases iM with rfl |iM
    ·rw[I8.free]at eb;cases eb
    ·rw[I8.free]at iM;cases iM
def gA (c:Addr) (q:Str):HO:=.ext fun h=>h.CodeRec (.ref c) q
def mz (f:Addr) (q:Str) (params:Arguments) (body:Expr) (scope:Scope) (cl:List (Str×Addr)) (pm:Value) (c:Addr) (ct:Value):HO:=.ext fun h=>h.get? f=some (PySem.W.kla_obj "<lambda>" q params body scope cl pm c ct)
def jr (H:Hp) (f:Addr) (q:Str) (params:Arguments) (body:Expr) (scope:Scope) (cl:List (Str×Addr)):Prop:=∃pm c ct,H f=some (mz f q params body scope cl pm c ct)∧H c=some (gA c q)
theorem jr.same {H H':Hp}{f:Addr}{q:Str}{params:Arguments}{body:Expr}{scope:Scope}{cl:List (Str×Addr)}(x:jr H f q params body scope cl) (s:ae H H'):jr H' f q params body scope cl:=by
 obtain⟨pm,c,ct,h1,h2⟩:=x
 exact⟨pm,c,ct,s _ _ h1,s _ _ h2⟩
def Pm (H:Hp) (q:Str) (ps:Array Value):Prop:=TriplesOk ps.toList∧∀pos cv,codeAmong pos ps.toList=some cv→∃c,cv=.ref c∧H c=some (gA c q)
def TabAt (H:Hp) (P:Addr) (q:Str):Prop:=∃ps,H P=some (.cg ps)∧Pm H q ps
theorem Jq {h h':Heap}{c:Addr}{q:Str}(x:h.CodeRec (.ref c) q) (k:∀o,h.get? c=some o→h'.get? c=some o):h'.CodeRec (.ref c) q:=by
 obtain⟨c2,oc,vs,tq,e,g1,g2,g3⟩:=x
 cases e
 exact⟨c,oc,vs,tq,rfl,k _ g1,g2,g3⟩
theorem OH {P:Program}{w:World}{H:Hp}{h:Heap}{c:Addr}{q:Str}(x:h.CodeRec (.ref c) q):aP P w H h c (gA c q):=by
 obtain⟨c2,oc,vs,tq,e,g1,g2,g3⟩:=id x
 cases e
 exact⟨x,⟨_,g1⟩,fun h1 h2 p k=>Jq p k⟩
theorem Cz {P:Program}{w:World}{H:Hp}{h:Heap}{f:Addr}{q:Str}{params:Arguments}{body:Expr}{scope:Scope}{cl:List (Str×Addr)}{pm:Value}{c:Addr}{ct:Value}(x:h.get? f=some (PySem.W.kla_obj "<lambda>" q params body scope cl pm c ct)):
  aP P w H h f (mz f q params body scope cl pm c ct):=⟨x,⟨_,x⟩,fun h1 h2 p k=>k _ p⟩
theorem Wj {pos p2:Pos}{c cv:Value} :∀(l:List Value),TriplesOk l→codeAmong p2 (l++[rawInt pos.line,rawInt pos.col,c])=some cv→codeAmong p2 l=some cv∨cv=c
 | [],_,h=>by
  have h':(if (pos.line:Int)==(p2.line:Int)&&(pos.col:Int)==(p2.col:Int) then some c else codeAmong p2 [])=some cv:=h
  split at h'
  ·exact .inr (Option.some.inj h').symm
  ·cases h'
 | .int a t:: .int b u::x::r,ht,h=>by
  have h':(if a==p2.line&&b==p2.col then some x else codeAmong p2 (r++[rawInt pos.line,rawInt pos.col,c]))=some cv:=h
  show(if a==p2.line&&b==p2.col then some x else codeAmong p2 r)=some cv∨cv=c
  split at h'
  ·rename_i hq
   rw[if_pos hq]
   exact .inl h'
  ·rename_i hq
   rw[if_neg hq]
   exact Wj r ht h'
theorem Jb {pos:Pos}{c:Value} :∀(l:List Value),TriplesOk l→TriplesOk (l++[rawInt pos.line,rawInt pos.col,c])
 | [],_=>trivial
 | .int _ _:: .int _ _::_::r,h=>Jb r h
structure CT (X:Cx) (c P:Addr):Prop where
 code:X.env.code=.ref c
 hd:PySem.W.CodeHd X.base c P
 bm:∃bm ob,X.mg "__builtins__" =some (.ref bm)∧bm≠builtinsNs∧X.base.get? bm=some ob∧ob.cls=.type "module" ∧ob.dict=some builtinsNs∧ob.data=.plain
def DV (X:Cx) (P:Addr) (params:Arguments) (body:Expr) (scope:Scope):TE:=fun σ H Q=>TabAt H P (X.env.qual++ "<lambda>")∧∀f H',aq P H H'→H f=none→TabAt H' P (X.env.qual++ "<lambda>")→jr H' f (X.env.qual++ "<lambda>") params body scope (cF scope X.env)→Q (.ref f) H'
theorem Jw {X:Cx}{c P:Addr}{params:Arguments}{body:Expr}{scope:Scope}{pos:Pos}(L:CT X c P) (IB:defaultsOf params X.env=([],[])) (je:∀y∈scope.names,y.2=.free→X.env.kindOf y.1=some .cell∨X.env.kindOf y.1=some .free):
  PE X (.Lambda params body scope pos) (DV X P params body scope):=by
 intro pins s σ H Q I h
 obtain⟨⟨ps,hP,hT,hC⟩,q⟩:=h
 have oP:s.heap.get? P=some (PySem.W.tabObj ps):=I.ag P _ hP
 have lF:=Yi (scope:=scope) (env:=X.env) fun y hy e=>I.ok.has _ (je y hy e)
 have rZ:s.heap.Ns mainGlobals X.mg:=I.mod.glob.keeps I.bk
 obtain⟨bm,ob,b1,b2,b3,b4,b5,b6⟩:=L.bm
 have Im:mainGlobals≠P:=fun z=>by
  obtain⟨o,es,ep,e,d,_⟩:=rZ
  rw[z,oP]at e
  cases e
  cases d
 have lH:bm≠P:=fun z=>by
  have e:=I.bk _ _ b3
  rw[z,oP]at e
  cases e
  cases b4
 have IQ:bm≠mainGlobals:=fun z=>by
  obtain⟨o,es,ep,e,d,_⟩:=rZ
  have e2:=I.bk _ _ b3
  rw[z,e]at e2
  cases e2
  rw[d]at b6
  cases b6
 have BA:s.heap.BuiltinsAt X.mg P:=⟨bm,ob,b1,b2,IQ,lH,I.bk _ _ b3,b4,b5,b6⟩
 refine PySem.W.kla_eval IB ?_
 cases hf:codeAmong pos ps.toList with
 |some cv=>
  obtain⟨c',rfl,aZ⟩:=hC pos cv hf
  refine PySem.W.kla_makeFunctionHit lF I.ok.glob rZ L.code (L.hd.keeps I.bk) oP hT hf BA fun lO h' tk hk hsz=> ?_
  have nf:H h'.objs.size=none:=I.ag.fresh hsz
  have s1:ae H (upd H h'.objs.size (mz h'.objs.size (X.env.qual++ "<lambda>") params body scope (cF scope X.env) ((X.mg "__name__").getD .none) c' lO)):=fun b o hb=>by rw[Zg (Ze hb nf)];exact hb
  refine⟨.ref h'.objs.size,_,I.laid (t':=tk) (a:=h'.objs.size) (fun b u e=>Heap.get?_push_of_some _ (hk b u e)) hsz (Cz (Heap.get?_push_size _ rfl)),rfl,?_⟩
  exact q _ _ (fun b o hb _=>s1 b o hb) nf ⟨ps,s1 _ _ hP,hT,fun p2 xb z=>by obtain⟨c2,e2,h2⟩:=hC p2 xb z;exact⟨c2,e2,s1 _ _ h2⟩⟩ ⟨_,c',lO,Zc,s1 _ _ aZ⟩
 |none=>
  refine PySem.W.kla_makeFunction lF I.ok.glob rZ L.code (L.hd.keeps I.bk) oP hT hf Im BA fun c' lO h' tk hx bq aC Hu vM=> ?_
  have Ga:∀b o,s.heap.get? b=some o→b<c':=fun b o e=>Nat.lt_of_lt_of_le (Heap.lt_size e) bq
  have Qx:∀b o,H b=some o→b<c':=fun b o e=>Nat.lt_of_lt_of_le (I.ag.lt e) bq
  have nc:H c'=none:=I.ag.fresh bq
  have nf:H h'.objs.size=none:=I.ag.fresh (Nat.le_trans bq (Nat.le_of_lt aC))
  have Ft:P≠c':=Ze hP nc
  have zD:P≠h'.objs.size:=Ze hP nf
  have cnf:c'≠h'.objs.size:=Nat.ne_of_lt aC
  generalize AQ:h'.objs.size=f at nf zD cnf
  generalize vR:ps++ #[rawInt pos.line,rawInt pos.col,Value.ref c']=kI at vM
  generalize vY:mz f (X.env.qual++ "<lambda>") params body scope (cF scope X.env) ((X.mg "__name__").getD .none) c' lO=lo
  have keep:∀b o,b≠P→s.heap.get? b=some o→(h'.push (PySem.W.kla_obj "<lambda>" (X.env.qual++ "<lambda>") params body scope (cF scope X.env) ((X.mg "__name__").getD .none) c' lO)).get? b=some o:=fun b o hb e=>Heap.get?_push_of_some _ (hx b o hb e)
  have cO:∀b o,H b=some o→b≠P→upd (upd (upd H P (.cg kI)) c' (gA c' (X.env.qual++ "<lambda>"))) f lo b=some o:=fun b o hb bP=>by
   rw[Zg (Ze hb nf),Zg (Ze hb nc),Zg bP]
   exact hb
  have xl:upd (upd (upd H P (.cg kI)) c' (gA c' (X.env.qual++ "<lambda>"))) f lo P=some (.cg kI):=by rw[Zg zD,Zg Ft,Zc]
  have atC:upd (upd (upd H P (.cg kI)) c' (gA c' (X.env.qual++ "<lambda>"))) f lo c'=some (gA c' (X.env.qual++ "<lambda>")):=by rw[Zg cnf,Zc]
  have BX:upd (upd (upd H P (.cg kI)) c' (gA c' (X.env.qual++ "<lambda>"))) f lo f=some lo:=Zc
  have J:Inv X pins σ (upd (upd (upd H P (.cg kI)) c' (gA c' (X.env.qual++ "<lambda>"))) f lo) {s with heap:=h'.push (PySem.W.kla_obj "<lambda>" (X.env.qual++ "<lambda>") params body scope (cF scope X.env) ((X.mg "__name__").getD .none) c' lO),toks:=tk} :=by
   refine I.un (t':=tk) ⟨fun b o e n _ _=>keep b o (fun z=>by rw[z,hP]at n;cases n) e,fun b o e n _ _=> ⟨o.slots,keep b o (fun z=>by rw[z,hP]at n;cases n) e⟩,fun b o e n _=> ?_,fun b o e _=> ?_,fun b xs e=>cO b _ e (fun z=>by rw[z,hP]at e;cases e),fun b o u e=>cO b _ e (fun z=>by rw[z,hP]at e;cases e),fun b qs e=> ?_⟩ ?_
   ·have hl:=Ga b o e
    rw[Zg (by rw[←AQ];exact Nat.ne_of_lt (Nat.lt_trans hl aC)),Zg (Nat.ne_of_lt hl),Zg (fun z=>by rw[z,hP]at n;cases n)]
    exact n
   ·by_cases hb:b=P
    ·rw[hb];exact⟨_,Heap.get?_push_of_some _ vM⟩
    ·exact⟨o,keep b o hb e⟩
   ·by_cases hb:b=P
    ·rw[hb,hP]at e
     cases e
     exact⟨_,by rw[hb,xl,vR]⟩
    ·exact⟨#[],by rw[cO b _ e hb];simp⟩
   ·intro b o hb
    by_cases h1:b=f
    ·rw[h1,BX]at hb
     cases hb
     rw[h1,←vY]
     refine Cz ?_
     rw[←AQ]
     exact Heap.get?_push_size _ rfl
    ·by_cases h2:b=c'
     ·rw[h2,atC]at hb
      cases hb
      rw[h2]
      exact OH (Jq Hu fun o e=>Heap.get?_push_of_some _ e)
     ·by_cases h3:b=P
      ·rw[h3,xl]at hb
       cases hb
       rw[h3]
       exact Heap.get?_push_of_some _ vM
      ·have hJ:H b=some o:=by rw[Zg h1,Zg h2,Zg h3]at hb;exact hb
       refine(I.ag b o hJ).bz (fun z u hz e=>keep z u ?_ e) (fun z e=> ?_) fun z xs e=> ?_
       ·rcases hz with hz |hz
        ·rw[hz];exact h3
        ·intro az;rw[az,hP]at hz;cases hz
       ·exact cO z _ e fun az=>by rw[az,hP]at e;cases e
       ·exact cO z _ e fun az=>by rw[az,hP]at e;cases e
  refine⟨.ref f,_,J,rfl,?_⟩
  refine q f _ (fun b o hb bP=>cO b o hb bP) nf ⟨kI,xl,?_,fun p2 xb z=> ?_⟩ ⟨_,c',lO,by rw[BX,←vY],atC⟩
  ·rw[←vR,Array.toList_append]
   exact Jb _ hT
  ·rw[←vR,Array.toList_append]at z
   rcases Wj _ hT z with z |z
   ·obtain⟨c2,e2,h2⟩:=hC p2 xb z
    exact⟨c2,e2,cO _ _ h2 fun az=>by rw[az,hP]at h2;cases h2⟩
   ·exact⟨c',z,atC⟩
theorem qW {X:Cx}{E:XK}(GR:∀e s',wpAny (model X.prog X.w) X.A (leaving X.env e) (fun _ eE=>bB X.prog X.w X.outer X.js X.bS E e eE) (fun e' eE=>bB X.prog X.w X.outer X.js X.bS E e' eE) s'→X.xe e s')
  (kX:X.stack=X.env::X.outer) (je:X.env.frame=some X.env.locals) (hex:X.ex=[]):Passes (bB X.prog X.w) X E:=by
 intro pins σ H1 s1 ev s2 I h
 obtain⟨e,C,H',rfl,F,hE⟩:=h
 obtain⟨B,a0,fl,bR,fJ⟩:=F.wO
 have un:=F.un
 rw[kX]at fl bR un
 have ib:Un (aQ X.outer) [] X.js H1 X.bS.heap s1.heap:=by have:=I.base;rw[hex]at this;exact this
 have wN:X.A.frames=some (X.env::X.outer):=by rw[←kX];exact I.ok.frames
 refine GR _ _ (wpAny_leaves_onW (L:=X.env.locals) wN je fl fun h' lJ up=> ?_)
 refine⟨e,C,H',rfl,⟨F.os.trans I.os,F.bare,JP (base:=X.base) (L:=X.env.locals) ib un je I.ok.above I.ok.dB I.ok.gw bR fl.1 lJ.1 up,YX F.ag fJ fl.1 lJ.1,B,a0,lJ,fun b o hb hn=> ?_,fJ⟩,hE⟩
 obtain⟨o1,e1⟩:=ib.there b o hb (by simp)
 refine bR b o1 e1 fun hm=> ?_
 have dA:b∈(X.env::X.outer).filterMap (·.frame):=hm
 rw[List.filterMap_cons_some (f:=fun(x:Env)=>x.frame) (a:=X.env) (b:=X.env.locals) je]at dA
 rcases List.mem_cons.mp dA with q |q
 ·rw[q]at hb
  exact absurd (Nat.lt_of_lt_of_le (Heap.lt_size hb) I.ok.above) (Nat.lt_irrefl _)
 ·exact hn q
def ik (P:Program) (w:World) (K:PySem.W.Frag) (mg:Str→Option Value) (base:Heap) (N:List Str) (q:Str) (scope:Scope) (f:Addr) (cd:Value) (cl:List (Str×Addr)) (A:Around) (outer:List Env) (s:Shared) (H:Hp) (E:XK):Cx where
 prog:=P
 w:=w
 K:=K
 mg:=mg
 base:=base
 A:=A.deeper (PySem.W.envX q scope s.heap.objs.size f cd cl)
 N:=N
 bS:=s
 js:=H
 env:=PySem.W.envX q scope s.heap.objs.size f cd cl
 outer:=outer
 stack:=PySem.W.envX q scope s.heap.objs.size f cd cl::outer
 ex:=[]
 calm:=true
 fn:=fun _=>false
 pn:=[]
 xe:=fun e s'=>wpAny (model P w) (A.deeper (PySem.W.envX q scope s.heap.objs.size f cd cl)) (leaving (PySem.W.envX q scope s.heap.objs.size f cd cl) e) (fun _ eE=>bB P w outer H s E e eE) (fun e' eE=>bB P w outer H s E e' eE) s'
structure jn (base:Heap) (scope:Scope) (cl:List (Str×Addr)) (x y:Str) (vx vy:V):Prop where
 kx:scope.names.lookup x=some .free
 ky:scope.names.lookup y=some .free
 only:∀z,scope.names.lookup z=some .cell∨scope.names.lookup z=some .free→z=x∨z=y
 ne:x≠y
 cx:∃c u,cl.lookup x=some c∧base.IsCell c (some u)∧RelV vx u
 cy:∃c u,cl.lookup y=some c∧base.IsCell c (some u)∧RelV vy u
 mem:∀z c,cl.lookup z=some c→z=x∨z=y
 inj:∀c,cl.lookup x=some c→cl.lookup y=some c→False
theorem Jp {h b1 b2:Heap} :∀{l:List Env},h.FunFrames b1 l→(∀b∈aQ l,b2.get? b=none)→h.FunFrames b2 l
 | [],_,_=>trivial
 |env::r,⟨hk,⟨L,o,hf,_,ho,hd⟩,hr⟩,hn=> ⟨hk,⟨L,o,hf,hn L (List.mem_filterMap.mpr ⟨env,.head _,hf⟩),ho,hd⟩,Jp hr fun b hb=>hn b (by
  obtain⟨e,he,q⟩:=List.mem_filterMap.mp hb
  exact List.mem_filterMap.mpr ⟨e,.tail _ he,q⟩)⟩
theorem Inv.rebase {X:Cx}{pins:List (Addr×Obj)}{σ:St}{H:Hp}{s:Shared}(I:Inv X pins σ H s):
  ∃bZ,X.base.StaysIn bZ∧pW X.prog X.w X.K X.mg bZ X.A X.stack s H∧∀b o,s.heap.get? b=some o→H b=none→b∉aQ X.stack→bZ.get? b=some o:=by
 have bR:∀b o,s.heap.get? b=some o→H b=none→b∉aQ X.stack→(PySem.W.hideAll (gu s.heap H) (aQ X.stack)).get? b=some o:=fun b o e n hf=>PySem.W.hideAll_get _ (Uy e n) hf
 have st:X.base.StaysIn (PySem.W.hideAll (gu s.heap H) (aQ X.stack)):=fun b o e=>bR b o (I.bs b o e).1 (I.bs b o e).2 fun hm=>by
  have:=(I.stack.mem hm).1
  rw[e]at this
  cases this
 refine⟨_,st,⟨I.ok.frames,⟨I.mod.mC.keeps st,I.mod.glob.keeps st,?_,I.mod.nolimit.keeps st⟩,fun b o e=>CF (PySem.W.of_hideAll _ e),?_,Jp I.stack fun b hb=>PySem.W.hideAll_none _ hb,I.nY,I.ag,I.bare⟩,bR⟩
 ·obtain⟨mb,h1,h2⟩:=I.mod.blt
  exact⟨mb,h1.keeps st,h2⟩
 ·rw[PySem.W.hideAll_size,WG]
  exact Nat.le_refl _
def Eg (wi:TI) (ts:Nat) (bj:List Nat) (g:TG) (tt:TT) (ti:St→TC):TE:=fun σ H Q=>wi σ H fun J H1=>gF g tt (ti σ) J [] (jl ts bj σ) H1 fun ys _ H2=> ∀p,H2 p=none→Q (.ref p) (upd H2 p (.lst ys))
theorem NU {X:Cx}{elt tg iter:Expr}{ifs:List Expr}{rest:List Comprehension}{scope:Scope}{pos:Pos}{wi:TI}{g:TG}{tt:TT}{ti:St→TC}(N':List Str) (ts:Nat) (bj:List Nat) (hi:PI X tg iter wi) (pg:∀C s H fp,PG (aV X N' scope C s H fp) tg g) (pt:∀C s H fp,lV (aV X N' scope C s H fp) ifs tt)
  (pi:∀pins σ C s H fp D,Inv X pins σ H s→(∀b∈fp,cb X pins H b)→nD (aV X N' scope C s H fp) D (inner elt (⟨tg,iter,ifs,0⟩::rest) scope pos 0 (.ref D) (aV X N' scope C s H fp).env) (ti σ))
  (ok:pK X.env.scope scope X.N N' ts bj=true:=by rfl) (hc:X.calm=true:=by rfl) (h2:∀g',(Comprehension.mk tg iter ifs 0::rest)[0+1]? =some g'→g'.is_async=0:=by(intro g' h;cases h<;>rfl))
  (hs:∀x,foldedSetIterable iter X.env x=pure x:=by intro _;rfl):
  PE X (.ListComp elt (⟨tg,iter,ifs,0⟩::rest) scope pos) (Eg wi ts bj g tt ti):=by
 intro pins s σ H Q I h
 have S:=We ok
 rw[eval_ListComp]
 refine wpAny_comprehension_free (use:=none) rfl hs (Yi fun y hy e=>I.ok.has _ (S.free y hy e)) S.kind S.names (ar (hi pins s σ H _ I h) fun v s1 h1=>ar h1 fun kO s2 mT=> ?_)
 obtain⟨it,fp,tn,J,H2,e,I2,T,aj,f2,q2⟩:=mT
 subst e
 refine Y9 (RR:=fun acc C=>compPost (model X.prog X.w) X.A X.xe none _ acc C) S hc I2 T aj f2 h2 (fun C=>pg C _ _ _) (fun C=>pt C _ _ _) (fun C D=>pi pins σ C _ _ _ D I2 f2) q2 ?_
 intro C D s' ak H' ys fl hC hD jh J' n a q
 obtain⟨m,hn,_⟩:=J'.loc
 exact⟨m,hn,fun h' sb=> ⟨.ref D,_,Wg I2 f2 hC hD jh J' n a sb,rfl,q D n⟩⟩
def Ll:Const→Option V
 | .int n=>some (.int n)
 | .bool b=>some (.bl b)
 | .str x=>some (.str x)
 | .none=>some .af
 |_=>none
def om:Expr→Option V
 | .Constant c _ _=>Ll c
 | .UnaryOp .USub (.Constant (.int n) _ _) _=>some (.int (-n))
 | .BinOp (.Constant (.int a) _ _) .Pow (.Constant (.int b) _ _) _=>if 0≤b∧b≤1000000∧a.natAbs<2^64 then some (.int (a^b.toNat)) else none
 |_=>none
def oj:List Expr→Option (List V)
 | []=>some []
 |e::r=>match om e,oj r with
  |some v,some vs=>some (v::vs)
  |_,_=>none
inductive Lit where
 |sc (v:V)
 |tup (xs:List V)
 |lst (xs:List V)
 |dU
def ff (H:Hp) (v:V):Lit→Prop
 | .sc u=>v=u
 | .tup xs=> ∃a:Addr,v=.ref a∧H a=some (.tup xs)
 | .lst xs=> ∃a:Addr,v=.ref a∧H a=some (.lst xs)
 | .dU=> ∃a:Addr,v=.ref a∧H a=some (.dK [])
theorem ff.same {H H':Hp}{v:V} :∀{l:Lit},ff H v l→ae H H'→ff H' v l
 | .sc _,h,_=>h
 | .tup _,⟨a,e,h⟩,s=> ⟨a,e,s _ _ h⟩
 | .lst _,⟨a,e,h⟩,s=> ⟨a,e,s _ _ h⟩
 | .dU,⟨a,e,h⟩,s=> ⟨a,e,s _ _ h⟩
def litOf:Expr→Option Lit
 | .Tuple es _ _=>match oj es with
  |some xs=>if xs.length≤1000 then some (.tup xs) else none
  |none=>none
 | .List es _=>match oj es with
  |some xs=>if xs.length≤1000 then some (.lst xs) else none
  |none=>none
 | .Dict [] [] _=>some .dU
 |e=> (om e).map .sc
def litsOf:List Expr→Option (List Lit)
 | []=>some []
 |e::r=>match litOf e,litsOf r with
  |some v,some vs=>some (v::vs)
  |_,_=>none
section
variable {X:Cx}
theorem B6 {e:Expr}{v:V}(h:om e=some v):PE X e (tC v)∧(∀es,starEach (e::es) X.env=(false,eval e X.env)::starEach es X.env)∧∀a:Addr,v≠.ref a:=by
 unfold om at h
 split at h
 ·rename_i c j p
  cases c with
  |int n=>cases h;exact⟨Zi,fun _=>rfl,fun a z=>by cases z⟩
  |bool b=>cases h;exact⟨WB,fun _=>rfl,fun a z=>by cases z⟩
  |str x=>cases h;exact⟨JX,fun _=>rfl,fun a z=>by cases z⟩
  |none=>cases h;exact⟨Yw,fun _=>rfl,fun a z=>by cases z⟩
  |_=>cases h
 ·cases h
  refine⟨fun pins s σ H Q I q=>MG NQ Zi pins s σ H Q I ⟨_,rfl,q⟩,fun _=>rfl,fun a z=>by cases z⟩
 ·split at h
  ·rename_i hc
   cases h
   refine⟨fun pins s σ H Q I q=>Zn WT Zi Zi pins s σ H Q I ⟨_,_,rfl,rfl,hc,q⟩,fun _=>rfl,fun a z=>by cases z⟩
  ·cases h
 ·cases h
theorem UU:∀{es:List Expr}{vs:List V},oj es=some vs→PA X es (fun _ H Q=>Q vs H)
 | [],vs,h=>by cases h;exact Zb
 |e::r,vs,h=>by
  unfold oj at h
  split at h
  ·rename_i v ws h1 h2
   cases h
   obtain⟨p1,p2,_⟩:=B6 (X:=X) h1
   exact fun pos pins s σ H Q I q=>Za p1 (UU h2) (p2 r) pos pins s σ H Q I q
  ·cases h
theorem Mo {e:Expr}{l:Lit}(h:litOf e=some l):PE X e (fun _ H Q=> ∀v H',ae H H'→ff H' v l→(∀a:Addr,v=.ref a→H a=none)→Q v H')∧∀es,starEach (e::es) X.env=(false,eval e X.env)::starEach es X.env:=by
 unfold litOf at h
 split at h
 ·split at h
  ·rename_i xs hx
   split at h
   ·rename_i hl
    cases h
    refine⟨fun pins s σ H Q I q=>Zz (UU hx) pins s σ H Q I ⟨Nat.le_of_lt (uo hl),fun p hp=>q _ _ (fun b o hb=>by rw[Zg (Ze hb hp)];exact hb) ⟨p,rfl,Zc⟩ fun a z=>by cases z;exact hp⟩,fun _=>rfl⟩
   ·cases h
  ·cases h
 ·split at h
  ·rename_i xs hx
   split at h
   ·rename_i hl
    cases h
    refine⟨fun pins s σ H Q I q=>ZA (UU hx) pins s σ H Q I ⟨Nat.le_of_lt (uo hl),fun p hp=>q _ _ (fun b o hb=>by rw[Zg (Ze hb hp)];exact hb) ⟨p,rfl,Zc⟩ fun a z=>by cases z;exact hp⟩,fun _=>rfl⟩
   ·cases h
  ·cases h
 ·cases h
  exact⟨fun pins s σ H Q I q=>Uj pins s σ H Q I fun p hp=>q _ _ (fun b o hb=>by rw[Zg (Ze hb hp)];exact hb) ⟨p,rfl,Zc⟩ fun a z=>by cases z;exact hp,fun _=>rfl⟩
 ·rename_i x0 h1 h2 h3
  cases hs:om e with
  |none=>rw[hs]at h;cases h
  |some v=>
   rw[hs]at h
   cases h
   obtain⟨p1,p2,p3⟩:=B6 (X:=X) hs
   exact⟨fun pins s σ H Q I q=>p1 pins s σ H Q I (q v H (ae.refl H) rfl fun a z=>absurd z (p3 a)),p2⟩
theorem YU:∀{es:List Expr}{ls:List Lit},litsOf es=some ls→PA X es (fun _ H Q=> ∀vs H',ae H H'→Paired (ff H') vs ls→(∀a,V.ref a∈vs→H a=none)→Q vs H')
 | [],ls,h=>by cases h;exact fun pos pins s σ H Q I q=>Zb pos pins s σ H Q I (q [] H (ae.refl H) .nil fun a z=>nomatch z)
 |e::r,ls,h=>by
  unfold litsOf at h
  split at h
  ·rename_i v ws h1 h2
   cases h
   obtain⟨p1,p2⟩:=Mo (X:=X) h1
   exact fun pos pins s σ H Q I q=>Za p1 (YU h2) (p2 r) pos pins s σ H Q I fun v1 H1 s1 l1 n1 vs H2 s2 pr n2=>q (v1::vs) H2 (s1.trans s2) (.cons (l1.same s2) pr) fun a z=>by
    rcases List.mem_cons.mp z with z |z
    ·exact n1 a z.symm
    ·exact s1.free (n2 a z)
  ·cases h
end
theorem Wu (n l1 l2:Nat) (h1:l1<n) (h2:l2<n):ZipApart (n+4) (n+2) (n+3) n (n+1) l1 l2:=by
 constructor<;>intro z<;>refine absurd (show @Eq Nat _ _ from z) ?_<;>omega
end L2
namespace L2
open PySem PySem.Spec PyProof.Rows SeqAt
def vF (items:Array Value) (x:Value) (i:Nat) (_:Option PySem.Fin×Unit):Sem (ForInStep (Option PySem.Fin×Unit)):=
 match items[i]? with
 |some y=> (do
  let b ←eqBool y x
  if b=true then (do let v ←retInt (i:Int);pure (ForInStep.done (some v,()))) else pure (ForInStep.yield (none,())))
 |_=>pure (ForInStep.yield (none,()))
theorem Ux {prog:Program}{w:World}{A:Around}{E:Value→Shared→Prop}{s:Shared}{items:Array Value}{x:Value}{e:Value→Bool}{j:Nat}{Q:Option PySem.Fin×Unit→Shared→Prop}(hj:j<items.size) (hit:e items[j]=true) (iH:∀m (hm:m<items.size),m<j→e items[m]=false)
  (he:∀y,y∈items→EqAt A s y x (e y)) (h:Q (some (.done (.ret (.int j s.toks))),()) {s with toks:=s.toks+1}):
  ∀k i,i+k=items.size→i≤j→wpAny (model prog w) A (forIn (List.range' i k) ((none:Option PySem.Fin),()) (vF items x)) Q E s
 |0,i,hk,hi=>by omega
 |k+1,i,hk,hi=>by
  have aC:i<items.size:=by omega
  rw[List.range'_succ,List.forIn_cons]
  refine wpAny_bind ?_
  unfold vF
  rw[Array.getElem?_eq_getElem aC]
  refine wpAny_bind (he _ (Array.getElem_mem aC) prog w _ _ ?_)
  by_cases cJ:i=j
  ·subst cJ
   rw[hit,if_pos rfl]
   refine wpAny_bind ?_
   wp_walk
   exact h
  ·rw[iH i aC (by omega),if_neg Bool.false_ne_true]
   refine wpAny_pure ?_
   exact Ux hj hit iH he h k (i+1) (by omega) (by omega)
theorem Wm (l:Addr) (items:Array Value) (n:Nat) (dd:Option Addr) (sl:Array (Option Value)) (x:Value) (e:Value→Bool) (j:Nat) (hj:j<items.size) (hit:e items[j]=true) (iH:∀m (hm:m<items.size),m<j→e items[m]=false):
  Meets (Builtin.«tuple.index» ⟨[.ref l,x],[]⟩)
   (fun A R s=>s.heap.get? l=some {cls:=.type "tuple",dict:=dd,data:=.seq items n,slots:=sl}∧(∀y,y∈items→EqAt A.in1 s y x (e y))∧R (.ok (.ret (.int j s.toks))) {s with toks:=s.toks+1}):=
 .of_wp fun prog w A R s h=>by
  obtain⟨hp,g,d,tk,os⟩:=s;obtain⟨hl,he,h⟩:=h
  wp_walk using AutoSeq1.wpAny_loadPart' hl
  show wpAny (model prog w) A.in1 (forIn (m:=Sem) [:min items.size items.size] ((none:Option PySem.Fin),()) (vF items x)) _ _ _
  rw[Std.Legacy.Range.forIn_eq_forIn_range']
  refine Ux hj hit iH he ?_ _ _ (by simp[Std.Legacy.Range.size]) (Nat.zero_le _)
  exact wpAny_pure ⟨_,rfl,h⟩
def EU (K:PySem.W.Frag):V→List V→Hp→VK→Prop:=fun v vs H Q=> ∃(a:Addr) (xs:List V) (x:V) (j:Nat),v=.ref a∧vs=[x]∧ai K H a xs∧gz x=true∧xs.all gz=true∧(∃y,xs[j]? =some y∧dC y x=true)∧(∀m y,m<j→xs[m]? =some y→dC y x=false)∧Q (.int (j:Int)) H
theorem OP {X:Cx} :CP X "tuple.index" (EU X.K):=by
 intro pins s σ H v vs u us Q I rv ET h
 obtain⟨a,xs,x,j,rfl,rfl,hq,fx,fs,⟨y,hy,ey⟩,iH,q⟩:=h
 cases rv
 obtain⟨ux,rfl,rx⟩:=vals1 ET
 obtain⟨its,r,pl,hz⟩:=I.tuple hq
 obtain⟨o,ho,hc,n,hd⟩:=id pl
 obtain⟨cls,dd,dt,sl⟩:=o
 replace hc:cls=.type "tuple" :=hc
 replace hd:dt=.seq its.toArray n:=hd
 subst hc hd
 obtain⟨uy,GY,Qj⟩:=r.get hy
 have lu:j<its.length:=(List.getElem?_eq_some_iff.mp GY).1
 have pM:∀k (hk:k<its.length),∃z,xs[k]? =some z∧RelV z its[k]:=fun k hk=>by
  have fF:k<xs.length:=by rw[r.length];exact hk
  obtain⟨w,hw,fS⟩:=r.get (List.getElem?_eq_getElem fF)
  rw[List.getElem?_eq_getElem hk]at hw
  cases hw
  exact⟨_,List.getElem?_eq_getElem fF,fS⟩
 have eqs:∀(A:Around) (k:Nat) (hk:k<its.length) z,xs[k]? =some z→EqAt A s its[k] ux (dC z x):=fun A k hk z bf=>by
  obtain⟨z',az,rz⟩:=pM k hk
  rw[bf]at az
  cases az
  exact Cj rz rx (List.all_eq_true.mp fs z (List.mem_of_getElem? bf)) fx
 have vd:∀k l' (hk:k<its.length) (hl:l'<its.length) zk zl,xs[k]? =some zk→xs[l']? =some zl→its[k]=its[l']→dC zk x=dC zl x:=fun k l' hk hl zk zl h1 h2 he=>by
  obtain⟨z1,e1,r1⟩:=pM k hk
  obtain⟨z2,e2,r2⟩:=pM l' hl
  rw[h1]at e1;rw[h2]at e2
  cases e1;cases e2
  rw[he]at r1
  have f1:=List.all_eq_true.mp fs zk (List.mem_of_getElem? h1)
  have f2:=List.all_eq_true.mp fs zl (List.mem_of_getElem? h2)
  have:zk=zl:=by
   generalize its[l']=val at r1 r2
   cases zk<;>cases zl<;>first
    |rfl
    |(exact absurd f1 Bool.false_ne_true)
    |(exact absurd f2 Bool.false_ne_true)
    |(cases r1;cases r2;rfl)
    |(cases r1;cases r2;done)
    |(obtain⟨_,rfl⟩:=r1;obtain⟨_,e⟩:=r2;cases e;rfl)
    |(obtain⟨_,rfl⟩:=r1;obtain⟨_,e⟩:=r2;cases e;done)
    |(obtain⟨_,rfl⟩:=r1;cases r2;done)
    |(cases r1;obtain⟨_,e⟩:=r2;cases e;done)
  rw[this]
 classical
 refine call_meets F.slot_tuple_index ⟨_,ho,rfl⟩ F.entry_tuple_index (F.args_tuple_index_2 _ _)
  (Wm a its.toArray n dd sl ux (fun val=>decide (∃(k:Nat) (z:V),its[k]? =some val∧xs[k]? =some z∧dC z x=true)) j (by simpa using lu) ?_ ?_) ⟨ho,fun val GW=> ?_,?_⟩
 ·refine decide_eq_true ⟨j,y,?_,hy,ey⟩
  simp[lu]
 ·intro m hm HN
  refine decide_eq_false ?_
  rintro⟨k,z,hk,bf,ez⟩
  have dA:m<its.length:=by simpa using hm
  obtain⟨zm,Af,_⟩:=pM m dA
  have cI:=(List.getElem?_eq_some_iff.mp hk)
  obtain⟨mJ,oN⟩:=cI
  have e2:=vd k m mJ dA z zm bf Af (by rw[oN];simp)
  rw[ez,iH m zm HN Af]at e2
  cases e2
 ·have GV:val∈its:=by simpa using GW
  obtain⟨k,mJ,oN⟩:=List.getElem_of_mem GV
  obtain⟨z,bf,rz⟩:=pM k mJ
  have ee:=eqs X.A.in1 k mJ z bf
  rw[oN]at ee
  have:decide (∃(k:Nat) (z:V),its[k]? =some val∧xs[k]? =some z∧dC z x=true)=dC z x:=by
   cases hb:dC z x with
   |true=>exact decide_eq_true ⟨k,z,by rw[List.getElem?_eq_getElem mJ,oN],bf,hb⟩
   |false=>
    refine decide_eq_false ?_
    rintro⟨k2,z2,h1,h2,h3⟩
    obtain⟨iJ,mM⟩:=List.getElem?_eq_some_iff.mp h1
    have:=vd k2 k iJ mJ z2 z h2 bf (by rw[mM,oN])
    rw[h3,hb]at this
    cases this
  rw[this]
  exact ee
 ·exact⟨.int (j:Int),H,I.tok _,⟨_,rfl⟩,q⟩
theorem Y2 {α β:Type}{F:α→β→Prop} :∀{jN:List α}{jM:List β}{i:Nat}{x:α},Paired F jN jM→jN[i]? =some x→∃y,jM[i]? =some y∧F x y
 |_,_,_,_,.nil,h=>by simp at h
 |_,_,0,_,.cons r _,h=>by simp at h;subst h;exact⟨_,rfl,r⟩
 |_,_,i+1,_,.cons _ t,h=>by
  obtain⟨y,e,q⟩:=Y2 t (i:=i) (by simpa using h)
  exact⟨y,by simpa using e,q⟩
section
variable {X:Cx}
theorem W5 {a b:String} :dD X (.builtin "isinstance") (fun xs H Q=> ∃(x:V) (t:Addr) (T:Value) (r:Bool),xs=[x,.ref t]∧ai X.K H t [.ty a,.ty b]∧((∃i,x=.int i∧T=.type "int")∨∃l ys,x=.ref l∧H l=some (.lst ys)∧T=.type "list")∧
  PySem.W.kitAny X.K T [.type a,.type b]=some r∧Q (.bl r) H):=by
 intro pins s σ H xs us Q I rv h
 obtain⟨x,t,T,r,rfl,hq,hx,hk,q⟩:=h
 obtain⟨u,v,rfl,ru,rv⟩:=vals2 rv
 cases rv
 obtain⟨its,rt,pl,hz⟩:=I.tuple hq
 cases rt with
 |cons r1 r2=>
  cases r2 with
  |cons r3 r4=>
   cases r4
   cases r1
   cases r3
   obtain⟨o,ho,hc,n,hd⟩:=id pl
   obtain⟨cls,dd,dt,sl⟩:=o
   replace hc:cls=.type "tuple" :=hc
   replace hd:dt=.seq [Value.type a,Value.type b].toArray n:=hd
   subst hc hd
   rcases hx with ⟨i,rfl,rfl⟩ |⟨l,ys,rfl,hl,rfl⟩
   ·obtain⟨tk,rfl⟩:=ru
    exact PySem.W.kia_tup PySem.W.kitx_int I.bO True.intro ho hk (fun z=>nomatch z) fun tk=> ⟨.bl r,H,I.tok _,rfl,q⟩
   ·cases ru
    obtain⟨_,_,n,_,h1⟩:=(show aP X.prog X.w H s.heap l (.lst ys) from I.ag l _ hl)
    exact PySem.W.kia_tup PySem.W.kitx_list I.bO ⟨_,h1,rfl⟩ ho hk (fun z=>nomatch z) fun tk=> ⟨.bl r,H,I.tok _,rfl,q⟩
theorem YW {ns:List Int}{us:List Value}(r:Vals (ns.map V.int) us) (j:Nat) (h:j<us.length):∃t,us[j]=.int (ns.getD j 0) t:=by
 have hl:=r.length
 rw[List.length_map]at hl
 have hj:j<ns.length:=by omega
 obtain⟨u,hu,t,ru⟩:=r.get (i:=j) (x:=.int ns[j]) (by rw[List.getElem?_map,List.getElem?_eq_getElem hj];rfl)
 rw[List.getElem?_eq_getElem h]at hu
 cases hu
 exact⟨t,by rw[ru];simp[hj]⟩
end
end L2
namespace L2
open PySem PySem.Spec PyProof.Rows
structure One (base:Heap) (scope:Scope) (cl:List (Str×Addr)) (x:Str) (vx:V):Prop where
 kx:scope.names.lookup x=some .free
 only:∀z,scope.names.lookup z=some .cell∨scope.names.lookup z=some .free→z=x
 cx:∃c u,cl.lookup x=some c∧base.IsCell c (some u)∧RelV vx u
 mem:∀z c,cl.lookup z=some c→z=x
structure Src (prog:Program) (w:World) (i l:Addr) (n:Nat) (f:Nat→Value) (S:Nat→Heap→Prop):Prop where
 here:∀k h,S k h→∃o,h.get? i=some o
 bz:∀k h h',S k h→(∀c,c=i∨c=l→∀o,h.get? c=some o→h'.get? c=some o)→S k h'
 item:∀(A:Around) k (s:Shared) (Q:Value→Shared→Prop) (E:Value→Shared→Prop),k<n→S k s.heap→(∀h',S (k+1) h'→Heap.SameBut i s.heap h'→Q (f k) {s with heap:=h'})→wpAny (model prog w) A (Builtin.SmallTypes.nextOf (.ref i)) Q E s
 stop:∀(A:Around) (s:Shared) (Q:Value→Shared→Prop) (E:Value→Shared→Prop),A.handled=none→S n s.heap→(∀h' e,Heap.ExtBut i s.heap h'→(∃o,h'.get? e=some o∧o.cls=.type "StopIteration")→E (.ref e) {s with heap:=h'})→wpAny (model prog w) A (Builtin.SmallTypes.nextOf (.ref i)) Q E s
theorem YR (prog:Program) (w:World) {i l:Addr}(its:Array Value) (bP:l≠i):Src prog w i l its.size (fun k=>its.getD k .none) (fun k h=>IsTupIter h i l k∧IsTup h l its) where
 here:=fun k h ⟨⟨o,ho,_⟩,_⟩=> ⟨o,ho⟩
 bz:=fun k h h' ⟨⟨o,ho,r⟩,⟨u,hu,r'⟩⟩ st=> ⟨⟨o,st i (.inl rfl) o ho,r⟩,⟨u,st l (.inr rfl) u hu,r'⟩⟩
 item:=fun A k s Q E hk ⟨hi,ht⟩ q=>by
  obtain⟨oi,gi,ci,di⟩:=id hi
  obtain⟨ot,gt,ct,nt,dt⟩:=id ht
  have hx:its[k]? =some (its.getD k .none):=by simp[hk]
  unfold Builtin.SmallTypes.nextOf
  refine wpAny_bind (wpAny_callSpecial?_slot (name:=Str.ofString "__next__") hi.typeIs slot_tupleiter_next (wpAny_call_entry slot_tupleiter_next hi.typeIs entry_tupleiter_next ?_ (args_tupleiter_next _)))
  refine(show wpAny _ _ (field (.ref i) 0 >>=_) _ _ s from wpAny_bind (wpAny_field gi di (x:=.ref l) rfl ?_))
  refine(show wpAny _ _ (if (Value.ref l==Value.none)=true then _ else _) _ _ s from ?_)
  rw[if_neg (by exact Bool.false_ne_true)]
  refine(show wpAny _ _ (field (.ref i) 1 >>=_) _ _ s from wpAny_bind (wpAny_field gi di (x:=.int k 0) rfl ?_))
  refine(show wpAny _ _ (seqItems? (.ref l) >>=_) _ _ s from wpAny_bind (wpAny_seqItems gt dt ?_))
  simp only[Int.toNat_natCast,hx]
  refine wpAny_bind (wpAny_setField gi di (by simp) (wpAny_pure ⟨_,rfl,wpAny_pure (q _ ⟨⟨_,Heap.get?_update_self _ gi (Obj.isFreed_of_fields (Obj.data_mapFields di _)),(Obj.cls_mapFields ..).trans ci,?_⟩,?_⟩ (Heap.SameBut.update ..))⟩))
  ·rw[Obj.data_mapFields di];simp[rawInt]
  ·exact⟨ot,(Heap.SameBut.update ..).extBut _ _ bP gt,ct,nt,dt⟩
 stop:=fun A s Q E hh ⟨hi,ht⟩ q=>by
  obtain⟨oi,gi,ci,di⟩:=id hi
  obtain⟨ot,gt,ct,nt,dt⟩:=id ht
  have hx:its[its.size]? =none:=by simp
  unfold Builtin.SmallTypes.nextOf
  refine wpAny_bind (wpAny_callSpecial?_slot (name:=Str.ofString "__next__") hi.typeIs slot_tupleiter_next (wpAny_call_entry slot_tupleiter_next hi.typeIs entry_tupleiter_next ?_ (args_tupleiter_next _)))
  refine(show wpAny _ _ (field (.ref i) 0 >>=_) _ _ s from wpAny_bind (wpAny_field gi di (x:=.ref l) rfl ?_))
  refine(show wpAny _ _ (if (Value.ref l==Value.none)=true then _ else _) _ _ s from ?_)
  rw[if_neg (by exact Bool.false_ne_true)]
  refine(show wpAny _ _ (field (.ref i) 1 >>=_) _ _ s from wpAny_bind (wpAny_field gi di (x:=.int its.size 0) rfl ?_))
  refine(show wpAny _ _ (seqItems? (.ref l) >>=_) _ _ s from wpAny_bind (wpAny_seqItems gt dt ?_))
  simp only[Int.toNat_natCast,hx]
  refine wpAny_bind (wpAny_rule (wpAny_bind (wpAny_setField gi di (by simp) ?_)))
  refine(show wpAny _ _ (newExc (.type "StopIteration") [] >>=_) _ _ _ from wpAny_bind ?_)
  simp only[newExc,newTuple]
  refine wpAny_bind (wpAny_newObj_type ?_ (by size_fits))
  refine wpAny_bind (m:=firstArgMember _ _) (wpAny_of_eq (a:=Value.none) (by first |rfl |(simp only[firstArgMember];rfl)) ?_)
  refine wpAny_newObj_type ?_ (by size_fits)
  simp only[raiseNew]
  refine wpAny_bind (wpAny_handled ?_)
  first |rw[show A.in1.handled=none from hh] |rw[hh]
  refine wpAny_bind (wpAny_pure (wpAny_throw ?_))
  exact q _ _ (((Heap.SameBut.update ..).extBut.push _).push _) ⟨_,Heap.get?_push_size _ rfl,rfl⟩
section
variable {prog:Program}{w:World}{A:Around}{E:Value→Shared→Prop}{s:Shared}{z TI TO i1 i2 l1 l2:Addr}{n k:Nat}{f g:Nat→Value}{S1 S2:Nat→Heap→Prop}
theorem Nj {a b:Value}{Q:Value→Shared→Prop}(U1:Src prog w i1 l1 n f S1) (U2:Src prog w i2 l2 n g S2) (D:ZipApart z TI TO i1 i2 l1 l2) (hk:k<n) (hz:IsZip s.heap z TI TO .none) (hI:IsPair s.heap TI (.ref i1) (.ref i2)) (hO:IsPair s.heap TO a b) (h1:S1 k s.heap) (h2:S2 k s.heap)
    (q:∀h',IsZip h' z TI TO (rawInt s.heap.objs.size)→IsPair h' TO (f k) (g k)→S1 (k+1) h'→S2 (k+1) h'→IsPair h' s.heap.objs.size (f k) (g k)→h'.objs.size=s.heap.objs.size+1→
      (∀c o,c≠z→c≠TO→c≠i1→c≠i2→s.heap.get? c=some o→h'.get? c=some o)→Q (.ref s.heap.objs.size) {s with heap:=h'}):
    wpAny (model prog w) A (Builtin.«zip.__next__» ⟨[.ref z],[]⟩) (fun fin s'=> ∃v,fin=.done (.ret v)∧Q v s') E s:=by
  refine(show wpAny _ _ (field (.ref z) 2 >>=_) _ _ _ from wpAny_bind (wpAny_field hz rfl (x:=.bool false) rfl ?_))
  refine(show wpAny _ _ (field (.ref z) 3 >>=_) _ _ _ from wpAny_bind (wpAny_field hz rfl (x:=.ref TI) rfl (wpAny_bind (wpAny_seqItems hI rfl ?_))))
  refine(show wpAny _ _ (Builtin.SmallTypes.ownedTupleIsFree (.ref z) >>=_) _ _ _ from wpAny_bind ?_)
  unfold Builtin.SmallTypes.ownedTupleIsFree
  refine wpAny_bind (wpAny_field hz rfl (x:=.none) rfl (wpAny_pure ?_))
  simp only[if_true]
  refine wpAny_bind (wpAny_rule (wpAny_bind (wpAny_field hz rfl (x:=.ref TO) rfl (wpAny_bind (wpAny_setField_rec hz (by simp) fun m1 kA e1=> ?_)))))
  replace kA:IsZip m1 z TI TO .ellipsis:=kA
  have b1:=e1.extBut
  refine wpAny_bind ?_
  simp only[List.zipIdx_cons,List.zipIdx_nil,List.forIn_cons,List.forIn_nil]
  refine wpAny_bind (wpAny_bind (wpAny_onRaise ?_))
  have aw:S1 k m1:=U1.bz _ _ _ h1 fun c hc o ho=>by rcases hc with rfl |rfl<;>first |exact b1 _ _ D.i1z ho |exact b1 _ _ D.l1z ho
  refine(show wpAny _ _ (Builtin.SmallTypes.nextOf (.ref i1) >>=_) _ _ _ from wpAny_bind (U1.item _ k _ _ _ hk aw fun m2 aj e2=>wpAny_pure ?_))
  have b2:=e2.extBut
  have o2:IsPair m2 TO a b:=b2 _ _ D.TOi1 (b1 _ _ D.TOz hO)
  refine wpAny_bind (wpAny_seqItems o2 rfl (wpAny_bind (wpAny_updateSeq_pair o2 fun m3 o3 e3=> ?_)))
  replace o3:IsPair m3 TO (f k) b:=o3
  have b3:=e3.extBut
  refine wpAny_bind (wpAny_letGo (wpAny_pure (wpAny_bind (wpAny_bind (wpAny_onRaise ?_)))))
  have w3:S2 k m3:=U2.bz _ _ _ h2 fun c hc o ho=>by
    rcases hc with rfl |rfl
    · exact b3 _ _ D.TOi2.symm (b2 _ _ D.i12.symm (b1 _ _ D.i2z ho))
    · exact b3 _ _ D.l2TO (b2 _ _ D.l2i1 (b1 _ _ D.l2z ho))
  refine(show wpAny _ _ (Builtin.SmallTypes.nextOf (.ref i2) >>=_) _ _ _ from wpAny_bind (U2.item _ k _ _ _ hk w3 fun m4 w4 e4=>wpAny_pure ?_))
  have b4:=e4.extBut
  have o4:IsPair m4 TO (f k) b:=b4 _ _ D.TOi2 o3
  refine wpAny_bind (wpAny_seqItems o4 rfl (wpAny_bind (wpAny_updateSeq_pair o4 fun m5 o5 e5=> ?_)))
  replace o5:IsPair m5 TO (f k) (g k):=o5
  have b5:=e5.extBut
  refine wpAny_bind (wpAny_letGo (wpAny_pure (wpAny_pure (wpAny_bind (wpAny_seqItems o5 rfl (wpAny_bind (wpAny_newTuple ?_)))))))
  have sz:m5.objs.size=s.heap.objs.size:=by rw[e5.1,e4.1,e3.1,e2.1,e1.1]
  have z5:IsZip m5 z TI TO .ellipsis:=b5 _ _ D.TOz.symm (b4 _ _ D.i2z.symm (b3 _ _ D.TOz.symm (b2 _ _ D.i1z.symm kA)))
  have kp:∀c o,c≠z→c≠TO→c≠i1→c≠i2→s.heap.get? c=some o→m5.get? c=some o:=fun c o c1 c2 c3 c4 e=>b5 _ _ c2 (b4 _ _ c4 (b3 _ _ c2 (b2 _ _ c3 (b1 _ _ c1 e))))
  have dG:S1 (k+1) m5:=U1.bz _ _ _ aj fun c hc o ho=>by
    rcases hc with rfl |rfl
    · exact b5 _ _ D.TOi1.symm (b4 _ _ D.i12 (b3 _ _ D.TOi1.symm ho))
    · exact b5 _ _ D.l1TO (b4 _ _ D.l1i2 (b3 _ _ D.l1TO ho))
  have w5:S2 (k+1) m5:=U2.bz _ _ _ w4 fun c hc o ho=>by rcases hc with rfl |rfl<;>first |exact b5 _ _ D.TOi2.symm ho |exact b5 _ _ D.l2TO ho
  have xV:z<m5.objs.size:=Heap.lt_size z5
  refine(show wpAny _ _ (Builtin.SmallTypes.ownedTupleHandOut (.ref z) (.ref m5.objs.size) >>=_) _ _ _ from wpAny_bind ?_)
  unfold Builtin.SmallTypes.ownedTupleHandOut
  have z6:IsZip (m5.push {cls:=.type "tuple",data:=.seq #[f k,g k]}) z TI TO .ellipsis:=Heap.get?_push_of_some _ z5
  refine wpAny_bind (wpAny_setField_rec z6 (by simp) fun m7 z7 e7=> ?_)
  replace z7:IsZip m7 z TI TO (rawInt m5.objs.size):=z7
  refine wpAny_setField_rec z7 (by simp) fun m8 z8 e8=> ?_
  replace z8:IsZip m8 z TI TO (rawInt m5.objs.size):=z8
  have up:∀c o,c≠z→m5.get? c=some o→m8.get? c=some o:=fun c o c1 e=>e8.extBut _ _ c1 (e7.extBut _ _ c1 (Heap.get?_push_of_some _ e))
  have t8:IsPair m8 m5.objs.size (f k) (g k):=e8.extBut _ _ (Nat.ne_of_gt xV) (e7.extBut _ _ (Nat.ne_of_gt xV) (Heap.get?_push_size _ rfl))
  have s8:m8.objs.size=m5.objs.size+1:=by rw[e8.1,e7.1,Heap.size_push]
  rw[sz]at z8 t8 s8
  refine wpAny_pure ⟨_,rfl,?_⟩
  show Q (.ref m5.objs.size) _
  rw[sz]
  refine q m8 z8 (up _ _ D.TOz o5) (U1.bz _ _ _ dG fun c hc o ho=> ?_) (U2.bz _ _ _ w5 fun c hc o ho=> ?_) t8 s8 fun c o c1 c2 c3 c4 e=>up c o c1 (kp c o c1 c2 c3 c4 e)
  · rcases hc with rfl |rfl<;>first |exact up _ _ D.i1z ho |exact up _ _ D.l1z ho
  · rcases hc with rfl |rfl<;>first |exact up _ _ D.i2z ho |exact up _ _ D.l2z ho
theorem NR {a b:Value}{Q:PySem.Fin→Shared→Prop}(hh:A.handled=none) (U1:Src prog w i1 l1 n f S1) (D:ZipApart z TI TO i1 i2 l1 l2) (hz:IsZip s.heap z TI TO .none) (hI:IsPair s.heap TI (.ref i1) (.ref i2)) (hO:IsPair s.heap TO a b) (h1:S1 n s.heap)
  (q:∀h' e,(∀c o,c≠z→c≠TO→c≠i1→c≠i2→s.heap.get? c=some o→h'.get? c=some o)→(∃o,h'.get? e=some o∧o.cls=.type "StopIteration")→E (.ref e) {s with heap:=h'}):
  wpAny (model prog w) A (Builtin.«zip.__next__» ⟨[.ref z],[]⟩) Q E s:=by
 refine(show wpAny _ _ (field (.ref z) 2 >>=_) _ _ _ from wpAny_bind (wpAny_field hz rfl (x:=.bool false) rfl ?_))
 refine(show wpAny _ _ (field (.ref z) 3 >>=_) _ _ _ from wpAny_bind (wpAny_field hz rfl (x:=.ref TI) rfl (wpAny_bind (wpAny_seqItems hI rfl ?_))))
 refine(show wpAny _ _ (Builtin.SmallTypes.ownedTupleIsFree (.ref z) >>=_) _ _ _ from wpAny_bind ?_)
 unfold Builtin.SmallTypes.ownedTupleIsFree
 refine wpAny_bind (wpAny_field hz rfl (x:=.none) rfl (wpAny_pure ?_))
 simp only[if_true]
 refine wpAny_bind (wpAny_rule (wpAny_bind (wpAny_field hz rfl (x:=.ref TO) rfl (wpAny_bind (wpAny_setField_rec hz (by simp) fun m1 kA e1=> ?_)))))
 replace kA:IsZip m1 z TI TO .ellipsis:=kA
 have b1:=e1.extBut
 refine wpAny_bind ?_
 simp only[List.zipIdx_cons,List.zipIdx_nil,List.forIn_cons,List.forIn_nil]
 refine wpAny_bind (wpAny_bind (wpAny_onRaise ?_))
 have aw:S1 n m1:=U1.bz _ _ _ h1 fun c hc o ho=>by rcases hc with rfl |rfl<;>first |exact b1 _ _ D.i1z ho |exact b1 _ _ D.l1z ho
 refine(show wpAny _ _ (Builtin.SmallTypes.nextOf (.ref i1) >>=_) _ _ _ from wpAny_bind (U1.stop _ _ _ _ hh aw fun m2 e e2 he=> ?_))
 obtain⟨oe,ge,ce⟩:=he
 have z2:IsZip m2 z TI TO .ellipsis:=e2 _ _ D.i1z.symm kA
 have FQ:e≠z:=fun y=>by subst y;rw[z2]at ge;cases ge;simp at ce
 refine wpAny_setField_rec z2 (by simp) fun m3 _ e3=>q m3 e (fun c o c1 _ c3 _ x=>e3.extBut _ _ c1 (e2 _ _ c3 (b1 _ _ c1 x))) ⟨oe,e3.extBut _ _ FQ ge,ce⟩
end
section
variable {prog:Program}{w:World}{A:Around}{z TI TO i1 i2 l1 l2:Addr}{n:Nat}{f g:Nat→Value}{S1 S2:Nat→Heap→Prop}
theorem Ua (hh:A.handled=none) (U1:Src prog w i1 l1 n f S1) (U2:Src prog w i2 l2 n g S2) (D:ZipApart z TI TO i1 i2 l1 l2):
  WalksT prog w A z [z,TI,TO,i1,i2,l1,l2] [z,TO,i1,i2] n (fun k vals=>vals= #[f k,g k])
   (fun k h=>IsZip h z TI TO .none∧IsPair h TI (.ref i1) (.ref i2)∧(∃a b,IsPair h TO a b)∧S1 k h∧S2 k h)
   (fun k T h=>IsZip h z TI TO (rawInt T)∧IsPair h TI (.ref i1) (.ref i2)∧(∃a b,IsPair h TO a b)∧S1 (k+1) h∧S2 (k+1) h∧T∉[z,TO,i1,i2]) where
 sub:=fun c hc=>by
  simp only[List.mem_cons,List.not_mem_nil,or_false]at hc ⊢
  rcases hc with rfl |rfl |rfl |rfl<;>simp
 frame:=fun k h h' ⟨a1,a2,⟨a,b,a3⟩,a4,a5⟩ kp=> ⟨kp z (by simp) _ a1,kp TI (by simp) _ a2,⟨a,b,kp TO (by simp) _ a3⟩,U1.bz _ _ _ a4 fun c hc o=>kp c (by rcases hc with rfl |rfl<;>simp) o,U2.bz _ _ _ a5 fun c hc o=>kp c (by rcases hc with rfl |rfl<;>simp) o⟩
 item:=fun k s Q E hk ⟨a1,a2,⟨a,b,a3⟩,a4,a5⟩ q=>by
  have ty:s.TypeIs (.ref z) "zip" :=⟨_,a1,rfl⟩
  have ne:∀{c o},s.heap.get? c=some o→s.heap.objs.size≠c:=fun e=>Nat.ne_of_gt (Heap.lt_size e)
  obtain⟨o1,g1⟩:=U1.here _ _ a4
  obtain⟨o2,g2⟩:=U2.here _ _ a5
  unfold pyNext
  refine wpAny_bind (wpAny_attempt (wpAny_callSpecial?_slot (name:=Str.ofString "__next__") ty F.slot_zip_next (wpAny_call_entry F.slot_zip_next ty F.entry_zip_next (Nj U1 U2 D hk a1 a2 a3 a4 a5 fun h' c1 c2 c3 c4 c5 c6 c7=>wpAny_pure ?_) (F.args_zip_next_1 _))))
  refine q s.heap.objs.size #[f k,g k] h' s.toks rfl (Nat.le_refl _) ⟨_,c5,rfl,_,rfl⟩ ⟨c1,c7 _ _ D.TIz D.TITO D.TIi1 D.TIi2 a2,⟨_,_,c2⟩,c3,c4,fun m=> ?_⟩ fun c o hc e=>c7 c o (fun x=>hc (by simp[x])) (fun x=>hc (by simp[x])) (fun x=>hc (by simp[x])) (fun x=>hc (by simp[x])) e
  simp only[List.mem_cons,List.not_mem_nil,or_false]at m
  rcases m with m |m |m |m
  ·exact ne a1 m
  ·exact ne a3 m
  ·exact ne g1 m
  ·exact ne g2 m
 go:=fun elts kk pos k T s Q E ⟨a1,a2,⟨a,b,a3⟩,a4,a5,_⟩ q=>wpAny_letOwnedTupleGo_zip a1 fun h' z' s'=>by
  have ex:=s'.extBut
  refine q h' ⟨z',ex _ _ D.TIz a2,⟨a,b,ex _ _ D.TOz a3⟩,U1.bz _ _ _ a4 fun c hc o ho=> ?_,U2.bz _ _ _ a5 fun c hc o ho=> ?_⟩ fun c o hc e=>ex _ _ (fun x=>hc (by simp[x])) e
  ·rcases hc with rfl |rfl<;>first |exact ex _ _ D.i1z ho |exact ex _ _ D.l1z ho
  ·rcases hc with rfl |rfl<;>first |exact ex _ _ D.i2z ho |exact ex _ _ D.l2z ho
 apart:=fun k T h ⟨_,_,_,_,_,t⟩=>t
 done:=fun s Q E ⟨a1,a2,⟨a,b,a3⟩,a4,a5⟩ q=>by
  have ty:s.TypeIs (.ref z) "zip" :=⟨_,a1,rfl⟩
  unfold pyNext
  refine wpAny_bind (wpAny_attempt (wpAny_callSpecial?_slot (name:=Str.ofString "__next__") ty F.slot_zip_next (wpAny_call_entry F.slot_zip_next ty F.entry_zip_next (NR hh U1 D a1 a2 a3 a4 fun h' e kp he=> ?_) (F.args_zip_next_1 _))))
  obtain⟨o,ho,hc⟩:=he
  refine wpAny_bind (wpAny_isInstance (T:= "StopIteration") (b:=true) ⟨o,ho,hc⟩ isSubtype_stop (wpAny_pure (q _ s.toks fun c o hc e=> ?_)))
  exact kp c o (fun x=>hc (by simp[x])) (fun x=>hc (by simp[x])) (fun x=>hc (by simp[x])) (fun x=>hc (by simp[x])) e
 self:=fun k s Q E st q=>wpAny_pyIter_zip st.1 q
end
abbrev qb (h:Heap) (l1:Addr):Heap:=h.push {cls:=.type "tuple_iterator",data:=.fields #[.ref l1,.int 0 0]}
abbrev qa (h:Heap) (l1 l2:Addr):Heap:=(qb h l1).push {cls:=.type "tuple_iterator",data:=.fields #[.ref l2,.int 0 0]}
abbrev p8 (h:Heap) (l1 l2:Addr):Heap:=(qa h l1 l2).push {cls:=.type "tuple",data:=.seq #[.ref h.objs.size,.ref (qb h l1).objs.size]}
abbrev p7 (h:Heap) (l1 l2:Addr):Heap:=(p8 h l1 l2).push {cls:=.type "tuple",data:=.seq #[.none,.none]}
abbrev l0 (h:Heap) (l1 l2:Addr):Heap:=(p7 h l1 l2).push {cls:=.type "zip",data:=.fields #[.none,.bool false,.bool false,.ref (qa h l1 l2).objs.size,.ref (p8 h l1 l2).objs.size]}
theorem U6 {h:Heap}{l:Addr}{xs:Array Value}(t:IsTup h l xs) (o:Obj):IsTup (h.push o) l xs:=let ⟨u,hu,r⟩:=t;⟨u,Heap.get?_push_of_some _ hu,r⟩
theorem NS (l1 l2:Addr) (xs ys:Array Value):Meets (Builtin.«zip.__new__» ⟨[.type "zip",.ref l1,.ref l2],[]⟩) (fun _ R s=>IsTup s.heap l1 xs∧IsTup s.heap l2 ys∧R (.ok (.ret (.ref (p7 s.heap l1 l2).objs.size))) {s with heap:=l0 s.heap l1 l2}):=
 .of_wp fun prog w A R s h=>by
  obtain⟨hp,gg,d,tk,os⟩:=s
  obtain⟨t1,t2,h⟩:=h
  have Hl:=sub_zip
  have T1:IsTup (Shared.heap ⟨hp,gg,d,tk,os⟩) l1 xs:=t1
  have T2:IsTup (Shared.heap ⟨hp.push {cls:=.type "tuple_iterator",data:=.fields #[.ref l1,.int 0 0]},gg,d,tk,os⟩) l2 ys:=U6 t2 _
  wp_walk using iter_tuple T1,iter_tuple T2
  exact⟨_,rfl,h⟩
theorem Nm {prog:Program}{w:World}{A:Around}{E:Value→Shared→Prop}{s:Shared}{l1 l2:Addr}{xs ys:Array Value}{Q:Value→Shared→Prop}(t1:IsTup s.heap l1 xs) (t2:IsTup s.heap l2 ys)
    (q:∀h',IsZip h' (s.heap.objs.size+4) (s.heap.objs.size+2) (s.heap.objs.size+3) .none→IsPair h' (s.heap.objs.size+2) (.ref s.heap.objs.size) (.ref (s.heap.objs.size+1))→IsPair h' (s.heap.objs.size+3) .none .none→
      IsTupIter h' s.heap.objs.size l1 0→IsTupIter h' (s.heap.objs.size+1) l2 0→(∀c o,s.heap.get? c=some o→h'.get? c=some o)→Q (.ref (s.heap.objs.size+4)) {s with heap:=h'}):
    wpAny (model prog w) A (call (.type "zip") [.ref l1,.ref l2]) Q E s:=by
  refine callType_new F.called_zip (by decide) (F.typeCall_zip_2 _ _) (F.newCall_zip_2 _ _) (fun obj=>F.args_object_init_3 obj _ _) F.entry_zip_new (NS l1 l2 xs ys) ⟨t1,t2,?_⟩
  have y1:(qb s.heap l1).objs.size=s.heap.objs.size+1:=Heap.size_push ..
  have y2:(qa s.heap l1 l2).objs.size=s.heap.objs.size+2:=by rw[Heap.size_push,y1]
  have y3:(p8 s.heap l1 l2).objs.size=s.heap.objs.size+3:=by rw[Heap.size_push,y2]
  have y4:(p7 s.heap l1 l2).objs.size=s.heap.objs.size+4:=by rw[Heap.size_push,y3]
  have p:∀{h:Heap}{c:Addr}{o u:Obj},h.get? c=some o→(h.push u).get? c=some o:=fun e=>Heap.get?_push_of_some _ e
  have x5:(l0 s.heap l1 l2).get? (p7 s.heap l1 l2).objs.size=some _:=Heap.get?_push_size _ rfl
  have x4:(l0 s.heap l1 l2).get? (p8 s.heap l1 l2).objs.size=some _:=p (Heap.get?_push_size _ rfl)
  have x3:(l0 s.heap l1 l2).get? (qa s.heap l1 l2).objs.size=some _:=p (p (Heap.get?_push_size _ rfl))
  have x2:(l0 s.heap l1 l2).get? (qb s.heap l1).objs.size=some _:=p (p (p (Heap.get?_push_size _ rfl)))
  have x1:(l0 s.heap l1 l2).get? s.heap.objs.size=some _:=p (p (p (p (Heap.get?_push_size _ rfl))))
  show _∧_
  rw[y2,y3,y4]at x5
  rw[y1,y2]at x3
  rw[y3]at x4
  rw[y1]at x2
  rw[y4]
  exact⟨⟨_,x5,rfl⟩,q _ x5 x3 x4 ⟨_,x1,rfl,rfl⟩ ⟨_,x2,rfl,rfl⟩ fun c o x=>p (p (p (p (p x))))⟩
def xH (K:PySem.W.Frag) (l1 l2:Addr):It:=
 ⟨fun i H=> ∃xs ys x y,ai K H l1 xs∧ai K H l2 ys∧xs.length=ys.length∧xs[i]? =some x∧ys[i]? =some y,
  fun i H v H'=> ∃(T:Addr) (x y:V),v=.ref T∧H T=none∧H'=upd H T (.par [x,y])∧∀xs ys,ai K H l1 xs→ai K H l2 ys→xs[i]? =some x∧ys[i]? =some y,
  fun i H=> ∃xs ys,ai K H l1 xs∧ai K H l2 ys∧xs.length=i∧ys.length=i⟩
theorem O9 {P:Program}{w:World}{K:PySem.W.Frag}{elts:List Expr}{kk:Nat}{pos:Pos}(z TI TO i1 i2 l1 l2:Addr) (D:ZipApart z TI TO i1 i2 l1 l2):
  Turn P w K (.Tuple elts kk pos) (xH K l1 l2) [z,TI,TO,i1,i2] z (fun i h=>IsZip h z TI TO .none∧IsPair h TI (.ref i1) (.ref i2)∧(∃a b,IsPair h TO a b)∧IsTupIter h i1 l1 i∧IsTupIter h i2 l2 i) where
 mem:=by simp
 obj:=fun i h st b hb=>by
  obtain⟨a1,a2,⟨u,v,a3⟩,⟨o4,h4,_,d4⟩,⟨o5,h5,_,d5⟩⟩:=st
  simp only[List.mem_cons,List.not_mem_nil,or_false]at hb
  rcases hb with rfl |rfl |rfl |rfl |rfl
  ·exact⟨_,a1,fun v z=>by cases z⟩
  ·exact⟨_,a2,fun v z=>by cases z⟩
  ·exact⟨_,a3,fun v z=>by cases z⟩
  ·exact⟨_,h4,fun v z=>by rw[d4]at z;cases z⟩
  ·exact⟨_,h5,fun v z=>by rw[d5]at z;cases z⟩
 keep:=fun i h h' st k=>by
  obtain⟨a1,a2,⟨u,v,a3⟩,a4,a5⟩:=st
  exact⟨k z (by simp) _ a1,k TI (by simp) _ a2,⟨u,v,k TO (by simp) _ a3⟩,(let ⟨o,ho,r⟩:=a4;⟨o,k i1 (by simp) o ho,r⟩),let ⟨o,ho,r⟩:=a5;⟨o,k i2 (by simp) o ho,r⟩⟩
 item:=by
  intro X hP hw hK hc i pins s σ H E I hf st hg
  subst hP hw hK
  obtain⟨xs,ys,x,y,dQ,bh,mI,hx,hy⟩:=hg
  obtain⟨dP,iE,fU,bG⟩:=I.tuple dQ
  obtain⟨eV,eR,cT,az⟩:=I.tuple bh
  obtain⟨u,hu,ru⟩:=iE.get hx
  obtain⟨v,hv,rv⟩:=eR.get hy
  have vP:eV.toArray.size=dP.toArray.size:=by
   have e1:=iE.length
   have e2:=eR.length
   simp only[List.size_toArray]
   omega
  have jd:i<dP.toArray.size:=by
   have e1:=(List.getElem?_eq_some_iff.mp hu).1
   simp only[List.size_toArray]
   omega
  have U2:=YR X.prog X.w eV.toArray D.l2i2
  rw[vP]at U2
  have W:=Ua (A:=X.A) (I.ok.hd hc) (YR X.prog X.w dP.toArray D.l1i1) U2 D
  obtain⟨a1,a2,a3,a4,a5⟩:=st
  refine W.item i s _ _ jd ⟨a1,a2,a3,⟨a4,fU⟩,⟨a5,cT⟩⟩ fun T vals h' tk hP fZ pe jQ hk=> ⟨_,rfl,W.go elts kk pos i T _ _ _ jQ fun dk da jW=> ?_⟩
  have kU:dP.toArray.getD i .none=u:=by simp[List.getD_eq_getElem?_getD,hu]
  have aR:eV.toArray.getD i .none=v:=by simp[List.getD_eq_getElem?_getD,hv]
  rw[kU,aR]at hP
  subst hP
  have hW:H T=none:=I.ag.fresh fZ
  have both:∀b o,b∉[z,TO,i1,i2]→s.heap.get? b=some o→dk.get? b=some o:=fun b o hb q=>jW b o hb (hk b o hb q)
  have sub:∀b,b∉[z,TI,TO,i1,i2]→b∉[z,TO,i1,i2]:=fun b hb hm=>hb (by
   simp only[List.mem_cons,List.not_mem_nil,or_false]at hm ⊢
   rcases hm with h |h |h |h
   ·exact .inl h
   ·exact .inr (.inr (.inl h))
   ·exact .inr (.inr (.inr (.inl h)))
   ·exact .inr (.inr (.inr (.inr h))))
  have mP:T∉[z,TO,i1,i2]:=W.apart _ _ _ jQ
  have pf:dk.IsTuple T #[u,v]:=pe.at fun o q=>jW T o mP q
  have neT:∀b o,s.heap.get? b=some o→b≠T:=fun b o q=>Nat.ne_of_lt (Nat.lt_of_lt_of_le (Heap.lt_size q) fZ)
  have cA:∀b o,H b=some o→b≠T:=fun b o q=>Ze q hW
  have bN:∀b o,H b=some o→b∉[z,TI,TO,i1,i2]:=fun b o q hm=>by
   have:=(hf b hm).1
   rw[this]at q;cases q
  refine⟨.ref T,upd H T (.par [x,y]),?_,rfl,⟨T,x,y,rfl,hW,rfl,fun as bs ha hb=>by rw[I.qh ha dQ,I.qh hb bh];exact⟨hx,hy⟩⟩,⟨da.1,da.2.1,da.2.2.1,da.2.2.2.1.1,da.2.2.2.2.1⟩,fun b hb=> ?_⟩
  ·refine(show Inv X pins σ (upd H T (.par [x,y])) {s with heap:=dk,toks:=tk} from ?_)
   refine I.call (g':=s.gens) (d':=s.drawn) (t':=tk) (h':=dk) (ch:=[z,TI,TO,i1,i2]) ⟨fun b o q _ _ hx=>both b o (sub b hx) q,fun b o q _ _ hx=> ⟨o.slots,both b o (sub b hx) q⟩,fun b o q n hx=>by rw[Zg (neT b o q)];exact n,fun b o q hx=> ⟨o,both b o (sub b hx) q⟩,
    fun b ys q=>by rw[Zg (cA b _ q)];exact q,fun b o u q=>by rw[Zg (cA b _ q)];exact q,fun b ps q=> ⟨#[],by rw[Zg (cA b _ q),q];simp⟩⟩ (fun b o q=> ?_) I.bare fun b hb=> ?_
   ·by_cases hb:b=T
    ·subst hb
     rw[Zc]at q
     cases q
     exact⟨by show 2≤sizeLine;decide,[u,v],.cons ru (.cons rv .nil),pf⟩
    ·rw[Zg hb]at q
     refine(I.ag b o q).bz (fun c ob aZ q'=>both c ob ?_ q') (fun c q'=>by rw[Zg (cA c _ q')];exact q') fun c ys q'=>by rw[Zg (cA c _ q')];exact q'
     rcases aZ with z' |z'
     ·rw[z'];exact sub _ (bN b o q)
     ·exact sub _ (bN c _ z')
   ·obtain⟨f0,f1,f2,f3,f4,f5⟩:=hf b hb
    exact⟨f3,f1,f4,f5⟩
  ·have bP:b≠T:=by
    obtain⟨f0,_⟩:=hf b hb
    have:∃o,s.heap.get? b=some o:=by
     obtain⟨u',v',xp⟩:=a3
     obtain⟨o4,h4,_⟩:=a4
     obtain⟨o5,h5,_⟩:=a5
     simp only[List.mem_cons,List.not_mem_nil,or_false]at hb
     rcases hb with rfl |rfl |rfl |rfl |rfl
     ·exact⟨_,a1⟩
     ·exact⟨_,a2⟩
     ·exact⟨_,xp⟩
     ·exact⟨_,h4⟩
     ·exact⟨_,h5⟩
    obtain⟨o,ho⟩:=this
    exact neT b o ho
   rw[Zg bP]
   exact(hf b hb).1
 done:=by
  intro X hP hw hK hc i pins s σ H E I hf st hg
  subst hP hw hK
  obtain⟨xs,ys,dQ,bh,hx,hy⟩:=hg
  obtain⟨dP,iE,fU,bG⟩:=I.tuple dQ
  obtain⟨eV,eR,cT,az⟩:=I.tuple bh
  have e1:=iE.length
  have e2:=eR.length
  have vP:eV.toArray.size=dP.toArray.size:=by simp only[List.size_toArray];omega
  have U2:=YR X.prog X.w eV.toArray D.l2i2
  rw[vP]at U2
  have W:=Ua (A:=X.A) (I.ok.hd hc) (YR X.prog X.w dP.toArray D.l1i1) U2 D
  have hn:i=dP.toArray.size:=by simp only[List.size_toArray];omega
  obtain⟨a1,a2,a3,a4,a5⟩:=st
  rw[hn]at a4 a5
  have sub:∀b,b∉[z,TI,TO,i1,i2]→b∉[z,TO,i1,i2]:=fun b hb hm=>hb (by
   simp only[List.mem_cons,List.not_mem_nil,or_false]at hm ⊢
   rcases hm with h |h |h |h
   ·exact .inl h
   ·exact .inr (.inr (.inl h))
   ·exact .inr (.inr (.inr (.inl h)))
   ·exact .inr (.inr (.inr (.inr h))))
  refine W.done s _ _ ⟨a1,a2,a3,⟨a4,fU⟩,⟨a5,cT⟩⟩ fun h' tk hk=> ⟨rfl,?_⟩
  have bN:∀b o,H b=some o→b∉[z,TI,TO,i1,i2]:=fun b o q hm=>by
   have:=(hf b hm).1
   rw[this]at q;cases q
  refine I.call (g':=s.gens) (d':=s.drawn) (t':=tk) (h':=h') (ch:=[z,TI,TO,i1,i2]) ⟨fun b o q _ _ hx=>hk b o (sub b hx) q,fun b o q _ _ hx=> ⟨o.slots,hk b o (sub b hx) q⟩,fun b o q n hx=>n,fun b o q hx=> ⟨o,hk b o (sub b hx) q⟩,fun b ys q=>q,fun b o u q=>q,fun b ps q=> ⟨#[],by rw[q];simp⟩⟩ (fun b o q=> ?_) I.bare fun b hb=> ?_
  ·refine(I.ag b o q).bz (fun c ob aZ q'=>hk c ob ?_ q') (fun _ q'=>q') fun _ _ q'=>q'
   rcases aZ with z' |z'
   ·rw[z'];exact sub _ (bN b o q)
   ·exact sub _ (bN c _ z')
  ·obtain⟨f0,f1,f2,f3,f4,f5⟩:=hf b hb
   exact⟨f3,f1,f4,f5⟩
 self:=fun A i s Q E st h=>wpAny_pyIter_zip st.1 h
section
variable {X:Cx}{elts:List Expr}{kk:Nat}{tp:Pos}
def GG (K:PySem.W.Frag) (ta:TA):TI:=fun σ H R=>ta σ H fun vs H1=> ∃l1 l2,vs=[.ref l1,.ref l2]∧(∃xs ys,ai K H1 l1 xs∧ai K H1 l2 ys)∧R (xH K l1 l2) H1
theorem M7 {a b:Expr}{ta:TA}{p pos:Pos}(hg:Gl X "zip") (hm:X.mg "zip" =none) (ha:PA X [a,b] ta) (hs:starEach [a,b] X.env=[(false,eval a X.env),(false,eval b X.env)]:=by rfl) (iG:starEach [b] X.env=[(false,eval b X.env)]:=by rfl):
  PI X (.Tuple elts kk tp) (.Call (.Name "zip" p) [a,b] [] pos) (GG X.K ta):=by
 intro pins s σ H R I h
 refine Call_ (YM I hg hm PyProof.Rows.Boot.«zip» (PyProof.Rows.callWith_type1 (ar (ha pos pins s σ H _ I h) fun us s1 ⟨vs,H1,I1,r1,q1⟩=> ?_) (by rw[hs,iG]) (by rw[iG];rfl)))
 obtain⟨l1,l2,e,⟨xs,ys,dQ,bh⟩,q⟩:=q1
 subst e
 obtain⟨u,v,rfl,ru,rv⟩:=vals2 r1
 cases ru
 cases rv
 obtain⟨dP,iE,fU,bG⟩:=I1.tuple dQ
 obtain⟨eV,eR,cT,az⟩:=I1.tuple bh
 have t1:l1<s1.heap.objs.size:=by obtain⟨o,ho,_⟩:=id fU;exact Heap.lt_size ho
 have t2:l2<s1.heap.objs.size:=by obtain⟨o,ho,_⟩:=id cT;exact Heap.lt_size ho
 have D:=Wu s1.heap.objs.size l1 l2 t1 t2
 refine Nm fU cT fun h' b1 b2 b3 b4 b5 hk=>wpAny_pyIter_zip b1 ?_
 have I2:Inv X pins σ H1 {s1 with heap:=h'} :=I1.kept (t':=s1.toks) hk
 refine⟨s1.heap.objs.size+4,[s1.heap.objs.size+4,s1.heap.objs.size+2,s1.heap.objs.size+3,s1.heap.objs.size,s1.heap.objs.size+1],_,_,H1,rfl,I2,
  O9 _ _ _ _ _ l1 l2 D,⟨b1,b2,⟨_,_,b3⟩,b4,b5⟩,fun b hb=> ?_,q⟩
 have jZ:s1.heap.objs.size≤b:=by
  simp only[List.mem_cons,List.not_mem_nil,or_false]at hb
  rcases hb with z |z |z |z |z<;>rw[z]<;>first |exact Nat.le_refl _ |exact Nat.le_add_right _ _
 exact I1.j9 jZ (I1.ag.fresh jZ)
end
theorem OS {K:PySem.W.Frag}{l1 l2:Addr}{xs zs:List V}{g:TG}{tt:TT}{ti:TC}{ys:List V}{σ:St}{H:Hp}{Q:List V→St→Hp→Prop}(hlen:xs.length=zs.length) (Pv:Nat→List V→St→Hp→Prop) (h0:Pv 0 ys σ H)
  (hl:∀i ys σ H,i≤xs.length→Pv i ys σ H→ai K H l1 xs∧ai K H l2 zs)
  (hs:∀i x y T ys σ H,xs[i]? =some x→zs[i]? =some y→H T=none→Pv i ys σ H→g (.ref T) σ (upd H T (.par [x,y])) fun aS H2=>tt aS H2 fun b H3=>if b=true then ti ys aS H3 (Pv (i+1)) else Pv (i+1) ys aS H3)
  (hd:∀ys σ H,Pv xs.length ys σ H→Q ys σ H):gF g tt ti (xH K l1 l2) ys σ H Q:=by
 refine⟨fun i m ys σ H=>m=xs.length - i∧i≤xs.length∧Pv i ys σ H,⟨xs.length,by simp,Nat.zero_le _,h0⟩,?_⟩
 rintro i m ys σ H ⟨rfl,hi,p⟩
 obtain⟨q1,q2⟩:=hl i ys σ H hi p
 by_cases aC:i<xs.length
 ·refine .inr ⟨⟨xs,zs,xs[i],zs[i]'(by omega),q1,q2,hlen,by simp[aC],by simp[hlen▸aC]⟩,Pv (i+1),fun cf ak H' p'=> ⟨xs.length - (i+1),by omega,rfl,aC,p'⟩,fun x H' y=> ?_⟩
  obtain⟨T,a,b,e1,e2,e3,e4⟩:=y
  subst e1 e3
  obtain⟨f1,f2⟩:=e4 xs zs q1 q2
  exact hs i a b T ys σ H f1 f2 e2 p
 ·have e:i=xs.length:=by omega
  subst e
  exact .inl ⟨⟨xs,zs,q1,q2,rfl,hlen.symm⟩,hd ys σ H p⟩
end L2
namespace L2
open PySem PySem.Spec PyProof.Rows SeqAt
structure Cells (base:Heap) (scope:Scope) (cl:List (Str×Addr)) (N:List Str) (vs:List V):Prop where
 len:vs.length=N.length
 only:∀z,scope.names.lookup z=some .cell∨scope.names.lookup z=some .free→z∈N
 at_:∀(i:Nat) x v,N[i]? =some x→vs[i]? =some v→scope.names.lookup x=some .free∧∃c u,cl.lookup x=some c∧base.IsCell c (some u)∧RelV v u
 mem:∀z c,cl.lookup z=some c→z∈N
 inj:∀x y c,cl.lookup x=some c→cl.lookup y=some c→x=y
theorem Nv {P:Program}{w:World}{K:PySem.W.Frag}{mg:Str→Option Value}{base:Heap}{f:Addr}{q:Str}{params:Arguments}{body:Expr}{scope:Scope}{cl:List (Str×Addr)}{pm:Value}{c:Addr}{ct:Value}{k:Nat}{N:List Str}{ws:List V}{sp:Sp}
    (T:Cells base scope cl N ws) (hk:scope.kind=.function) (IH:scope.isCoroutine=false) (Ik:scope.isGenerator=false) (jX:∀z∈scope.names,z.2≠.cell)
    (dh:∀vs H Q E,sp vs H Q E→vs=[]∧H f=some (mz f q params body scope cl pm c ct)∧H c=some (gA c q))
    (hb:∀(A:Around) (outer:List Env) (s:Shared) (H:Hp) (Q:VK) (E:XK),bL k (A.deeper (PySem.W.envX q scope s.heap.objs.size f (.ref c) cl))→sp [] H Q E→
      ∃t,PE (ik P w K mg base N q scope f (.ref c) cl A outer s H E) body t∧t (ws.map some) H Q):
    aA P w K mg base (bB P w) (k+1) f (PySem.W.kla_fn "<lambda>" q params body scope cl pm (.ref c) ct) [] sp:=by
  refine⟨fun vs H Q E h=>by rw[(dh vs H Q E h).1];rfl,fun A outer s H args us vs Q E hr e0 wz rv h=> ?_⟩
  obtain⟨rfl,hf,hc⟩:=dh _ _ _ _ h
  have of:s.heap.get? f=some (PySem.W.kla_obj "<lambda>" q params body scope cl pm c ct):=(e0.ag f _ hf).1
  have oc:s.heap.CodeRec (.ref c) q:=(e0.ag c _ hc).1
  have lim:s.heap.NoLimit:=e0.mod.nolimit.keeps fun b o e=> (e0.bs b o e).1
  refine PySem.W.kla_callFunE hr.depth of rfl IH Ik rfl oc (wz _ _ _ _ ?_)
  refine wpAny_newFunctionEnv jX (fun z hz=>by cases rv;exact absurd hz (by simp)) (fun h1 oJ Hr=> ?_) hk
  have k1:∀b o,s.heap.get? b=some o→h1.get? b=some o:=fun b o e=>Hr.extBut b o (Nat.ne_of_lt (Heap.lt_size e)) (Heap.get?_push_of_some _ e)
  refine⟨lim.keeps k1,?_⟩
  show codeAny _ A (.expr body (PySem.W.envX q scope s.heap.objs.size f (.ref c) cl)) _ _
  obtain⟨t,ht,hq⟩:=hb A outer s H Q E (hr.deeper _) h
  have xc:∀{a:Addr}{v:Option Value},base.IsCell a v→h1.IsCell a v∧H a=none:=fun {a v} ⟨o,ho,hd⟩=> ⟨⟨o,k1 _ _ (e0.bs _ _ ho).1,hd⟩,(e0.bs _ _ ho).2⟩
  have BW:∀z,z∈N→∃c u,cl.lookup z=some c∧base.IsCell c (some u):=fun z hz=>by
    obtain⟨i,hi,e⟩:=List.getElem_of_mem hz
    have bT:i<ws.length:=by rw[T.len];exact hi
    obtain⟨_,c,u,h1,h2,_⟩:=T.at_ i z ws[i] (by rw[←e];exact List.getElem?_eq_getElem hi) (List.getElem?_eq_getElem bT)
    exact⟨c,u,h1,h2⟩
  have cells:∀z a,cl.lookup z=some a→∃v,base.IsCell a v:=fun z a hz=>by
    obtain⟨c,u,h1,h2⟩:=BW z (T.mem z a hz)
    rw[hz]at h1;cases h1;exact⟨_,h2⟩
  have I:Inv (ik P w K mg base N q scope f (.ref c) cl A outer s H E) [] (ws.map some) H {s with heap:=h1,toks:=s.toks+(([]:List Str).zip us).length} :=by
    refine⟨⟨e0.mod,hk,rfl,rfl,Nat.le_refl _,fun a b cc h2 h3=> ?_,fun a ha=> ?_,fun a cc hn=>Bool.noConfusion hn,fun _=>hr.hd,Around.frames_deeper e0.frames,.inr ⟨rfl,rfl⟩,fun b z=>absurd (show b∈([]:List Addr) from z) (by simp),e0.bs,e0.iP,fun b _ _ z=>absurd (show b∈([]:List Addr) from z) (by simp),fun b z=>absurd (show b∈([]:List Addr) from z) (by simp),e0.dB,e0.gw⟩,
      rfl,e0.bare,Un.kept k1,⟨_,oJ,fun i z v h2 h3 h4=> ?_⟩,fun z a hz=> ?_,e0.ag.fresh (Nat.le_refl _),fun z a hz=> ?_,fun p hp=>absurd (show p∈([]:List (Addr×Obj)) from hp) (by simp),e0.ag.kept k1,(by rw[List.length_map];exact T.len)⟩
    · have h2:cl.lookup a=some cc:=h2
      have h3:cl.lookup b=some cc:=h3
      exact T.inj _ _ _ h2 h3
    · obtain⟨c,_,h1,_⟩:=BW a (T.only a ha)
      exact⟨c,h1⟩
    · have wK:(ws.map some)[i]? =some (some v):=h3
      rw[List.getElem?_map]at wK
      obtain⟨v',e',K5⟩:=Option.map_eq_some_iff.mp wK
      cases K5
      obtain⟨kx,c,u,h5,h6,h7⟩:=T.at_ i z v h2 e'
      exact⟨u,h7,.inr ⟨.inr kx,c,h5,(xc h6).1⟩⟩
    · obtain⟨v,b⟩:=cells z a hz
      exact⟨v,(xc b).1⟩
    · obtain⟨v,b⟩:=cells z a hz
      exact(xc b).2
  refine PySem.W.kla_codeExpr (wpAny_mono (ht [] _ _ H _ I hq) (fun u s' hs=> ?_) fun e s' hs=>hs)
  obtain⟨v,H',J,r,z⟩:=hs
  exact⟨v,H',J.os,J.bare,J.base,J.ag,r,z⟩
end L2
namespace L2
open PySem PySem.Spec PyProof.Rows
section
variable {prog:Program}{w:World}{A:Around}{E:Value→Shared→Prop}{s:Shared}
theorem Jo {t sl:Addr}{items:Array Value}{vl vu:Value}{lo hi:Option Int}{Q:Value→Shared→Prop}(ht:IsTup s.heap t items) (hs:s.heap.IsSliceOf sl vl vu .none) (pl:IsPart vl lo) (pu:IsPart vu hi)
  (hw:HT.aE items.size 0 lo=0∧HT.aE items.size items.size hi=items.size) (h:Q (.ref t) s):wpAny (model prog w) A (getItem (.ref t) (.ref sl)) Q E s:=by
 obtain⟨os,lj,rX,oT⟩:=id hs
 have Ds:s.TypeIs (.ref sl) "slice" :=⟨os,lj,rX⟩
 unfold getItem
 try with_reducible refine wpAny_holding ?_
 first |refine wpAny_bind (wpAny_pure ?_) |skip
 refine wpAny_bind (wpAny_sequenceKey ht.typeIs (by decide) (wpAny_bind (wpAny_callSpecial?_slot (name:=Str.ofString "__getitem__") ht.typeIs PyProof.Rows.slot_tuple_getitem (wpAny_call_entry PyProof.Rows.slot_tuple_getitem ht.typeIs entry_tuple_getitem ?_ (args_tuple_getitem _ _)))))
 refine(show wpAny _ _ (Builtin.Tuple.tupleItemsOf (.ref t) >>=_) _ _ s from wpAny_bind (tupleItemsOf_ ht (wpAny_bind (wpAny_typeOf Ds ?_))))
 rw[if_pos (by decide)]
 refine wpAny_bind (HT.yO hs pl pu ?_)
 rw[hw.1,hw.2]
 refine(show wpAny _ _ (if ((((0:Nat):Int)==0&&(1:Int)==1&&(items.size - 0)==items.size)=true) then _ else _) _ _ s from ?_)
 rw[if_pos (by simp)]
 unfold Builtin.Tuple.tupleIsExact
 refine wpAny_bind ?_
 wp_walk using wpAny_typeOf ht.typeIs
 exact⟨_,rfl,wpAny_pure h⟩
end
section
variable {X:Cx}
def zv (K:PySem.W.Frag):V→Option Int→Option Int→Hp→VK→Prop:=fun x lo hi H Q=> ∃a xs,x=.ref a∧H a=some (.tup xs)∧∀(c:Addr) H',ae H H'→H' c=some (.tup (cM xs lo hi))→Q (.ref c) H'
theorem Nd:pP X (zv X.K):=by
 intro pins s σ H x v vl vu lo hi sl Q I rx hs pl pu h
 obtain⟨a,xs,rfl,ha,q⟩:=h
 have hx:ai X.K H a xs:=ai.of ha
 by_cases hw:HT.aE xs.length 0 lo=0∧HT.aE xs.length xs.length hi=xs.length
 ·cases rx
  obtain⟨its,r,ht,hz⟩:=I.tuple hx
  have hlen:its.toArray.size=xs.length:=by rw[List.size_toArray];exact r.length.symm
  refine⟨"tuple",_,PyProof.Rows.slot_tuple_getitem.lookup,ht.typeIs,?_⟩
  refine Jo ht hs pl pu (by rw[hlen];exact hw) ⟨.ref a,H,I,rfl,q a H (ae.refl _) ?_⟩
  rw[ha]
  unfold cM
  rw[hw.1,hw.2,List.drop_zero,Nat.sub_zero,List.take_length]
 ·exact Js pins s σ H (.ref a) v vl vu lo hi sl Q I rx hs pl pu ⟨a,xs,rfl,hx,hw,fun p hp=>q p _ (fun b u hb=>by rw[Zg (Ze hb hp)];exact hb) Zc⟩
end
end L2
namespace PyProof.Rows.fK
open PySem
def Kx:Bool→Keyed→Array Keyed→Nat→Nat→Nat→StateT SortSt Sem (Option Nat):=sortPriv%PySem.Builtin.gallop
def su (left:Bool) (key:Keyed) (arr:Array Keyed) (base:Nat) (i:Nat):StateT SortSt Sem (Option Bool):=
 elem' arr (base+i) >>=fun x=>if left=true then lt' x key else lt' key x >>=fun c=>pure (c.map fun z=> !z)
structure Ord (r:Keyed→Keyed→Bool):Prop where
 bK:∀x y,r x y=true→r y x=false
 cV:∀x y z,r y x=false→r z y=false→r z x=false
theorem Ord.jO {r:Keyed→Keyed→Bool}(o:Ord r) (x:Keyed):r x x=false:=by
 cases h:r x x with
 |false=>rfl
 |true=>have:=o.bK x x h;rw[h]at this;cases this
section
variable {prog:Program}{w:World}{A:Around}{E:Value→Shared→Prop}{s:Shared}{κ:SortKind}{a₀:Array Keyed}{r:Keyed→Keyed→Bool}
def iu (prog:Program) (w:World) (A:Around) (E:Value→Shared→Prop) (s:Shared) (κ:SortKind) (a₀:Array Keyed) (r:Keyed→Keyed→Bool):Prop:=
 ∀(x y:Keyed) (st:SortSt) (Q:Option Bool→SortSt→Prop),x∈a₀.toList→y∈a₀.toList→kindOf st=κ→Q (some (r x y)) st→wpS (model prog w) A E s (lt' x y) Q st
theorem Zm {arr:Array Keyed}{i:Nat}{x:Keyed}{Q:Keyed→SortSt→Prop}{st:SortSt}(hx:arr[i]? =some x) (h:Q x st):wpS (model prog w) A E s (elem' arr i) Q st:=by
 rw[elem'_eq,hx]
 exact wpS_pure h
def bp (r:Keyed→Keyed→Bool) (left:Bool) (key x:Keyed):Bool:=if left=true then r x key else !r key x
theorem UJ {left:Bool}{key:Keyed}{arr:Array Keyed}{base i:Nat}{x:Keyed}{Q:Option Bool→SortSt→Prop}{st:SortSt}(hc:iu prog w A E s κ a₀ r) (hk:kindOf st=κ) (hx:arr[base+i]? =some x) (mx:x∈a₀.toList) (mk:key∈a₀.toList) (h:Q (some (bp r left key x)) st):
  wpS (model prog w) A E s (su left key arr base i) Q st:=by
 unfold su
 refine wpS_bind (Zm hx ?_)
 cases left with
 |true=>
  rw[if_pos rfl]
  exact hc _ _ _ _ mx mk hk h
 |false=>
  rw[if_neg Bool.false_ne_true]
  exact wpS_bind (hc _ _ _ _ mk mx hk (wpS_pure h))
theorem ZG {left:Bool}{key:Keyed}{arr:Array Keyed}{base n hint:Nat}{Q:Option Nat→SortSt→Prop}{st:SortSt}(hc:iu prog w A E s κ a₀ r) (hk:kindOf st=κ) (p:Nat→Bool)
  (hp:∀i,i<n→∃x,arr[base+i]? =some x∧x∈a₀.toList∧p i=bp r left key x) (mk:key∈a₀.toList) (mono:∀i j,i≤j→j<n→p j=true→p i=true) (hh:hint<n)
  (h:∀k,k≤n→(∀i,i<k→p i=true)→(∀i,k≤i→i<n→p i=false)→Q (some k) st):wpS (model prog w) A E s (Kx left key arr base n hint) Q st:=by
 have jm:∀{i:Nat}{Q:Option Bool→SortSt→Prop},i<n→Q (some (p i)) st→wpS (model prog w) A E s (su left key arr base i) Q st:=fun {i Q} hi hq=>by
  obtain⟨x,e,m,ep⟩:=hp i hi
  exact UJ hc hk e m mk (by rw[←ep];exact hq)
 have down:∀i j,i≤j→j<n→p i=false→p j=false:=fun i j cJ hj hf=>by
  cases hh:p j with
  |false=>rfl
  |true=>rw[mono i j cJ hj hh]at hf;cases hf
 show wpS (model prog w) A E s (su left key arr base hint >>=_) _ _
 dsimp only
 refine wpS_bind (jm hh ?_)
 cases Aq:p hint with
 |true=>
  dsimp only
  rw[if_pos rfl]
  refine wpS_bind (wpS_forRange (I:=fun x c aa=>aa=st∧∃de cU,c=(none,de,cU)∧hint+de<n∧p (hint+de)=true∧de<cU∧x+1≤cU) ?Eo ?KL ⟨rfl,0,1,rfl,hh,Aq,by omega,by omega⟩)
  case KL=>
   rintro c aa ⟨rfl,de,cU,rfl,q1,q2,q3,q4⟩
   rw[Nat.max_eq_right (Nat.zero_le n)]at q4
   dsimp only
   refine wpS_bind (wpS_forRange (I:=fun x c aj=>aj=aa∧∃lo hi,c=(none,lo,hi)∧lo≤hi∧hi≤n∧(∀i,i<lo→p i=true)∧(∀i,hi≤i→i<n→p i=false)∧hi - lo≤n - x) ?_ ?_ ⟨rfl,_,_,rfl,(by omega),(by omega),(fun i hi=>mono i (hint+de) (by omega) q1 q2),(fun i h1 h2=>by omega),by omega⟩)
   ·rintro x c aj _ hx ⟨rfl,lo,hi,rfl,h1,h2,h3,h4,h5⟩
    dsimp only
    by_cases bq:lo≥hi
    ·rw[if_pos bq]
     have e:lo=hi:=by omega
     subst e
     exact wpS_pure (wpS_pure (h lo h2 h3 h4))
    ·rw[if_neg bq]
     have hm:lo+(hi - lo)/2<hi:=by omega
     generalize em:lo+(hi - lo)/2=m at hm
     have gZ:lo≤m:=by omega
     refine wpS_bind (jm (by omega) ?_)
     cases dR:p m with
     |true=>exact wpS_pure ⟨rfl,m+1,hi,rfl,by omega,h2,fun i bT=>mono i m (by omega) (by omega) dR,h4,by omega⟩
     |false=>exact wpS_pure ⟨rfl,lo,m,rfl,gZ,by omega,h3,fun i h1 h2=>down m i h1 h2 dR,by omega⟩
   ·rintro c aj ⟨rfl,lo,hi,rfl,h1,h2,h3,h4,h5⟩
    rw[Nat.max_eq_right (Nat.zero_le n)]at h5
    have e:lo=hi:=by omega
    subst e
    exact wpS_pure (h lo h2 h3 h4)
  case Eo=>
   rintro x c aa _ hx ⟨rfl,de,cU,rfl,q1,q2,q3,q4⟩
   dsimp only
   by_cases bq:cU≥n - hint
   ·rw[if_pos bq]
    refine wpS_pure ?_
    dsimp only
    refine wpS_bind (wpS_forRange (I:=fun x c aj=>aj=aa∧∃lo hi,c=(none,lo,hi)∧lo≤hi∧hi≤n∧(∀i,i<lo→p i=true)∧(∀i,hi≤i→i<n→p i=false)∧hi - lo≤n - x) ?_ ?_ ⟨rfl,_,_,rfl,(by omega),(by omega),(fun i hi=>mono i (hint+de) (by omega) q1 q2),(fun i h1 h2=>by omega),by omega⟩)
    ·rintro x c aj _ hx ⟨rfl,lo,hi,rfl,h1,h2,h3,h4,h5⟩
     dsimp only
     by_cases bq:lo≥hi
     ·rw[if_pos bq]
      have e:lo=hi:=by omega
      subst e
      exact wpS_pure (wpS_pure (h lo h2 h3 h4))
     ·rw[if_neg bq]
      have hm:lo+(hi - lo)/2<hi:=by omega
      generalize em:lo+(hi - lo)/2=m at hm
      have gZ:lo≤m:=by omega
      refine wpS_bind (jm (by omega) ?_)
      cases dR:p m with
      |true=>exact wpS_pure ⟨rfl,m+1,hi,rfl,by omega,h2,fun i bT=>mono i m (by omega) (by omega) dR,h4,by omega⟩
      |false=>exact wpS_pure ⟨rfl,lo,m,rfl,gZ,by omega,h3,fun i h1 h2=>down m i h1 h2 dR,by omega⟩
    ·rintro c aj ⟨rfl,lo,hi,rfl,h1,h2,h3,h4,h5⟩
     rw[Nat.max_eq_right (Nat.zero_le n)]at h5
     have e:lo=hi:=by omega
     subst e
     exact wpS_pure (h lo h2 h3 h4)
   ·rw[if_neg bq]
    refine wpS_bind (jm (by omega) ?_)
    cases oI:p (hint+cU) with
    |true=>exact wpS_pure ⟨rfl,cU,2*cU+1,rfl,by omega,oI,by omega,by omega⟩
    |false=>
     refine wpS_pure ?_
     dsimp only
     refine wpS_bind (wpS_forRange (I:=fun x c aj=>aj=aa∧∃lo hi,c=(none,lo,hi)∧lo≤hi∧hi≤n∧(∀i,i<lo→p i=true)∧(∀i,hi≤i→i<n→p i=false)∧hi - lo≤n - x) ?_ ?_ ⟨rfl,_,_,rfl,(by omega),(by omega),(fun i hi=>mono i (hint+de) (by omega) q1 q2),(fun i h1 h2=>down (hint+cU) i (by omega) h2 oI),by omega⟩)
     ·rintro x c aj _ hx ⟨rfl,lo,hi,rfl,h1,h2,h3,h4,h5⟩
      dsimp only
      by_cases bq:lo≥hi
      ·rw[if_pos bq]
       have e:lo=hi:=by omega
       subst e
       exact wpS_pure (wpS_pure (h lo h2 h3 h4))
      ·rw[if_neg bq]
       have hm:lo+(hi - lo)/2<hi:=by omega
       generalize em:lo+(hi - lo)/2=m at hm
       have gZ:lo≤m:=by omega
       refine wpS_bind (jm (by omega) ?_)
       cases dR:p m with
       |true=>exact wpS_pure ⟨rfl,m+1,hi,rfl,by omega,h2,fun i bT=>mono i m (by omega) (by omega) dR,h4,by omega⟩
       |false=>exact wpS_pure ⟨rfl,lo,m,rfl,gZ,by omega,h3,fun i h1 h2=>down m i h1 h2 dR,by omega⟩
     ·rintro c aj ⟨rfl,lo,hi,rfl,h1,h2,h3,h4,h5⟩
      rw[Nat.max_eq_right (Nat.zero_le n)]at h5
      have e:lo=hi:=by omega
      subst e
      exact wpS_pure (h lo h2 h3 h4)
 |false=>
  dsimp only
  rw[if_neg Bool.false_ne_true]
  refine wpS_bind (wpS_forRange (I:=fun x c aa=>aa=st∧∃de cU,c=(none,de,cU)∧de≤hint∧p (hint - de)=false∧de<cU∧x+1≤cU) ?En ?fin2 ⟨rfl,0,1,rfl,by omega,Aq,by omega,by omega⟩)
  case fin2=>
   rintro c aa ⟨rfl,de,cU,rfl,q1,q2,q3,q4⟩
   rw[Nat.max_eq_right (Nat.zero_le n)]at q4
   dsimp only
   refine wpS_bind (wpS_forRange (I:=fun x c aj=>aj=aa∧∃lo hi,c=(none,lo,hi)∧lo≤hi∧hi≤n∧(∀i,i<lo→p i=true)∧(∀i,hi≤i→i<n→p i=false)∧hi - lo≤n - x) ?_ ?_ ⟨rfl,_,_,rfl,(by omega),(by omega),(fun i hi=>by omega),(fun i h1 h2=>down (hint - de) i (by omega) h2 q2),by omega⟩)
   ·rintro x c aj _ hx ⟨rfl,lo,hi,rfl,h1,h2,h3,h4,h5⟩
    dsimp only
    by_cases bq:lo≥hi
    ·rw[if_pos bq]
     have e:lo=hi:=by omega
     subst e
     exact wpS_pure (wpS_pure (h lo h2 h3 h4))
    ·rw[if_neg bq]
     have hm:lo+(hi - lo)/2<hi:=by omega
     generalize em:lo+(hi - lo)/2=m at hm
     have gZ:lo≤m:=by omega
     refine wpS_bind (jm (by omega) ?_)
     cases dR:p m with
     |true=>exact wpS_pure ⟨rfl,m+1,hi,rfl,by omega,h2,fun i bT=>mono i m (by omega) (by omega) dR,h4,by omega⟩
     |false=>exact wpS_pure ⟨rfl,lo,m,rfl,gZ,by omega,h3,fun i h1 h2=>down m i h1 h2 dR,by omega⟩
   ·rintro c aj ⟨rfl,lo,hi,rfl,h1,h2,h3,h4,h5⟩
    rw[Nat.max_eq_right (Nat.zero_le n)]at h5
    have e:lo=hi:=by omega
    subst e
    exact wpS_pure (h lo h2 h3 h4)
  case En=>
   rintro x c aa _ hx ⟨rfl,de,cU,rfl,q1,q2,q3,q4⟩
   dsimp only
   by_cases bq:cU≥hint+1
   ·rw[if_pos bq]
    refine wpS_pure ?_
    dsimp only
    refine wpS_bind (wpS_forRange (I:=fun x c aj=>aj=aa∧∃lo hi,c=(none,lo,hi)∧lo≤hi∧hi≤n∧(∀i,i<lo→p i=true)∧(∀i,hi≤i→i<n→p i=false)∧hi - lo≤n - x) ?_ ?_ ⟨rfl,_,_,rfl,(by omega),(by omega),(fun i hi=>by omega),(fun i h1 h2=>down (hint - de) i (by omega) h2 q2),by omega⟩)
    ·rintro x c aj _ hx ⟨rfl,lo,hi,rfl,h1,h2,h3,h4,h5⟩
     dsimp only
     by_cases bq:lo≥hi
     ·rw[if_pos bq]
      have e:lo=hi:=by omega
      subst e
      exact wpS_pure (wpS_pure (h lo h2 h3 h4))
     ·rw[if_neg bq]
      have hm:lo+(hi - lo)/2<hi:=by omega
      generalize em:lo+(hi - lo)/2=m at hm
      have gZ:lo≤m:=by omega
      refine wpS_bind (jm (by omega) ?_)
      cases dR:p m with
      |true=>exact wpS_pure ⟨rfl,m+1,hi,rfl,by omega,h2,fun i bT=>mono i m (by omega) (by omega) dR,h4,by omega⟩
      |false=>exact wpS_pure ⟨rfl,lo,m,rfl,gZ,by omega,h3,fun i h1 h2=>down m i h1 h2 dR,by omega⟩
    ·rintro c aj ⟨rfl,lo,hi,rfl,h1,h2,h3,h4,h5⟩
     rw[Nat.max_eq_right (Nat.zero_le n)]at h5
     have e:lo=hi:=by omega
     subst e
     exact wpS_pure (h lo h2 h3 h4)
   ·rw[if_neg bq]
    refine wpS_bind (jm (by omega) ?_)
    cases oI:p (hint - cU) with
    |true=>
     refine wpS_pure ?_
     dsimp only
     refine wpS_bind (wpS_forRange (I:=fun x c aj=>aj=aa∧∃lo hi,c=(none,lo,hi)∧lo≤hi∧hi≤n∧(∀i,i<lo→p i=true)∧(∀i,hi≤i→i<n→p i=false)∧hi - lo≤n - x) ?_ ?_ ⟨rfl,_,_,rfl,(by omega),(by omega),(fun i hi=>mono i (hint - cU) (by omega) (by omega) oI),(fun i h1 h2=>down (hint - de) i (by omega) h2 q2),by omega⟩)
     ·rintro x c aj _ hx ⟨rfl,lo,hi,rfl,h1,h2,h3,h4,h5⟩
      dsimp only
      by_cases bq:lo≥hi
      ·rw[if_pos bq]
       have e:lo=hi:=by omega
       subst e
       exact wpS_pure (wpS_pure (h lo h2 h3 h4))
      ·rw[if_neg bq]
       have hm:lo+(hi - lo)/2<hi:=by omega
       generalize em:lo+(hi - lo)/2=m at hm
       have gZ:lo≤m:=by omega
       refine wpS_bind (jm (by omega) ?_)
       cases dR:p m with
       |true=>exact wpS_pure ⟨rfl,m+1,hi,rfl,by omega,h2,fun i bT=>mono i m (by omega) (by omega) dR,h4,by omega⟩
       |false=>exact wpS_pure ⟨rfl,lo,m,rfl,gZ,by omega,h3,fun i h1 h2=>down m i h1 h2 dR,by omega⟩
     ·rintro c aj ⟨rfl,lo,hi,rfl,h1,h2,h3,h4,h5⟩
      rw[Nat.max_eq_right (Nat.zero_le n)]at h5
      have e:lo=hi:=by omega
      subst e
      exact wpS_pure (h lo h2 h3 h4)
    |false=>exact wpS_pure ⟨rfl,cU,2*cU+1,rfl,by omega,oI,by omega,by omega⟩
end
def yP:Nat→StateT SortSt Sem Unit:=sortPriv%PySem.Builtin.setMinGallop
def F0:Array Keyed→Array Keyed→StateT SortSt Sem (Array Keyed):=sortPriv%PySem.Builtin.mergeLo
theorem Jt (g:Nat):yP g=modify fun s=>SortSt.mk' (kindOf s) (arrOf s) (pendingOf s) g (failedOf s):=rfl
abbrev Pw (r:Keyed→Keyed→Bool) (l:List Keyed):Prop:=l.Pairwise fun x y=>r y x=false
def SG (st aa:SortSt):Prop:=kindOf aa=kindOf st∧arrOf aa=arrOf st∧pendingOf aa=pendingOf st∧failedOf aa=failedOf st
theorem SG.refl (st:SortSt):SG st st:=⟨rfl,rfl,rfl,rfl⟩
def Good (r:Keyed→Keyed→Bool) (a b res:Array Keyed):Prop:=res.toList.Perm (a.toList++b.toList)∧Pw r res.toList
structure JW (r:Keyed→Keyed→Bool) (a b out:Array Keyed) (ia ib:Nat):Prop where
 perm:(out.toList++(a.toList.drop ia++b.toList.drop ib)).Perm (a.toList++b.toList)
 iX:Pw r out.toList
 gb:∀x∈out.toList,∀y∈a.toList.drop ia++b.toList.drop ib,r y x=false
structure dY (r:Keyed→Keyed→Bool) (a b:Array Keyed):Prop where
 o:Ord r
 sa:Pw r a.toList
 sb:Pw r b.toList
theorem YY {α:Type}{l:List α}{i:Nat}{x:α}(h:l[i]? =some x):l.drop i=x::l.drop (i+1):=by
 obtain⟨hi,e⟩:=List.getElem?_eq_some_iff.mp h
 rw[List.drop_eq_getElem_cons hi,e]
theorem Zv {xs:Array Keyed}{i:Nat}{x:Keyed}(h:xs[i]? =some x):xs.toList[i]? =some x:=by rw[Array.getElem?_toList];exact h
theorem Zh {xs:Array Keyed}{i:Nat}(h:i<xs.size):∃x,xs[i]? =some x:=⟨xs[i],getElem?_pos xs i h⟩
theorem Jd {r:Keyed→Keyed→Bool}{l:List Keyed}{i:Nat}{x:Keyed}(o:Ord r) (p:Pw r l) (h:l[i]? =some x):∀y∈l.drop i,r y x=false:=fun y hy=>by
 rw[YY h]at hy
 rcases List.mem_cons.mp hy with rfl |hy
 ·exact o.jO _
 ·have q:Pw r (l.drop i):=List.Pairwise.sublist (List.drop_sublist i l) p
  rw[YY h]at q
  exact(List.pairwise_cons.mp q).1 y hy
theorem Jz (xs:Array Keyed) (i j:Nat):(xs.extract i j).toList=(xs.toList.drop i).take (j - i):=by
 rw[Array.toList_extract,List.extract_eq_drop_take]
theorem JO (xs:Array Keyed) (i:Nat):(xs.extract i xs.size).toList=xs.toList.drop i:=by
 rw[Jz,List.take_of_length_le (by rw[List.length_drop,Array.length_toList];exact Nat.le_refl _)]
section
variable {r:Keyed→Keyed→Bool}{a b out:Array Keyed}{ia ib:Nat}
theorem JW.cG (C:dY r a b) (J:JW r a b out ia ib) {x:Keyed}(hx:a[ia]? =some x) (h:∀y,b[ib]? =some y→r y x=false):JW r a b (out.push x) (ia+1) ib:=by
 have jb:=Zv hx
 have hd:=YY jb
 have low:∀y∈a.toList.drop (ia+1)++b.toList.drop ib,r y x=false:=fun y hy=>by
  rcases List.mem_append.mp hy with hy |hy
  ·exact Jd C.o C.sa jb y (by rw[hd];exact List.mem_cons_of_mem _ hy)
  ·cases e:b[ib]? with
   |none=>
    rw[←Array.getElem?_toList]at e
    rw[List.drop_eq_nil_of_le (by rw[List.getElem?_eq_none_iff]at e;exact e)]at hy
    cases hy
   |some z=>
    have h1:=Jd C.o C.sb (Zv e) y hy
    exact C.o.cV x z y (h z e) h1
 refine⟨?_,?_,fun u hu y hy=> ?_⟩
 ·rw[Array.toList_push,List.append_assoc]
  have:=J.perm
  rw[hd]at this
  exact this
 ·rw[Array.toList_push]
  refine List.pairwise_append.mpr ⟨J.iX,List.pairwise_singleton _ _,fun u hu v hv=> ?_⟩
  rw[List.mem_singleton.mp hv]
  exact J.gb u hu x (List.mem_append_left _ (by rw[hd];exact List.mem_cons_self))
 ·rw[Array.toList_push]at hu
  rcases List.mem_append.mp hu with hu |hu
  ·refine J.gb u hu y ?_
   rcases List.mem_append.mp hy with hy |hy
   ·exact List.mem_append_left _ (by rw[hd];exact List.mem_cons_of_mem _ hy)
   ·exact List.mem_append_right _ hy
  ·rw[List.mem_singleton.mp hu]
   exact low y hy
theorem JW.fo (C:dY r a b) (J:JW r a b out ia ib) {y:Keyed}(hy:b[ib]? =some y) (h:∀x,a[ia]? =some x→r x y=false):JW r a b (out.push y) ia (ib+1):=by
 have fW:=Zv hy
 have hd:=YY fW
 have low:∀z∈a.toList.drop ia++b.toList.drop (ib+1),r z y=false:=fun z hz=>by
  rcases List.mem_append.mp hz with hz |hz
  ·cases e:a[ia]? with
   |none=>
    rw[←Array.getElem?_toList]at e
    rw[List.drop_eq_nil_of_le (by rw[List.getElem?_eq_none_iff]at e;exact e)]at hz
    cases hz
   |some x=>
    have h1:=Jd C.o C.sa (Zv e) z hz
    exact C.o.cV y x z (h x e) h1
  ·exact Jd C.o C.sb fW z (by rw[hd];exact List.mem_cons_of_mem _ hz)
 refine⟨?_,?_,fun u hu z hz=> ?_⟩
 ·rw[Array.toList_push,List.append_assoc]
  have:=J.perm
  rw[hd]at this
  refine List.Perm.trans (List.Perm.append_left _ ?_) this
  exact(show(y::(a.toList.drop ia++b.toList.drop (ib+1))).Perm _ from List.perm_middle.symm)
 ·rw[Array.toList_push]
  refine List.pairwise_append.mpr ⟨J.iX,List.pairwise_singleton _ _,fun u hu v hv=> ?_⟩
  rw[List.mem_singleton.mp hv]
  exact J.gb u hu y (List.mem_append_right _ (by rw[hd];exact List.mem_cons_self))
 ·rw[Array.toList_push]at hu
  rcases List.mem_append.mp hu with hu |hu
  ·refine J.gb u hu z ?_
   rcases List.mem_append.mp hz with hz |hz
   ·exact List.mem_append_left _ hz
   ·exact List.mem_append_right _ (by rw[hd];exact List.mem_cons_of_mem _ hz)
  ·rw[List.mem_singleton.mp hu]
   exact low z hz
theorem UB {xs:Array Keyed}{i k:Nat}{x:Keyed}(hx:xs[i+k]? =some x):xs.extract i (i+(k+1))=(xs.extract i (i+k)).push x:=by
 obtain⟨h,e⟩:=Array.getElem?_eq_some_iff.mp hx
 rw[←e,←Nat.add_assoc,Array.extract_succ_right (by omega) h]
theorem JW.mj (C:dY r a b) (J:JW r a b out ia ib):∀k,ia+k≤a.size→(∀i,i<k→∀x y,a[ia+i]? =some x→b[ib]? =some y→r y x=false)→JW r a b (out++a.extract ia (ia+k)) (ia+k) ib
 |0,_,_=>by
  rw[Nat.add_zero]
  have e:a.extract ia ia= #[]:=by simp;omega
  rw[e,Array.append_empty]
  exact J
 |k+1,hk,h=>by
  obtain⟨x,hx⟩:=Zh (xs:=a) (i:=ia+k) (by omega)
  have ih:=JW.mj C J k (by omega) fun i hi=>h i (by omega)
  have:=ih.cG C hx fun y hy=>h k (by omega) x y hx hy
  rw[UB hx,Array.append_push]
  exact this
theorem JW.jH (C:dY r a b) (J:JW r a b out ia ib):∀k,ib+k≤b.size→(∀i,i<k→∀y x,b[ib+i]? =some y→a[ia]? =some x→r x y=false)→JW r a b (out++b.extract ib (ib+k)) ia (ib+k)
 |0,_,_=>by
  rw[Nat.add_zero]
  have e:b.extract ib ib= #[]:=by simp;omega
  rw[e,Array.append_empty]
  exact J
 |k+1,hk,h=>by
  obtain⟨y,hy⟩:=Zh (xs:=b) (i:=ib+k) (by omega)
  have ih:=JW.jH C J k (by omega) fun i hi=>h i (by omega)
  have:=ih.fo C hy fun x hx=>h k (by omega) y x hy hx
  rw[UB hy,Array.append_push]
  exact this
theorem JW.done (C:dY r a b) (J:JW r a b out ia ib) (h:a.size≤ia∨b.size≤ib):Good r a b (out++a.extract ia a.size++b.extract ib b.size):=by
 unfold Good
 rw[Array.toList_append,Array.toList_append,JO,JO]
 refine⟨by rw[List.append_assoc];exact J.perm,?_⟩
 have pa:Pw r (a.toList.drop ia):=List.Pairwise.sublist (List.drop_sublist _ _) C.sa
 have pb:Pw r (b.toList.drop ib):=List.Pairwise.sublist (List.drop_sublist _ _) C.sb
 rw[List.append_assoc]
 refine List.pairwise_append.mpr ⟨J.iX,?_,J.gb⟩
 rcases h with h |h
 ·rw[List.drop_eq_nil_of_le (by rw[Array.length_toList];exact h),List.nil_append]
  exact pb
 ·rw[List.drop_eq_nil_of_le (as:=b.toList) (by rw[Array.length_toList];exact h),List.append_nil]
  exact pa
theorem JW.last (C:dY r a b) (J:JW r a b out ia ib) (h:ia+1=a.size) (hl:∀x,a[a.size - 1]? =some x→∀y∈b.toList,r x y=false):Good r a b (out++b.extract ib b.size++a.extract ia a.size):=by
 unfold Good
 rw[Array.toList_append,Array.toList_append,JO,JO]
 obtain⟨x,hx⟩:=Zh (xs:=a) (i:=ia) (by omega)
 have ed:a.toList.drop ia=[x]:=by
  rw[YY (Zv hx),List.drop_eq_nil_of_le (by rw[Array.length_toList];omega)]
 have P:=J.perm
 have B:=J.gb
 rw[ed]at P B ⊢
 have pb:Pw r (b.toList.drop ib):=List.Pairwise.sublist (List.drop_sublist _ _) C.sb
 refine⟨?_,?_⟩
 ·rw[List.append_assoc]
  exact List.Perm.trans (List.Perm.append_left _ List.perm_append_comm) P
 ·rw[List.append_assoc]
  refine List.pairwise_append.mpr ⟨J.iX,List.pairwise_append.mpr ⟨pb,List.pairwise_singleton _ _,fun y hy z hz=> ?_⟩,fun u hu z hz=>B u hu z ?_⟩
  ·rw[List.mem_singleton.mp hz]
   exact hl x (by rw[show a.size - 1=ia by omega];exact hx) y (List.mem_of_mem_drop hy)
  ·rcases List.mem_append.mp hz with hz |hz
   ·exact List.mem_append_right _ hz
   ·exact List.mem_append_left _ hz
end
theorem Zu {xs:Array Keyed}{i:Nat}{x:Keyed}(h:xs[i]? =some x):x∈xs.toList:=List.mem_of_getElem? (Zv h)
theorem Yj {r:Keyed→Keyed→Bool}{l:List Keyed}{i j:Nat}{x y:Keyed}(o:Ord r) (p:Pw r l) (hx:l[i]? =some x) (hy:l[j]? =some y) (h:i≤j):r y x=false:=by
 refine Jd o p hx y ?_
 have:(l.drop i)[j - i]? =some y:=by rw[List.getElem?_drop,show i+(j - i)=j by omega];exact hy
 exact List.mem_of_getElem? this
theorem Jh {r:Keyed→Keyed→Bool}{x y z:Keyed}(o:Ord r) (h:r y z=true) (h2:r y x=false):r x z=true:=by
 cases e:r x z with
 |true=>rfl
 |false=>
  have:=o.cV z x y e h2
  rw[h]at this
  cases this
section
variable {prog:Program}{w:World}{A:Around}{E:Value→Shared→Prop}{s:Shared}{κ:SortKind}{a₀:Array Keyed}{r:Keyed→Keyed→Bool}
theorem Yy {g:Nat}{Q:Unit→SortSt→Prop}{st:SortSt}(h:Q () (SortSt.mk' (kindOf st) (arrOf st) (pendingOf st) g (failedOf st))):wpS (model prog w) A E s (yP g) Q st:=by
 rw[Jt]
 exact wpS_modify h
theorem W7 {a b:Array Keyed}{Q:Array Keyed→SortSt→Prop}{st:SortSt}(hc:iu prog w A E s κ a₀ r) (hk:kindOf st=κ) (C:dY r a b) (ma:∀x∈a.toList,x∈a₀.toList) (mb:∀x∈b.toList,x∈a₀.toList) (na:1≤a.size) (nb:1≤b.size)
  (h0:∀y,b[0]? =some y→∀x∈a.toList,r x y=false) (hl:∀x,a[a.size - 1]? =some x→∀y∈b.toList,r x y=false)
  (h:∀res aa,SG st aa→Good r a b res→Q res aa):wpS (model prog w) A E s (F0 a b) Q st:=by
 show wpS (model prog w) A E s (_ >>=_) _ _
 try dsimp only
 refine wpS_bind (wpS_lift (wpAny_rule ⟨rfl,?_⟩))
 obtain⟨y0,jP⟩:=Zh (xs:=b) (i:=0) (by omega)
 refine wpS_bind (Zm jP ?_)
 have J0:JW r a b #[y0] 0 1:=by
  have e:JW r a b #[] 0 0:=⟨by simp,.nil,fun x hx=>by cases hx⟩
  exact e.fo C jP fun x hx=>h0 y0 jP x (Zu hx)
 by_cases bo:(1==b.size)=true
 ·rw[if_pos bo]
  exact wpS_pure (h _ _ (SG.refl _) (J0.done C (.inr (by have:=beq_iff_eq.mp bo;omega))))
 rw[if_neg bo]
 by_cases bG:(0+1==a.size)=true
 ·rw[if_pos bG]
  exact wpS_pure (h _ _ (SG.refl _) (J0.last C (by have:=beq_iff_eq.mp bG;omega) hl))
 rw[if_neg bG]
 have mE:¬(1=b.size):=fun z=>bo (beq_iff_eq.mpr z)
 have rJ:¬(0+1=a.size):=fun z=>bG (beq_iff_eq.mpr z)
 refine wpS_bind (wpS_get ?_)
 refine wpS_bind (wpS_mono (wpS_forRange (I:=fun x c aw=>SG st aw∧∃out ia ib g,c=(none,out,ia,ib,g)∧JW r a b out ia ib∧ia+1<a.size∧ib<b.size∧x+1≤ia+ib) (Q:=fun c aw=>SG st aw∧∃res,c.fst=some res∧Good r a b res) ?step ?fin ⟨SG.refl _,_,_,_,_,rfl,J0,by omega,by omega,by omega⟩) ?post)
 case post=>
  rintro c aw ⟨gH,res,ec,gd⟩
  rw[ec]
  exact wpS_pure (h res aw gH gd)
 case fin=>
  rintro c aw ⟨_,out,ia,ib,g,_,_,i1,i2,i3⟩
  rw[Nat.max_eq_right (Nat.zero_le _)]at i3
  omega
 case step=>
  rintro x c aw _ hx ⟨gH,out,ia,ib,g,rfl,J,i1,i2,i3⟩
  dsimp only
  have bA:kindOf aw=κ:=by rw[gH.1];exact hk
  refine wpS_bind (wpS_mono (wpS_forRange (I:=fun y c aj=>aj=aw∧∃dI du dq ac bc,c=(none,dI,du,dq,ac,bc)∧JW r a b dI du dq∧du+1<a.size∧dq<b.size∧ia+ib+y≤du+dq)
   (Q:=fun c aj=>aj=aw∧((∃res,c.fst=some res∧Good r a b res)∨∃dI du dq ac bc,c=(none,dI,du,dq,ac,bc)∧JW r a b dI du dq∧du+1<a.size∧dq<b.size∧ia+ib+1≤du+dq)) ?_ ?_ ⟨rfl,_,_,_,_,_,rfl,J,i1,i2,by omega⟩) ?_)
  ·rintro y c aj _ hy ⟨rfl,dI,du,dq,ac,bc,rfl,J',j1,j2,j3⟩
   dsimp only
   obtain⟨yb,gS⟩:=Zh (xs:=b) (i:=dq) (by omega)
   obtain⟨xa,gT⟩:=Zh (xs:=a) (i:=du) (by omega)
   refine wpS_bind (Zm gS (wpS_bind (Zm gT (wpS_bind (hc _ _ _ _ (mb _ (Zu gS)) (ma _ (Zu gT)) bA ?_)))))
   dsimp only
   cases hr:r yb xa with
   |true=>
    rw[if_pos rfl]
    refine wpS_bind (Zm gS ?_)
    have J2:=J'.fo C gS (fun x hx=>by rw[gT]at hx;cases hx;exact C.o.bK _ _ hr)
    by_cases hz:(dq+1==b.size)=true
    ·rw[if_pos hz]
     exact wpS_pure ⟨rfl,.inl ⟨_,rfl,J2.done C (.inr (by have:=beq_iff_eq.mp hz;omega))⟩⟩
    rw[if_neg hz]
    have bf:¬(dq+1=b.size):=fun z=>hz (beq_iff_eq.mpr z)
    by_cases hg:bc+1≥g
    ·rw[if_pos hg]
     exact wpS_pure ⟨rfl,.inr ⟨_,_,_,_,_,rfl,J2,by omega,by omega,by omega⟩⟩
    ·rw[if_neg hg]
     exact wpS_pure ⟨rfl,_,_,_,_,_,rfl,J2,by omega,by omega,by omega⟩
   |false=>
    rw[if_neg Bool.false_ne_true]
    refine wpS_bind (Zm gT ?_)
    have J2:=J'.cG C gT (fun x hx=>by rw[gS]at hx;cases hx;exact hr)
    by_cases hz:(du+1+1==a.size)=true
    ·rw[if_pos hz]
     exact wpS_pure ⟨rfl,.inl ⟨_,rfl,J2.last C (by have:=beq_iff_eq.mp hz;omega) hl⟩⟩
    rw[if_neg hz]
    have bf:¬(du+1+1=a.size):=fun z=>hz (beq_iff_eq.mpr z)
    by_cases hg:ac+1≥g
    ·rw[if_pos hg]
     exact wpS_pure ⟨rfl,.inr ⟨_,_,_,_,_,rfl,J2,by omega,by omega,by omega⟩⟩
    ·rw[if_neg hg]
     exact wpS_pure ⟨rfl,_,_,_,_,_,rfl,J2,by omega,by omega,by omega⟩
  ·rintro c aj ⟨rfl,dI,du,dq,ac,bc,rfl,J',j1,j2,j3⟩
   rw[Nat.max_eq_right (Nat.zero_le _)]at j3
   omega
  rintro c aj ⟨rfl,⟨res,ec,gd⟩ |⟨dI,du,dq,ac,bc,rfl,J',j1,j2,j3⟩⟩
  ·rw[ec]
   exact wpS_pure ⟨gH,res,rfl,gd⟩
  dsimp only
  refine wpS_bind (wpS_lift (wpAny_rule ⟨rfl,?_⟩))
  refine wpS_bind (wpS_mono (wpS_forRange (I:=fun y c aj=>SG st aj∧∃out ia ib g ac bc,c=(none,out,ia,ib,g,ac,bc)∧JW r a b out ia ib∧ia+1<a.size∧ib<b.size∧du+dq+y≤ia+ib)
   (Q:=fun c aj=>SG st aj∧((∃res,c.fst=some res∧Good r a b res)∨∃out ia ib g ac bc,c=(none,out,ia,ib,g,ac,bc)∧JW r a b out ia ib∧ia+1<a.size∧ib<b.size∧du+dq≤ia+ib)) ?_ ?_ ⟨gH,_,_,_,_,_,_,rfl,J',j1,j2,by omega⟩) ?_)
  ·clear J i1 i2 bA
   rintro y c aj _ hy ⟨fP,out,Ae,Ad,g,ac,bc,rfl,J,i1,i2,i4⟩
   dsimp only
   revert J i1 i2 i4
   have QC:ia+ib+1≤du+dq:=j3
   clear j3 i3
   generalize Ae=ia
   generalize Ad=ib
   intro J i1 i2 i4
   by_cases oQ:g>1
   ·rw[if_pos oQ]
    refine wpS_bind (Yy ?_)
    generalize lD:SortSt.mk' _ _ _ _ _=aF
    have au:SG st aF:=by rw[←lD];exact fP
    have eX:kindOf aF=κ:=by rw[au.1];exact hk
    obtain⟨y2,aR⟩:=Zh (xs:=b) (i:=ib) (by omega)
    refine wpS_bind (Zm aR ?_)
    refine wpS_bind (ZG hc eX (fun i=>match a[ia+i]? with |some x=> !r y2 x |none=>false) (fun i hi=> ?_) (mb y2 (Zu aR)) (fun i j cJ hj hp=> ?_) (by omega) fun k kn df cD=> ?_)
    ·obtain⟨x,hx⟩:=Zh (xs:=a) (i:=ia+i) (by omega)
     refine⟨x,hx,ma x (Zu hx),?_⟩
     try dsimp only
     rw[hx]
     rfl
    ·obtain⟨xj,fw⟩:=Zh (xs:=a) (i:=ia+j) (by omega)
     obtain⟨xi,fA⟩:=Zh (xs:=a) (i:=ia+i) (by omega)
     try dsimp only at hp ⊢
     rw[fw]at hp
     rw[fA]
     rw[Bool.not_eq_true']at hp ⊢
     exact C.o.cV _ _ _ (Yj C.o C.sa (Zv fA) (Zv fw) (by omega)) hp
    try dsimp only
    by_cases g8:k>0
    ·rw[if_pos g8]
     have J1:=J.mj C k (by omega) (fun i hi x y hx hy=>by
      rw[aR]at hy
      cases hy
      have:=df i hi
      try dsimp only at this
      rw[hx,Bool.not_eq_true']at this
      exact this)
     by_cases bo:(ia+k+1==a.size)=true
     ·rw[if_pos bo]
      exact wpS_pure ⟨au,.inl ⟨_,rfl,J1.last C (by have:=beq_iff_eq.mp bo;omega) hl⟩⟩
     rw[if_neg bo]
     by_cases bG:(ia+k==a.size)=true
     ·rw[if_pos bG]
      exact wpS_pure ⟨au,.inl ⟨_,rfl,J1.done C (.inl (by have:=beq_iff_eq.mp bG;omega))⟩⟩
     rw[if_neg bG]
     have mE:¬(ia+k+1=a.size):=fun z=>bo (beq_iff_eq.mpr z)
     have rJ:¬(ia+k=a.size):=fun z=>bG (beq_iff_eq.mpr z)
     refine wpS_bind (Zm aR ?_)
     have J2:=J1.fo C aR (fun x hx=>by
      have:=cD k (Nat.le_refl _) (by omega)
      try dsimp only at this
      rw[hx,Bool.not_eq_false']at this
      exact C.o.bK _ _ this)
     by_cases hz:(ib+1==b.size)=true
     ·rw[if_pos hz]
      exact wpS_pure ⟨au,.inl ⟨_,rfl,J2.done C (.inr (by have:=beq_iff_eq.mp hz;omega))⟩⟩
     rw[if_neg hz]
     have bf:¬(ib+1=b.size):=fun z=>hz (beq_iff_eq.mpr z)
     obtain⟨x3,aO⟩:=Zh (xs:=a) (i:=ia+k) (by omega)
     refine wpS_bind (Zm aO ?_)
     refine wpS_bind (ZG hc eX (fun i=>match b[ib+1+i]? with |some y=>r y x3 |none=>false) (fun i hi=> ?_) (ma x3 (Zu aO)) (fun i j cJ hj hp=> ?_) (by omega) fun k1 kN df cD=> ?_)
     ·obtain⟨y,hy⟩:=Zh (xs:=b) (i:=ib+1+i) (by omega)
      refine⟨y,hy,mb y (Zu hy),?_⟩
      try dsimp only
      rw[hy]
      rfl
     ·obtain⟨yj,bX⟩:=Zh (xs:=b) (i:=ib+1+j) (by omega)
      obtain⟨yi,bY⟩:=Zh (xs:=b) (i:=ib+1+i) (by omega)
      try dsimp only at hp ⊢
      rw[bX]at hp
      rw[bY]
      exact Jh C.o hp (Yj C.o C.sb (Zv bY) (Zv bX) (by omega))
     try dsimp only
     by_cases bA:k1>0
     ·rw[if_pos bA]
      have J3:=J2.jH C k1 (by omega) (fun i hi y x hy hx=>by
       rw[aO]at hx
       cases hx
       have:=df i hi
       try dsimp only at this
       rw[hy]at this
       exact C.o.bK _ _ this)
      by_cases az:(ib+1+k1==b.size)=true
      ·rw[if_pos az]
       exact wpS_pure ⟨au,.inl ⟨_,rfl,J3.done C (.inr (by have:=beq_iff_eq.mp az;omega))⟩⟩
      rw[if_neg az]
      have kT:¬(ib+1+k1=b.size):=fun z=>az (beq_iff_eq.mpr z)
      obtain⟨x4,av⟩:=Zh (xs:=a) (i:=ia+k) (by omega)
      refine wpS_bind (Zm av ?_)
      have J4:=J3.cG C av (fun y hy=>by
       have:=cD k1 (Nat.le_refl _) (by omega)
       try dsimp only at this
       rw[hy]at this
       have e:x4=x3:=by rw[aO]at av;exact(Option.some.inj av).symm
       rw[e]
       exact this)
      by_cases hz:(ia+k+1+1==a.size)=true
      ·rw[if_pos hz]
       exact wpS_pure ⟨au,.inl ⟨_,rfl,J4.last C (by have:=beq_iff_eq.mp hz;omega) hl⟩⟩
      ·rw[if_neg hz]
       have bf:¬(ia+k+1+1=a.size):=fun z=>hz (beq_iff_eq.mpr z)
       by_cases h7:(decide (k<7)&&decide (k1<7))=true
       ·rw[if_pos h7]
        exact wpS_pure ⟨au,.inr ⟨_,_,_,_,_,_,rfl,J4,by omega,by omega,by omega⟩⟩
       ·rw[if_neg h7]
        exact wpS_pure ⟨au,_,_,_,_,_,_,rfl,J4,by omega,by omega,by omega⟩
     ·rw[if_neg bA]
      obtain rfl:k1=0:=by omega
      obtain⟨x4,av⟩:=Zh (xs:=a) (i:=ia+k) (by omega)
      refine wpS_bind (Zm av ?_)
      have J4:=J2.cG C av (fun y hy=>by
       have:=cD 0 (Nat.le_refl _) (by omega)
       try dsimp only at this
       rw[Nat.add_zero,hy]at this
       have e:x4=x3:=by rw[aO]at av;exact(Option.some.inj av).symm
       rw[e]
       exact this)
      by_cases hz:(ia+k+1+1==a.size)=true
      ·rw[if_pos hz]
       exact wpS_pure ⟨au,.inl ⟨_,rfl,J4.last C (by have:=beq_iff_eq.mp hz;omega) hl⟩⟩
      ·rw[if_neg hz]
       have bf:¬(ia+k+1+1=a.size):=fun z=>hz (beq_iff_eq.mpr z)
       by_cases h7:(decide (k<7)&&decide (0<7))=true
       ·rw[if_pos h7]
        exact wpS_pure ⟨au,.inr ⟨_,_,_,_,_,_,rfl,J4,by omega,by omega,by omega⟩⟩
       ·rw[if_neg h7]
        exact wpS_pure ⟨au,_,_,_,_,_,_,rfl,J4,by omega,by omega,by omega⟩
    ·rw[if_neg g8]
     obtain rfl:k=0:=by omega
     refine wpS_bind (Zm aR ?_)
     have J2:=J.fo C aR (fun x hx=>by
      have:=cD 0 (Nat.le_refl _) (by omega)
      try dsimp only at this
      rw[Nat.add_zero,hx,Bool.not_eq_false']at this
      exact C.o.bK _ _ this)
     by_cases hz:(ib+1==b.size)=true
     ·rw[if_pos hz]
      exact wpS_pure ⟨au,.inl ⟨_,rfl,J2.done C (.inr (by have:=beq_iff_eq.mp hz;omega))⟩⟩
     rw[if_neg hz]
     have bf:¬(ib+1=b.size):=fun z=>hz (beq_iff_eq.mpr z)
     obtain⟨x3,aO⟩:=Zh (xs:=a) (i:=ia) (by omega)
     refine wpS_bind (Zm aO ?_)
     refine wpS_bind (ZG hc eX (fun i=>match b[ib+1+i]? with |some y=>r y x3 |none=>false) (fun i hi=> ?_) (ma x3 (Zu aO)) (fun i j cJ hj hp=> ?_) (by omega) fun k1 kN df cD=> ?_)
     ·obtain⟨y,hy⟩:=Zh (xs:=b) (i:=ib+1+i) (by omega)
      refine⟨y,hy,mb y (Zu hy),?_⟩
      try dsimp only
      rw[hy]
      rfl
     ·obtain⟨yj,bX⟩:=Zh (xs:=b) (i:=ib+1+j) (by omega)
      obtain⟨yi,bY⟩:=Zh (xs:=b) (i:=ib+1+i) (by omega)
      try dsimp only at hp ⊢
      rw[bX]at hp
      rw[bY]
      exact Jh C.o hp (Yj C.o C.sb (Zv bY) (Zv bX) (by omega))
     try dsimp only
     by_cases bA:k1>0
     ·rw[if_pos bA]
      have J3:=J2.jH C k1 (by omega) (fun i hi y x hy hx=>by
       rw[aO]at hx
       cases hx
       have:=df i hi
       try dsimp only at this
       rw[hy]at this
       exact C.o.bK _ _ this)
      by_cases az:(ib+1+k1==b.size)=true
      ·rw[if_pos az]
       exact wpS_pure ⟨au,.inl ⟨_,rfl,J3.done C (.inr (by have:=beq_iff_eq.mp az;omega))⟩⟩
      rw[if_neg az]
      have kT:¬(ib+1+k1=b.size):=fun z=>az (beq_iff_eq.mpr z)
      obtain⟨x4,av⟩:=Zh (xs:=a) (i:=ia) (by omega)
      refine wpS_bind (Zm av ?_)
      have J4:=J3.cG C av (fun y hy=>by
       have:=cD k1 (Nat.le_refl _) (by omega)
       try dsimp only at this
       rw[hy]at this
       have e:x4=x3:=by rw[aO]at av;exact(Option.some.inj av).symm
       rw[e]
       exact this)
      by_cases hz:(ia+1+1==a.size)=true
      ·rw[if_pos hz]
       exact wpS_pure ⟨au,.inl ⟨_,rfl,J4.last C (by have:=beq_iff_eq.mp hz;omega) hl⟩⟩
      ·rw[if_neg hz]
       have bf:¬(ia+1+1=a.size):=fun z=>hz (beq_iff_eq.mpr z)
       by_cases h7:(decide (0<7)&&decide (k1<7))=true
       ·rw[if_pos h7]
        exact wpS_pure ⟨au,.inr ⟨_,_,_,_,_,_,rfl,J4,by omega,by omega,by omega⟩⟩
       ·rw[if_neg h7]
        exact wpS_pure ⟨au,_,_,_,_,_,_,rfl,J4,by omega,by omega,by omega⟩
     ·rw[if_neg bA]
      obtain rfl:k1=0:=by omega
      obtain⟨x4,av⟩:=Zh (xs:=a) (i:=ia) (by omega)
      refine wpS_bind (Zm av ?_)
      have J4:=J2.cG C av (fun y hy=>by
       have:=cD 0 (Nat.le_refl _) (by omega)
       try dsimp only at this
       rw[Nat.add_zero,hy]at this
       have e:x4=x3:=by rw[aO]at av;exact(Option.some.inj av).symm
       rw[e]
       exact this)
      by_cases hz:(ia+1+1==a.size)=true
      ·rw[if_pos hz]
       exact wpS_pure ⟨au,.inl ⟨_,rfl,J4.last C (by have:=beq_iff_eq.mp hz;omega) hl⟩⟩
      ·rw[if_neg hz]
       have bf:¬(ia+1+1=a.size):=fun z=>hz (beq_iff_eq.mpr z)
       by_cases h7:(decide (0<7)&&decide (0<7))=true
       ·rw[if_pos h7]
        exact wpS_pure ⟨au,.inr ⟨_,_,_,_,_,_,rfl,J4,by omega,by omega,by omega⟩⟩
       ·rw[if_neg h7]
        exact wpS_pure ⟨au,_,_,_,_,_,_,rfl,J4,by omega,by omega,by omega⟩
   ·rw[if_neg oQ]
    refine wpS_bind (Yy ?_)
    generalize lD:SortSt.mk' _ _ _ _ _=aF
    have au:SG st aF:=by rw[←lD];exact fP
    have eX:kindOf aF=κ:=by rw[au.1];exact hk
    obtain⟨y2,aR⟩:=Zh (xs:=b) (i:=ib) (by omega)
    refine wpS_bind (Zm aR ?_)
    refine wpS_bind (ZG hc eX (fun i=>match a[ia+i]? with |some x=> !r y2 x |none=>false) (fun i hi=> ?_) (mb y2 (Zu aR)) (fun i j cJ hj hp=> ?_) (by omega) fun k kn df cD=> ?_)
    ·obtain⟨x,hx⟩:=Zh (xs:=a) (i:=ia+i) (by omega)
     refine⟨x,hx,ma x (Zu hx),?_⟩
     try dsimp only
     rw[hx]
     rfl
    ·obtain⟨xj,fw⟩:=Zh (xs:=a) (i:=ia+j) (by omega)
     obtain⟨xi,fA⟩:=Zh (xs:=a) (i:=ia+i) (by omega)
     try dsimp only at hp ⊢
     rw[fw]at hp
     rw[fA]
     rw[Bool.not_eq_true']at hp ⊢
     exact C.o.cV _ _ _ (Yj C.o C.sa (Zv fA) (Zv fw) (by omega)) hp
    try dsimp only
    by_cases g8:k>0
    ·rw[if_pos g8]
     have J1:=J.mj C k (by omega) (fun i hi x y hx hy=>by
      rw[aR]at hy
      cases hy
      have:=df i hi
      try dsimp only at this
      rw[hx,Bool.not_eq_true']at this
      exact this)
     by_cases bo:(ia+k+1==a.size)=true
     ·rw[if_pos bo]
      exact wpS_pure ⟨au,.inl ⟨_,rfl,J1.last C (by have:=beq_iff_eq.mp bo;omega) hl⟩⟩
     rw[if_neg bo]
     by_cases bG:(ia+k==a.size)=true
     ·rw[if_pos bG]
      exact wpS_pure ⟨au,.inl ⟨_,rfl,J1.done C (.inl (by have:=beq_iff_eq.mp bG;omega))⟩⟩
     rw[if_neg bG]
     have mE:¬(ia+k+1=a.size):=fun z=>bo (beq_iff_eq.mpr z)
     have rJ:¬(ia+k=a.size):=fun z=>bG (beq_iff_eq.mpr z)
     refine wpS_bind (Zm aR ?_)
     have J2:=J1.fo C aR (fun x hx=>by
      have:=cD k (Nat.le_refl _) (by omega)
      try dsimp only at this
      rw[hx,Bool.not_eq_false']at this
      exact C.o.bK _ _ this)
     by_cases hz:(ib+1==b.size)=true
     ·rw[if_pos hz]
      exact wpS_pure ⟨au,.inl ⟨_,rfl,J2.done C (.inr (by have:=beq_iff_eq.mp hz;omega))⟩⟩
     rw[if_neg hz]
     have bf:¬(ib+1=b.size):=fun z=>hz (beq_iff_eq.mpr z)
     obtain⟨x3,aO⟩:=Zh (xs:=a) (i:=ia+k) (by omega)
     refine wpS_bind (Zm aO ?_)
     refine wpS_bind (ZG hc eX (fun i=>match b[ib+1+i]? with |some y=>r y x3 |none=>false) (fun i hi=> ?_) (ma x3 (Zu aO)) (fun i j cJ hj hp=> ?_) (by omega) fun k1 kN df cD=> ?_)
     ·obtain⟨y,hy⟩:=Zh (xs:=b) (i:=ib+1+i) (by omega)
      refine⟨y,hy,mb y (Zu hy),?_⟩
      try dsimp only
      rw[hy]
      rfl
     ·obtain⟨yj,bX⟩:=Zh (xs:=b) (i:=ib+1+j) (by omega)
      obtain⟨yi,bY⟩:=Zh (xs:=b) (i:=ib+1+i) (by omega)
      try dsimp only at hp ⊢
      rw[bX]at hp
      rw[bY]
      exact Jh C.o hp (Yj C.o C.sb (Zv bY) (Zv bX) (by omega))
     try dsimp only
     by_cases bA:k1>0
     ·rw[if_pos bA]
      have J3:=J2.jH C k1 (by omega) (fun i hi y x hy hx=>by
       rw[aO]at hx
       cases hx
       have:=df i hi
       try dsimp only at this
       rw[hy]at this
       exact C.o.bK _ _ this)
      by_cases az:(ib+1+k1==b.size)=true
      ·rw[if_pos az]
       exact wpS_pure ⟨au,.inl ⟨_,rfl,J3.done C (.inr (by have:=beq_iff_eq.mp az;omega))⟩⟩
      rw[if_neg az]
      have kT:¬(ib+1+k1=b.size):=fun z=>az (beq_iff_eq.mpr z)
      obtain⟨x4,av⟩:=Zh (xs:=a) (i:=ia+k) (by omega)
      refine wpS_bind (Zm av ?_)
      have J4:=J3.cG C av (fun y hy=>by
       have:=cD k1 (Nat.le_refl _) (by omega)
       try dsimp only at this
       rw[hy]at this
       have e:x4=x3:=by rw[aO]at av;exact(Option.some.inj av).symm
       rw[e]
       exact this)
      by_cases hz:(ia+k+1+1==a.size)=true
      ·rw[if_pos hz]
       exact wpS_pure ⟨au,.inl ⟨_,rfl,J4.last C (by have:=beq_iff_eq.mp hz;omega) hl⟩⟩
      ·rw[if_neg hz]
       have bf:¬(ia+k+1+1=a.size):=fun z=>hz (beq_iff_eq.mpr z)
       by_cases h7:(decide (k<7)&&decide (k1<7))=true
       ·rw[if_pos h7]
        exact wpS_pure ⟨au,.inr ⟨_,_,_,_,_,_,rfl,J4,by omega,by omega,by omega⟩⟩
       ·rw[if_neg h7]
        exact wpS_pure ⟨au,_,_,_,_,_,_,rfl,J4,by omega,by omega,by omega⟩
     ·rw[if_neg bA]
      obtain rfl:k1=0:=by omega
      obtain⟨x4,av⟩:=Zh (xs:=a) (i:=ia+k) (by omega)
      refine wpS_bind (Zm av ?_)
      have J4:=J2.cG C av (fun y hy=>by
       have:=cD 0 (Nat.le_refl _) (by omega)
       try dsimp only at this
       rw[Nat.add_zero,hy]at this
       have e:x4=x3:=by rw[aO]at av;exact(Option.some.inj av).symm
       rw[e]
       exact this)
      by_cases hz:(ia+k+1+1==a.size)=true
      ·rw[if_pos hz]
       exact wpS_pure ⟨au,.inl ⟨_,rfl,J4.last C (by have:=beq_iff_eq.mp hz;omega) hl⟩⟩
      ·rw[if_neg hz]
       have bf:¬(ia+k+1+1=a.size):=fun z=>hz (beq_iff_eq.mpr z)
       by_cases h7:(decide (k<7)&&decide (0<7))=true
       ·rw[if_pos h7]
        exact wpS_pure ⟨au,.inr ⟨_,_,_,_,_,_,rfl,J4,by omega,by omega,by omega⟩⟩
       ·rw[if_neg h7]
        exact wpS_pure ⟨au,_,_,_,_,_,_,rfl,J4,by omega,by omega,by omega⟩
    ·rw[if_neg g8]
     obtain rfl:k=0:=by omega
     refine wpS_bind (Zm aR ?_)
     have J2:=J.fo C aR (fun x hx=>by
      have:=cD 0 (Nat.le_refl _) (by omega)
      try dsimp only at this
      rw[Nat.add_zero,hx,Bool.not_eq_false']at this
      exact C.o.bK _ _ this)
     by_cases hz:(ib+1==b.size)=true
     ·rw[if_pos hz]
      exact wpS_pure ⟨au,.inl ⟨_,rfl,J2.done C (.inr (by have:=beq_iff_eq.mp hz;omega))⟩⟩
     rw[if_neg hz]
     have bf:¬(ib+1=b.size):=fun z=>hz (beq_iff_eq.mpr z)
     obtain⟨x3,aO⟩:=Zh (xs:=a) (i:=ia) (by omega)
     refine wpS_bind (Zm aO ?_)
     refine wpS_bind (ZG hc eX (fun i=>match b[ib+1+i]? with |some y=>r y x3 |none=>false) (fun i hi=> ?_) (ma x3 (Zu aO)) (fun i j cJ hj hp=> ?_) (by omega) fun k1 kN df cD=> ?_)
     ·obtain⟨y,hy⟩:=Zh (xs:=b) (i:=ib+1+i) (by omega)
      refine⟨y,hy,mb y (Zu hy),?_⟩
      try dsimp only
      rw[hy]
      rfl
     ·obtain⟨yj,bX⟩:=Zh (xs:=b) (i:=ib+1+j) (by omega)
      obtain⟨yi,bY⟩:=Zh (xs:=b) (i:=ib+1+i) (by omega)
      try dsimp only at hp ⊢
      rw[bX]at hp
      rw[bY]
      exact Jh C.o hp (Yj C.o C.sb (Zv bY) (Zv bX) (by omega))
     try dsimp only
     by_cases bA:k1>0
     ·rw[if_pos bA]
      have J3:=J2.jH C k1 (by omega) (fun i hi y x hy hx=>by
       rw[aO]at hx
       cases hx
       have:=df i hi
       try dsimp only at this
       rw[hy]at this
       exact C.o.bK _ _ this)
      by_cases az:(ib+1+k1==b.size)=true
      ·rw[if_pos az]
       exact wpS_pure ⟨au,.inl ⟨_,rfl,J3.done C (.inr (by have:=beq_iff_eq.mp az;omega))⟩⟩
      rw[if_neg az]
      have kT:¬(ib+1+k1=b.size):=fun z=>az (beq_iff_eq.mpr z)
      obtain⟨x4,av⟩:=Zh (xs:=a) (i:=ia) (by omega)
      refine wpS_bind (Zm av ?_)
      have J4:=J3.cG C av (fun y hy=>by
       have:=cD k1 (Nat.le_refl _) (by omega)
       try dsimp only at this
       rw[hy]at this
       have e:x4=x3:=by rw[aO]at av;exact(Option.some.inj av).symm
       rw[e]
       exact this)
      by_cases hz:(ia+1+1==a.size)=true
      ·rw[if_pos hz]
       exact wpS_pure ⟨au,.inl ⟨_,rfl,J4.last C (by have:=beq_iff_eq.mp hz;omega) hl⟩⟩
      ·rw[if_neg hz]
       have bf:¬(ia+1+1=a.size):=fun z=>hz (beq_iff_eq.mpr z)
       by_cases h7:(decide (0<7)&&decide (k1<7))=true
       ·rw[if_pos h7]
        exact wpS_pure ⟨au,.inr ⟨_,_,_,_,_,_,rfl,J4,by omega,by omega,by omega⟩⟩
       ·rw[if_neg h7]
        exact wpS_pure ⟨au,_,_,_,_,_,_,rfl,J4,by omega,by omega,by omega⟩
     ·rw[if_neg bA]
      obtain rfl:k1=0:=by omega
      obtain⟨x4,av⟩:=Zh (xs:=a) (i:=ia) (by omega)
      refine wpS_bind (Zm av ?_)
      have J4:=J2.cG C av (fun y hy=>by
       have:=cD 0 (Nat.le_refl _) (by omega)
       try dsimp only at this
       rw[Nat.add_zero,hy]at this
       have e:x4=x3:=by rw[aO]at av;exact(Option.some.inj av).symm
       rw[e]
       exact this)
      by_cases hz:(ia+1+1==a.size)=true
      ·rw[if_pos hz]
       exact wpS_pure ⟨au,.inl ⟨_,rfl,J4.last C (by have:=beq_iff_eq.mp hz;omega) hl⟩⟩
      ·rw[if_neg hz]
       have bf:¬(ia+1+1=a.size):=fun z=>hz (beq_iff_eq.mpr z)
       by_cases h7:(decide (0<7)&&decide (0<7))=true
       ·rw[if_pos h7]
        exact wpS_pure ⟨au,.inr ⟨_,_,_,_,_,_,rfl,J4,by omega,by omega,by omega⟩⟩
       ·rw[if_neg h7]
        exact wpS_pure ⟨au,_,_,_,_,_,_,rfl,J4,by omega,by omega,by omega⟩
  ·rintro c aj ⟨fP,out,ia,ib,g,ac,bc,rfl,J,i1,i2,i4⟩
   rw[Nat.max_eq_right (Nat.zero_le _)]at i4
   omega
  rintro c aj ⟨fP,⟨res,ec,gd⟩ |⟨out,Ae,Ad,g,ac,bc,rfl,J2,k1,k2,k3⟩⟩
  ·rw[ec]
   exact wpS_pure ⟨fP,res,rfl,gd⟩
  dsimp only
  refine wpS_bind (Yy (wpS_pure ⟨fP,_,_,_,_,rfl,J2,k1,k2,by omega⟩))
end
def F1:Array Keyed→Array Keyed→StateT SortSt Sem (Array Keyed):=sortPriv%PySem.Builtin.mergeHi
structure JH (r:Keyed→Keyed→Bool) (a b out:Array Keyed) (na nb:Nat):Prop where
 la:na≤a.size
 lb:nb≤b.size
 perm:((a.toList.take na++b.toList.take nb)++out.toList.reverse).Perm (a.toList++b.toList)
 iX:Pw r out.toList.reverse
 gb:∀y∈a.toList.take na++b.toList.take nb,∀x∈out.toList,r x y=false
theorem WM {α:Type}{l:List α}{i:Nat}{x:α}(h:l[i]? =some x):l.take (i+1)=l.take i++[x]:=by
 rw[List.take_add_one,h]
 rfl
theorem JJ {r:Keyed→Keyed→Bool}{l:List Keyed}{i:Nat}{x:Keyed}(o:Ord r) (p:Pw r l) (h:l[i]? =some x):∀y∈l.take (i+1),r x y=false:=fun y hy=>by
 obtain⟨j,hj,e⟩:=List.getElem_of_mem hy
 rw[List.length_take]at hj
 rw[List.getElem_take]at e
 exact Yj (i:=j) o p (by rw[List.getElem?_eq_getElem (by omega),e]) h (by omega)
theorem sI (xs:Array Keyed) (j:Nat):(xs.extract 0 j).toList=xs.toList.take j:=by
 rw[Jz,List.drop_zero,Nat.sub_zero]
section
variable {r:Keyed→Keyed→Bool}{a b out:Array Keyed}{na nb:Nat}
theorem JH.cG (C:dY r a b) (J:JH r a b out na nb) {x:Keyed}(h1:1≤na) (hx:a[na - 1]? =some x) (h:1≤nb→∀y,b[nb - 1]? =some y→r x y=false):JH r a b (out.push x) (na - 1) nb:=by
 have la:=J.la
 have lb:=J.lb
 have jb:=Zv hx
 have ht:=WM jb
 rw[Nat.sub_add_cancel h1]at ht
 have mx:x∈a.toList.take na:=by rw[ht];simp
 have low:∀y∈a.toList.take (na - 1)++b.toList.take nb,r x y=false:=fun y hy=>by
  rcases List.mem_append.mp hy with hy |hy
  ·exact JJ C.o C.sa jb y (by rw[Nat.sub_add_cancel h1,ht];exact List.mem_append_left _ hy)
  ·have n1:1≤nb:=by
    rcases Nat.eq_zero_or_pos nb with z |z
    ·rw[z]at hy;cases hy
    ·exact z
   obtain⟨z,e⟩:=Zh (xs:=b) (i:=nb - 1) (by omega)
   have:=JJ C.o C.sb (Zv e) y (by rw[Nat.sub_add_cancel n1];exact hy)
   exact C.o.cV y z x this (h n1 z e)
 refine⟨by omega,lb,?_,?_,fun y hy u hu=> ?_⟩
 ·rw[Array.toList_push,List.reverse_append]
  have P:=J.perm
  rw[ht]at P
  refine List.Perm.trans ?_ P
  show((a.toList.take (na - 1)++b.toList.take nb)++(x::out.toList.reverse)).Perm (((a.toList.take (na - 1)++[x])++b.toList.take nb)++out.toList.reverse)
  rw[List.append_assoc,List.append_assoc,List.append_assoc]
  refine List.Perm.append_left _ ?_
  show(b.toList.take nb++x::out.toList.reverse).Perm (x::(b.toList.take nb++out.toList.reverse))
  exact List.perm_middle
 ·rw[Array.toList_push,List.reverse_append]
  refine List.pairwise_cons.mpr ⟨fun u hu=> ?_,J.iX⟩
  exact J.gb x (List.mem_append_left _ mx) u (List.mem_reverse.mp hu)
 ·rw[Array.toList_push]at hu
  rcases List.mem_append.mp hu with hu |hu
  ·refine J.gb y ?_ u hu
   rcases List.mem_append.mp hy with hy |hy
   ·exact List.mem_append_left _ (by rw[ht];exact List.mem_append_left _ hy)
   ·exact List.mem_append_right _ hy
  ·rw[List.mem_singleton.mp hu]
   exact low y hy
theorem JH.fo (C:dY r a b) (J:JH r a b out na nb) {y:Keyed}(h1:1≤nb) (hy:b[nb - 1]? =some y) (h:1≤na→∀x,a[na - 1]? =some x→r y x=false):JH r a b (out.push y) na (nb - 1):=by
 have la:=J.la
 have lb:=J.lb
 have fW:=Zv hy
 have ht:=WM fW
 rw[Nat.sub_add_cancel h1]at ht
 have my:y∈b.toList.take nb:=by rw[ht];simp
 have low:∀z∈a.toList.take na++b.toList.take (nb - 1),r y z=false:=fun z hz=>by
  rcases List.mem_append.mp hz with hz |hz
  ·have n1:1≤na:=by
    rcases Nat.eq_zero_or_pos na with q |q
    ·rw[q]at hz;cases hz
    ·exact q
   obtain⟨x,e⟩:=Zh (xs:=a) (i:=na - 1) (by omega)
   have:=JJ C.o C.sa (Zv e) z (by rw[Nat.sub_add_cancel n1];exact hz)
   exact C.o.cV z x y this (h n1 x e)
  ·exact JJ C.o C.sb fW z (by rw[Nat.sub_add_cancel h1,ht];exact List.mem_append_left _ hz)
 refine⟨la,by omega,?_,?_,fun z hz u hu=> ?_⟩
 ·rw[Array.toList_push,List.reverse_append]
  have P:=J.perm
  rw[ht]at P
  refine List.Perm.trans ?_ P
  show((a.toList.take na++b.toList.take (nb - 1))++(y::out.toList.reverse)).Perm ((a.toList.take na++(b.toList.take (nb - 1)++[y]))++out.toList.reverse)
  rw[List.append_assoc,List.append_assoc,List.append_assoc]
  exact .refl _
 ·rw[Array.toList_push,List.reverse_append]
  refine List.pairwise_cons.mpr ⟨fun u hu=> ?_,J.iX⟩
  exact J.gb y (List.mem_append_right _ my) u (List.mem_reverse.mp hu)
 ·rw[Array.toList_push]at hu
  rcases List.mem_append.mp hu with hu |hu
  ·refine J.gb z ?_ u hu
   rcases List.mem_append.mp hz with hz |hz
   ·exact List.mem_append_left _ hz
   ·exact List.mem_append_right _ (by rw[ht];exact List.mem_append_left _ hz)
  ·rw[List.mem_singleton.mp hu]
   exact low z hz
theorem Cy {xs:Array Keyed}{i n:Nat}{x:Keyed}(hx:xs[i]? =some x) (h:i<n) (hn:n≤xs.size):(xs.extract i n).reverse=(xs.extract (i+1) n).reverse.push x:=by
 apply Array.toList_inj.mp
 rw[Array.toList_reverse,Array.toList_push,Array.toList_reverse,Jz,Jz,YY (Zv hx),show n - i=(n - (i+1))+1 by omega,List.take_succ_cons,List.reverse_cons]
theorem JH.mj (C:dY r a b) (J:JH r a b out na nb):∀k,k≤na→(∀i,na - k≤i→i<na→∀x y,a[i]? =some x→b[nb - 1]? =some y→r x y=false)→JH r a b (out++(a.extract (na - k) na).reverse) (na - k) nb
 |0,_,_=>by
  have e:a.extract (na - 0) na= #[]:=by simp;omega
  rw[e]
  simpa using J
 |k+1,hk,h=>by
  have la:=J.la
  obtain⟨x,hx⟩:=Zh (xs:=a) (i:=na - (k+1)) (by omega)
  have ih:=JH.mj C J k (by omega) fun i h1 h2=>h i (by omega) h2
  have e1:na - k - 1=na - (k+1):=by omega
  have:=ih.cG C (x:=x) (by omega) (by rw[e1];exact hx) fun _ y hy=>h (na - (k+1)) (Nat.le_refl _) (by omega) x y hx hy
  rw[e1]at this
  rw[Cy hx (by omega) la,show na - (k+1)+1=na - k by omega,Array.append_push]
  exact this
theorem JH.jH (C:dY r a b) (J:JH r a b out na nb):∀k,k≤nb→(∀i,nb - k≤i→i<nb→∀y x,b[i]? =some y→a[na - 1]? =some x→r y x=false)→JH r a b (out++(b.extract (nb - k) nb).reverse) na (nb - k)
 |0,_,_=>by
  have e:b.extract (nb - 0) nb= #[]:=by simp;omega
  rw[e]
  simpa using J
 |k+1,hk,h=>by
  have lb:=J.lb
  obtain⟨y,hy⟩:=Zh (xs:=b) (i:=nb - (k+1)) (by omega)
  have ih:=JH.jH C J k (by omega) fun i h1 h2=>h i (by omega) h2
  have e1:nb - k - 1=nb - (k+1):=by omega
  have:=ih.fo C (y:=y) (by omega) (by rw[e1];exact hy) fun _ x hx=>h (nb - (k+1)) (Nat.le_refl _) (by omega) y x hy hx
  rw[e1]at this
  rw[Cy hy (by omega) lb,show nb - (k+1)+1=nb - k by omega,Array.append_push]
  exact this
theorem JH.zt (C:dY r a b) (J:JH r a b out na nb) {m:Nat}(hm:m≤na) (h:∀i,m≤i→i<na→∀x y,a[i]? =some x→b[nb - 1]? =some y→r x y=false):JH r a b (out++(a.extract m na).reverse) m nb:=by
 have:=J.mj C (na - m) (by omega) (fun i h1 h2=>h i (by omega) h2)
 rw[show na - (na - m)=m by omega]at this
 exact this
theorem JH.qR (C:dY r a b) (J:JH r a b out na nb) {m:Nat}(hm:m≤nb) (h:∀i,m≤i→i<nb→∀y x,b[i]? =some y→a[na - 1]? =some x→r y x=false):JH r a b (out++(b.extract m nb).reverse) na m:=by
 have:=J.jH C (nb - m) (by omega) (fun i h1 h2=>h i (by omega) h2)
 rw[show nb - (nb - m)=m by omega]at this
 exact this
theorem JH.done (C:dY r a b) (J:JH r a b out na nb) (h:na=0∨nb=0):Good r a b (a.extract 0 na++b.extract 0 nb++out.reverse):=by
 unfold Good
 rw[Array.toList_append,Array.toList_append,sI,sI,Array.toList_reverse]
 refine⟨J.perm,?_⟩
 have pa:Pw r (a.toList.take na):=List.Pairwise.sublist (List.take_sublist _ _) C.sa
 have pb:Pw r (b.toList.take nb):=List.Pairwise.sublist (List.take_sublist _ _) C.sb
 refine List.pairwise_append.mpr ⟨?_,J.iX,fun y hy x hx=>J.gb y hy x (List.mem_reverse.mp hx)⟩
 rcases h with h |h
 ·rw[h,List.take_zero,List.nil_append]
  exact pb
 ·rw[h,List.take_zero,List.append_nil]
  exact pa
theorem JH.first (C:dY r a b) (J:JH r a b out na nb) (h:nb=1) (h0:∀y,b[0]? =some y→∀x∈a.toList,r x y=false):Good r a b (b.extract 0 nb++a.extract 0 na++out.reverse):=by
 have lb:=J.lb
 subst h
 unfold Good
 obtain⟨y,hy⟩:=Zh (xs:=b) (i:=0) (by omega)
 have et:b.toList.take 1=[y]:=by rw[show(1:Nat)=0+1 from rfl,WM (Zv hy)];rfl
 rw[Array.toList_append,Array.toList_append,sI,sI,Array.toList_reverse,et]
 have P:=J.perm
 have B:=J.gb
 rw[et]at P B
 have pa:Pw r (a.toList.take na):=List.Pairwise.sublist (List.take_sublist _ _) C.sa
 refine⟨List.Perm.trans (List.Perm.append_right _ List.perm_append_comm) P,?_⟩
 refine List.pairwise_append.mpr ⟨?_,J.iX,fun z hz x hx=>B z ?_ x (List.mem_reverse.mp hx)⟩
 ·refine List.pairwise_cons.mpr ⟨fun z hz=>h0 y hy z (List.mem_of_mem_take hz),pa⟩
 ·rcases List.mem_append.mp hz with hz |hz
  ·exact List.mem_append_right _ hz
  ·exact List.mem_append_left _ hz
end
section
variable {prog:Program}{w:World}{A:Around}{E:Value→Shared→Prop}{s:Shared}{κ:SortKind}{a₀:Array Keyed}{r:Keyed→Keyed→Bool}
theorem W8 {a b:Array Keyed}{Q:Array Keyed→SortSt→Prop}{st:SortSt}(hc:iu prog w A E s κ a₀ r) (hk:kindOf st=κ) (C:dY r a b) (ma:∀x∈a.toList,x∈a₀.toList) (mb:∀x∈b.toList,x∈a₀.toList) (FU:1≤a.size) (Qv:1≤b.size)
  (h0:∀y,b[0]? =some y→∀x∈a.toList,r x y=false) (hl:∀x,a[a.size - 1]? =some x→∀y∈b.toList,r x y=false)
  (h:∀res aa,SG st aa→Good r a b res→Q res aa):wpS (model prog w) A E s (F1 a b) Q st:=by
 show wpS (model prog w) A E s (_ >>=_) _ _
 dsimp only
 refine wpS_bind (wpS_lift (wpAny_rule ⟨rfl,?_⟩))
 obtain⟨x0,kW⟩:=Zh (xs:=a) (i:=a.size - 1) (by omega)
 refine wpS_bind (Zm kW ?_)
 have J0:JH r a b #[x0] (a.size - 1) b.size:=by
  have e:JH r a b #[] a.size b.size:=⟨Nat.le_refl _,Nat.le_refl _,by simp[←Array.length_toList],.nil,fun y hy x hx=>by cases hx⟩
  exact e.cG C FU kW fun _ y hy=>hl x0 kW y (Zu hy)
 by_cases bo:(a.size - 1==0)=true
 ·rw[if_pos bo]
  exact wpS_pure (h _ _ (SG.refl _) (J0.done C (.inl (beq_iff_eq.mp bo))))
 rw[if_neg bo]
 by_cases bG:(b.size==1)=true
 ·rw[if_pos bG]
  exact wpS_pure (h _ _ (SG.refl _) (J0.first C (beq_iff_eq.mp bG) h0))
 rw[if_neg bG]
 have mE:¬(a.size - 1=0):=fun z=>bo (beq_iff_eq.mpr z)
 have rJ:¬(b.size=1):=fun z=>bG (beq_iff_eq.mpr z)
 refine wpS_bind (wpS_get ?_)
 refine wpS_bind (wpS_mono (wpS_forRange (I:=fun x c aw=>SG st aw∧∃na nb out g,c=(none,na,nb,out,g)∧JH r a b out na nb∧1≤na∧2≤nb∧na+nb+x+1≤a.size+b.size) (Q:=fun c aw=>SG st aw∧∃res,c.fst=some res∧Good r a b res) ?step ?fin ⟨SG.refl _,_,_,_,_,rfl,J0,by omega,by omega,by omega⟩) ?post)
 case post=>
  rintro c aw ⟨gH,res,ec,gd⟩
  rw[ec]
  exact wpS_pure (h res aw gH gd)
 case fin=>
  rintro c aw ⟨_,na,nb,out,g,_,_,i1,i2,i3⟩
  rw[Nat.max_eq_right (Nat.zero_le _)]at i3
  omega
 case step=>
  rintro x c aw _ hx ⟨gH,na,nb,out,g,rfl,J,i1,i2,i3⟩
  dsimp only
  have bA:kindOf aw=κ:=by rw[gH.1];exact hk
  refine wpS_bind (wpS_mono (wpS_forRange (I:=fun y c aj=>aj=aw∧∃dN dM dI ac bc,c=(none,dN,dM,dI,ac,bc)∧JH r a b dI dN dM∧1≤dN∧2≤dM∧dN+dM+y≤na+nb)
   (Q:=fun c aj=>aj=aw∧((∃res,c.fst=some res∧Good r a b res)∨∃dN dM dI ac bc,c=(none,dN,dM,dI,ac,bc)∧JH r a b dI dN dM∧1≤dN∧2≤dM∧dN+dM+1≤na+nb)) ?_ ?_ ⟨rfl,_,_,_,_,_,rfl,J,i1,i2,by omega⟩) ?_)
  ·rintro y c aj _ hy ⟨rfl,dN,dM,dI,ac,bc,rfl,J',j1,j2,j3⟩
   dsimp only
   have la:=J'.la
   have lb:=J'.lb
   obtain⟨yb,gS⟩:=Zh (xs:=b) (i:=dM - 1) (by omega)
   obtain⟨xa,gT⟩:=Zh (xs:=a) (i:=dN - 1) (by omega)
   refine wpS_bind (Zm gS (wpS_bind (Zm gT (wpS_bind (hc _ _ _ _ (mb _ (Zu gS)) (ma _ (Zu gT)) bA ?_)))))
   dsimp only
   cases hr:r yb xa with
   |true=>
    rw[if_pos rfl]
    refine wpS_bind (Zm gT ?_)
    have J2:=J'.cG C j1 gT (fun _ y hy=>by rw[gS]at hy;cases hy;exact C.o.bK _ _ hr)
    by_cases hz:(dN - 1==0)=true
    ·rw[if_pos hz]
     exact wpS_pure ⟨rfl,.inl ⟨_,rfl,J2.done C (.inl (beq_iff_eq.mp hz))⟩⟩
    rw[if_neg hz]
    have bf:¬(dN - 1=0):=fun z=>hz (beq_iff_eq.mpr z)
    by_cases hg:ac+1≥g
    ·rw[if_pos hg]
     exact wpS_pure ⟨rfl,.inr ⟨_,_,_,_,_,rfl,J2,by omega,by omega,by omega⟩⟩
    ·rw[if_neg hg]
     exact wpS_pure ⟨rfl,_,_,_,_,_,rfl,J2,by omega,by omega,by omega⟩
   |false=>
    rw[if_neg Bool.false_ne_true]
    refine wpS_bind (Zm gS ?_)
    have J2:=J'.fo C (by omega) gS (fun _ x hx=>by rw[gT]at hx;cases hx;exact hr)
    by_cases hz:(dM - 1==1)=true
    ·rw[if_pos hz]
     exact wpS_pure ⟨rfl,.inl ⟨_,rfl,J2.first C (beq_iff_eq.mp hz) h0⟩⟩
    rw[if_neg hz]
    have bf:¬(dM - 1=1):=fun z=>hz (beq_iff_eq.mpr z)
    by_cases hg:bc+1≥g
    ·rw[if_pos hg]
     exact wpS_pure ⟨rfl,.inr ⟨_,_,_,_,_,rfl,J2,by omega,by omega,by omega⟩⟩
    ·rw[if_neg hg]
     exact wpS_pure ⟨rfl,_,_,_,_,_,rfl,J2,by omega,by omega,by omega⟩
  ·rintro c aj ⟨rfl,dN,dM,dI,ac,bc,rfl,J',j1,j2,j3⟩
   rw[Nat.max_eq_right (Nat.zero_le _)]at j3
   have la:=J.la
   have lb:=J.lb
   omega
  rintro c aj ⟨rfl,⟨res,ec,gd⟩ |⟨dN,dM,dI,ac,bc,rfl,J',j1,j2,j3⟩⟩
  ·rw[ec]
   exact wpS_pure ⟨gH,res,rfl,gd⟩
  dsimp only
  refine wpS_bind (wpS_lift (wpAny_rule ⟨rfl,?_⟩))
  refine wpS_bind (wpS_mono (wpS_forRange (I:=fun y c aj=>SG st aj∧∃na nb out g ac bc,c=(none,na,nb,out,g,ac,bc)∧JH r a b out na nb∧1≤na∧2≤nb∧na+nb+y≤dN+dM)
   (Q:=fun c aj=>SG st aj∧((∃res,c.fst=some res∧Good r a b res)∨∃na nb out g ac bc,c=(none,na,nb,out,g,ac,bc)∧JH r a b out na nb∧1≤na∧2≤nb∧na+nb≤dN+dM)) ?_ ?_ ⟨gH,_,_,_,_,_,_,rfl,J',j1,j2,by omega⟩) ?_)
  ·clear J i1 i2 bA
   rintro y c aj _ hy ⟨fP,zT,zS,out,g,ac,bc,rfl,J,i1,i2,i4⟩
   dsimp only
   revert J i1 i2 i4
   clear j3 i3
   generalize zT=na
   generalize zS=nb
   intro J i1 i2 i4
   have la:=J.la
   have lb:=J.lb
   by_cases oQ:g>1
   ·rw[if_pos oQ]
    refine wpS_bind (Yy ?_)
    generalize lD:SortSt.mk' _ _ _ _ _=aF
    have au:SG st aF:=by rw[←lD];exact fP
    have eX:kindOf aF=κ:=by rw[au.1];exact hk
    obtain⟨y2,aR⟩:=Zh (xs:=b) (i:=nb - 1) (by omega)
    refine wpS_bind (Zm aR ?_)
    refine wpS_bind (ZG hc eX (fun i=>match a[0+i]? with |some x=> !r y2 x |none=>false) (fun i hi=> ?_) (mb y2 (Zu aR)) (fun i j cJ hj hp=> ?_) (by omega) fun at_ kn df cD=> ?_)
    ·obtain⟨x,hx⟩:=Zh (xs:=a) (i:=0+i) (by omega)
     refine⟨x,hx,ma x (Zu hx),?_⟩
     try dsimp only
     rw[hx]
     rfl
    ·obtain⟨xj,fw⟩:=Zh (xs:=a) (i:=0+j) (by omega)
     obtain⟨xi,fA⟩:=Zh (xs:=a) (i:=0+i) (by omega)
     try dsimp only at hp ⊢
     rw[fw]at hp
     rw[fA]
     rw[Bool.not_eq_true']at hp ⊢
     exact C.o.cV _ _ _ (Yj C.o C.sa (Zv fA) (Zv fw) (by omega)) hp
    try dsimp only
    by_cases g8:na - at_>0
    ·rw[if_pos g8]
     have J1:=J.zt C (m:=at_) (by omega) (fun i hG fY x y hx hy=>by
      rw[aR]at hy
      cases hy
      have:=cD i hG fY
      try dsimp only at this
      rw[Nat.zero_add,hx,Bool.not_eq_false']at this
      exact C.o.bK _ _ this)
     by_cases bo:(at_==0)=true
     ·rw[if_pos bo]
      exact wpS_pure ⟨au,.inl ⟨_,rfl,J1.done C (.inl (beq_iff_eq.mp bo))⟩⟩
     rw[if_neg bo]
     have mE:¬(at_=0):=fun z=>bo (beq_iff_eq.mpr z)
     refine wpS_bind (Zm aR ?_)
     have J2:=J1.fo C (by omega) aR (fun _ x hx=>by
      have:=df (at_ - 1) (by omega)
      try dsimp only at this
      rw[Nat.zero_add,hx,Bool.not_eq_true']at this
      exact this)
     by_cases hz:(nb - 1==1)=true
     ·rw[if_pos hz]
      exact wpS_pure ⟨au,.inl ⟨_,rfl,J2.first C (beq_iff_eq.mp hz) h0⟩⟩
     rw[if_neg hz]
     have bf:¬(nb - 1=1):=fun z=>hz (beq_iff_eq.mpr z)
     obtain⟨x3,aO⟩:=Zh (xs:=a) (i:=at_ - 1) (by omega)
     refine wpS_bind (Zm aO ?_)
     refine wpS_bind (ZG hc eX (fun i=>match b[0+i]? with |some y=>r y x3 |none=>false) (fun i hi=> ?_) (ma x3 (Zu aO)) (fun i j cJ hj hp=> ?_) (by omega) fun k1 kN gO kM=> ?_)
     ·obtain⟨y,hy⟩:=Zh (xs:=b) (i:=0+i) (by omega)
      refine⟨y,hy,mb y (Zu hy),?_⟩
      try dsimp only
      rw[hy]
      rfl
     ·obtain⟨yj,bX⟩:=Zh (xs:=b) (i:=0+j) (by omega)
      obtain⟨yi,bY⟩:=Zh (xs:=b) (i:=0+i) (by omega)
      try dsimp only at hp ⊢
      rw[bX]at hp
      rw[bY]
      exact Jh C.o hp (Yj C.o C.sb (Zv bY) (Zv bX) (by omega))
     try dsimp only
     by_cases bA:nb - 1 - k1>0
     ·rw[if_pos bA]
      have J3:=J2.qR C (m:=k1) (by omega) (fun i hG fY y x hy hx=>by
       rw[aO]at hx
       cases hx
       have:=kM i hG fY
       try dsimp only at this
       rw[Nat.zero_add,hy]at this
       exact this)
      by_cases az:(k1==1)=true
      ·rw[if_pos az]
       exact wpS_pure ⟨au,.inl ⟨_,rfl,J3.first C (beq_iff_eq.mp az) h0⟩⟩
      rw[if_neg az]
      by_cases dg:(k1==0)=true
      ·rw[if_pos dg]
       exact wpS_pure ⟨au,.inl ⟨_,rfl,J3.done C (.inr (beq_iff_eq.mp dg))⟩⟩
      rw[if_neg dg]
      have kT:¬(k1=1):=fun z=>az (beq_iff_eq.mpr z)
      have vG:¬(k1=0):=fun z=>dg (beq_iff_eq.mpr z)
      obtain⟨x4,av⟩:=Zh (xs:=a) (i:=at_ - 1) (by omega)
      refine wpS_bind (Zm av ?_)
      have J4:=J3.cG C (by omega) av (fun _ y hy=>by
       have:=gO (k1 - 1) (by omega)
       try dsimp only at this
       rw[Nat.zero_add,hy]at this
       have e:x4=x3:=by rw[aO]at av;exact(Option.some.inj av).symm
       rw[e]
       exact C.o.bK _ _ this)
      by_cases hz:(at_ - 1==0)=true
      ·rw[if_pos hz]
       exact wpS_pure ⟨au,.inl ⟨_,rfl,J4.done C (.inl (by have:=beq_iff_eq.mp hz;omega))⟩⟩
      ·rw[if_neg hz]
       have bf:¬(at_ - 1=0):=fun z=>hz (beq_iff_eq.mpr z)
       by_cases h7:(decide (na - at_<7)&&decide (nb - 1 - k1<7))=true
       ·rw[if_pos h7]
        exact wpS_pure ⟨au,.inr ⟨_,_,_,_,_,_,rfl,J4,by omega,by omega,by omega⟩⟩
       ·rw[if_neg h7]
        exact wpS_pure ⟨au,_,_,_,_,_,_,rfl,J4,by omega,by omega,by omega⟩
     ·rw[if_neg bA]
      obtain rfl:k1=nb - 1:=by omega
      obtain⟨x4,av⟩:=Zh (xs:=a) (i:=at_ - 1) (by omega)
      refine wpS_bind (Zm av ?_)
      have J4:=J2.cG C (by omega) av (fun _ y hy=>by
       have:=gO (nb - 1 - 1) (by omega)
       try dsimp only at this
       rw[Nat.zero_add,hy]at this
       have e:x4=x3:=by rw[aO]at av;exact(Option.some.inj av).symm
       rw[e]
       exact C.o.bK _ _ this)
      by_cases hz:(at_ - 1==0)=true
      ·rw[if_pos hz]
       exact wpS_pure ⟨au,.inl ⟨_,rfl,J4.done C (.inl (by have:=beq_iff_eq.mp hz;omega))⟩⟩
      ·rw[if_neg hz]
       have bf:¬(at_ - 1=0):=fun z=>hz (beq_iff_eq.mpr z)
       by_cases h7:(decide (na - at_<7)&&decide (nb - 1 - (nb - 1)<7))=true
       ·rw[if_pos h7]
        exact wpS_pure ⟨au,.inr ⟨_,_,_,_,_,_,rfl,J4,by omega,by omega,by omega⟩⟩
       ·rw[if_neg h7]
        exact wpS_pure ⟨au,_,_,_,_,_,_,rfl,J4,by omega,by omega,by omega⟩
    ·rw[if_neg g8]
     obtain rfl:at_=na:=by omega
     refine wpS_bind (Zm aR ?_)
     have J2:=J.fo C (by omega) aR (fun _ x hx=>by
      have:=df (at_ - 1) (by omega)
      try dsimp only at this
      rw[Nat.zero_add,hx,Bool.not_eq_true']at this
      exact this)
     by_cases hz:(nb - 1==1)=true
     ·rw[if_pos hz]
      exact wpS_pure ⟨au,.inl ⟨_,rfl,J2.first C (beq_iff_eq.mp hz) h0⟩⟩
     rw[if_neg hz]
     have bf:¬(nb - 1=1):=fun z=>hz (beq_iff_eq.mpr z)
     obtain⟨x3,aO⟩:=Zh (xs:=a) (i:=at_ - 1) (by omega)
     refine wpS_bind (Zm aO ?_)
     refine wpS_bind (ZG hc eX (fun i=>match b[0+i]? with |some y=>r y x3 |none=>false) (fun i hi=> ?_) (ma x3 (Zu aO)) (fun i j cJ hj hp=> ?_) (by omega) fun k1 kN gO kM=> ?_)
     ·obtain⟨y,hy⟩:=Zh (xs:=b) (i:=0+i) (by omega)
      refine⟨y,hy,mb y (Zu hy),?_⟩
      try dsimp only
      rw[hy]
      rfl
     ·obtain⟨yj,bX⟩:=Zh (xs:=b) (i:=0+j) (by omega)
      obtain⟨yi,bY⟩:=Zh (xs:=b) (i:=0+i) (by omega)
      try dsimp only at hp ⊢
      rw[bX]at hp
      rw[bY]
      exact Jh C.o hp (Yj C.o C.sb (Zv bY) (Zv bX) (by omega))
     try dsimp only
     by_cases bA:nb - 1 - k1>0
     ·rw[if_pos bA]
      have J3:=J2.qR C (m:=k1) (by omega) (fun i hG fY y x hy hx=>by
       rw[aO]at hx
       cases hx
       have:=kM i hG fY
       try dsimp only at this
       rw[Nat.zero_add,hy]at this
       exact this)
      by_cases az:(k1==1)=true
      ·rw[if_pos az]
       exact wpS_pure ⟨au,.inl ⟨_,rfl,J3.first C (beq_iff_eq.mp az) h0⟩⟩
      rw[if_neg az]
      by_cases dg:(k1==0)=true
      ·rw[if_pos dg]
       exact wpS_pure ⟨au,.inl ⟨_,rfl,J3.done C (.inr (beq_iff_eq.mp dg))⟩⟩
      rw[if_neg dg]
      have kT:¬(k1=1):=fun z=>az (beq_iff_eq.mpr z)
      have vG:¬(k1=0):=fun z=>dg (beq_iff_eq.mpr z)
      obtain⟨x4,av⟩:=Zh (xs:=a) (i:=at_ - 1) (by omega)
      refine wpS_bind (Zm av ?_)
      have J4:=J3.cG C (by omega) av (fun _ y hy=>by
       have:=gO (k1 - 1) (by omega)
       try dsimp only at this
       rw[Nat.zero_add,hy]at this
       have e:x4=x3:=by rw[aO]at av;exact(Option.some.inj av).symm
       rw[e]
       exact C.o.bK _ _ this)
      by_cases hz:(at_ - 1==0)=true
      ·rw[if_pos hz]
       exact wpS_pure ⟨au,.inl ⟨_,rfl,J4.done C (.inl (by have:=beq_iff_eq.mp hz;omega))⟩⟩
      ·rw[if_neg hz]
       have bf:¬(at_ - 1=0):=fun z=>hz (beq_iff_eq.mpr z)
       by_cases h7:(decide (at_ - at_<7)&&decide (nb - 1 - k1<7))=true
       ·rw[if_pos h7]
        exact wpS_pure ⟨au,.inr ⟨_,_,_,_,_,_,rfl,J4,by omega,by omega,by omega⟩⟩
       ·rw[if_neg h7]
        exact wpS_pure ⟨au,_,_,_,_,_,_,rfl,J4,by omega,by omega,by omega⟩
     ·rw[if_neg bA]
      obtain rfl:k1=nb - 1:=by omega
      obtain⟨x4,av⟩:=Zh (xs:=a) (i:=at_ - 1) (by omega)
      refine wpS_bind (Zm av ?_)
      have J4:=J2.cG C (by omega) av (fun _ y hy=>by
       have:=gO (nb - 1 - 1) (by omega)
       try dsimp only at this
       rw[Nat.zero_add,hy]at this
       have e:x4=x3:=by rw[aO]at av;exact(Option.some.inj av).symm
       rw[e]
       exact C.o.bK _ _ this)
      by_cases hz:(at_ - 1==0)=true
      ·rw[if_pos hz]
       exact wpS_pure ⟨au,.inl ⟨_,rfl,J4.done C (.inl (by have:=beq_iff_eq.mp hz;omega))⟩⟩
      ·rw[if_neg hz]
       have bf:¬(at_ - 1=0):=fun z=>hz (beq_iff_eq.mpr z)
       by_cases h7:(decide (at_ - at_<7)&&decide (nb - 1 - (nb - 1)<7))=true
       ·rw[if_pos h7]
        exact wpS_pure ⟨au,.inr ⟨_,_,_,_,_,_,rfl,J4,by omega,by omega,by omega⟩⟩
       ·rw[if_neg h7]
        exact wpS_pure ⟨au,_,_,_,_,_,_,rfl,J4,by omega,by omega,by omega⟩
   ·rw[if_neg oQ]
    refine wpS_bind (Yy ?_)
    generalize lD:SortSt.mk' _ _ _ _ _=aF
    have au:SG st aF:=by rw[←lD];exact fP
    have eX:kindOf aF=κ:=by rw[au.1];exact hk
    obtain⟨y2,aR⟩:=Zh (xs:=b) (i:=nb - 1) (by omega)
    refine wpS_bind (Zm aR ?_)
    refine wpS_bind (ZG hc eX (fun i=>match a[0+i]? with |some x=> !r y2 x |none=>false) (fun i hi=> ?_) (mb y2 (Zu aR)) (fun i j cJ hj hp=> ?_) (by omega) fun at_ kn df cD=> ?_)
    ·obtain⟨x,hx⟩:=Zh (xs:=a) (i:=0+i) (by omega)
     refine⟨x,hx,ma x (Zu hx),?_⟩
     try dsimp only
     rw[hx]
     rfl
    ·obtain⟨xj,fw⟩:=Zh (xs:=a) (i:=0+j) (by omega)
     obtain⟨xi,fA⟩:=Zh (xs:=a) (i:=0+i) (by omega)
     try dsimp only at hp ⊢
     rw[fw]at hp
     rw[fA]
     rw[Bool.not_eq_true']at hp ⊢
     exact C.o.cV _ _ _ (Yj C.o C.sa (Zv fA) (Zv fw) (by omega)) hp
    try dsimp only
    by_cases g8:na - at_>0
    ·rw[if_pos g8]
     have J1:=J.zt C (m:=at_) (by omega) (fun i hG fY x y hx hy=>by
      rw[aR]at hy
      cases hy
      have:=cD i hG fY
      try dsimp only at this
      rw[Nat.zero_add,hx,Bool.not_eq_false']at this
      exact C.o.bK _ _ this)
     by_cases bo:(at_==0)=true
     ·rw[if_pos bo]
      exact wpS_pure ⟨au,.inl ⟨_,rfl,J1.done C (.inl (beq_iff_eq.mp bo))⟩⟩
     rw[if_neg bo]
     have mE:¬(at_=0):=fun z=>bo (beq_iff_eq.mpr z)
     refine wpS_bind (Zm aR ?_)
     have J2:=J1.fo C (by omega) aR (fun _ x hx=>by
      have:=df (at_ - 1) (by omega)
      try dsimp only at this
      rw[Nat.zero_add,hx,Bool.not_eq_true']at this
      exact this)
     by_cases hz:(nb - 1==1)=true
     ·rw[if_pos hz]
      exact wpS_pure ⟨au,.inl ⟨_,rfl,J2.first C (beq_iff_eq.mp hz) h0⟩⟩
     rw[if_neg hz]
     have bf:¬(nb - 1=1):=fun z=>hz (beq_iff_eq.mpr z)
     obtain⟨x3,aO⟩:=Zh (xs:=a) (i:=at_ - 1) (by omega)
     refine wpS_bind (Zm aO ?_)
     refine wpS_bind (ZG hc eX (fun i=>match b[0+i]? with |some y=>r y x3 |none=>false) (fun i hi=> ?_) (ma x3 (Zu aO)) (fun i j cJ hj hp=> ?_) (by omega) fun k1 kN gO kM=> ?_)
     ·obtain⟨y,hy⟩:=Zh (xs:=b) (i:=0+i) (by omega)
      refine⟨y,hy,mb y (Zu hy),?_⟩
      try dsimp only
      rw[hy]
      rfl
     ·obtain⟨yj,bX⟩:=Zh (xs:=b) (i:=0+j) (by omega)
      obtain⟨yi,bY⟩:=Zh (xs:=b) (i:=0+i) (by omega)
      try dsimp only at hp ⊢
      rw[bX]at hp
      rw[bY]
      exact Jh C.o hp (Yj C.o C.sb (Zv bY) (Zv bX) (by omega))
     try dsimp only
     by_cases bA:nb - 1 - k1>0
     ·rw[if_pos bA]
      have J3:=J2.qR C (m:=k1) (by omega) (fun i hG fY y x hy hx=>by
       rw[aO]at hx
       cases hx
       have:=kM i hG fY
       try dsimp only at this
       rw[Nat.zero_add,hy]at this
       exact this)
      by_cases az:(k1==1)=true
      ·rw[if_pos az]
       exact wpS_pure ⟨au,.inl ⟨_,rfl,J3.first C (beq_iff_eq.mp az) h0⟩⟩
      rw[if_neg az]
      by_cases dg:(k1==0)=true
      ·rw[if_pos dg]
       exact wpS_pure ⟨au,.inl ⟨_,rfl,J3.done C (.inr (beq_iff_eq.mp dg))⟩⟩
      rw[if_neg dg]
      have kT:¬(k1=1):=fun z=>az (beq_iff_eq.mpr z)
      have vG:¬(k1=0):=fun z=>dg (beq_iff_eq.mpr z)
      obtain⟨x4,av⟩:=Zh (xs:=a) (i:=at_ - 1) (by omega)
      refine wpS_bind (Zm av ?_)
      have J4:=J3.cG C (by omega) av (fun _ y hy=>by
       have:=gO (k1 - 1) (by omega)
       try dsimp only at this
       rw[Nat.zero_add,hy]at this
       have e:x4=x3:=by rw[aO]at av;exact(Option.some.inj av).symm
       rw[e]
       exact C.o.bK _ _ this)
      by_cases hz:(at_ - 1==0)=true
      ·rw[if_pos hz]
       exact wpS_pure ⟨au,.inl ⟨_,rfl,J4.done C (.inl (by have:=beq_iff_eq.mp hz;omega))⟩⟩
      ·rw[if_neg hz]
       have bf:¬(at_ - 1=0):=fun z=>hz (beq_iff_eq.mpr z)
       by_cases h7:(decide (na - at_<7)&&decide (nb - 1 - k1<7))=true
       ·rw[if_pos h7]
        exact wpS_pure ⟨au,.inr ⟨_,_,_,_,_,_,rfl,J4,by omega,by omega,by omega⟩⟩
       ·rw[if_neg h7]
        exact wpS_pure ⟨au,_,_,_,_,_,_,rfl,J4,by omega,by omega,by omega⟩
     ·rw[if_neg bA]
      obtain rfl:k1=nb - 1:=by omega
      obtain⟨x4,av⟩:=Zh (xs:=a) (i:=at_ - 1) (by omega)
      refine wpS_bind (Zm av ?_)
      have J4:=J2.cG C (by omega) av (fun _ y hy=>by
       have:=gO (nb - 1 - 1) (by omega)
       try dsimp only at this
       rw[Nat.zero_add,hy]at this
       have e:x4=x3:=by rw[aO]at av;exact(Option.some.inj av).symm
       rw[e]
       exact C.o.bK _ _ this)
      by_cases hz:(at_ - 1==0)=true
      ·rw[if_pos hz]
       exact wpS_pure ⟨au,.inl ⟨_,rfl,J4.done C (.inl (by have:=beq_iff_eq.mp hz;omega))⟩⟩
      ·rw[if_neg hz]
       have bf:¬(at_ - 1=0):=fun z=>hz (beq_iff_eq.mpr z)
       by_cases h7:(decide (na - at_<7)&&decide (nb - 1 - (nb - 1)<7))=true
       ·rw[if_pos h7]
        exact wpS_pure ⟨au,.inr ⟨_,_,_,_,_,_,rfl,J4,by omega,by omega,by omega⟩⟩
       ·rw[if_neg h7]
        exact wpS_pure ⟨au,_,_,_,_,_,_,rfl,J4,by omega,by omega,by omega⟩
    ·rw[if_neg g8]
     obtain rfl:at_=na:=by omega
     refine wpS_bind (Zm aR ?_)
     have J2:=J.fo C (by omega) aR (fun _ x hx=>by
      have:=df (at_ - 1) (by omega)
      try dsimp only at this
      rw[Nat.zero_add,hx,Bool.not_eq_true']at this
      exact this)
     by_cases hz:(nb - 1==1)=true
     ·rw[if_pos hz]
      exact wpS_pure ⟨au,.inl ⟨_,rfl,J2.first C (beq_iff_eq.mp hz) h0⟩⟩
     rw[if_neg hz]
     have bf:¬(nb - 1=1):=fun z=>hz (beq_iff_eq.mpr z)
     obtain⟨x3,aO⟩:=Zh (xs:=a) (i:=at_ - 1) (by omega)
     refine wpS_bind (Zm aO ?_)
     refine wpS_bind (ZG hc eX (fun i=>match b[0+i]? with |some y=>r y x3 |none=>false) (fun i hi=> ?_) (ma x3 (Zu aO)) (fun i j cJ hj hp=> ?_) (by omega) fun k1 kN gO kM=> ?_)
     ·obtain⟨y,hy⟩:=Zh (xs:=b) (i:=0+i) (by omega)
      refine⟨y,hy,mb y (Zu hy),?_⟩
      try dsimp only
      rw[hy]
      rfl
     ·obtain⟨yj,bX⟩:=Zh (xs:=b) (i:=0+j) (by omega)
      obtain⟨yi,bY⟩:=Zh (xs:=b) (i:=0+i) (by omega)
      try dsimp only at hp ⊢
      rw[bX]at hp
      rw[bY]
      exact Jh C.o hp (Yj C.o C.sb (Zv bY) (Zv bX) (by omega))
     try dsimp only
     by_cases bA:nb - 1 - k1>0
     ·rw[if_pos bA]
      have J3:=J2.qR C (m:=k1) (by omega) (fun i hG fY y x hy hx=>by
       rw[aO]at hx
       cases hx
       have:=kM i hG fY
       try dsimp only at this
       rw[Nat.zero_add,hy]at this
       exact this)
      by_cases az:(k1==1)=true
      ·rw[if_pos az]
       exact wpS_pure ⟨au,.inl ⟨_,rfl,J3.first C (beq_iff_eq.mp az) h0⟩⟩
      rw[if_neg az]
      by_cases dg:(k1==0)=true
      ·rw[if_pos dg]
       exact wpS_pure ⟨au,.inl ⟨_,rfl,J3.done C (.inr (beq_iff_eq.mp dg))⟩⟩
      rw[if_neg dg]
      have kT:¬(k1=1):=fun z=>az (beq_iff_eq.mpr z)
      have vG:¬(k1=0):=fun z=>dg (beq_iff_eq.mpr z)
      obtain⟨x4,av⟩:=Zh (xs:=a) (i:=at_ - 1) (by omega)
      refine wpS_bind (Zm av ?_)
      have J4:=J3.cG C (by omega) av (fun _ y hy=>by
       have:=gO (k1 - 1) (by omega)
       try dsimp only at this
       rw[Nat.zero_add,hy]at this
       have e:x4=x3:=by rw[aO]at av;exact(Option.some.inj av).symm
       rw[e]
       exact C.o.bK _ _ this)
      by_cases hz:(at_ - 1==0)=true
      ·rw[if_pos hz]
       exact wpS_pure ⟨au,.inl ⟨_,rfl,J4.done C (.inl (by have:=beq_iff_eq.mp hz;omega))⟩⟩
      ·rw[if_neg hz]
       have bf:¬(at_ - 1=0):=fun z=>hz (beq_iff_eq.mpr z)
       by_cases h7:(decide (at_ - at_<7)&&decide (nb - 1 - k1<7))=true
       ·rw[if_pos h7]
        exact wpS_pure ⟨au,.inr ⟨_,_,_,_,_,_,rfl,J4,by omega,by omega,by omega⟩⟩
       ·rw[if_neg h7]
        exact wpS_pure ⟨au,_,_,_,_,_,_,rfl,J4,by omega,by omega,by omega⟩
     ·rw[if_neg bA]
      obtain rfl:k1=nb - 1:=by omega
      obtain⟨x4,av⟩:=Zh (xs:=a) (i:=at_ - 1) (by omega)
      refine wpS_bind (Zm av ?_)
      have J4:=J2.cG C (by omega) av (fun _ y hy=>by
       have:=gO (nb - 1 - 1) (by omega)
       try dsimp only at this
       rw[Nat.zero_add,hy]at this
       have e:x4=x3:=by rw[aO]at av;exact(Option.some.inj av).symm
       rw[e]
       exact C.o.bK _ _ this)
      by_cases hz:(at_ - 1==0)=true
      ·rw[if_pos hz]
       exact wpS_pure ⟨au,.inl ⟨_,rfl,J4.done C (.inl (by have:=beq_iff_eq.mp hz;omega))⟩⟩
      ·rw[if_neg hz]
       have bf:¬(at_ - 1=0):=fun z=>hz (beq_iff_eq.mpr z)
       by_cases h7:(decide (at_ - at_<7)&&decide (nb - 1 - (nb - 1)<7))=true
       ·rw[if_pos h7]
        exact wpS_pure ⟨au,.inr ⟨_,_,_,_,_,_,rfl,J4,by omega,by omega,by omega⟩⟩
       ·rw[if_neg h7]
        exact wpS_pure ⟨au,_,_,_,_,_,_,rfl,J4,by omega,by omega,by omega⟩
  ·rintro c aj ⟨fP,na,nb,out,g,ac,bc,rfl,J,i1,i2,i4⟩
   rw[Nat.max_eq_right (Nat.zero_le _)]at i4
   have la:=J'.la
   have lb:=J'.lb
   omega
  rintro c aj ⟨fP,⟨res,ec,gd⟩ |⟨zT,zS,out,g,ac,bc,rfl,J2,k1,k2,k3⟩⟩
  ·rw[ec]
   exact wpS_pure ⟨fP,res,rfl,gd⟩
  dsimp only
  refine wpS_bind (Yy (wpS_pure ⟨fP,_,_,_,_,rfl,J2,k1,k2,by omega⟩))
end
def SI (r:Keyed→Keyed→Bool) (xs:Array Keyed) (lo hi:Nat):Prop:=∀i j x y,lo≤i→i≤j→j<hi→xs[i]? =some x→xs[j]? =some y→r y x=false
def NI (r:Keyed→Keyed→Bool) (xs:Array Keyed) (lo hi:Nat):Prop:=∀i j x y,lo≤i→i≤j→j<hi→xs[i]? =some x→xs[j]? =some y→r x y=false
def EQ (r:Keyed→Keyed→Bool) (xs:Array Keyed) (lo hi:Nat):Prop:=∀i j x y,lo≤i→i<hi→lo≤j→j<hi→xs[i]? =some x→xs[j]? =some y→r x y=false
section
variable {r:Keyed→Keyed→Bool}{xs:Array Keyed}{lo hi:Nat}
theorem SI.one (o:Ord r):SI r xs lo (lo+1):=fun i j x y h1 h2 h3 hx hy=>by
 obtain rfl:i=j:=by omega
 rw[hx]at hy;cases hy;exact o.jO _
theorem NI.one (o:Ord r):NI r xs lo (lo+1):=fun i j x y h1 h2 h3 hx hy=>by
 obtain rfl:i=j:=by omega
 rw[hx]at hy;cases hy;exact o.jO _
theorem EQ.one (o:Ord r):EQ r xs lo (lo+1):=fun i j x y h1 h2 h3 h4 hx hy=>by
 obtain rfl:i=j:=by omega
 rw[hx]at hy;cases hy;exact o.jO _
theorem SI.snoc (o:Ord r) (h:SI r xs lo hi) {p q:Keyed}(hl:lo<hi) (hp:xs[hi - 1]? =some p) (hq:xs[hi]? =some q) (hr:r q p=false):SI r xs lo (hi+1):=fun i j x y h1 h2 h3 hx hy=>by
 by_cases hj:j<hi
 ·exact h i j x y h1 h2 hj hx hy
 ·obtain rfl:j=hi:=by omega
  rw[hq]at hy;cases hy
  by_cases bT:i=j
  ·subst bT
   rw[hq]at hx;cases hx;exact o.jO _
  ·exact o.cV x p q (h i (j - 1) x p h1 (by omega) (by omega) hx hp) hr
theorem NI.snoc (o:Ord r) (h:NI r xs lo hi) {p q:Keyed}(hl:lo<hi) (hp:xs[hi - 1]? =some p) (hq:xs[hi]? =some q) (hr:r p q=false):NI r xs lo (hi+1):=fun i j x y h1 h2 h3 hx hy=>by
 by_cases hj:j<hi
 ·exact h i j x y h1 h2 hj hx hy
 ·obtain rfl:j=hi:=by omega
  rw[hq]at hy;cases hy
  by_cases bT:i=j
  ·subst bT
   rw[hq]at hx;cases hx;exact o.jO _
  ·exact o.cV q p x hr (h i (j - 1) x p h1 (by omega) (by omega) hx hp)
theorem EQ.snoc (o:Ord r) (h:EQ r xs lo hi) {p q:Keyed}(hl:lo<hi) (hp:xs[hi - 1]? =some p) (hq:xs[hi]? =some q) (hr:r p q=false) (fB:r q p=false):EQ r xs lo (hi+1):=fun i j x y h1 h2 h3 h4 hx hy=>by
 have one:∀i x,lo≤i→i<hi→xs[i]? =some x→r x q=false∧r q x=false:=fun i x h1 h2 hx=>
  ⟨o.cV q p x hr (h i (hi - 1) x p h1 h2 (by omega) (by omega) hx hp),o.cV x p q (h (hi - 1) i p x (by omega) (by omega) h1 h2 hp hx) fB⟩
 by_cases hj:j<hi
 ·by_cases bT:i<hi
  ·exact h i j x y h1 bT h3 hj hx hy
  ·obtain rfl:i=hi:=by omega
   rw[hq]at hx;cases hx
   exact(one j y h3 hj hy).2
 ·obtain rfl:j=hi:=by omega
  rw[hq]at hy;cases hy
  by_cases bT:i<j
  ·exact(one i x h1 bT hx).1
  ·obtain rfl:i=j:=by omega
   rw[hq]at hx;cases hx
   exact o.jO _
abbrev aW (xs:Array Keyed) (i j:Nat):Array Keyed:=mirror xs i j ((j - i)/2)
theorem J8 (hh:hi≤xs.size) (k:Nat):(aW xs lo hi)[k]? =if lo≤k∧k<hi then xs[lo+hi - 1 - k]? else xs[k]? :=getElem?_mirror_all hh k
theorem SI.aW (h:SI r xs lo hi) (hh:hi≤xs.size):NI r (aW xs lo hi) lo hi:=fun i j x y h1 h2 h3 hx hy=>by
 rw[J8 hh,if_pos ⟨by omega,by omega⟩]at hx hy
 exact h _ _ y x (by omega) (by omega) (by omega) hy hx
theorem NI.aW (h:NI r xs lo hi) (hh:hi≤xs.size):SI r (aW xs lo hi) lo hi:=fun i j x y h1 h2 h3 hx hy=>by
 rw[J8 hh,if_pos ⟨by omega,by omega⟩]at hx hy
 exact h _ _ y x (by omega) (by omega) (by omega) hy hx
theorem NI.rq {m:Nat}(h:NI r xs lo hi) (e:EQ r xs m hi) (hm:lo≤m) (hh:hi≤xs.size):NI r (PyProof.Rows.fK.aW xs m hi) lo hi:=fun i j x y h1 h2 h3 hx hy=>by
 rw[J8 hh]at hx hy
 by_cases hj:m≤j
 ·rw[if_pos ⟨hj,h3⟩]at hy
  by_cases bT:m≤i
  ·rw[if_pos ⟨bT,by omega⟩]at hx
   exact e _ _ x y (by omega) (by omega) (by omega) (by omega) hx hy
  ·rw[if_neg (by omega)]at hx
   exact h i _ x y h1 (by omega) (by omega) hx hy
 ·rw[if_neg (by omega)]at hx hy
  exact h i j x y h1 h2 h3 hx hy
theorem J7 {m:Nat}(hh:hi≤xs.size) (hm:m<hi) {p:Keyed}(hp:(aW xs m hi)[hi - 1]? =some p):xs[m]? =some p:=by
 rw[J8 hh,if_pos ⟨by omega,by omega⟩,show m+hi - 1 - (hi - 1)=m by omega]at hp
 exact hp
theorem JM (hh:hi≤xs.size) {k:Nat}(h:k<lo∨hi≤k):(aW xs lo hi)[k]? =xs[k]? :=by rw[J8 hh,if_neg (by omega)]
end
structure CB (a₀:Array Keyed) (κ:SortKind) (lo:Nat) (st aa:SortSt):Prop where
 kind:kindOf aa=κ
 pend:pendingOf aa=pendingOf st
 fail:failedOf aa=failedOf st
 perm:(arrOf aa).Perm a₀
 pre:∀k,k<lo→(arrOf aa)[k]? =(arrOf st)[k]?
theorem CB.size {a₀:Array Keyed}{κ:SortKind}{lo:Nat}{st aa:SortSt}(h:CB a₀ κ lo st aa):(arrOf aa).size=a₀.size:=h.perm.size_eq
theorem CB.mem {a₀:Array Keyed}{κ:SortKind}{lo:Nat}{st aa:SortSt}(h:CB a₀ κ lo st aa) {i:Nat}{x:Keyed}(hx:(arrOf aa)[i]? =some x):x∈a₀.toList:=(Array.perm_iff_toList_perm.mp h.perm).mem_iff.mp (Zu hx)
theorem CB.rev {a₀:Array Keyed}{κ:SortKind}{lo m hi:Nat}{st aa:SortSt}(h:CB a₀ κ lo st aa) (hm:lo≤m) (hh:hi≤a₀.size):CB a₀ κ lo st (setArr aa (aW (arrOf aa) m hi)):=
 ⟨h.kind,h.pend,h.fail,(mirror_perm _ _ _ _).trans h.perm,fun k hk=>by
  show(aW (arrOf aa) m hi)[k]? =_
  rw[JM (by rw[h.size];exact hh) (.inl (by omega))]
  exact h.pre k hk⟩
section
variable {prog:Program}{w:World}{A:Around}{E:Value→Shared→Prop}{s:Shared}{κ:SortKind}{a₀:Array Keyed}{r:Keyed→Keyed→Bool}
theorem Z9 {st aa:SortSt}{lo i j:Nat}{x y:Keyed}{Q:Option Bool→SortSt→Prop}(hc:iu prog w A E s κ a₀ r) (B:CB a₀ κ lo st aa) (hx:(arrOf aa)[i]? =some x) (hy:(arrOf aa)[j]? =some y) (h:Q (some (r x y)) aa):wpS (model prog w) A E s (ltAt' i j) Q aa:=by
 rw[ltAt'_eq]
 exact wpS_bind (wpS_get (wpS_bind (Zm hx (wpS_bind (Zm hy (hc _ _ _ _ (B.mem hx) (B.mem hy) B.kind h))))))
theorem Z8 {st:SortSt}{i j:Nat}{Q:Unit→SortSt→Prop}(h:Q () (setArr st (aW (arrOf st) i j))):wpS (model prog w) A E s (reverseSlice' i j) Q st:=by
 rw[reverseSlice'_eq]
 exact wpS_modify h
theorem EQ.mq {xs:Array Keyed}{lo hi:Nat}(o:Ord r) (h:hi=lo+1):EQ r xs lo hi:=by subst h;exact EQ.one o
theorem Wl {st:SortSt}{lo bC:Nat}{Q:Option Nat→SortSt→Prop}(o:Ord r) (hc:iu prog w A E s κ a₀ r) (B0:CB a₀ κ lo st st) (h1:1≤bC) (hz:lo+bC≤a₀.size)
  (h:∀n aa,CB a₀ κ lo st aa→1≤n→n≤bC→SI r (arrOf aa) lo (lo+n)→Q (some n) aa):wpS (model prog w) A E s (countRun' lo bC) Q st:=by
 rw[countRun'_eq]
 dsimp only
 have z0:=B0.size
 refine wpS_bind (wpS_mono (wpS_forRange (I:=fun y c aa=>aa=st∧c=(none,y)∧SI r (arrOf st) lo (lo+y))
  (Q:=fun c aa=>aa=st∧∃n,c=(none,n)∧1≤n∧n≤bC∧SI r (arrOf st) lo (lo+n)∧(n=bC∨∃p q,(arrOf st)[lo+n - 1]? =some p∧(arrOf st)[lo+n]? =some q∧r q p=true)) ?_ ?_ ⟨rfl,rfl,SI.one o⟩) ?_)
 ·rintro y c aa iF aR ⟨rfl,rfl,S⟩
  dsimp only
  obtain⟨p,hp⟩:=Zh (xs:=arrOf aa) (i:=lo+y - 1) (by omega)
  obtain⟨q,hq⟩:=Zh (xs:=arrOf aa) (i:=lo+y) (by omega)
  refine wpS_bind (Z9 hc B0 hq hp ?_)
  cases hr:r q p with
  |true=>exact wpS_pure ⟨rfl,y,rfl,iF,by omega,S,.inr ⟨p,q,hp,hq,hr⟩⟩
  |false=>exact wpS_pure ⟨rfl,rfl,S.snoc (hi:=lo+y) o (by omega) hp hq hr⟩
 ·rintro c aa ⟨rfl,rfl,S⟩
  have e9:max 1 bC=bC:=Nat.max_eq_right h1
  rw[e9]at S
  exact⟨rfl,bC,by rw[e9],h1,Nat.le_refl _,S,.inl rfl⟩
 rintro c aa ⟨rfl,n,rfl,n1,n2,S,hn⟩
 dsimp only
 by_cases mF:(n==bC)=true
 ·rw[if_pos mF]
  exact wpS_pure (h n aa B0 n1 n2 S)
 rw[if_neg mF]
 have HG:¬(n=bC):=fun z=>mF (beq_iff_eq.mpr z)
 rcases hn with hn |⟨p,q,hp,hq,hr⟩
 ·exact absurd hn HG
 by_cases AD:n>1
 ·rw[if_pos AD]
  obtain⟨f,hf⟩:=Zh (xs:=arrOf aa) (i:=lo) (by omega)
  refine wpS_bind (Z9 hc B0 hf hp ?_)
  cases Ht:r f p with
  |true=>exact wpS_pure (h n aa B0 n1 n2 S)
  |false=>
   dsimp only
   rw[if_neg Bool.false_ne_true]
   refine wpS_bind (Z8 ?_)
   have B1:=B0.rev (m:=lo) (hi:=lo+n) (Nat.le_refl _) (by omega)
   have N1:NI r (aW (arrOf aa) lo (lo+n)) lo (lo+n):=S.aW (by omega)
   obtain⟨p1,lh⟩:=Zh (xs:=aW (arrOf aa) lo (lo+n)) (i:=lo+n - 1) (by rw[mirror_size];omega)
   have Av:=J7 (by omega) (by omega) lh
   rw[hf]at Av
   cases Av
   have dQ:(aW (arrOf aa) lo (lo+n))[lo+n]? =some q:=by rw[JM (by omega) (.inr (Nat.le_refl _))];exact hq
   have sR:NI r (arrOf (setArr aa (aW (arrOf aa) lo (lo+n)))) lo (lo+(n+1)):=N1.snoc (hi:=lo+n) o (by omega) lh dQ (o.cV q p f (o.bK _ _ hr) Ht)
   generalize setArr aa (aW (arrOf aa) lo (lo+n))=aw at B1 sR
   refine wpS_bind (wpS_lift (wpAny_rule ⟨rfl,?_⟩))
   refine wpS_bind (wpS_mono (wpS_forRange (I:=fun y c stx=>CB a₀ κ lo aa stx∧∃aJ,c=(none,y,aJ)∧NI r (arrOf stx) lo (lo+y)∧aJ+1≤y∧EQ r (arrOf stx) (lo+y - (aJ+1)) (lo+y))
    (Q:=fun c stx=>CB a₀ κ lo aa stx∧∃m aJ,c=(none,m,aJ)∧n+1≤m∧m≤bC∧NI r (arrOf stx) lo (lo+m)∧aJ+1≤m∧EQ r (arrOf stx) (lo+m - (aJ+1)) (lo+m)) ?_ ?_ ⟨B1,0,rfl,sR,by omega,EQ.mq o (by omega)⟩) ?_)
   ·rintro y c aj iF aR ⟨B2,aJ,rfl,N2,g1,e2⟩
    dsimp only
    have z2:=B2.size
    obtain⟨p2,dv⟩:=Zh (xs:=arrOf aj) (i:=lo+y - 1) (by omega)
    obtain⟨q2,bh⟩:=Zh (xs:=arrOf aj) (i:=lo+y) (by omega)
    refine wpS_bind (Z9 hc B2 bh dv ?_)
    cases fB:r q2 p2 with
    |true=>
     dsimp only
     rw[if_pos rfl]
     by_cases gW:aJ>0
     ·rw[if_pos gW]
      refine wpS_bind (Z8 ?_)
      have B3:=B2.rev (m:=lo+y - (aJ+1)) (hi:=lo+y) (by omega) (by omega)
      have N3:NI r (aW (arrOf aj) (lo+y - (aJ+1)) (lo+y)) lo (lo+y):=N2.rq e2 (by omega) (by omega)
      obtain⟨p3,gY⟩:=Zh (xs:=aW (arrOf aj) (lo+y - (aJ+1)) (lo+y)) (i:=lo+y - 1) (by rw[mirror_size];omega)
      have vU:=J7 (by omega) (by omega) gY
      have lg:(aW (arrOf aj) (lo+y - (aJ+1)) (lo+y))[lo+y]? =some q2:=by rw[JM (by omega) (.inr (Nat.le_refl _))];exact bh
      have h3:r p3 q2=false:=o.cV q2 p2 p3 (o.bK _ _ fB) (e2 _ _ p3 p2 (Nat.le_refl _) (by omega) (by omega) (by omega) vU dv)
      exact wpS_pure ⟨B3,0,rfl,N3.snoc (hi:=lo+y) o (by omega) gY lg h3,by omega,EQ.mq o (by omega)⟩
     ·rw[if_neg gW]
      exact wpS_pure ⟨B2,0,rfl,N2.snoc (hi:=lo+y) o (by omega) dv bh (o.bK _ _ fB),by omega,EQ.mq o (by omega)⟩
    |false=>
     dsimp only
     rw[if_neg Bool.false_ne_true]
     refine wpS_bind (Z9 hc B2 dv bh ?_)
     cases oG:r p2 q2 with
     |true=>exact wpS_pure ⟨B2,y,aJ,rfl,by omega,by omega,N2,g1,e2⟩
     |false=>
      refine wpS_pure ⟨B2,aJ+1,rfl,N2.snoc (hi:=lo+y) o (by omega) dv bh oG,by omega,?_⟩
      have:=e2.snoc (hi:=lo+y) o (by omega) dv bh oG fB
      rw[show lo+(y+1) - (aJ+1+1)=lo+y - (aJ+1) by omega]
      exact this
   ·rintro c aj ⟨B2,aJ,rfl,N2,g1,e2⟩
    have e9:max (n+1) bC=bC:=Nat.max_eq_right (by omega)
    rw[e9]at N2 g1 e2
    exact⟨B2,bC,aJ,by rw[e9],by omega,by omega,N2,g1,e2⟩
   rintro c aF ⟨B3,m,aJ,rfl,m1,m2,N3,g3,e3⟩
   dsimp only
   have z3:=B3.size
   by_cases gW:aJ>0
   ·rw[if_pos gW]
    refine wpS_bind (Z8 ?_)
    have B4:=B3.rev (m:=lo+m - (aJ+1)) (hi:=lo+m) (by omega) (by omega)
    have N4:NI r (arrOf (setArr aF (aW (arrOf aF) (lo+m - (aJ+1)) (lo+m)))) lo (lo+m):=N3.rq e3 (by omega) (by omega)
    generalize setArr aF (aW (arrOf aF) (lo+m - (aJ+1)) (lo+m))=cm at B4 N4
    refine wpS_bind (Z8 ?_)
    have B9:=B4.rev (m:=lo) (hi:=lo+m) (Nat.le_refl _) (by omega)
    have S9:SI r (arrOf (setArr cm (aW (arrOf cm) lo (lo+m)))) lo (lo+m):=NI.aW N4 (by rw[B4.size];omega)
    generalize setArr cm (aW (arrOf cm) lo (lo+m))=eC at B9 S9
    have z9:=B9.size
    refine wpS_bind (wpS_forRange (I:=fun y c stx=>stx=eC∧c=(none,y)∧SI r (arrOf eC) lo (lo+y)) ?_ ?_ ⟨rfl,rfl,S9⟩)
    ·rintro y c stx iF aR ⟨rfl,rfl,S⟩
     dsimp only
     obtain⟨p9,gX⟩:=Zh (xs:=arrOf stx) (i:=lo+y - 1) (by omega)
     obtain⟨q9,gU⟩:=Zh (xs:=arrOf stx) (i:=lo+y) (by omega)
     refine wpS_bind (Z9 hc B9 gU gX ?_)
     cases kZ:r q9 p9 with
     |true=>exact wpS_pure (wpS_pure (h y stx B9 (by omega) (by omega) S))
     |false=>exact wpS_pure ⟨rfl,rfl,S.snoc (hi:=lo+y) o (by omega) gX gU kZ⟩
    ·rintro c stx ⟨rfl,rfl,S⟩
     rw[Nat.max_eq_right (by omega)]at S
     have e9:max m bC=bC:=Nat.max_eq_right (by omega)
     dsimp only
     rw[e9]
     exact wpS_pure (h bC stx B9 (by omega) (by omega) S)
   ·rw[if_neg gW]
    refine wpS_bind (Z8 ?_)
    have B9:=B3.rev (m:=lo) (hi:=lo+m) (Nat.le_refl _) (by omega)
    have S9:SI r (arrOf (setArr aF (aW (arrOf aF) lo (lo+m)))) lo (lo+m):=NI.aW N3 (by rw[B3.size];omega)
    generalize setArr aF (aW (arrOf aF) lo (lo+m))=eC at B9 S9
    have z9:=B9.size
    refine wpS_bind (wpS_forRange (I:=fun y c stx=>stx=eC∧c=(none,y)∧SI r (arrOf eC) lo (lo+y)) ?_ ?_ ⟨rfl,rfl,S9⟩)
    ·rintro y c stx iF aR ⟨rfl,rfl,S⟩
     dsimp only
     obtain⟨p9,gX⟩:=Zh (xs:=arrOf stx) (i:=lo+y - 1) (by omega)
     obtain⟨q9,gU⟩:=Zh (xs:=arrOf stx) (i:=lo+y) (by omega)
     refine wpS_bind (Z9 hc B9 gU gX ?_)
     cases kZ:r q9 p9 with
     |true=>exact wpS_pure (wpS_pure (h y stx B9 (by omega) (by omega) S))
     |false=>exact wpS_pure ⟨rfl,rfl,S.snoc (hi:=lo+y) o (by omega) gX gU kZ⟩
    ·rintro c stx ⟨rfl,rfl,S⟩
     rw[Nat.max_eq_right (by omega)]at S
     have e9:max m bC=bC:=Nat.max_eq_right (by omega)
     dsimp only
     rw[e9]
     exact wpS_pure (h bC stx B9 (by omega) (by omega) S)
 ·rw[if_neg AD]
  obtain rfl:n=1:=by omega
  have sR:NI r (arrOf aa) lo (lo+(1+1)):=(NI.one o).snoc (hi:=lo+1) o (by omega) hp hq (o.bK _ _ hr)
  refine wpS_bind (wpS_lift (wpAny_rule ⟨rfl,?_⟩))
  refine wpS_bind (wpS_mono (wpS_forRange (I:=fun y c stx=>CB a₀ κ lo aa stx∧∃aJ,c=(none,y,aJ)∧NI r (arrOf stx) lo (lo+y)∧aJ+1≤y∧EQ r (arrOf stx) (lo+y - (aJ+1)) (lo+y))
   (Q:=fun c stx=>CB a₀ κ lo aa stx∧∃m aJ,c=(none,m,aJ)∧1+1≤m∧m≤bC∧NI r (arrOf stx) lo (lo+m)∧aJ+1≤m∧EQ r (arrOf stx) (lo+m - (aJ+1)) (lo+m)) ?_ ?_ ⟨B0,0,rfl,sR,by omega,EQ.mq o (by omega)⟩) ?_)
  ·rintro y c aj iF aR ⟨B2,aJ,rfl,N2,g1,e2⟩
   dsimp only
   have z2:=B2.size
   obtain⟨p2,dv⟩:=Zh (xs:=arrOf aj) (i:=lo+y - 1) (by omega)
   obtain⟨q2,bh⟩:=Zh (xs:=arrOf aj) (i:=lo+y) (by omega)
   refine wpS_bind (Z9 hc B2 bh dv ?_)
   cases fB:r q2 p2 with
   |true=>
    dsimp only
    rw[if_pos rfl]
    by_cases gW:aJ>0
    ·rw[if_pos gW]
     refine wpS_bind (Z8 ?_)
     have B3:=B2.rev (m:=lo+y - (aJ+1)) (hi:=lo+y) (by omega) (by omega)
     have N3:NI r (aW (arrOf aj) (lo+y - (aJ+1)) (lo+y)) lo (lo+y):=N2.rq e2 (by omega) (by omega)
     obtain⟨p3,gY⟩:=Zh (xs:=aW (arrOf aj) (lo+y - (aJ+1)) (lo+y)) (i:=lo+y - 1) (by rw[mirror_size];omega)
     have vU:=J7 (by omega) (by omega) gY
     have lg:(aW (arrOf aj) (lo+y - (aJ+1)) (lo+y))[lo+y]? =some q2:=by rw[JM (by omega) (.inr (Nat.le_refl _))];exact bh
     have h3:r p3 q2=false:=o.cV q2 p2 p3 (o.bK _ _ fB) (e2 _ _ p3 p2 (Nat.le_refl _) (by omega) (by omega) (by omega) vU dv)
     exact wpS_pure ⟨B3,0,rfl,N3.snoc (hi:=lo+y) o (by omega) gY lg h3,by omega,EQ.mq o (by omega)⟩
    ·rw[if_neg gW]
     exact wpS_pure ⟨B2,0,rfl,N2.snoc (hi:=lo+y) o (by omega) dv bh (o.bK _ _ fB),by omega,EQ.mq o (by omega)⟩
   |false=>
    dsimp only
    rw[if_neg Bool.false_ne_true]
    refine wpS_bind (Z9 hc B2 dv bh ?_)
    cases oG:r p2 q2 with
    |true=>exact wpS_pure ⟨B2,y,aJ,rfl,by omega,by omega,N2,g1,e2⟩
    |false=>
     refine wpS_pure ⟨B2,aJ+1,rfl,N2.snoc (hi:=lo+y) o (by omega) dv bh oG,by omega,?_⟩
     have:=e2.snoc (hi:=lo+y) o (by omega) dv bh oG fB
     rw[show lo+(y+1) - (aJ+1+1)=lo+y - (aJ+1) by omega]
     exact this
  ·rintro c aj ⟨B2,aJ,rfl,N2,g1,e2⟩
   have e9:max (1+1) bC=bC:=Nat.max_eq_right (by omega)
   rw[e9]at N2 g1 e2
   exact⟨B2,bC,aJ,by rw[e9],by omega,by omega,N2,g1,e2⟩
  rintro c aF ⟨B3,m,aJ,rfl,m1,m2,N3,g3,e3⟩
  dsimp only
  have z3:=B3.size
  by_cases gW:aJ>0
  ·rw[if_pos gW]
   refine wpS_bind (Z8 ?_)
   have B4:=B3.rev (m:=lo+m - (aJ+1)) (hi:=lo+m) (by omega) (by omega)
   have N4:NI r (arrOf (setArr aF (aW (arrOf aF) (lo+m - (aJ+1)) (lo+m)))) lo (lo+m):=N3.rq e3 (by omega) (by omega)
   generalize setArr aF (aW (arrOf aF) (lo+m - (aJ+1)) (lo+m))=cm at B4 N4
   refine wpS_bind (Z8 ?_)
   have B9:=B4.rev (m:=lo) (hi:=lo+m) (Nat.le_refl _) (by omega)
   have S9:SI r (arrOf (setArr cm (aW (arrOf cm) lo (lo+m)))) lo (lo+m):=NI.aW N4 (by rw[B4.size];omega)
   generalize setArr cm (aW (arrOf cm) lo (lo+m))=eC at B9 S9
   have z9:=B9.size
   refine wpS_bind (wpS_forRange (I:=fun y c stx=>stx=eC∧c=(none,y)∧SI r (arrOf eC) lo (lo+y)) ?_ ?_ ⟨rfl,rfl,S9⟩)
   ·rintro y c stx iF aR ⟨rfl,rfl,S⟩
    dsimp only
    obtain⟨p9,gX⟩:=Zh (xs:=arrOf stx) (i:=lo+y - 1) (by omega)
    obtain⟨q9,gU⟩:=Zh (xs:=arrOf stx) (i:=lo+y) (by omega)
    refine wpS_bind (Z9 hc B9 gU gX ?_)
    cases kZ:r q9 p9 with
    |true=>exact wpS_pure (wpS_pure (h y stx B9 (by omega) (by omega) S))
    |false=>exact wpS_pure ⟨rfl,rfl,S.snoc (hi:=lo+y) o (by omega) gX gU kZ⟩
   ·rintro c stx ⟨rfl,rfl,S⟩
    rw[Nat.max_eq_right (by omega)]at S
    have e9:max m bC=bC:=Nat.max_eq_right (by omega)
    dsimp only
    rw[e9]
    exact wpS_pure (h bC stx B9 (by omega) (by omega) S)
  ·rw[if_neg gW]
   refine wpS_bind (Z8 ?_)
   have B9:=B3.rev (m:=lo) (hi:=lo+m) (Nat.le_refl _) (by omega)
   have S9:SI r (arrOf (setArr aF (aW (arrOf aF) lo (lo+m)))) lo (lo+m):=NI.aW N3 (by rw[B3.size];omega)
   generalize setArr aF (aW (arrOf aF) lo (lo+m))=eC at B9 S9
   have z9:=B9.size
   refine wpS_bind (wpS_forRange (I:=fun y c stx=>stx=eC∧c=(none,y)∧SI r (arrOf eC) lo (lo+y)) ?_ ?_ ⟨rfl,rfl,S9⟩)
   ·rintro y c stx iF aR ⟨rfl,rfl,S⟩
    dsimp only
    obtain⟨p9,gX⟩:=Zh (xs:=arrOf stx) (i:=lo+y - 1) (by omega)
    obtain⟨q9,gU⟩:=Zh (xs:=arrOf stx) (i:=lo+y) (by omega)
    refine wpS_bind (Z9 hc B9 gU gX ?_)
    cases kZ:r q9 p9 with
    |true=>exact wpS_pure (wpS_pure (h y stx B9 (by omega) (by omega) S))
    |false=>exact wpS_pure ⟨rfl,rfl,S.snoc (hi:=lo+y) o (by omega) gX gU kZ⟩
   ·rintro c stx ⟨rfl,rfl,S⟩
    rw[Nat.max_eq_right (by omega)]at S
    have e9:max m bC=bC:=Nat.max_eq_right (by omega)
    dsimp only
    rw[e9]
    exact wpS_pure (h bC stx B9 (by omega) (by omega) S)
theorem L5 {x y z:Keyed}(o:Ord r) (h:r z x=true) (h2:r y x=false):r z y=true:=by
 cases e:r z y with
 |true=>rfl
 |false=>
  have:=o.cV x y z h2 e
  rw[h]at this
  cases this
theorem OK {st:SortSt}{i j:Nat}{Q:Unit→SortSt→Prop}(h:Q () (setArr st (bubble (arrOf st) i (i - j)))):wpS (model prog w) A E s (moveDown' i j) Q st:=by
 rw[moveDown'_eq]
 exact wpS_modify h
theorem SI.put {xs:Array Keyed}{lo k l:Nat}{q:Keyed}(o:Ord r) (S:SI r xs lo (lo+k)) (hq:xs[lo+k]? =some q) (hl:l≤k) (h1:∀i x,i<l→xs[lo+i]? =some x→r q x=false) (h2:∀i x,l≤i→i<k→xs[lo+i]? =some x→r q x=true):SI r (bubble xs (lo+k) (lo+k - (lo+l))) lo (lo+(k+1)):=by
 have hs:lo+k<xs.size:=(Array.getElem?_eq_some_iff.mp hq).1
 intro i j x y g1 g2 g3 hx hy
 rw[getElem?_bubble hs _ (by omega)]at hx hy
 rw[show lo+k - (lo+k - (lo+l))=lo+l by omega]at hx hy
 by_cases ei:i=lo+l
 ·rw[if_pos ei,hq]at hx
  cases hx
  by_cases ej:j=lo+l
  ·rw[if_pos ej,hq]at hy
   cases hy
   exact o.jO _
  ·rw[if_neg ej,if_pos (by omega)]at hy
   exact o.bK _ _ (h2 (j - 1 - lo) y (by omega) (by omega) (by rw[show lo+(j - 1 - lo)=j - 1 by omega];exact hy))
 ·rw[if_neg ei]at hx
  by_cases ej:j=lo+l
  ·rw[if_pos ej,hq]at hy
   cases hy
   rw[if_neg (by omega)]at hx
   exact h1 (i - lo) x (by omega) (by rw[show lo+(i - lo)=i by omega];exact hx)
  ·rw[if_neg ej]at hy
   by_cases gi:lo+l<i
   ·rw[if_pos (by omega)]at hx hy
    exact S (i - 1) (j - 1) x y (by omega) (by omega) (by omega) hx hy
   ·rw[if_neg (by omega)]at hx
    by_cases gj:lo+l<j
    ·rw[if_pos (by omega)]at hy
     exact S i (j - 1) x y (by omega) (by omega) (by omega) hx hy
    ·rw[if_neg (by omega)]at hy
     exact S i j x y (by omega) (by omega) (by omega) hx hy
theorem JF {st cZ:SortSt}{lo n ok:Nat}{Q:Bool→SortSt→Prop}(o:Ord r) (hc:iu prog w A E s κ a₀ r) (B0:CB a₀ κ lo cZ st) (h1:1≤ok) (hn:ok≤n) (hz:lo+n≤a₀.size) (S0:SI r (arrOf st) lo (lo+ok))
  (h:∀aa,CB a₀ κ lo cZ aa→SI r (arrOf aa) lo (lo+n)→Q true aa):wpS (model prog w) A E s (binarySort' lo n ok) Q st:=by
 rw[binarySort'_eq]
 dsimp only
 rw[Nat.max_eq_left h1]
 refine wpS_bind (wpS_forRange (I:=fun k c aa=>c=(none,())∧CB a₀ κ lo cZ aa∧SI r (arrOf aa) lo (lo+k)) ?_ ?_ ⟨rfl,B0,S0⟩)
 ·rintro k c aw bA fF ⟨rfl,B1,S1⟩
  try dsimp only
  have z1:=B1.size
  obtain⟨q,hq⟩:=Zh (xs:=arrOf aw) (i:=lo+k) (by omega)
  refine wpS_bind (wpS_mono (wpS_forRange (I:=fun y c aa=>aa=aw∧∃l u,c=(none,l,u)∧l≤u∧u≤k∧(∀i x,i<l→(arrOf aw)[lo+i]? =some x→r q x=false)∧(∀i x,u≤i→i<k→(arrOf aw)[lo+i]? =some x→r q x=true)∧u - l≤k - y)
   (Q:=fun c aa=>aa=aw∧∃l u,c=(none,l,u)∧l≤k∧(∀i x,i<l→(arrOf aw)[lo+i]? =some x→r q x=false)∧(∀i x,l≤i→i<k→(arrOf aw)[lo+i]? =some x→r q x=true)) ?_ ?_ ⟨rfl,0,k,rfl,by omega,by omega,fun i x hi=>absurd hi (by omega),fun i x g1 g2=>absurd g2 (by omega),by omega⟩) ?_)
  ·rintro y c aa _ hy ⟨rfl,l,u,rfl,g1,g2,g3,g4,g5⟩
   dsimp only
   by_cases bq:l≥u
   ·rw[if_pos bq]
    exact wpS_pure ⟨rfl,l,u,rfl,by omega,g3,fun i x g6=>g4 i x (by omega)⟩
   ·rw[if_neg bq]
    have hm:(l+u)/2<u:=by omega
    have dS:l≤(l+u)/2:=by omega
    generalize (l+u)/2=m at hm dS
    obtain⟨p,hp⟩:=Zh (xs:=arrOf aa) (i:=lo+m) (by omega)
    refine wpS_bind (Z9 hc B1 hq hp ?_)
    cases hr:r q p with
    |true=>
     refine wpS_pure ⟨rfl,l,m,rfl,dS,by omega,g3,fun i x g6 g7 hx=> ?_,by omega⟩
     exact L5 o hr (S1 (lo+m) (lo+i) p x (by omega) (by omega) (by omega) hp hx)
    |false=>
     refine wpS_pure ⟨rfl,m+1,u,rfl,by omega,g2,fun i x g6 hx=> ?_,g4,by omega⟩
     exact o.cV x p q (S1 (lo+i) (lo+m) x p (by omega) (by omega) (by omega) hx hp) hr
  ·rintro c aa ⟨rfl,l,u,rfl,g1,g2,g3,g4,g5⟩
   rw[Nat.max_eq_right (Nat.zero_le _)]at g5
   exact⟨rfl,l,u,rfl,by omega,g3,fun i x g6=>g4 i x (by omega)⟩
  rintro c aa ⟨rfl,l,u,rfl,g1,g3,g4⟩
  dsimp only
  refine wpS_bind (OK (wpS_pure ⟨rfl,⟨B1.kind,B1.pend,B1.fail,(bubble_perm _ _ _).trans B1.perm,fun i hi=> ?_⟩,S1.put o hq g1 g3 g4⟩))
  show(bubble (arrOf aa) (lo+k) (lo+k - (lo+l)))[i]? =_
  rw[getElem?_bubble (by omega) _ (by omega),if_neg (by omega),if_neg (by omega)]
  exact B1.pre i hi
 ·rintro c aw ⟨rfl,B1,S1⟩
  rw[Nat.max_eq_right hn]at S1
  exact wpS_pure (h aw B1 S1)
end
def seg (L:List Keyed) (s n:Nat):List Keyed:=(L.drop s).take n
theorem YK {L:List Keyed}{s n i:Nat}(h:i<n):(seg L s n)[i]? =L[s+i]? :=by
 unfold seg
 rw[List.getElem?_take_of_lt h,List.getElem?_drop]
theorem CK {L:List Keyed}{s n:Nat}(h:s+n≤L.length):(seg L s n).length=n:=by
 unfold seg
 rw[List.length_take,List.length_drop];omega
theorem SI.pw {r:Keyed→Keyed→Bool}{xs:Array Keyed}{lo n:Nat}(h:SI r xs lo (lo+n)):Pw r (seg xs.toList lo n):=by
 unfold Pw
 rw[List.pairwise_iff_getElem]
 intro i j hi hj cJ
 have hn:j<n:=by unfold seg at hj;rw[List.length_take]at hj;omega
 have e1:(seg xs.toList lo n)[i]? =some (seg xs.toList lo n)[i]:=List.getElem?_eq_getElem hi
 have e2:(seg xs.toList lo n)[j]? =some (seg xs.toList lo n)[j]:=List.getElem?_eq_getElem hj
 rw[YK (by omega),Array.getElem?_toList]at e1
 rw[YK hn,Array.getElem?_toList]at e2
 exact h (lo+i) (lo+j) _ _ (by omega) (by omega) (by omega) e1 e2
def Runs (r:Keyed→Keyed→Bool) (L:List Keyed):List (Nat×Nat×Nat)→Nat→Nat→Prop
 | [],p,q=>p=q
 |x::rest,p,q=>x.1=p∧1≤x.2.1∧Pw r (seg L x.1 x.2.1)∧Runs r L rest (p+x.2.1) q
section
variable {r:Keyed→Keyed→Bool}{L L':List Keyed}
theorem Runs.le:∀{ps:List (Nat×Nat×Nat)}{p q:Nat},Runs r L ps p q→p+ps.length≤q
 | [],_,_,h=>by cases h;exact Nat.le_refl _
 |x::ps,p,q,h=>by
  have:=Runs.le h.2.2.2
  have:=h.2.1
  rw[List.length_cons]
  omega
theorem Runs.app:∀{l1 l2:List (Nat×Nat×Nat)}{p q:Nat},Runs r L (l1++l2) p q↔∃m,Runs r L l1 p m∧Runs r L l2 m q
 | [],l2,p,q=> ⟨fun h=> ⟨p,rfl,h⟩,fun⟨m,h1,h2⟩=>by cases h1;exact h2⟩
 |x::l1,l2,p,q=>by
  constructor
  ·rintro⟨h1,h2,h3,h4⟩
   obtain⟨m,g1,g2⟩:=Runs.app.mp h4
   exact⟨m,⟨h1,h2,h3,g1⟩,g2⟩
  ·rintro⟨m,⟨h1,h2,h3,g1⟩,g2⟩
   exact⟨h1,h2,h3,Runs.app.mpr ⟨m,g1,g2⟩⟩
theorem Runs.congr:∀{ps:List (Nat×Nat×Nat)}{p q:Nat},Runs r L ps p q→(∀s n,p≤s→s+n≤q→seg L s n=seg L' s n)→Runs r L' ps p q
 | [],_,_,h,_=>h
 |x::ps,p,q,⟨h1,h2,h3,h4⟩,e=>by
  have:=Runs.le h4
  refine⟨h1,h2,?_,Runs.congr h4 fun s n g1 g2=>e s n (by omega) g2⟩
  rw[←e x.1 x.2.1 (by omega) (by omega)]
  exact h3
theorem CL {m s n:Nat}(h:L.take m=L'.take m) (hs:s+n≤m):seg L s n=seg L' s n:=by
 have key:∀M:List Keyed,seg M s n=seg (M.take m) s n:=fun M=>by
  unfold seg
  rw[List.drop_take,List.take_take,Nat.min_eq_left (by omega)]
 rw[key L,key L',h]
theorem JR {m s n:Nat}(h:L.drop m=L'.drop m) (hs:m≤s):seg L s n=seg L' s n:=by
 have key:∀M:List Keyed,seg M s n=((M.drop m).drop (s - m)).take n:=fun M=>by
  unfold seg
  rw[List.drop_drop,show m+(s - m)=s by omega]
 rw[key L,key L',h]
theorem OO {A B M:List Keyed}{k n:Nat}(o:Ord r) (sA:Pw r A) (sB:Pw r B) (hM:M.Perm (A.drop k++B.take n)) (sM:Pw r M) (h1:∀x∈A.take k,∀y∈B,r y x=false) (h2:∀z∈A,∀w∈B.drop n,r w z=false):Pw r (A.take k++(M++B.drop n)):=by
 have pa:Pw r (A.take k):=List.Pairwise.sublist (List.take_sublist _ _) sA
 have pb:Pw r (B.drop n):=List.Pairwise.sublist (List.drop_sublist _ _) sB
 have ER:Pw r (A.take k++A.drop k):=by rw[List.take_append_drop];exact sA
 have EO:Pw r (B.take n++B.drop n):=by rw[List.take_append_drop];exact sB
 refine List.pairwise_append.mpr ⟨pa,List.pairwise_append.mpr ⟨sM,pb,fun z hz w hw=> ?_⟩,fun x hx z hz=> ?_⟩
 ·rcases List.mem_append.mp (hM.mem_iff.mp hz) with hz |hz
  ·exact h2 z (List.mem_of_mem_drop hz) w hw
  ·exact(List.pairwise_append.mp EO).2.2 z hz w hw
 ·rcases List.mem_append.mp hz with hz |hz
  ·rcases List.mem_append.mp (hM.mem_iff.mp hz) with hz |hz
   ·exact(List.pairwise_append.mp ER).2.2 x hx z hz
   ·exact h1 x hx z (List.mem_of_mem_take hz)
  ·exact h1 x hx z (List.mem_of_mem_drop hz)
theorem CJ (off:Nat):∀(M:List Keyed) (j:Nat) (xs:Array Keyed),off+j+M.length≤xs.size→((M.zipIdx j).foldl (fun a x=>a.setIfInBounds (off+x.snd) x.fst) xs).toList=xs.toList.take (off+j)++(M++xs.toList.drop (off+j+M.length))
 | [],j,xs,_=>by
  show xs.toList=_
  rw[List.nil_append,List.length_nil,Nat.add_zero,List.take_append_drop]
 |m::M,j,xs,h=>by
  rw[List.length_cons]at h
  rw[List.zipIdx_cons,List.foldl_cons,CJ off M (j+1) _ (by rw[Array.size_setIfInBounds];omega),Array.toList_setIfInBounds]
  have hl:off+j<xs.toList.length:=by rw[Array.length_toList];omega
  rw[List.drop_set_of_lt (by omega),←Nat.add_assoc,List.take_add_one,List.take_set_of_le (Nat.le_refl _),List.getElem?_set_self hl]
  rw[List.append_assoc,List.length_cons,show off+j+1+M.length=off+j+(M.length+1) by omega]
  rfl
end
section
variable {prog:Program}{w:World}{A:Around}{E:Value→Shared→Prop}{s:Shared}{κ:SortKind}{a₀:Array Keyed}{r:Keyed→Keyed→Bool}
theorem Ni {st aa:SortSt}{Q:PUnit→SortSt→Prop}(h:Q ⟨⟩ aa):wpS (model prog w) A E s (set aa:StateT SortSt Sem PUnit) Q st:=by
 unfold wpS
 exact wpAny_pure ⟨rfl,h⟩
theorem Nh {α:Type}{m:StateT SortSt Sem α}{Q:α→SortSt→Prop}{st:SortSt}(P:SortSt→Prop) (hp:P st) (h:∀cZ,P cZ→wpS (model prog w) A E s m Q cZ):wpS (model prog w) A E s m Q st:=h st hp
theorem W9 {st:SortSt}{i:Nat}{Q:Bool→SortSt→Prop}(o:Ord r) (hc:iu prog w A E s κ a₀ r) (hk:kindOf st=κ) (hP:(arrOf st).Perm a₀) (hF:failedOf st=none) {pre post:List (Nat×Nat×Nat)}{sa na pw sb nb qS:Nat}
  (hp:(pendingOf st).toList=pre++(sa,na,pw)::(sb,nb,qS)::post) (hi:pre.length=i) (EK:sb=sa+na) (n1:1≤na) (n2:1≤nb) (hz:sb+nb≤a₀.size) (SA:Pw r (seg (arrOf st).toList sa na)) (SB:Pw r (seg (arrOf st).toList sb nb))
  (h:∀aa,kindOf aa=κ→(arrOf aa).Perm a₀→failedOf aa=none→(pendingOf aa).toList=pre++(sa,na+nb,pw)::post→(arrOf aa).toList.take sa=(arrOf st).toList.take sa→(arrOf aa).toList.drop (sb+nb)=(arrOf st).toList.drop (sb+nb)→Pw r (seg (arrOf aa).toList sa (na+nb))→Q true aa):
  wpS (model prog w) A E s (mergeAt' i) Q st:=by
 have hsz:(arrOf st).size=a₀.size:=hP.size_eq
 have e1:(pendingOf st)[i]? =some (sa,na,pw):=by
  rw[←Array.getElem?_toList,hp,←hi]
  simp
 have e2:(pendingOf st)[i+1]? =some (sb,nb,qS):=by
  rw[←Array.getElem?_toList,hp,←hi,List.getElem?_append_right (by omega),show pre.length+1 - pre.length=1 by omega]
  rfl
 have Ar:(((pendingOf st).setIfInBounds i (sa,na+nb,pw)).eraseIdxIfInBounds (i+1)).toList=pre++(sa,na+nb,pw)::post:=by
  rw[Array.toList_eraseIdxIfInBounds,Array.toList_setIfInBounds,hp,←hi,List.set_append_right _ _ (Nat.le_refl _),Nat.sub_self,List.set_cons_zero,List.eraseIdx_append_of_length_le (by omega),show pre.length+1 - pre.length=1 by omega]
  rfl
 show wpS (model prog w) A E s (_ >>=_) _ _
 obtain⟨kd,xs,pd,ga,fl⟩:=st
 refine wpS_bind (wpS_get ?_)
 replace e1:pd[i]? =some (sa,na,pw):=e1
 replace e2:pd[i+1]? =some (sb,nb,qS):=e2
 dsimp only
 rw[e1,e2]
 dsimp only
 refine wpS_bind (Ni ?_)
 refine Nh (fun cZ=>kindOf cZ=κ∧arrOf cZ=xs∧(pendingOf cZ).toList=pre++(sa,na+nb,pw)::post∧failedOf cZ=none) ⟨hk,rfl,Ar,hF⟩ ?_
 rintro cZ ⟨g1,g2,g3,g4⟩
 clear Ar e1 e2
 replace hP:xs.Perm a₀:=hP
 replace hsz:xs.size=a₀.size:=hsz
 replace SA:Pw r (seg xs.toList sa na):=SA
 replace SB:Pw r (seg xs.toList sb nb):=SB
 have mm:∀{j:Nat}{x:Keyed},xs[j]? =some x→x∈a₀.toList:=fun hx=> (Array.perm_iff_toList_perm.mp hP).mem_iff.mp (Zu hx)
 have lA:(seg xs.toList sa na).length=na:=CK (by rw[Array.length_toList];omega)
 have lB:(seg xs.toList sb nb).length=nb:=CK (by rw[Array.length_toList];omega)
 have xo:∀{j:Nat}{x:Keyed},j<na→xs[sa+j]? =some x→(seg xs.toList sa na)[j]? =some x:=fun hj hx=>by rw[YK hj,Array.getElem?_toList];exact hx
 have xn:∀{j:Nat}{x:Keyed},j<nb→xs[sb+j]? =some x→(seg xs.toList sb nb)[j]? =some x:=fun hj hx=>by rw[YK hj,Array.getElem?_toList];exact hx
 have sv:∀{j:Nat}{x:Keyed},(seg xs.toList sa na)[j]? =some x→j<na∧xs[sa+j]? =some x:=fun {j x} hx=>by
  have hj:j<na:=by have:=(List.getElem?_eq_some_iff.mp hx).1;omega
  exact⟨hj,by rw[YK hj,Array.getElem?_toList]at hx;exact hx⟩
 have xm:∀{j:Nat}{x:Keyed},(seg xs.toList sb nb)[j]? =some x→j<nb∧xs[sb+j]? =some x:=fun {j x} hx=>by
  have hj:j<nb:=by have:=(List.getElem?_eq_some_iff.mp hx).1;omega
  exact⟨hj,by rw[YK hj,Array.getElem?_toList]at hx;exact hx⟩
 have fin:∀(k n:Nat) (M:List Keyed) (aa:SortSt),k≤na→n≤nb→kindOf aa=κ→failedOf aa=none→(pendingOf aa).toList=pre++(sa,na+nb,pw)::post→M.Perm ((seg xs.toList sa na).drop k++(seg xs.toList sb nb).take n)→Pw r M→
   (∀x∈(seg xs.toList sa na).take k,∀y∈seg xs.toList sb nb,r y x=false)→(∀z∈seg xs.toList sa na,∀w∈(seg xs.toList sb nb).drop n,r w z=false)→
   (arrOf aa).toList=xs.toList.take (sa+k)++(M++xs.toList.drop (sa+k+M.length))→Q true aa:=fun k n M aa Ib mF f1 f2 f3 f4 f5 f6 f7 f8=>by
  have lM:M.length=(na - k)+n:=by
   rw[f4.length_eq,List.length_append,List.length_drop,List.length_take,lA,lB,Nat.min_eq_left mF]
  have hL:xs.toList.length=a₀.size:=by rw[Array.length_toList];exact hsz
  have eA:xs.toList.take (sa+k)=xs.toList.take sa++(seg xs.toList sa na).take k:=by
   rw[List.take_add]
   unfold seg
   rw[List.take_take,Nat.min_eq_left Ib]
  have eB:xs.toList.drop (sa+k+M.length)=(seg xs.toList sb nb).drop n++xs.toList.drop (sb+nb):=by
   rw[lM,show sa+k+(na - k+n)=sb+n by omega,←List.drop_drop]
   have:xs.toList.drop sb=seg xs.toList sb nb++xs.toList.drop (sb+nb):=by
    unfold seg
    rw[←List.drop_drop,List.take_append_drop]
   rw[this,List.drop_append_of_le_length (by rw[lB];exact mF)]
  have K4:xs.toList=xs.toList.take sa++((seg xs.toList sa na++seg xs.toList sb nb)++xs.toList.drop (sb+nb)):=by
   have a1:xs.toList.drop sa=seg xs.toList sa na++xs.toList.drop sb:=by
    unfold seg
    rw[EK,←List.drop_drop,List.take_append_drop]
   have a2:xs.toList.drop sb=seg xs.toList sb nb++xs.toList.drop (sb+nb):=by
    unfold seg
    rw[←List.drop_drop,List.take_append_drop]
   rw[List.append_assoc,←a2,←a1,List.take_append_drop]
  have eN:(arrOf aa).toList=xs.toList.take sa++(((seg xs.toList sa na).take k++(M++(seg xs.toList sb nb).drop n))++xs.toList.drop (sb+nb)):=by
   rw[f8,eA,eB]
   simp only[List.append_assoc]
  have lX:(xs.toList.take sa).length=sa:=by rw[List.length_take];omega
  have lY:((seg xs.toList sa na).take k++(M++(seg xs.toList sb nb).drop n)).length=na+nb:=by
   rw[List.length_append,List.length_append,List.length_take,List.length_drop,lA,lB,lM];omega
  have pY:((seg xs.toList sa na).take k++(M++(seg xs.toList sb nb).drop n)).Perm (seg xs.toList sa na++seg xs.toList sb nb):=by
   refine List.Perm.trans (List.Perm.append_left _ (List.Perm.append_right _ f4)) ?_
   rw[List.append_assoc,List.take_append_drop,←List.append_assoc,List.take_append_drop]
  refine h aa f1 ?_ f2 f3 ?_ ?_ ?_
  ·refine Array.perm_iff_toList_perm.mpr (List.Perm.trans ?_ (Array.perm_iff_toList_perm.mp hP))
   rw[eN]
   refine List.Perm.trans (List.Perm.append_left _ (List.Perm.append_right _ pY)) ?_
   rw[←K4]
  ·rw[eN,List.take_left' lX]
  ·rw[eN,←List.append_assoc,List.drop_left' (by rw[List.length_append,lX,lY];omega)]
  ·have:seg (arrOf aa).toList sa (na+nb)=(seg xs.toList sa na).take k++(M++(seg xs.toList sb nb).drop n):=by
    rw[eN]
    show List.take (na+nb) (List.drop sa (xs.toList.take sa++(((seg xs.toList sa na).take k++(M++(seg xs.toList sb nb).drop n))++xs.toList.drop (sb+nb))))=_
    rw[List.drop_left' lX,List.take_left' lY]
   rw[this]
   exact OO o SA SB f4 f5 f6 f7
 obtain⟨y0,jP⟩:=Zh (xs:=xs) (i:=sb) (by omega)
 refine wpS_bind (Zm jP ?_)
 have Kk:∀y∈seg xs.toList sb nb,r y y0=false:=fun y hy=>by
  obtain⟨j,hj⟩:=List.getElem?_of_mem hy
  exact Yj o SB (xn (j:=0) (by omega) jP) hj (Nat.zero_le _)
 refine wpS_bind (ZG hc g1 (fun i=>match xs[sa+i]? with |some x=> !r y0 x |none=>false) (fun i hi=> ?_) (mm jP) (fun i j cJ hj hp=> ?_) (by omega) fun k kn df cD=> ?_)
 ·obtain⟨x,hx⟩:=Zh (xs:=xs) (i:=sa+i) (by omega)
  refine⟨x,hx,mm hx,?_⟩
  try dsimp only
  rw[hx]
  rfl
 ·obtain⟨xj,fw⟩:=Zh (xs:=xs) (i:=sa+j) (by omega)
  obtain⟨xi,fA⟩:=Zh (xs:=xs) (i:=sa+i) (by omega)
  try dsimp only at hp ⊢
  rw[fw]at hp
  rw[fA]
  rw[Bool.not_eq_true']at hp ⊢
  exact o.cV _ _ _ (Yj o SA (xo (by omega) fA) (xo (by omega) fw) cJ) hp
 dsimp only
 have low:∀x∈(seg xs.toList sa na).take k,∀y∈seg xs.toList sb nb,r y x=false:=fun x hx y hy=>by
  obtain⟨j,hj⟩:=List.getElem?_of_mem hx
  have we:j<k:=by have:=(List.getElem?_eq_some_iff.mp hj).1;rw[List.length_take]at this;omega
  rw[List.getElem?_take_of_lt we]at hj
  obtain⟨oO,lC⟩:=sv hj
  have:=df j we
  try dsimp only at this
  rw[lC,Bool.not_eq_true']at this
  exact o.cV x y0 y this (Kk y hy)
 by_cases bo:(na - k==0)=true
 ·rw[if_pos bo]
  have ek:k=na:=by have:=beq_iff_eq.mp bo;omega
  subst ek
  refine wpS_pure (fin k 0 [] cZ (Nat.le_refl _) (Nat.zero_le _) g1 g4 g3 (by rw[List.drop_eq_nil_of_le (by omega)];exact .refl _) .nil low (fun z hz w hw=> ?_) ?_)
  ·exact low z (by rw[List.take_of_length_le (by omega)];exact hz) w (List.mem_of_mem_drop hw)
  ·rw[g2,List.nil_append,List.length_nil,Nat.add_zero,List.take_append_drop]
 rw[if_neg bo]
 have mE:¬(na - k=0):=fun z=>bo (beq_iff_eq.mpr z)
 obtain⟨x0,kW⟩:=Zh (xs:=xs) (i:=sa+k+(na - k) - 1) (by omega)
 refine wpS_bind (Zm kW ?_)
 have Ai:xs[sa+(na - 1)]? =some x0:=by rw[←kW];congr 1;omega
 have Kt:∀x∈seg xs.toList sa na,r x0 x=false:=fun x hx=>by
  obtain⟨j,hj⟩:=List.getElem?_of_mem hx
  exact Yj o SA hj (xo (j:=na - 1) (by omega) Ai) (by have:=(sv hj).1;omega)
 refine wpS_bind (ZG hc g1 (fun i=>match xs[sb+i]? with |some y=>r y x0 |none=>false) (fun i hi=> ?_) (mm kW) (fun i j cJ hj hp=> ?_) (by omega) fun n nn FK FO=> ?_)
 ·obtain⟨y,hy⟩:=Zh (xs:=xs) (i:=sb+i) (by omega)
  refine⟨y,hy,mm hy,?_⟩
  try dsimp only
  rw[hy]
  rfl
 ·obtain⟨yj,bX⟩:=Zh (xs:=xs) (i:=sb+j) (by omega)
  obtain⟨yi,bY⟩:=Zh (xs:=xs) (i:=sb+i) (by omega)
  try dsimp only at hp ⊢
  rw[bX]at hp
  rw[bY]
  exact Jh o hp (Yj o SB (xn (by omega) bY) (xn (by omega) bX) cJ)
 dsimp only
 have high:∀z∈seg xs.toList sa na,∀w∈(seg xs.toList sb nb).drop n,r w z=false:=fun z hz w hw=>by
  obtain⟨j,hj⟩:=List.getElem?_of_mem hw
  rw[List.getElem?_drop]at hj
  obtain⟨oO,lC⟩:=xm hj
  have:=FO (n+j) (by omega) oO
  try dsimp only at this
  rw[lC]at this
  exact o.cV z x0 w (Kt z hz) this
 by_cases bG:(n==0)=true
 ·rw[if_pos bG]
  have en:n=0:=beq_iff_eq.mp bG
  subst en
  refine wpS_pure (fin na 0 [] cZ (Nat.le_refl _) (Nat.zero_le _) g1 g4 g3 (by rw[List.drop_eq_nil_of_le (by omega)];exact .refl _) .nil (fun x hx y hy=> ?_) high ?_)
  ·exact high x (List.mem_of_mem_take hx) y (by rw[List.drop_zero];exact hy)
  ·rw[g2,List.nil_append,List.length_nil,Nat.add_zero,List.take_append_drop]
 rw[if_neg bG]
 have rJ:¬(n=0):=fun z=>bG (beq_iff_eq.mpr z)
 have xA:(xs.extract (sa+k) sb).toList=(seg xs.toList sa na).drop k:=by
  rw[Jz]
  unfold seg
  rw[List.drop_take,List.drop_drop,show sb - (sa+k)=na - k by omega]
 have xB:(xs.extract sb (sb+n)).toList=(seg xs.toList sb nb).take n:=by
  rw[Jz,show sb+n - sb=n by omega]
  unfold seg
  rw[List.take_take,Nat.min_eq_left nn]
 have Ew:(xs.extract (sa+k) sb).size=na - k:=by rw[←Array.length_toList,xA,List.length_drop,lA]
 have Qi:(xs.extract sb (sb+n)).size=n:=by rw[←Array.length_toList,xB,List.length_take,lB];omega
 have C:dY r (xs.extract (sa+k) sb) (xs.extract sb (sb+n)):=⟨o,by rw[xA];exact List.Pairwise.sublist (List.drop_sublist _ _) SA,by rw[xB];exact List.Pairwise.sublist (List.take_sublist _ _) SB⟩
 have mA:∀x∈(xs.extract (sa+k) sb).toList,x∈a₀.toList:=fun x hx=>by
  rw[xA]at hx
  obtain⟨j,hj⟩:=List.getElem?_of_mem (List.mem_of_mem_drop hx)
  exact mm (sv hj).2
 have mB:∀x∈(xs.extract sb (sb+n)).toList,x∈a₀.toList:=fun x hx=>by
  rw[xB]at hx
  obtain⟨j,hj⟩:=List.getElem?_of_mem (List.mem_of_mem_take hx)
  exact mm (xm hj).2
 have m0:∀y,(xs.extract sb (sb+n))[0]? =some y→∀x∈(xs.extract (sa+k) sb).toList,r x y=false:=fun y hy x hx=>by
  have iF:=Zv hy
  rw[xB,List.getElem?_take_of_lt (by omega),YK (by omega),Nat.add_zero,Array.getElem?_toList,jP]at iF
  cases iF
  rw[xA]at hx
  obtain⟨j,hj⟩:=List.getElem?_of_mem hx
  rw[List.getElem?_drop]at hj
  obtain⟨oO,lC⟩:=sv hj
  have:=cD (k+j) (by omega) oO
  try dsimp only at this
  rw[lC,Bool.not_eq_false']at this
  exact o.bK _ _ this
 have ml:∀x,(xs.extract (sa+k) sb)[(xs.extract (sa+k) sb).size - 1]? =some x→∀y∈(xs.extract sb (sb+n)).toList,r x y=false:=fun x hx y hy=>by
  have vH:=Zv hx
  rw[Ew,xA,List.getElem?_drop,YK (by omega),Array.getElem?_toList,show sa+(k+(na - k - 1))=sa+(na - 1) by omega,Ai]at vH
  cases vH
  rw[xB]at hy
  obtain⟨j,hj⟩:=List.getElem?_of_mem hy
  have AL:j<n:=by have:=(List.getElem?_eq_some_iff.mp hj).1;rw[List.length_take]at this;omega
  rw[List.getElem?_take_of_lt AL]at hj
  obtain⟨oO,lC⟩:=xm hj
  have:=FK j AL
  try dsimp only at this
  rw[lC]at this
  exact o.bK _ _ this
 have done:∀(res:Array Keyed) (aw:SortSt),SG cZ aw→Good r (xs.extract (sa+k) sb) (xs.extract sb (sb+n)) res→Q true (setArr aw (List.foldl (fun a x=>a.setIfInBounds (sa+k+x.snd) x.fst) (arrOf aw) res.toList.zipIdx)):=fun res aw sg gd=>by
  have p1:=gd.1
  rw[xA,xB]at p1
  have lR:res.toList.length=na - k+n:=by rw[p1.length_eq,List.length_append,List.length_drop,List.length_take,lA,lB];omega
  refine fin k n res.toList _ kn nn (by show kindOf aw=κ;rw[sg.1];exact g1) (by show failedOf aw=none;rw[sg.2.2.2];exact g4) (by show(pendingOf aw).toList=_;rw[sg.2.2.1];exact g3) p1 gd.2 low high ?_
  show(List.foldl (fun a x=>a.setIfInBounds (sa+k+x.snd) x.fst) (arrOf aw) res.toList.zipIdx).toList=_
  rw[sg.2.1,g2]
  exact CJ (sa+k) res.toList 0 xs (by rw[lR];omega)
 by_cases hle:na - k≤n
 ·rw[if_pos hle]
  refine wpS_bind (W7 hc g1 C mA mB (by omega) (by omega) m0 ml fun res aw sg gd=> ?_)
  refine wpS_bind (wpS_modify (wpS_bind (wpS_get ?_)))
  have ef:(failedOf (setArr aw (List.foldl (fun a x=>a.setIfInBounds (sa+k+x.snd) x.fst) (arrOf aw) res.toList.zipIdx))).isNone=true:=by
   show(failedOf aw).isNone=true
   rw[sg.2.2.2,g4]
   rfl
  rw[ef]
  exact wpS_pure (done res aw sg gd)
 ·rw[if_neg hle]
  refine wpS_bind (W8 hc g1 C mA mB (by omega) (by omega) m0 ml fun res aw sg gd=> ?_)
  refine wpS_bind (wpS_modify (wpS_bind (wpS_get ?_)))
  have ef:(failedOf (setArr aw (List.foldl (fun a x=>a.setIfInBounds (sa+k+x.snd) x.fst) (arrOf aw) res.toList.zipIdx))).isNone=true:=by
   show(failedOf aw).isNone=true
   rw[sg.2.2.2,g4]
   rfl
  rw[ef]
  exact wpS_pure (done res aw sg gd)
structure RS (a₀:Array Keyed) (κ:SortKind) (r:Keyed→Keyed→Bool) (st:SortSt) (lo:Nat):Prop where
 kind:kindOf st=κ
 perm:(arrOf st).Perm a₀
 fail:failedOf st=none
 runs:Runs r (arrOf st).toList (pendingOf st).toList 0 lo
 le:lo≤a₀.size
theorem Lk {α:Type}{l:List α}{i:Nat}(h:i+1<l.length):∃pre a b post,l=pre++a::b::post∧pre.length=i:=by
 refine⟨l.take i,l[i],l[i+1],l.drop (i+2),?_,by rw[List.length_take];omega⟩
 rw[←List.drop_eq_getElem_cons h,←List.drop_eq_getElem_cons (by omega),List.take_append_drop]
theorem RS.merge {st:SortSt}{lo i:Nat}{Q:Bool→SortSt→Prop}(o:Ord r) (hc:iu prog w A E s κ a₀ r) (R:RS a₀ κ r st lo) (hi:i+1< (pendingOf st).size)
  (h:∀aa,RS a₀ κ r aa lo→(pendingOf aa).size+1=(pendingOf st).size→(arrOf aa).toList.drop lo=(arrOf st).toList.drop lo→Q true aa):wpS (model prog w) A E s (mergeAt' i) Q st:=by
 obtain⟨pre,⟨sa,na,pw⟩,⟨sb,nb,qS⟩,post,hp,hl⟩:=Lk (l:=(pendingOf st).toList) (i:=i) (by rw[Array.length_toList];exact hi)
 have hr:=R.runs
 rw[hp]at hr
 obtain⟨m,h1,h2⟩:=Runs.app.mp hr
 obtain⟨a1,a2,a3,h3⟩:=h2
 obtain⟨b1,b2,b3,h4⟩:=h3
 dsimp only at a1 a2 a3 b1 b2 b3 h4
 subst a1
 have l4:=h4.le
 have l1:=h1.le
 have le:=R.le
 refine W9 o hc R.kind R.perm R.fail hp hl b1 a2 b2 (by omega) a3 b3 fun aa g1 g2 g3 g4 g5 g6 g7=> ?_
 refine h aa ⟨g1,g2,g3,?_,le⟩ ?_ ?_
 ·rw[g4]
  refine Runs.app.mpr ⟨sa,h1.congr fun s n q1 q2=>CL g5.symm q2,rfl,(show 1≤na+nb by omega),g7,?_⟩
  show Runs r (arrOf aa).toList post (sa+(na+nb)) lo
  rw[←Nat.add_assoc]
  exact h4.congr fun s n q1 q2=>JR (m:=sb+nb) g6.symm (by omega)
 ·rw[←Array.length_toList,←Array.length_toList,g4,hp]
  simp only[List.length_append,List.length_cons]
  omega
 ·have key:∀M:List Keyed,M.drop lo=(M.drop (sb+nb)).drop (lo - (sb+nb)):=fun M=>by
   rw[List.drop_drop]
   congr 1
   omega
  rw[key,key (arrOf st).toList,g6]
theorem RS.push {st:SortSt}{lo n:Nat}(R:RS a₀ κ r st lo) (n1:1≤n) (hz:lo+n≤a₀.size) (S:Pw r (seg (arrOf st).toList lo n)):RS a₀ κ r (setPending st ((pendingOf st).push (lo,n,0))) (lo+n):=by
 refine⟨R.kind,R.perm,R.fail,?_,hz⟩
 show Runs r (arrOf st).toList ((pendingOf st).push (lo,n,0)).toList 0 (lo+n)
 rw[Array.toList_push]
 exact Runs.app.mpr ⟨lo,R.runs,rfl,n1,S,rfl⟩
theorem Ue {L:List Keyed}{pw:Nat} :∀{ps:List (Nat×Nat×Nat)}{i p q:Nat},Runs r L ps p q→Runs r L (ps.modify i fun x=> (x.fst,x.2.fst,pw)) p q
 | [],i,p,q,h=>by rw[List.modify_nil];exact h
 |x::ps,0,p,q,h=>by
  rw[List.modify_zero_cons]
  exact h
 |x::ps,i+1,p,q,⟨h1,h2,h3,h4⟩=>by
  rw[List.modify_succ_cons]
  exact⟨h1,h2,h3,Ue h4⟩
theorem RS.pow {st:SortSt}{lo i pw:Nat}(R:RS a₀ κ r st lo):RS a₀ κ r (setPending st ((pendingOf st).modify i fun x=> (x.fst,x.2.fst,pw))) lo:=by
 refine⟨R.kind,R.perm,R.fail,?_,R.le⟩
 show Runs r (arrOf st).toList ((pendingOf st).modify i fun x=> (x.fst,x.2.fst,pw)).toList 0 lo
 rw[Array.toList_modify]
 exact Ue R.runs
theorem N7 {xs ys:Array Keyed}{lo:Nat}(h:∀k,k<lo→xs[k]? =ys[k]?):xs.toList.take lo=ys.toList.take lo:=by
 refine List.ext_getElem? fun k=> ?_
 by_cases hk:k<lo
 ·rw[List.getElem?_take_of_lt hk,List.getElem?_take_of_lt hk,Array.getElem?_toList,Array.getElem?_toList]
  exact h k hk
 ·rw[List.getElem?_eq_none (by rw[List.length_take];omega),List.getElem?_eq_none (by rw[List.length_take];omega)]
theorem CB.rs {st aa:SortSt}{lo:Nat}(R:RS a₀ κ r st lo) (B:CB a₀ κ lo st aa):RS a₀ κ r aa lo:=by
 refine⟨B.kind,B.perm,B.fail.trans R.fail,?_,R.le⟩
 rw[B.pend]
 exact R.runs.congr fun s n q1 q2=>CL (N7 fun k hk=> (B.pre k hk).symm) q2
theorem Wk {st:SortSt}{Q:Unit→SortSt→Prop}(o:Ord r) (hc:iu prog w A E s κ a₀ r) (h2:2≤a₀.size) (k0:kindOf st=κ) (p0:(arrOf st).Perm a₀) (f0:failedOf st=none) (e0:pendingOf st= #[])
  (h:∀aa,(arrOf aa).Perm a₀→failedOf aa=none→Pw r (arrOf aa).toList→Q () aa):wpS (model prog w) A E s sortRuns' Q st:=by
 rw[sortRuns'_eq]
 dsimp only
 refine wpS_bind (wpS_get ?_)
 have z0:(arrOf st).size=a₀.size:=p0.size_eq
 rw[z0]
 generalize minRun' a₀.size a₀.size 0=mr
 refine wpS_bind (wpS_mono (wpS_forRange (I:=fun x c aw=> ∃lo,c=(none,lo)∧RS a₀ κ r aw lo∧x≤lo) (Q:=fun c aw=>c=(none,a₀.size)∧RS a₀ κ r aw a₀.size) ?step ?fin ⟨0,rfl,⟨k0,p0,f0,by rw[e0];exact rfl,Nat.zero_le _⟩,Nat.le_refl _⟩) ?post)
 case fin=>
  rintro c aw ⟨lo,rfl,R,hx⟩
  rw[Nat.max_eq_right (Nat.zero_le _)]at hx
  have:=R.le
  obtain rfl:lo=a₀.size:=by omega
  exact⟨rfl,R⟩
 case step=>
  rintro x c aw _ hx ⟨lo,rfl,R1,QD⟩
  dsimp only
  by_cases bq:lo≥a₀.size
  ·rw[if_pos bq]
   have:=R1.le
   obtain rfl:lo=a₀.size:=by omega
   exact wpS_pure ⟨rfl,R1⟩
  rw[if_neg bq]
  refine wpS_bind (Wl o hc (st:=aw) ⟨R1.kind,rfl,rfl,R1.perm,fun _ _=>rfl⟩ (by omega) (by omega) fun found aj B2 f1 f2 S=> ?_)
  dsimp only
  by_cases aC:found<mr
  ·rw[if_pos aC]
   refine wpS_bind (wpS_lift (wpAny_rule ⟨rfl,?_⟩))
   have fG:found≤min (a₀.size - lo) mr:=by omega
   have Ip:min (a₀.size - lo) mr≤a₀.size - lo:=by omega
   generalize min (a₀.size - lo) mr=n at fG Ip
   refine wpS_bind (JF o hc B2 f1 fG (by omega) S fun aF B3 S3=> ?_)
   rw[if_neg (by decide)]
   have R2:=CB.rs R1 B3
   have S2:=S3.pw
   have n1:1≤n:=by omega
   clear S3 B3 B2 S
   clear aj
   revert R2 S2
   generalize aF=aj
   intro R2 S2
   refine wpS_bind (wpS_get ?_)
   cases hb:(pendingOf aj).back? with
   |none=>
    try dsimp only
    exact wpS_bind (wpS_modify (wpS_pure ⟨_,rfl,R2.push n1 (by omega) S2,by omega⟩))
   |some z=>
    obtain⟨s1,m1,p1⟩:=z
    try dsimp only
    refine wpS_bind (wpS_mono (wpS_forRange (I:=fun _ c aa=>c=(none,())∧RS a₀ κ r aa lo∧(arrOf aa).toList.drop lo=(arrOf aj).toList.drop lo) (Q:=fun c aa=>c=(none,())∧RS a₀ κ r aa lo∧(arrOf aa).toList.drop lo=(arrOf aj).toList.drop lo) ?_ (fun c aa hh=>hh) ⟨rfl,R2,rfl⟩) ?_)
    ·rintro y c aa _ _ ⟨rfl,R,hd⟩
     refine wpS_bind (wpS_get ?_)
     by_cases hs:(pendingOf aa).size>1
     ·rw[if_pos hs]
      cases hq:(pendingOf aa)[(pendingOf aa).size - 2]? with
      |none=>exact wpS_pure ⟨rfl,R,hd⟩
      |some z=>
       obtain⟨z1,z2,Fz⟩:=z
       dsimp only
       split
       ·exact wpS_pure ⟨rfl,R,hd⟩
       ·refine wpS_bind (R.merge o hc (by omega) fun da pQ _ wq=> ?_)
        rw[if_neg (by decide)]
        exact wpS_pure ⟨rfl,pQ,wq.trans hd⟩
     ·rw[if_neg hs]
      exact wpS_pure ⟨rfl,R,hd⟩
    rintro c aa ⟨rfl,R,hd⟩
    dsimp only
    refine wpS_bind (wpS_modify (wpS_bind (wpS_modify (wpS_pure ⟨_,rfl,R.pow.push n1 (by omega) ?_,by omega⟩))))
    show Pw r (seg (arrOf aa).toList lo _)
    rw[JR (L':=(arrOf aj).toList) hd (Nat.le_refl _)]
    exact S2
  ·rw[if_neg aC]
   have R2:=CB.rs R1 B2
   have S2:=S.pw
   have n1:=f1
   clear S B2
   clear R1
   refine wpS_bind (wpS_get ?_)
   cases hb:(pendingOf aj).back? with
   |none=>
    try dsimp only
    exact wpS_bind (wpS_modify (wpS_pure ⟨_,rfl,R2.push n1 (by omega) S2,by omega⟩))
   |some z=>
    obtain⟨s1,m1,p1⟩:=z
    try dsimp only
    refine wpS_bind (wpS_mono (wpS_forRange (I:=fun _ c aa=>c=(none,())∧RS a₀ κ r aa lo∧(arrOf aa).toList.drop lo=(arrOf aj).toList.drop lo) (Q:=fun c aa=>c=(none,())∧RS a₀ κ r aa lo∧(arrOf aa).toList.drop lo=(arrOf aj).toList.drop lo) ?_ (fun c aa hh=>hh) ⟨rfl,R2,rfl⟩) ?_)
    ·rintro y c aa _ _ ⟨rfl,R,hd⟩
     refine wpS_bind (wpS_get ?_)
     by_cases hs:(pendingOf aa).size>1
     ·rw[if_pos hs]
      cases hq:(pendingOf aa)[(pendingOf aa).size - 2]? with
      |none=>exact wpS_pure ⟨rfl,R,hd⟩
      |some z=>
       obtain⟨z1,z2,Fz⟩:=z
       dsimp only
       split
       ·exact wpS_pure ⟨rfl,R,hd⟩
       ·refine wpS_bind (R.merge o hc (by omega) fun da pQ _ wq=> ?_)
        rw[if_neg (by decide)]
        exact wpS_pure ⟨rfl,pQ,wq.trans hd⟩
     ·rw[if_neg hs]
      exact wpS_pure ⟨rfl,R,hd⟩
    rintro c aa ⟨rfl,R,hd⟩
    dsimp only
    refine wpS_bind (wpS_modify (wpS_bind (wpS_modify (wpS_pure ⟨_,rfl,R.pow.push n1 (by omega) ?_,by omega⟩))))
    show Pw r (seg (arrOf aa).toList lo _)
    rw[JR (L':=(arrOf aj).toList) hd (Nat.le_refl _)]
    exact S2
 case post=>
  rintro c aw ⟨rfl,R1⟩
  dsimp only
  refine wpS_bind (wpS_mono (wpS_forRange (I:=fun x c aa=>c=(none,())∧RS a₀ κ r aa a₀.size∧(pendingOf aa).size+x≤a₀.size) (Q:=fun c aa=>c=(none,())∧RS a₀ κ r aa a₀.size∧(pendingOf aa).size≤1) ?_ ?_ ⟨rfl,R1,by have:=R1.runs.le;rw[Array.length_toList]at this;omega⟩) ?_)
  ·rintro x c aa _ _ ⟨rfl,R,hx⟩
   refine wpS_bind (wpS_get ?_)
   by_cases hs:(pendingOf aa).size≤1
   ·rw[if_pos hs]
    exact wpS_pure ⟨rfl,R,hs⟩
   rw[if_neg hs]
   have idx:∀c:Prop,∀_:Decidable c,(if c then (pendingOf aa).size - 2 - 1 else (pendingOf aa).size - 2)+1< (pendingOf aa).size:=fun c _=>by split<;>omega
   refine wpS_bind (R.merge o hc (idx _ _) fun da pQ Qa _=> ?_)
   rw[if_neg (by decide)]
   exact wpS_pure ⟨rfl,pQ,by omega⟩
  ·rintro c aa ⟨rfl,R,hx⟩
   rw[Nat.max_eq_right (Nat.zero_le _)]at hx
   exact⟨rfl,R,by omega⟩
  rintro c aa ⟨rfl,R,hs⟩
  refine wpS_pure (h aa R.perm R.fail ?_)
  have hr:=R.runs
  have hl:(pendingOf aa).toList.length≤1:=by rw[Array.length_toList];exact hs
  match hp:(pendingOf aa).toList,hl with
  | [],_=>
   rw[hp]at hr
   have:0=a₀.size:=hr
   omega
  | [x],_=>
   rw[hp]at hr
   obtain⟨q1,q2,q3,q4⟩:=hr
   have Qs:0+x.2.1=a₀.size:=q4
   rw[q1]at q3
   have:seg (arrOf aa).toList 0 x.2.1=(arrOf aa).toList:=by
    unfold seg
    rw[List.drop_zero,List.take_of_length_le (by rw[Array.length_toList,R.perm.size_eq];omega)]
   rw[this]at q3
   exact q3
  |_::_::_,h=>simp at h
end
end PyProof.Rows.fK
namespace PyProof.Rows.fK
open PySem PySem.W
section
variable {prog:Program}{w:World}{A:Around}{E:Value→Shared→Prop}{s:Shared}{κ:SortKind}{r:Keyed→Keyed→Bool}
def xU (prog:Program) (w:World) (A:Around) (E:Value→Shared→Prop) (κ:SortKind) (r:Keyed→Keyed→Bool) (a:Addr) (h:Heap) (vs:List Value):Prop:=
 ∀s6:Shared,(∀b o,b≠a→h.get? b=some o→s6.heap.get? b=some o)→(2≤vs.length→∀Q:SortKind→Shared→Prop,Q κ s6→wpAny (model prog w) A (keyKind' vs.toArray) Q E s6)∧iu prog w A E s6 κ (pairsOf vs) r
theorem Us (o:Ord r) {a:Addr}{vs:List Value}{n:Nat}{P:PySem.Fin→Shared→Prop}(ho:s.heap.get? a=some (seqObj "list" vs.toArray n)) (hc:xU prog w A E κ r a s.heap vs) (hz:vs.length≤1000)
  (h:∀xs:Array Keyed,xs.Perm (pairsOf vs)→Pw r xs.toList→P (.done (.ret .none)) {s with heap:=sortedHeap s.heap a vs (xs.map (·.2))}):
  wpAny (model prog w) A (Builtin.«list.sort» ⟨[.ref a],[]⟩) P E s:=by
 rw[list_sort_plain]
 have ha:a<s.heap.objs.size:=Heap.lt_size ho
 have oF:vs.toArray.size≤sizeLine:=by rw[List.size_toArray,sizeLine_eq];omega
 refine wpAny_bind (listItems_at ho rfl ?_)
 refine wpAny_bind (listUpdate_at ho rfl ?_ oF)
 obtain⟨e1,Az⟩:∃e1,(s.heap.update a (Obj.mapSeq fun _=> #[])).get? a=some (seqObj "list" #[] e1):=⟨_,get?_update_seq ho (fun _=> #[])⟩
 refine wpAny_bind (seqEpoch_at Az rfl ?_)
 refine wpAny_bind (wpAny_newTuple ?_ (by simpa using oF))
 refine wpAny_bind (wpAny_newList ?_)
 refine wpAny_holding ?_
 have rO:(((s.heap.update a (Obj.mapSeq fun _=> #[])).push (seqObj "tuple" vs.toArray 0)).push (seqObj "list" #[] 0)).get? a=some (seqObj "list" #[] e1):=by
  rw[Heap.get?_push_ne _ _ _ (by rw[size_push',Heap.size_update];exact Nat.ne_of_lt (Nat.lt_succ_of_lt ha)),Heap.get?_push_ne _ _ _ (by rw[Heap.size_update];exact Nat.ne_of_lt ha)]
  exact Az
 show wpAny (model prog w) A _ P E {s with heap:=((s.heap.update a (Obj.mapSeq fun _=> #[])).push (seqObj "tuple" vs.toArray 0)).push (seqObj "list" #[] 0)}
 dsimp only
 have keep:∀b o,b≠a→s.heap.get? b=some o→((((s.heap.update a (Obj.mapSeq fun _=> #[])).push (seqObj "tuple" vs.toArray 0)).push (seqObj "list" #[] 0))).get? b=some o:=fun b ob hb e=>
  Heap.get?_push_of_some _ (Heap.get?_push_of_some _ (by rw[Heap.get?_update_ne _ _ _ _ hb];exact e))
 obtain⟨hk,AU⟩:=hc {s with heap:=((s.heap.update a (Obj.mapSeq fun _=> #[])).push (seqObj "tuple" vs.toArray 0)).push (seqObj "list" #[] 0)} keep
 have hsz:vs.toArray.size=vs.length:=by simp
 by_cases h2:vs.toArray.size<2
 ·rw[if_pos h2,if_pos h2]
  refine wpAny_bind (wpAny_pure ?_)
  rw[StateT.run_pure]
  refine wpAny_bind (wpAny_pure ?_)
  dsimp only
  refine wpAny_bind (seqEpoch_at rO rfl ?_)
  refine wpAny_bind (listUpdate_at rO rfl ?_ (hsz2:=by rw[Array.size_map];show(pairsOf vs).size≤_;rw[pairsOf_size,sizeLine_eq];omega))
  simp only[bne_self_eq_false,Bool.false_eq_true,if_false]
  refine wpAny_pure (h (pairsOf vs) (Array.Perm.refl _) ?_)
  have hl:(pairsOf vs).toList.length<2:=by rw[Array.length_toList,pairsOf_size];omega
  match (pairsOf vs).toList,hl with
  | [],_=>exact .nil
  | [x],_=>exact List.pairwise_singleton _ _
  |_::_::_,h=>exact absurd h (by simp)
 ·rw[if_neg h2,if_neg h2]
  refine wpAny_bind (hk (by omega) _ ?_)
  refine wpAny_bind (wpAny_mono (Wk (κ:=κ) (r:=r) (a₀:=pairsOf vs) (st:=SortSt.mk' κ (vs.toArray.zip vs.toArray) #[] 7 none)
   (Q:=fun _ aa=> (arrOf aa).Perm (pairsOf vs)∧failedOf aa=none∧Pw r (arrOf aa).toList) o AU (by rw[pairsOf_size];omega) rfl (Array.Perm.refl _) rfl rfl fun aa a1 a2 a3=> ⟨a1,a2,a3⟩) ?_ fun _ _ e=>e)
  rintro⟨⟨⟩,aa⟩ s' ⟨rfl,hp,hf,hs⟩
  dsimp only
  refine wpAny_bind (seqEpoch_at rO rfl ?_)
  refine wpAny_bind (listUpdate_at rO rfl ?_ (hsz2:=by refine Nat.le_trans (Nat.le_of_eq ((Array.size_map ..).trans (hp.size_eq.trans (pairsOf_size _)))) ?_;rw[sizeLine_eq];omega))
  rw[hf]
  simp only[bne_self_eq_false,Bool.false_eq_true,if_false]
  exact wpAny_pure (h _ hp hs)
theorem N6 (o:Ord r) {l:Addr}{vs:List Value}{Q:Value→Shared→Prop}(hl:s.heap.IsList l vs.toArray) (hc:∀h' a,(∀b ob,s.heap.get? b=some ob→h'.get? b=some ob)→(∀b ob,s.heap.get? b=some ob→b≠a)→xU prog w A.in1.in1 (fun _ _=>False) κ r a h' vs) (hz:vs.length≤1000)
  (h:∀xs:Array Keyed,xs.Perm (pairsOf vs)→Pw r xs.toList→Q (.ref (s.heap.objs.size+1)) {s with heap:=sortedAll s.heap vs (xs.map (·.2))}):
  wpAny (model prog w) A (call (.builtin "sorted") [.ref l]) Q E s:=by
 have oF:vs.length≤sizeLine:=by rw[sizeLine_eq];omega
 refine Calls.call_function_entry kind_sorted plain_sorted entry_sorted (args_sorted1 _) ?_
 unfold Builtin.«sorted»
 refine wpAny_bind (m:=checkCount "sorted" 1 1 _) (wpAny_pure ?_)
 refine wpAny_bind (collect_list hl ?_ oF)
 refine wpAny_bind (wpAny_newList ?_ oF)
 have hsz:((s.heap.push (seqObj "list" #[] 0)).update s.heap.objs.size (Obj.mapSeq (· ++vs.toArray))).objs.size=s.heap.objs.size+1:=by
  rw[Heap.size_update,size_push']
 have hoL:(((s.heap.push (seqObj "list" #[] 0)).update s.heap.objs.size (Obj.mapSeq (· ++vs.toArray))).push (seqObj "list" vs.toArray 0)).get? (s.heap.objs.size+1)=some (seqObj "list" vs.toArray 0):=by
  rw[←hsz];exact Heap.get?_push_size _ rfl
 show wpAny _ _ _ _ _ {s with heap:=((s.heap.push (seqObj "list" #[] 0)).update s.heap.objs.size (Obj.mapSeq (· ++vs.toArray))).push (seqObj "list" vs.toArray 0)}
 rw[hsz]
 have asks:=hc (((s.heap.push (seqObj "list" #[] 0)).update s.heap.objs.size (Obj.mapSeq (· ++vs.toArray))).push (seqObj "list" vs.toArray 0)) (s.heap.objs.size+1)
  (fun b ob e=>Heap.get?_push_of_some _ (by rw[Heap.get?_update_ne _ _ _ _ (Nat.ne_of_lt (Heap.lt_size e))];exact Heap.get?_push_of_some _ e)) (fun b ob e=>Nat.ne_of_lt (Nat.lt_succ_of_lt (Heap.lt_size e)))
 have LJ:xU prog w A.in1.in1 E κ r (s.heap.objs.size+1) (((s.heap.push (seqObj "list" #[] 0)).update s.heap.objs.size (Obj.mapSeq (· ++vs.toArray))).push (seqObj "list" vs.toArray 0)) vs:=fun s6 h6=>by
  obtain⟨q1,q2⟩:=asks s6 h6
  refine⟨fun g Q hq=>wpAny_mono (q1 g Q hq) (fun _ _ x=>x) fun _ _ x=>x.elim,fun x y st Q m1 m2 hk hq=> ?_⟩
  exact wpAny_mono (q2 x y st Q m1 m2 hk hq) (fun _ _ x=>x) fun _ _ x=>x.elim
 refine wpAny_bind (wpAny_holding (wpAny_call_entry slot_list_sort ⟨_,hoL,rfl⟩ entry_list_sort (Us o hoL LJ hz fun xs a1 a2=> ⟨_,rfl,?_⟩) (args_list_sort _)))
 exact wpAny_pure ⟨_,rfl,h xs a1 a2⟩
end
def cC:List Int→List Int→Bool
 | [],[]=>false
 | [],_::_=>true
 |_::_,[]=>false
 |a::l,b::m=>if a=b then cC l m else decide (a<b)
theorem Ji:∀x y,cC x y=true→cC y x=false
 | [],[],h=>by cases h
 | [],_::_,_=>rfl
 |_::_,[],h=>by cases h
 |a::l,b::m,h=>by
  unfold cC at h ⊢
  by_cases e:a=b
  ·rw[if_pos e]at h
   rw[if_pos e.symm]
   exact Ji l m h
  ·rw[if_neg e]at h
   rw[if_neg (Ne.symm e)]
   have:=of_decide_eq_true h
   exact decide_eq_false (by omega)
theorem Ut:∀x y z,cC y x=false→cC z y=false→cC z x=false
 | [],[],[],_,_=>rfl
 | [],[],_::_,_,_=>rfl
 | [],_::_,[],_,h=>by cases h
 | [],_::_,_::_,_,_=>rfl
 |_::_,[],_,h,_=>by cases h
 |_::_,_::_,[],_,h=>by cases h
 |a::l,b::m,c::n,h1,h2=>by
  unfold cC at h1 h2 ⊢
  by_cases e1:b=a
  ·rw[if_pos e1]at h1
   by_cases e2:c=b
   ·rw[if_pos e2]at h2
    rw[if_pos (e2.trans e1)]
    exact Ut l m n h1 h2
   ·rw[if_neg e2]at h2
    have:=of_decide_eq_false h2
    rw[if_neg (by omega)]
    exact decide_eq_false (by omega)
  ·rw[if_neg e1]at h1
   have q1:=of_decide_eq_false h1
   by_cases e2:c=b
   ·rw[if_neg (by omega)]
    exact decide_eq_false (by omega)
   ·rw[if_neg e2]at h2
    have q2:=of_decide_eq_false h2
    rw[if_neg (by omega)]
    exact decide_eq_false (by omega)
theorem CA:∀x y,cC x y=false→cC y x=false→x=y
 | [],[],_,_=>rfl
 | [],_::_,h,_=>by cases h
 |_::_,[],_,h=>by cases h
 |a::l,b::m,h1,h2=>by
  unfold cC at h1 h2
  by_cases e:a=b
  ·rw[if_pos e]at h1
   rw[if_pos e.symm]at h2
   rw[e,CA l m h1 h2]
  ·rw[if_neg e]at h1
   rw[if_neg (Ne.symm e)]at h2
   have q1:=of_decide_eq_false h1
   have q2:=of_decide_eq_false h2
   omega
theorem MZ (key:Value→List Int):Ord fun x y:Keyed=>cC (key x.1) (key y.1):=⟨fun _ _=>Ji _ _,fun _ _ _=>Ut _ _ _⟩
section
variable {prog:Program}{w:World}{A:Around}{s:Shared}{b:Bool}{Q:Bool→Shared→Prop}
theorem MV {c:Bool}{x y:Int}{t u:Tok}(h:Q (decide (x<y)) s):wpAny (model prog w) A (oneLt' c (.int x t) (.int y u)) Q (fun _ _=>False) s:=by
 cases c with
 |true=>exact oneLt_int h
 |false=>exact kat_one _ _ (lt_int (Q:=PySem.W.BoolBack Q) h)
theorem Uu {fin:Bool} :∀{us vs:List Value}{xs ys:List Int}{i:Nat},IntsAre us xs→IntsAre vs ys→fin=decide (xs.length<ys.length)→Q (cC xs ys) s→KatLex prog w A b fin Q (us.zip vs) i s
 |_,_,_,_,i,.nil,.nil,hf,h=>by
  subst hf
  exact h
 |_,_,_,_,i,.nil,.cons _ _ _,hf,h=>by
  subst hf
  exact h
 |_,_,_,_,i,.cons _ _ _,.nil,hf,h=>by
  subst hf
  exact h
 |_,_,_,_,i,.cons x t ix,.cons y u iy,hf,h=>by
  rw[List.zip_cons_cons]
  refine kat_cons (SeqAt.EqAt.int_int (A:=A) (s:=s) x t y u _ _ _ _ ?_)
  unfold cC at h
  by_cases e:x=y
  ·rw[if_pos e]at h
   rw[beq_iff_eq.mpr e]
   exact kat_yes (Uu ix iy (by rw[hf];exact decide_eq_decide.mpr (by simp only[List.length_cons];omega)) h)
  ·rw[if_neg e]at h
   rw[beq_eq_false_iff_ne.mpr e]
   exact kat_no (MV h)
end
end PyProof.Rows.fK
namespace L2
open PySem PySem.Spec PyProof.Rows PyProof.Rows.fK
def bU (H:Hp) (v:V) (k:List Int):Prop:=∃t:Addr,v=.ref t∧H t=some (.tup (k.map V.int))
def gP (h:Heap):Value→List Int
 | .ref t=>match h.get? t with
  |some o=>match o.data with
   | .seq its _=>its.toList.map numOf
   |_=> []
  |none=> []
 |_=> []
theorem Jm {h:Heap}{t:Addr}{o:Obj}{its:Array Value}{n:Nat}{k:List Int}(e:h.get? t=some o) (d:o.data=.seq its n) (i:IntsAre its.toList k):gP h (.ref t)=k:=by
 unfold gP
 dsimp only
 rw[e]
 dsimp only
 rw[d]
 dsimp only
 clear d e
 generalize its.toList=us at i
 induction i with
 |nil=>rfl
 |cons x t _ ih=>rw[List.map_cons,ih];rfl
def toV:Value→V
 | .ref t=> .ref t
 |_=> .af
def lQ (h:Heap) (u:Value) (k:List Int):Prop:=∃(t:Addr) (o:Obj) (its:Array Value) (n:Nat),u=.ref t∧h.get? t=some o∧o.cls=.type "tuple" ∧o.data=.seq its n∧IntsAre its.toList k
theorem lQ.keep {h h':Heap}{u:Value}{k:List Int}{a:Addr}(x:lQ h u k) (kp:∀b o,b≠a→h.get? b=some o→h'.get? b=some o) (na:∀b o,h.get? b=some o→b≠a):lQ h' u k:=by
 obtain⟨t,o,its,n,e,g,c,d,i⟩:=x
 exact⟨t,o,its,n,e,kp t o (na t o g) g,c,d,i⟩
theorem Wx {h:Heap} :∀{us:List Value}{ks:List (List Int)},Paired (lQ h) us ks→(∀k∈ks,k≠[])→∃fs,PySem.W.KatTups h us fs∧fs.length=us.length∧∀f∈fs,∃n t,f=.int n t
 |_,_,.nil,_=> ⟨[],.nil,rfl,fun f hf=>by cases hf⟩
 |_,_,.cons (a:=u) (b:=k) ⟨t,o,its,n,e,g,c,d,i⟩ r,hk=>by
  obtain⟨fs,h1,h2,h3⟩:=Wx r fun k cI=>hk k (List.mem_cons_of_mem _ cI)
  subst e
  cases k with
  |nil=>exact absurd rfl (hk _ List.mem_cons_self)
  |cons x xs=>
   have:∃tk us,its.toList=.int x tk::us:=by
    cases hh:its.toList with
    |nil=>rw[hh]at i;cases i
    |cons a b=>rw[hh]at i;cases i with |cons x t r=>exact⟨_,_,rfl⟩
   obtain⟨tk,us,eq⟩:=this
   refine⟨.int x tk::fs,.cons g c d (by rw[←Array.getElem?_toList,eq];rfl) h1,by rw[List.length_cons,List.length_cons,h2],fun f hf=> ?_⟩
   rcases List.mem_cons.mp hf with rfl |hf
   ·exact⟨_,_,rfl⟩
   ·exact h3 f hf
theorem Yg {α β:Type}{R:α→β→Prop} :∀{xs:List α}{ys:List β}{x:α},Paired R xs ys→x∈xs→∃y∈ys,R x y
 |_,_,_,.cons h r,m=>by
  rcases List.mem_cons.mp m with rfl |m
  ·exact⟨_,List.mem_cons_self,h⟩
  ·obtain⟨y,hy,q⟩:=Yg r m
   exact⟨y,List.mem_cons_of_mem _ hy,q⟩
theorem Y3 {α β:Type}{R:α→β→Prop}{f:α→β} :∀{xs:List α}{ys:List β},Paired R xs ys→(∀x y,R x y→f x=y)→xs.map f=ys
 |_,_,.nil,_=>rfl
 |_,_,.cons h r,e=>by rw[List.map_cons,e _ _ h,Y3 r e]
theorem Jx {vs:List Value}{p:Keyed}(h:p∈(pairsOf vs).toList):p.1∈vs∧p.2=p.1:=by
 unfold pairsOf at h
 rw[Array.toList_zip,List.toList_toArray]at h
 have:∀(l:List Value),p∈l.zip l→p.1∈l∧p.2=p.1:=fun l=>by
  induction l with
  |nil=>intro h;cases h
  |cons a l ih=>
   intro h
   rw[List.zip_cons_cons]at h
   rcases List.mem_cons.mp h with rfl |h
   ·exact⟨List.mem_cons_self,rfl⟩
   ·exact⟨List.mem_cons_of_mem _ (ih h).1,(ih h).2⟩
 exact this vs h
section
variable {X:Cx}
theorem W3:dD X (.builtin "sorted") (fun xs H Q=> ∃(p:Addr) (vs:List V) (ks:List (List Int)),xs=[.ref p]∧ah X.K H p vs∧Paired (bU H) vs ks∧(∀k∈ks,k≠[])∧vs.length≤1000∧
  ∀(q:Addr) (kB:List V) (rE:List (List Int)),H q=none→rE.Perm ks→rE.Pairwise (fun a b=>cC b a=false)→Paired (bU H) kB rE→Q (.ref q) (upd H q (.lst kB))):=by
 intro pins s σ H xs us Q I r h
 obtain⟨p,vs,ks,rfl,hp,pr,bP,hz,q⟩:=h
 obtain⟨u,rfl,ru⟩:=vals1 r
 cases ru
 obtain⟨its,rv,pl,_⟩:=I.list hp
 have hl:=rv.length
 have key:∀{vs:List V}{ks:List (List Int)}{its:List Value},Paired (bU H) vs ks→Vals vs its→Paired (fun u k=>lQ s.heap u k∧bU H (toV u) k) its ks:=by
  intro vs ks its pr
  induction pr generalizing its with
  |nil=>intro rv;cases rv;exact .nil
  |cons hh _ ih=>
   intro rv
   cases rv with
   |cons r1 r2=>
    refine .cons ?_ (ih r2)
    obtain⟨t,rfl,ht⟩:=hh
    cases r1
    obtain⟨items,ri,⟨o,go,oc,n,od⟩,_⟩:=I.tuple (ai.of ht)
    exact⟨⟨t,o,_,n,rfl,go,oc,od,by simpa using Wb ri⟩,t,rfl,ht⟩
 have tp:=key pr rv
 have tu:Paired (lQ s.heap) its ks:=Paired.cu tp fun _ _ h=>h.1
 have ek:its.map (gP s.heap)=ks:=Y3 tu fun u k ⟨t,o,it,n,e,g,_,d,i⟩=>by rw[e];exact Jm g d i
 refine N6 (κ:=tuples' true) (r:=fun x y=>cC (gP s.heap x.1) (gP s.heap y.1)) (MZ _) pl.isList (fun h' a kp na s6 h6=> ?_) (by omega) fun xs Ah GQ=> ?_
 ·have Dt:Paired (lQ s6.heap) its ks:=Paired.cu tu fun u k x=>x.keep (a:=a) (fun b o hb e=>h6 b o hb (kp b o e)) na
  refine⟨fun h2 Q' hq=> ?_,fun x y st Q' mx my hk hq=> ?_⟩
  ·obtain⟨fs,kt,kl,kf⟩:=Wx Dt bP
   refine PySem.W.kat_kind (T:=.type "int") kt (by omega) (fun v hv=> ?_) (by rfl) hq
   obtain⟨n,t,rfl⟩:=kf v hv
   exact PySem.W.Looks.of_pure rfl
  ·rw[lt'_eq]
   refine wpS_bind (wpS_get ?_)
   rw[hk]
   obtain⟨FZ,_⟩:=Jx mx
   obtain⟨FY,_⟩:=Jx my
   obtain⟨kx,_,tx,ox,ix,nx,ex,gx,cx,dx,jx⟩:=Yg tu FZ
   obtain⟨ky,_,ty,oy,iy,ny,ey,gy,cy,dy,jy⟩:=Yg tu FY
   have e1:gP s.heap x.1=kx:=by rw[ex];exact Jm gx dx jx
   have e2:gP s.heap y.1=ky:=by rw[ey];exact Jm gy dy jy
   dsimp only at hq
   rw[e1,e2]at hq
   rw[ex,ey]
   refine wpS_bind (wpS_lift (wpAny_attempt (PySem.W.kat_lt (h6 _ _ (na _ _ gx) (kp _ _ gx)) dx (h6 _ _ (na _ _ gy) (kp _ _ gy)) dy (Uu jx jy ?_ ⟨rfl,?_⟩))))
   ·have l1:=jx.length
    have l2:=jy.length
    rw[Array.length_toList]at l1 l2
    rw[l1,l2]
   ·exact wpS_pure hq
 ·have mH:∀pq∈xs.toList,pq.1∈its∧pq.2=pq.1:=fun pq vS=>Jx ((Array.perm_iff_toList_perm.mp Ah).mem_iff.mp vS)
  have eo:(xs.map (·.2)).toList=xs.toList.map (·.1):=by
   rw[Array.toList_map]
   exact List.map_congr_left fun pq vS=> (mH pq vS).2
  have po:(xs.toList.map (·.1)).Perm its:=by
   refine List.Perm.trans ((Array.perm_iff_toList_perm.mp Ah).map _) ?_
   unfold pairsOf
   rw[Array.toList_zip,List.toList_toArray]
   have:∀l:List Value,(l.zip l).map (·.1)=l:=fun l=>by
    induction l with
    |nil=>rfl
    |cons a l ih=>rw[List.zip_cons_cons,List.map_cons,ih]
   rw[this]
  generalize QH:xs.map (·.2)=out at eo
  have rel:∀u∈out.toList,∃k,bU H (toV u) k∧gP s.heap u=k∧RelV (toV u) u:=fun u hu=>by
   rw[eo]at hu
   obtain⟨k,_,⟨t,o,it,n,e,g,_,d,i⟩,hT⟩:=Yg tp (po.mem_iff.mp hu)
   subst e
   exact⟨k,hT,Jm g d i,rfl⟩
  have vals:∀l:List Value,(∀u∈l,∃k,bU H (toV u) k∧gP s.heap u=k∧RelV (toV u) u)→Vals (l.map toV) l∧Paired (bU H) (l.map toV) (l.map (gP s.heap)):=fun l=>by
   induction l with
   |nil=>intro _;exact⟨.nil,.nil⟩
   |cons u l ih=>
    intro hl
    obtain⟨i1,i2⟩:=ih fun v hv=>hl v (List.mem_cons_of_mem _ hv)
    obtain⟨k,a1,a2,a3⟩:=hl u List.mem_cons_self
    exact⟨.cons a3 i1,.cons (by rw[a2];exact a1) i2⟩
  obtain⟨v1,v2⟩:=vals out.toList rel
  obtain⟨e,he⟩:=sortedAll_at s.heap its out
  have lo:out.toList.length=its.length:=by rw[eo];exact po.length_eq
  have hlen:(out.toList.map toV).length≤sizeLine:=by rw[List.length_map,lo,sizeLine_eq];omega
  refine⟨.ref (s.heap.objs.size+1),_,I.laid (t':=s.toks) (a:=s.heap.objs.size+1) (o:=.lst (out.toList.map toV)) (fun b o=>sortedAll_old) (Nat.le_succ _) ⟨hlen,out.toList,e,v1,by simpa using he⟩,rfl,q _ _ (out.toList.map (gP s.heap)) (I.ag.fresh (Nat.le_succ _)) ?_ ?_ v2⟩
  ·rw[←ek,eo]
   exact po.map _
  ·rw[eo,List.map_map,List.pairwise_map]
   exact GQ
end
abbrev I4:=Int×Int×Int×Int
end L2
namespace PyProof.Rows.fK
open PySem
end PyProof.Rows.fK
namespace L2
open PySem PySem.Spec PyProof.Rows PyProof.Rows.fK
end L2
namespace L2
open PySem PySem.Spec PyProof.Rows
def xI (K:PySem.W.Frag) (l1 l2:Addr):It:=
 ⟨fun i H=> ∃xs ys x y,ah K H l1 xs∧ah K H l2 ys∧xs[i]? =some x∧ys[i]? =some y,
  fun i H v H'=> ∃(T:Addr) (x y:V),v=.ref T∧H T=none∧H'=upd H T (.par [x,y])∧∀xs ys,ah K H l1 xs→ah K H l2 ys→xs[i]? =some x∧ys[i]? =some y,
  fun i H=> ∃xs ys,ah K H l1 xs∧ah K H l2 ys∧min xs.length ys.length=i⟩
theorem O8 {P:Program}{w:World}{K:PySem.W.Frag}{elts:List Expr}{kk:Nat}{pos:Pos}(z TI TO i1 i2 l1 l2:Addr) (D:ZipApart z TI TO i1 i2 l1 l2):
  Turn P w K (.Tuple elts kk pos) (xI K l1 l2) [z,TI,TO,i1,i2] z (fun i h=>IsZip h z TI TO .none∧IsPair h TI (.ref i1) (.ref i2)∧(∃a b,IsPair h TO a b)∧h.IsListIter i1 l1 i∧h.IsListIter i2 l2 i) where
 mem:=by simp
 obj:=fun i h st b hb=>by
  obtain⟨a1,a2,⟨u,v,a3⟩,⟨o4,h4,_,d4⟩,⟨o5,h5,_,d5⟩⟩:=st
  simp only[List.mem_cons,List.not_mem_nil,or_false]at hb
  rcases hb with rfl |rfl |rfl |rfl |rfl
  ·exact⟨_,a1,fun v z=>by cases z⟩
  ·exact⟨_,a2,fun v z=>by cases z⟩
  ·exact⟨_,a3,fun v z=>by cases z⟩
  ·exact⟨_,h4,fun v z=>by rw[d4]at z;cases z⟩
  ·exact⟨_,h5,fun v z=>by rw[d5]at z;cases z⟩
 keep:=fun i h h' st k=>by
  obtain⟨a1,a2,⟨u,v,a3⟩,a4,a5⟩:=st
  exact⟨k z (by simp) _ a1,k TI (by simp) _ a2,⟨u,v,k TO (by simp) _ a3⟩,a4.at fun o q=>k i1 (by simp) o q,a5.at fun o q=>k i2 (by simp) o q⟩
 item:=by
  intro X hP hw hK hc i pins s σ H E I hf st hg
  subst hP hw hK
  obtain⟨xs,ys,x,y,dQ,bh,hx,hy⟩:=hg
  obtain⟨dP,iE,fU,bG⟩:=I.list dQ
  obtain⟨eV,eR,cT,az⟩:=I.list bh
  obtain⟨u,hu,ru⟩:=iE.get hx
  obtain⟨v,hv,rv⟩:=eR.get hy
  have jd:i<min dP.toArray.size eV.toArray.size:=by
   have e1:=(List.getElem?_eq_some_iff.mp hu).1
   have e2:=(List.getElem?_eq_some_iff.mp hv).1
   simp only[List.size_toArray]
   omega
  have W:=WalksT.zip2 (prog:=X.prog) (w:=X.w) (A:=X.A) (I.ok.hd hc) z TI TO i1 i2 l1 l2 D dP.toArray eV.toArray
  obtain⟨a1,a2,a3,a4,a5⟩:=st
  refine W.item i s _ _ jd ⟨a1,a2,a3,a4,a5,fU.isList,cT.isList⟩ fun T vals h' tk hP fZ pe jQ hk=> ⟨_,rfl,W.go elts kk pos i T _ _ _ jQ fun dk da jW=> ?_⟩
  obtain⟨x2,y2,kU,aR,rfl⟩:=hP
  have oC:dP[i]? =some x2:=by simpa using kU
  have Ag:eV[i]? =some y2:=by simpa using aR
  rw[hu]at oC
  rw[hv]at Ag
  cases oC
  cases Ag
  have hW:H T=none:=I.ag.fresh fZ
  have both:∀b o,b∉[z,TO,i1,i2]→s.heap.get? b=some o→dk.get? b=some o:=fun b o hb q=>jW b o hb (hk b o hb q)
  have sub:∀b,b∉[z,TI,TO,i1,i2]→b∉[z,TO,i1,i2]:=fun b hb hm=>hb (by
   simp only[List.mem_cons,List.not_mem_nil,or_false]at hm ⊢
   rcases hm with h |h |h |h
   ·exact .inl h
   ·exact .inr (.inr (.inl h))
   ·exact .inr (.inr (.inr (.inl h)))
   ·exact .inr (.inr (.inr (.inr h))))
  have mP:T∉[z,TO,i1,i2]:=W.apart _ _ _ jQ
  have pf:dk.IsTuple T #[u,v]:=pe.at fun o q=>jW T o mP q
  have neT:∀b o,s.heap.get? b=some o→b≠T:=fun b o q=>Nat.ne_of_lt (Nat.lt_of_lt_of_le (Heap.lt_size q) fZ)
  have cA:∀b o,H b=some o→b≠T:=fun b o q=>Ze q hW
  have bN:∀b o,H b=some o→b∉[z,TI,TO,i1,i2]:=fun b o q hm=>by
   have:=(hf b hm).1
   rw[this]at q;cases q
  refine⟨.ref T,upd H T (.par [x,y]),?_,rfl,⟨T,x,y,rfl,hW,rfl,fun as bs ha hb=>by rw[I.vv ha dQ,I.vv hb bh];exact⟨hx,hy⟩⟩,⟨da.1,da.2.1,da.2.2.1,da.2.2.2.1,da.2.2.2.2.1⟩,fun b hb=> ?_⟩
  ·refine(show Inv X pins σ (upd H T (.par [x,y])) {s with heap:=dk,toks:=tk} from ?_)
   refine I.call (g':=s.gens) (d':=s.drawn) (t':=tk) (h':=dk) (ch:=[z,TI,TO,i1,i2]) ⟨fun b o q _ _ hx=>both b o (sub b hx) q,fun b o q _ _ hx=> ⟨o.slots,both b o (sub b hx) q⟩,fun b o q n hx=>by rw[Zg (neT b o q)];exact n,fun b o q hx=> ⟨o,both b o (sub b hx) q⟩,
    fun b ys q=>by rw[Zg (cA b _ q)];exact q,fun b o u q=>by rw[Zg (cA b _ q)];exact q,fun b ps q=> ⟨#[],by rw[Zg (cA b _ q),q];simp⟩⟩ (fun b o q=> ?_) I.bare fun b hb=> ?_
   ·by_cases hb:b=T
    ·subst hb
     rw[Zc]at q
     cases q
     exact⟨by show 2≤sizeLine;decide,[u,v],.cons ru (.cons rv .nil),pf⟩
    ·rw[Zg hb]at q
     refine(I.ag b o q).bz (fun c ob aZ q'=>both c ob ?_ q') (fun c q'=>by rw[Zg (cA c _ q')];exact q') fun c ys q'=>by rw[Zg (cA c _ q')];exact q'
     rcases aZ with z' |z'
     ·rw[z'];exact sub _ (bN b o q)
     ·exact sub _ (bN c _ z')
   ·obtain⟨f0,f1,f2,f3,f4,f5⟩:=hf b hb
    exact⟨f3,f1,f4,f5⟩
  ·have bP:b≠T:=by
    obtain⟨f0,_⟩:=hf b hb
    have:∃o,s.heap.get? b=some o:=by
     obtain⟨u',v',xp⟩:=a3
     obtain⟨o4,h4,_⟩:=a4
     obtain⟨o5,h5,_⟩:=a5
     simp only[List.mem_cons,List.not_mem_nil,or_false]at hb
     rcases hb with rfl |rfl |rfl |rfl |rfl
     ·exact⟨_,a1⟩
     ·exact⟨_,a2⟩
     ·exact⟨_,xp⟩
     ·exact⟨_,h4⟩
     ·exact⟨_,h5⟩
    obtain⟨o,ho⟩:=this
    exact neT b o ho
   rw[Zg bP]
   exact(hf b hb).1
 done:=by
  intro X hP hw hK hc i pins s σ H E I hf st hg
  subst hP hw hK
  obtain⟨xs,ys,dQ,bh,hx⟩:=hg
  obtain⟨dP,iE,fU,bG⟩:=I.list dQ
  obtain⟨eV,eR,cT,az⟩:=I.list bh
  have e1:=iE.length
  have e2:=eR.length
  have W:=WalksT.zip2 (prog:=X.prog) (w:=X.w) (A:=X.A) (I.ok.hd hc) z TI TO i1 i2 l1 l2 D dP.toArray eV.toArray
  have hn:i=min dP.toArray.size eV.toArray.size:=by simp only[List.size_toArray];omega
  obtain⟨a1,a2,a3,a4,a5⟩:=st
  rw[hn]at a4 a5
  have sub:∀b,b∉[z,TI,TO,i1,i2]→b∉[z,TO,i1,i2]:=fun b hb hm=>hb (by
   simp only[List.mem_cons,List.not_mem_nil,or_false]at hm ⊢
   rcases hm with h |h |h |h
   ·exact .inl h
   ·exact .inr (.inr (.inl h))
   ·exact .inr (.inr (.inr (.inl h)))
   ·exact .inr (.inr (.inr (.inr h))))
  refine W.done s _ _ ⟨a1,a2,a3,a4,a5,fU.isList,cT.isList⟩ fun h' tk hk=> ⟨rfl,?_⟩
  have bN:∀b o,H b=some o→b∉[z,TI,TO,i1,i2]:=fun b o q hm=>by
   have:=(hf b hm).1
   rw[this]at q;cases q
  refine I.call (g':=s.gens) (d':=s.drawn) (t':=tk) (h':=h') (ch:=[z,TI,TO,i1,i2]) ⟨fun b o q _ _ hx=>hk b o (sub b hx) q,fun b o q _ _ hx=> ⟨o.slots,hk b o (sub b hx) q⟩,fun b o q n hx=>n,fun b o q hx=> ⟨o,hk b o (sub b hx) q⟩,fun b ys q=>q,fun b o u q=>q,fun b ps q=> ⟨#[],by rw[q];simp⟩⟩ (fun b o q=> ?_) I.bare fun b hb=> ?_
  ·refine(I.ag b o q).bz (fun c ob aZ q'=>hk c ob ?_ q') (fun _ q'=>q') fun _ _ q'=>q'
   rcases aZ with z' |z'
   ·rw[z'];exact sub _ (bN b o q)
   ·exact sub _ (bN c _ z')
  ·obtain⟨f0,f1,f2,f3,f4,f5⟩:=hf b hb
   exact⟨f3,f1,f4,f5⟩
 self:=fun A i s Q E st h=>wpAny_pyIter_zip st.1 h
section
variable {X:Cx}{elts:List Expr}{kk:Nat}{tp:Pos}
def GH (K:PySem.W.Frag) (ta:TA):TI:=fun σ H R=>ta σ H fun vs H1=> ∃l1 l2,vs=[.ref l1,.ref l2]∧(∃xs ys,ah K H1 l1 xs∧ah K H1 l2 ys)∧R (xI K l1 l2) H1
theorem M6 {a b:Expr}{ta:TA}{p pos:Pos}(hg:Gl X "zip") (hm:X.mg "zip" =none) (ha:PA X [a,b] ta) (hs:starEach [a,b] X.env=[(false,eval a X.env),(false,eval b X.env)]:=by rfl) (iG:starEach [b] X.env=[(false,eval b X.env)]:=by rfl):
  PI X (.Tuple elts kk tp) (.Call (.Name "zip" p) [a,b] [] pos) (GH X.K ta):=by
 intro pins s σ H R I h
 refine Call_ (YM I hg hm PyProof.Rows.Boot.«zip» (PyProof.Rows.callWith_type1 (ar (ha pos pins s σ H _ I h) fun us s1 ⟨vs,H1,I1,r1,q1⟩=> ?_) (by rw[hs,iG]) (by rw[iG];rfl)))
 obtain⟨l1,l2,e,⟨xs,ys,dQ,bh⟩,q⟩:=q1
 subst e
 obtain⟨u,v,rfl,ru,rv⟩:=vals2 r1
 cases ru
 cases rv
 obtain⟨dP,iE,fU,bG⟩:=I1.list dQ
 obtain⟨eV,eR,cT,az⟩:=I1.list bh
 have t1:l1<s1.heap.objs.size:=by obtain⟨o,ho,_⟩:=fU.isList;exact Heap.lt_size ho
 have t2:l2<s1.heap.objs.size:=by obtain⟨o,ho,_⟩:=cT.isList;exact Heap.lt_size ho
 have D:=Wu s1.heap.objs.size l1 l2 t1 t2
 refine call_zip_2 fU.isList cT.isList fun h' b1 b2 b3 b4 b5 b6 hk=>wpAny_pyIter_zip b1 ?_
 have I2:Inv X pins σ H1 {s1 with heap:=h'} :=I1.kept (t':=s1.toks) hk
 refine⟨s1.heap.objs.size+4,[s1.heap.objs.size+4,s1.heap.objs.size+2,s1.heap.objs.size+3,s1.heap.objs.size,s1.heap.objs.size+1],_,_,H1,rfl,I2,
  O8 _ _ _ _ _ l1 l2 D,⟨b1,b2,⟨_,_,b3⟩,b4,b5⟩,fun b hb=> ?_,q⟩
 have jZ:s1.heap.objs.size≤b:=by
  simp only[List.mem_cons,List.not_mem_nil,or_false]at hb
  rcases hb with z |z |z |z |z<;>rw[z]<;>first |exact Nat.le_refl _ |exact Nat.le_add_right _ _
 exact I1.j9 jZ (I1.ag.fresh jZ)
end
theorem OR {K:PySem.W.Frag}{l1 l2:Addr}{xs zs:List V}{g:TG}{tt:TT}{ti:TC}{ys:List V}{σ:St}{H:Hp}{Q:List V→St→Hp→Prop}(Pv:Nat→List V→St→Hp→Prop) (h0:Pv 0 ys σ H)
  (hl:∀i ys σ H,i≤min xs.length zs.length→Pv i ys σ H→ah K H l1 xs∧ah K H l2 zs)
  (hs:∀i x y T ys σ H,xs[i]? =some x→zs[i]? =some y→H T=none→Pv i ys σ H→g (.ref T) σ (upd H T (.par [x,y])) fun aS H2=>tt aS H2 fun b H3=>if b=true then ti ys aS H3 (Pv (i+1)) else Pv (i+1) ys aS H3)
  (hd:∀ys σ H,Pv (min xs.length zs.length) ys σ H→Q ys σ H):gF g tt ti (xI K l1 l2) ys σ H Q:=by
 refine⟨fun i m ys σ H=>m=min xs.length zs.length - i∧i≤min xs.length zs.length∧Pv i ys σ H,⟨min xs.length zs.length,by simp,Nat.zero_le _,h0⟩,?_⟩
 rintro i m ys σ H ⟨rfl,hi,p⟩
 obtain⟨q1,q2⟩:=hl i ys σ H hi p
 by_cases aC:i<min xs.length zs.length
 ·have h1:i<xs.length:=by omega
  have h2:i<zs.length:=by omega
  refine .inr ⟨⟨xs,zs,xs[i],zs[i],q1,q2,by simp[h1],by simp[h2]⟩,Pv (i+1),fun cf ak H' p'=> ⟨min xs.length zs.length - (i+1),by omega,rfl,aC,p'⟩,fun x H' y=> ?_⟩
  obtain⟨T,a,b,e1,e2,e3,e4⟩:=y
  subst e1 e3
  obtain⟨f1,f2⟩:=e4 xs zs q1 q2
  exact hs i a b T ys σ H f1 f2 e2 p
 ·have e:i=min xs.length zs.length:=by omega
  subst e
  exact .inl ⟨⟨xs,zs,q1,q2,rfl⟩,hd ys σ H p⟩
mutual
inductive Sh (H:Hp):V→PyData→Prop
 |af:Sh H .af .none
 |bl (b:Bool):Sh H (.bl b) (.bool b)
 |int (i:Int):Sh H (.int i) (.int i)
 |str (x:Str):Sh H (.str x) (.str x)
 |tup {a:Addr}{xs:List V}{ds:List PyData} :H a=some (.tup xs)→nA H xs ds→Sh H (.ref a) (.tuple ds)
 |lst {a:Addr}{xs:List V}{ds:List PyData} :H a=some (.lst xs)→nA H xs ds→Sh H (.ref a) (.list ds)
 |dU {a:Addr} :H a=some (.dK [])→Sh H (.ref a) (.dict [])
inductive nA (H:Hp):List V→List PyData→Prop
 |nil:nA H [] []
 |cons {v:V}{vs:List V}{d:PyData}{ds:List PyData} :Sh H v d→nA H vs ds→nA H (v::vs) (d::ds)
end
section
variable {X:Cx}{pins:List (Addr×Obj)}{σ:St}{H:Hp}{s:Shared}
mutual
theorem N0 (I:Inv X pins σ H s):∀{v:V}{d:PyData}{u:Value},Sh H v d→RelV v u→∃as,Reads s.heap u d as∧((∃a,v=.ref a∧H a=some (.dK []))→sysModules∉as)
 |_,_,u,.af,r=>by
  have e:u=.none:=r
  subst e
  exact⟨[],.none,fun _ h=>nomatch h⟩
 |_,_,u,.bl b,r=>by
  have e:u=.bool b:=r
  subst e
  exact⟨[],.bool b,fun _ h=>nomatch h⟩
 |_,_,u,.int i,r=>by
  obtain⟨t,rfl⟩:=r
  exact⟨[],.int i t,fun _ h=>nomatch h⟩
 |_,_,u,.str x,r=>by
  obtain⟨t,rfl⟩:=r
  exact⟨[],.str x t,fun _ h=>nomatch h⟩
 |_,_,u,.tup (a:=a) h rs,r=>by
  have e:u=.ref a:=r
  subst e
  obtain⟨its,rv,⟨o,ho,hc,n,hd⟩,_⟩:=I.tuple (ai.of h)
  obtain⟨as,q⟩:=uX I rs rv
  exact⟨as,.tuple ho hc hd (by simpa using q),fun⟨b,e,hb⟩=>by cases e;rw[h]at hb;cases hb⟩
 |_,_,u,.lst (a:=a) h rs,r=>by
  have e:u=.ref a:=r
  subst e
  obtain⟨_,its,n,rv,ho⟩:=(show aP X.prog X.w H s.heap a (.lst _) from I.ag a _ h)
  obtain⟨as,q⟩:=uX I rs rv
  exact⟨a::as,.list ho rfl rfl (by simpa using q),fun⟨b,e,hb⟩=>by cases e;rw[h]at hb;cases hb⟩
 |_,_,u,.dU (a:=a) h,r=>by
  have e:u=.ref a:=r
  subst e
  obtain⟨_,hs,vs,kv,hm⟩:=(show aP X.prog X.w H s.heap a (.dK []) from I.ag a _ h)
  cases kv
  obtain⟨o,es,ep,ho,hc,hd,hk,hp,hn⟩:=hm
  have hz:es.toList=[]:=by
   have:=hp.length
   simp at this
   simpa using this
  refine⟨a::[]++[],.dict (kvs:=[]) ho hc.1 hd (by rw[hz];exact .nil) (by rw[hz];exact .nil),fun _ hm=> ?_⟩
  simp only[List.append_nil,List.mem_singleton]at hm
  rw[hm]at hs
  simp at hs
theorem uX (I:Inv X pins σ H s):∀{vs:List V}{ds:List PyData}{us:List Value},nA H vs ds→Vals vs us→∃as,ReadsAll s.heap us ds as
 |_,_,_,.nil,.nil=> ⟨[],.nil⟩
 |_,_,_,.cons h t,.cons r rs=>by
  obtain⟨as,q,_⟩:=N0 I h r
  obtain⟨bs,qs⟩:=uX I t rs
  exact⟨as++bs,.cons q qs⟩
end
end
end L2
namespace L2
open PySem PySem.Spec PyProof.Rows
end L2
namespace L2
open PySem PySem.Spec PyProof.Rows SeqAt
end L2
namespace U
open PySem L2 PyProof.Rows
def fc (K:PySem.W.Frag) (H:Hp) (a:Addr) (ns:List Int):Prop:=(∃o,H a=some (.aT o (.lst (ns.map V.int))))∨∃(o:Obj) (its:Array Value) (n:Nat),K.lookup a=some o∧o.cls=.type "list" ∧o.dict=none∧o.data=.seq its n∧its.size≤sizeLine∧Vals (ns.map V.int) its.toList
theorem fc.sq {K:PySem.W.Frag}{H:Hp}{a:Addr}{ns:List Int}(h:fc K H a ns):ah K H a (ns.map V.int):=by
 rcases h with ⟨o,h⟩ |h
 ·exact .inl (.inr ⟨o,h⟩)
 ·exact .inr h
theorem fc.same {K:PySem.W.Frag}{H H':Hp}{a:Addr}{ns:List Int}(h:fc K H a ns) (s:ae H H'):fc K H' a ns:=by
 rcases h with ⟨o,h⟩ |h
 ·exact .inl ⟨o,s _ _ h⟩
 ·exact .inr h
theorem fc.x {K:PySem.W.Frag}{H H':Hp}{a p:Addr}{ns:List Int}{o:HO}(h:fc K H a ns) (s:aq p H H') (hp:H p=some o) (hn:∀ob u,o≠.aT ob u):fc K H' a ns:=by
 rcases h with ⟨ob,h⟩ |h
 ·exact .inl ⟨ob,s _ _ h fun z=>by rw[z,hp]at h;cases h;exact hn _ _ rfl⟩
 ·exact .inr h
end U
namespace U
open PySem L2 PyProof.Rows PySem.Spec
def pX (mg:Str→Option Value) (h:Heap):Prop:=∃bm ob,mg "__builtins__" =some (.ref bm)∧bm≠builtinsNs∧h.get? bm=some ob∧ob.cls=.type "module" ∧ob.dict=some builtinsNs∧ob.data=.plain
theorem U3 {P:Program}{w:World}{K:PySem.W.Frag}{mg mb:Str→Option Value}{k:Nat}{fa a:Addr}{Pts:List Addr}{fd:FuncData}{x:Str}{sp:Sp}{aK:Shared}{vs:List Value}{ns:List Int}
  (KX:K.In aK.heap) (oJ:aK.heap.Ns mainGlobals mg) (hb:aK.heap.Ns builtinsNs mb) (eY:∀x:Str,x≠ "__name__" →mb x=bootBuiltins x) (HV:aK.heap.NoLimit) (hg:aK.gens= #[])
  (ha:aK.heap.get? a=some {cls:=.type "list",data:=.seq vs.toArray}) (hi:IntsAre vs ns) (hl:ns.length≤sizeLine) (hr:bL k callerA)
  (fZ:∀Pt∈Pts,aK.heap.get? Pt=some (PySem.W.tabObj #[])) (Ki:∀Pt∈Pts,∃c,PySem.W.CodeHd aK.heap c Pt) (Ka:∀Pt∈Pts,K.lookup Pt=none) (wx:pX mg aK.heap)
  (F:∀base:Heap,K.In base→base.Ns mainGlobals mg→pX mg base→aA P w K mg base aG k fa fd [x] sp) (IP:∀(s:Shared) (u:Value),BindsTo s fd ⟨[u],[]⟩ [(x,u)])
  (dh:∀H:Hp,fc K H a ns→(∀Pt∈Pts,H Pt=some (.cg #[]))→sp [.ref a] H (fun v _=>v=.bl true) fun _ _ _=>False):
  codeAny (model P w) callerA (.call (.ref fa) ⟨[.ref a],[]⟩) (fun r s'=>r=.ok (.ret (.bool true))∧OldK aK.heap s'.heap∧s'.os=aK.os∧AllBare s'.gens) aK:=by
 have rv:=Wv hi
 have Gf:=hi.length
 have ph:∀{Pt:Addr},Pt∈Pts→aK.heap.get? Pt=some {cls:=.none,data:=.fields #[]} :=fun h=>fZ _ h
 have Ba:a∉Pts:=fun z=>by have h:=ph z;rw[ha]at h;cases h
 have core:∀H:Hp,(∀b,b∉Pts→H b=none∨∃o xs,H b=some (.aT o (.lst xs)))→fc K H a ns→(∀Pt∈Pts,H Pt=some (.cg #[]))→bg P w H aK.heap→(∀b,H b≠none→b=a∨b∈Pts)→(H a≠none→K.lookup a=none)→
   codeAny (model P w) callerA (.call (.ref fa) ⟨[.ref a],[]⟩) (fun r s'=>r=.ok (.ret (.bool true))∧OldK aK.heap s'.heap∧s'.os=aK.os∧AllBare s'.gens) aK:=by
  intro H hO hS hP ag hA hK
  have xk:∀{b:Addr}{o:Obj},aK.heap.get? b=some o→H b=none→(gu aK.heap H).get? b=some o:=fun e n=>Uy e n
  have cw:∀{b:Addr}{o:Obj},aK.heap.get? b=some o→(∀vs n,o.data≠.seq vs n)→(∀ps,o.data≠.fields ps)→H b=none:=fun {b o} e d1 d2=>by
   cases q:H b with
   |none=>rfl
   |some u=>
    rcases hA b (by rw[q];simp) with e' |e'
    ·subst e'
     rw[ha]at e;cases e
     exact absurd rfl (d1 _ _)
    ·rw[ph e']at e;cases e
     exact absurd rfl (d2 _)
  have q0:∀{b:Addr}{m:Str→Option Value},aK.heap.Ns b m→(gu aK.heap H).Ns b m:=fun {b m} ⟨o,es,ep,e,d,r⟩=> ⟨o,es,ep,xk e (cw e (fun _ _ z=>by rw[d]at z;cases z) fun _ z=>by rw[d]at z;cases z),d,r⟩
  have Bc:K.In (gu aK.heap H):=fun b o e=>xk (KX b o e) (by
   cases q:H b with
   |none=>rfl
   |some u=>
    rcases hA b (by rw[q];simp) with e' |e'
    ·subst e'
     rw[hK (by rw[q];simp)]at e;cases e
    ·rw[Ka _ e']at e;cases e)
  have hM:Mod K mg (gu aK.heap H):=⟨Bc,q0 oJ,⟨mb,q0 hb,eY⟩,let ⟨mc,h1,h2⟩:=HV;⟨mc,q0 h1,h2⟩⟩
  have IM:pX mg (gu aK.heap H):=let ⟨bm,ob,b1,b2,b3,b4,b5,b6⟩:=wx;⟨bm,ob,b1,b2,xk b3 (cw b3 (fun _ _ z=>by rw[b6]at z;cases z) fun _ z=>by rw[b6]at z;cases z),b4,b5,b6⟩
  have e0:pW P w K mg (gu aK.heap H) callerA [] aK H:=⟨rfl,hM,fun b o e=>CF e,Nat.le_of_eq (WG _ _),trivial,fun b hb=>absurd (show b∈([]:List Addr) from hb) (by simp),ag,.of_eq hg⟩
  refine codeAny_mono ((F _ Bc (q0 oJ) IM).run callerA [] aK H ⟨[.ref a],[]⟩ [.ref a] [.ref a] _ _ hr e0 (IP aK (.ref a)) (.cons rfl .nil) (dh H hS hP)) fun r s' h=> ?_
  cases r with
  |error e=>exact False.elim h
  |ok fl=>
   cases fl with
   |next=>exact False.elim h
   |brk=>exact False.elim h
   |cont=>exact False.elim h
   |ret u=>
    obtain⟨v,H',os,bare,un,Ax,r',q⟩:=h
    have q':v=.bl true:=q
    subst q'
    obtain rfl:u=Value.bool true:=r'
    have old:∀b o,aK.heap.get? b=some o→asItWas aK.heap s'.heap b o:=fun b o e=>by
     cases q:H b with
     |none=>exact .inl (un.keep b o e q (by intro z;exact absurd (show b∈([]:List Addr) from z) (by simp)) (by simp))
     |some u=>
      by_cases lH:b∈Pts
      ·obtain⟨more,z⟩:=un.fh b _ (hP b lH)
       have e2:s'.heap.get? b=some {cls:=.none,data:=.fields (#[]++more)} :=Ax b _ z
       rw[ph lH]at e
       cases e
       obtain⟨c,hC⟩:=Ki b lH
       exact .inr (.inl ⟨(hC.tab (fZ b lH)).isCodeTable,rfl, #[],more,rfl,e2⟩)
      ·rcases hO b lH with z |⟨ob,xs,z⟩
       ·rw[q]at z;cases z
       ·have z2:=un.fH b ob _ z
        obtain⟨e1,_⟩:=ag b _ z
        obtain⟨e2,_⟩:=Ax b _ z2
        rw[e]at e1;cases e1
        exact .inl e2
    exact⟨rfl,⟨old,fun b o e=>un.there b o e (by simp)⟩,os,bare⟩
 cases hk:K.lookup a with
 |some o=>
  have e:=KX a o hk
  rw[ha]at e
  cases e
  refine core (fun b=>if b∈Pts then some (.cg #[]) else none) (fun b n=> .inl (if_neg n)) (.inr ⟨_,vs.toArray,_,hk,rfl,rfl,rfl,by rw[List.size_toArray,Gf];exact hl,by simpa using rv⟩) (fun Pt h=>if_pos h) (fun b u z=> ?_) (fun b z=> ?_) fun z=>absurd (if_neg Ba) z
  ·by_cases hb:b∈Pts
   ·have z':=(if_pos hb).symm.trans z
    cases z'
    exact ph hb
   ·have z':=(if_neg hb).symm.trans z
    cases z'
  ·by_cases hb:b∈Pts
   ·exact .inr hb
   ·exact absurd (if_neg hb) z
 |none=>
  refine core (fun b=>if b∈Pts then some (.cg #[]) else if b=a then some (.aT {cls:=.type "list",data:=.seq vs.toArray} (.lst (ns.map V.int))) else none) (fun b n=> ?_) (.inl ⟨{cls:=.type "list",data:=.seq vs.toArray},(if_neg Ba).trans (if_pos rfl)⟩) (fun Pt h=>if_pos h) (fun b u z=> ?_) (fun b z=> ?_) fun _=>hk
  ·by_cases hb:b=a
   ·exact .inr ⟨_,_,(if_neg n).trans (if_pos hb)⟩
   ·exact .inl ((if_neg n).trans (if_neg hb))
  ·by_cases hP:b∈Pts
   ·have z':=(if_pos hP).symm.trans z
    cases z'
    exact ph hP
   ·by_cases hb:b=a
    ·have z':=((if_neg hP).trans (if_pos hb)).symm.trans z
     cases z'
     subst hb
     exact⟨ha,by rw[List.length_map];exact hl,vs,_,rv,ha⟩
    ·have z':=((if_neg hP).trans (if_neg hb)).symm.trans z
     cases z'
  ·by_cases hP:b∈Pts
   ·exact .inr hP
   ·by_cases hb:b=a
    ·exact .inl hb
    ·exact absurd ((if_neg hP).trans (if_neg hb)) z
theorem Di {l:PySem.W.OpenLaw}{n k:Nat}{q:Program}{loose:List Str}{XP:(Str→Option Value)→Heap→Prop}{YP:World→Heap→Prop}{d:DefRec}{K:Params→PySem.W.Frag}{sp:PySem.W.Frag→Sp}{x:Str}{Pts:List Addr}
    (hn:l.most=some n) (mG:n≤sizeLine) (wm:d.params.defaults=[]) (hr:bL k callerA)
    (hY:∀(w:World) (h:Heap),YP w h→(K w.params).In h) (IV:∀(w:World) (h:Heap),YP w h→∀Pt∈Pts,h.get? Pt=some (PySem.W.tabObj #[]))
    (hC:∀(w:World) (h:Heap),(K w.params).In h→∀Pt∈Pts,∃c,PySem.W.CodeHd h c Pt) (Kb:∀w:World,∀Pt∈Pts,(K w.params).lookup Pt=none)
    (F:∀(w:World) (mg:Str→Option Value) (fa:Addr) (h:Heap),(K w.params).In h→h.Ns mainGlobals mg→mg d.name=some (.ref fa)→
      ∃fd:FuncData,(∀(s:Shared) (u:Value),BindsTo s fd ⟨[u],[]⟩ [(x,u)])∧
       ∀base:Heap,(K w.params).In base→base.Ns mainGlobals mg→pX mg base→aA l.prog w (K w.params) mg base aG k fa fd [x] (sp (K w.params)))
    (dh:∀(K:PySem.W.Frag) (H:Hp) (a:Addr) (ns:List Int),ns.length≤n→fc K H a ns→(∀Pt∈Pts,H Pt=some (.cg #[]))→sp K [.ref a] H (fun v _=>v=.bl true) fun _ _ _=>False):
    PySem.W.WalkO q loose XP YP l.row.toRowW d [] (fun f vs=>PySem.call f vs):=by
  refine Dc.LG hn wm fun w bS aK mg mb fa o pm cd doc a vs ns G Y ho hd cE hmg vV hints hlen hg=> ?_
  have KX:=hY w _ Y
  obtain⟨fd,hb,hF⟩:=F w mg fa _ KX G.T.g hmg
  exact U3 KX G.T.g G.T.b G.T.builtins G.T.nolimit hg vV hints (Nat.le_trans hlen mG) hr (IV w _ Y) (hC w _ KX) (Kb w) G.T.bmain hF hb (fun H hS hP=>dh (K w.params) H a ns hlen hS hP)
def bw (K:PySem.W.Frag) (x:Str) (st:Stmt):Prop:=∃f fd,PySem.W.nsIn K mainGlobals x=some (some (.ref f))∧aH K x x st f fd
theorem bQ {K:PySem.W.Frag}{x:Str}{st:Stmt}{f:Addr}{oc:Value}{od an:Option Addr}{eU:Array (Option Value)}{kV doc pm ao ct:Value}(e1:PySem.W.nsIn K mainGlobals x=some (some (.ref f)))
  (e2:K.lookup f=some ⟨oc,od,.func (PySem.W.fnOf x x (eK st) (bI st) (ay st) .none kV doc pm an ao ct),eU⟩) (e3:PySem.W.codeIn K ao x=true) (e4:PySem.W.keepIn K (.ref f)=true):bw K x st:=⟨f,_,e1,LQ e2 e3 e4⟩
section
variable {P:Program}{w:World}{K:PySem.W.Frag}{mg:Str→Option Value}{base:Heap}
abbrev kr (x:Str) (st:Stmt) (ps:List Str):Prop:=∀(kV doc pm:Value) (an:Option Addr) (ao ct:Value) (us:List Value),us.length=ps.length→bindArgs (PySem.W.fnOf x x (eK st) (bI st) (ay st) .none kV doc pm an ao ct) ⟨us,[]⟩=pure (ps.zip us)
theorem bw.to {h:Heap}{x:Str}{st:Stmt}{ps:List Str}{k:Nat}{sp:Sp}(d:bw K x st) (KX:K.In h) (G:h.Ns mainGlobals mg) (hb:kr x st ps) (ok:∀f fd,aH K x x st f fd→aA P w K mg base aG k f fd ps sp):Def P w K mg base k x ps sp:=by
 obtain⟨f,fd,e,F⟩:=d
 exact⟨f,fd,ok f fd F,PySem.W.mg_of KX G e,F.kp,F.binds hb⟩
theorem bw.iW {h:Heap}{x:Str}{st:Stmt}{ps:List Str}{k:Nat}{sp:Sp}(d:bw K x st) (KX:K.In h) (G:h.Ns mainGlobals mg) (hb:kr x st ps) (ok:∀f fd,aH K x x st f fd→aA P w K mg base (bB P w) k f fd ps sp):bV P w K mg base k x ps sp:=by
 obtain⟨f,fd,e,F⟩:=d
 exact⟨f,fd,ok f fd F,PySem.W.mg_of KX G e,F.kp,F.binds hb⟩
def rg (K:PySem.W.Frag) (x:Str):Bool:=match PySem.W.nsIn K mainGlobals x with |some none=>true |_=>false
theorem OV {h:Heap}{x:Str}(KX:K.In h) (G:h.Ns mainGlobals mg) (e:rg K x=true):mg x=none:=by
 unfold rg at e
 split at e
 ·rename_i q
  exact PySem.W.mg_none_of KX G q
 ·cases e
end
end U
namespace HS
open PySem PySem.SetTable
abbrev Po (l:List Nat):Prop:=l.Pairwise (· < ·)
abbrev tb (m:Nat):SetTable:= {mask:=m,place:= #[],dummies:= #[],finger:=0,led:=false,moves:=0,plain:=false}
def LO (m:Nat) (p:Probe):Probe:=(tb m).advance p
def it (m:Nat) (p:Probe):Nat→Probe
 |0=>p
 |k+1=>LO m (it m p k)
abbrev fr (m i pt:Nat):Probe:= {j:=i,more:=runEnd m i - i,i,perturb:=pt,dummy:=none}
abbrev st (m:Nat) (h:Int):Probe:=fr m (bits h%(m+1)) (bits h)
def lp (m:Nat) (x:Nat×Nat):Nat×Nat:=leap m x.1 x.2
def nx (m i:Nat):Nat:=(i*5+1)%(m+1)
def CS (m:Nat) (FA:Nat→Prop) (p:Probe) (j:Nat):Prop:=∃n,(it m p n).j=j∧∀k<n,FA (it m p k).j
structure T0 (t:SetTable) (es:Array (Int×Value)):Prop where
 sz:t.place.size=es.size
 Ql:Po t.place.toList
 Q4:t.dummies= #[]
 le:∀j∈t.place.toList,j<t.mask+1
 ld:∀z∈t.place.toList.zip es.toList,CS t.mask (·∈t.place.toList) (st t.mask z.2.1) z.1
def Pn (m n:Nat):Prop:=(m=7∧n≤4)∨(m=31∧n≤18)∨(m=127∧n≤76)∨(m=511∧n≤306)
structure Q7 (m:Nat) (hs:List Int) (owner:Array (Option Nat)):Prop where
 sz:owner.size=m+1
 lt:∀(j k:Nat),owner[j]? =some (some k)→k<hs.length
 at_:∀(k:Nat) (h:Int),hs[k]? =some h→∃j:Nat,owner[j]? =some (some k)∧CS m (fun x=> ∃k,owner[x]? =some (some k)) (st m h) j
 inj:∀(j j' k:Nat),owner[j]? =some (some k)→owner[j']? =some (some k)→j=j'
def live (m:Nat) (owner:Array (Option Nat)):List (Nat×Nat):=(List.range (m+1)).filterMap fun j=> (owner.getD j none).map (j, ·)
section
variable {prog:Program}{w:World}{K:Type} [DecidableEq K]
structure HK (knd:HeapKind prog w K):Prop where
 Q5:∀{A:Around}{E:Value→Shared→Prop}{s:Shared}{k:K}{a:Addr}{Q:Bool→Shared→Prop},knd.is s.heap k a→(∀b,Q b s)→wpAny (model prog w) A (hashByValue 8 (.ref a)) Q E s
 notCls:∀{A:Around}{E:Value→Shared→Prop}{s:Shared}{k:K}{a:Addr}{Q:Bool→Shared→Prop},knd.is s.heap k a→Q false s→wpAny (model prog w) A (ofAClassStatement 8 (.ref a)) Q E s
 QB:∀{h h':Heap}{k:K}{a d:Addr}{o:Obj}{es ep t},knd.is h k a→h.get? d=some o→o.data=.set es ep t→Heap.SameBut d h h'→knd.is h' k a
variable {knd:HeapKind prog w K}{A:Around}{E:Value→Shared→Prop}{s:Shared}
def C7 (knd:HeapKind prog w K) (h:Heap) (k:K) (e:Int×Value):Prop:=∃a,e.2=.ref a∧knd.is h k a∧e.1=knd.hash k
end
section
variable {prog:Program}{w:World}{K:Type} [DecidableEq K] {knd:HeapKind prog w K}{A:Around}{E:Value→Shared→Prop}{s:Shared}
structure Q6 (knd:HeapKind prog w K) (h:Heap) (S:Addr) (ks:List K) (o:Obj) (es:Array (Int×Value)) (ep:Nat) (t:SetTable):Prop where
 ho:h.get? S=some o
 ex:o.ExactSet
 hd:o.data=.set es ep t
 T:T0 t es
 room:Pn t.mask es.size
 el:∀e∈es.toList,∃k∈ks,C7 knd h k e
 all:∀k∈ks,∃e∈es.toList,C7 knd h k e
 sz:es.size=ks.length
end
end HS
namespace HS
open PySem PySem.SetTable PySem.Spec
section
variable {K:Type} [DecidableEq K]
def met (val:Nat→K):Nat→List K
 |0=> []
 |n+1=>if val n∈met val n then met val n else met val n++[val n]
variable {prog:Program}{w:World}{kk:KeyKind prog w K}{A:Around}{E:Value→Shared→Prop}{s:Shared}{R:Result→Shared→Prop}{I:Addr}{fp wr:List Addr}{G:Array GenState→Array GenState→Prop}{n:Nat}{P:Nat→Value→Prop}{St:Nat→Shared→Prop}
end
end HS
namespace L2
open PySem PySem.Spec PyProof.Rows
end L2
namespace L2
open PySem PySem.Spec PyProof.Rows SeqAt
section
variable {X:Cx}
theorem MH {pins:List (Addr×Obj)}{σ:St}{H:Hp}{s:Shared}{x y:V}{u v:Value}{k:List Int}(A:Around) (hu:A.units<cLine) (I:Inv X pins σ H s) (hx:bU H x k) (hy:bU H y k) (ru:RelV x u) (rv:RelV y v):EqAt A s u v true:=by
 obtain⟨a,rfl,ha⟩:=hx
 obtain⟨b,rfl,hb⟩:=hy
 cases ru
 cases rv
 by_cases o8:a=b
 ·subst o8
  exact EqAt.same _
 ·obtain⟨us,r1,p1,_⟩:=I.tuple (ai.of ha)
  obtain⟨vs,r2,p2,_⟩:=I.tuple (ai.of hb)
  have z:=RcAt.tuples (A:=A) (s:=s) (e:=fun j=>k.getD j 0==k.getD j 0) p1 p2 hu (fun j h1 h2=>by
   obtain⟨t1,e1⟩:=YW r1 j (by simpa using h1)
   obtain⟨t2,e2⟩:=YW r2 j (by simpa using h2)
   rw[show us.toArray[j]=us[j]'(by simpa using h1) by simp,show vs.toArray[j]=vs[j]'(by simpa using h2) by simp,e1,e2]
   exact EqAt.int_int _ _ _ _)
  have l1:=r1.length
  have l2:=r2.length
  have e:((List.range (min us.toArray.size vs.toArray.size)).all (fun j=>k.getD j 0==k.getD j 0)&&us.toArray.size==vs.toArray.size)=true:=by
   simp
   omega
  rw[e]at z
  exact EqAt.of_refs o8 z
def EX (K:PySem.W.Frag) (r:Bool):R2:=fun x y H Q=> ∃(a b:Addr) (xs ys:List V) (ks:List (List Int)),x=.ref a∧y=.ref b∧ah K H a xs∧ah K H b ys∧Paired (bU H) xs ks∧Paired (bU H) ys ks∧Q (.bl r) H
theorem NO {pins:List (Addr×Obj)}{σ:St}{H:Hp}{s:Shared}{xs ys:List V}{ks:List (List Int)}{us vs:List Value}(A:Around) (hu:A.units<cLine) (I:Inv X pins σ H s) (p1:Paired (bU H) xs ks) (p2:Paired (bU H) ys ks) (r1:Vals xs us) (r2:Vals ys vs):∀j (h1:j<us.toArray.size) (h2:j<vs.toArray.size),EqAt A s us.toArray[j] vs.toArray[j] true:=fun j h1 h2=>by
 have l1:=r1.length
 have l2:=r2.length
 have k1:j<xs.length:=by simp at h1;omega
 have k2:j<ys.length:=by simp at h2;omega
 obtain⟨k,hk,e⟩:=Y2 p1 (List.getElem?_eq_getElem k1)
 obtain⟨k',cI,e'⟩:=Y2 p2 (List.getElem?_eq_getElem k2)
 rw[hk]at cI
 cases cI
 obtain⟨u,oD,ru⟩:=r1.get (List.getElem?_eq_getElem k1)
 obtain⟨v,vJ,rv⟩:=r2.get (List.getElem?_eq_getElem k2)
 have e1:us.toArray[j]=u:=by simpa using (List.getElem?_eq_some_iff.mp oD).2
 have e2:vs.toArray[j]=v:=by simpa using (List.getElem?_eq_some_iff.mp vJ).2
 rw[e1,e2]
 exact MH A hu I e e' ru rv
theorem MX (hu:X.A.units+1<cLine):ba X (compareOp .Eq) (EX X.K true):=by
 intro pins s σ H x y u v Q I rx ry h
 obtain⟨a,b,xs,ys,ks,rfl,rfl,ha,hb,p1,p2,q⟩:=h
 cases rx
 cases ry
 obtain⟨us,r1,l1,_⟩:=I.list ha
 obtain⟨vs,r2,l2,_⟩:=I.list hb
 have hsz:us.toArray.size=vs.toArray.size:=by have:=r1.length;have:=r2.length;have:=Paired.length p1;have:=Paired.length p2;simp at *;omega
 refine eq_listAt (e:=fun _=>true) l1.isList l2.isList hsz (Nat.lt_of_succ_lt hu) (NO X.A.in1 hu I p1 p2 r1 r2) ?_
 have e:(List.range us.toArray.size).all (fun _=>true)=true:=by simp
 rw[e]
 exact⟨.bl true,H,I,rfl,q⟩
end
end L2
namespace L2
open PySem PySem.Spec PyProof.Rows
end L2
namespace L2
open PySem PySem.Spec PyProof.Rows SeqAt
section
variable {X:Cx}
theorem Y5 {a b:String} :dD X (.builtin "isinstance") (fun xs H Q=> ∃(x:V) (t:Addr) (T:Value) (r:Bool),xs=[x,.ref t]∧ai X.K H t [.ty a,.ty b]∧((∃i,x=.int i∧T=.type "int")∨(∃k,x=.bl k∧T=.type "bool")∨(x=.af∧T=.type "NoneType")∨(∃l ys,x=.ref l∧H l=some (.lst ys)∧T=.type "list")∨∃l ys,x=.ref l∧H l=some (.tup ys)∧T=.type "tuple")∧
  PySem.W.kitAny X.K T [.type a,.type b]=some r∧Q (.bl r) H):=by
 intro pins s σ H xs us Q I rv h
 obtain⟨x,t,T,r,rfl,hq,hx,hk,q⟩:=h
 obtain⟨u,v,rfl,ru,rv⟩:=vals2 rv
 cases rv
 obtain⟨its,rt,pl,hz⟩:=I.tuple hq
 cases rt with
 |cons r1 r2=>
  cases r2 with
  |cons r3 r4=>
   cases r4
   cases r1
   cases r3
   obtain⟨o,ho,hc,n,hd⟩:=id pl
   obtain⟨cls,dd,dt,sl⟩:=o
   replace hc:cls=.type "tuple" :=hc
   replace hd:dt=.seq [Value.type a,Value.type b].toArray n:=hd
   subst hc hd
   rcases hx with ⟨i,rfl,rfl⟩ |⟨k,rfl,rfl⟩ |⟨rfl,rfl⟩ |⟨l,ys,rfl,hl,rfl⟩ |⟨l,ys,rfl,hl,rfl⟩
   ·obtain⟨tk,rfl⟩:=ru
    exact PySem.W.kia_tup PySem.W.kitx_int I.bO True.intro ho hk (fun z=>nomatch z) fun tk=> ⟨.bl r,H,I.tok _,rfl,q⟩
   ·cases ru
    exact PySem.W.kia_tup PySem.W.kitx_bool I.bO True.intro ho hk (fun z=>nomatch z) fun tk=> ⟨.bl r,H,I.tok _,rfl,q⟩
   ·cases ru
    exact PySem.W.kia_tup PySem.W.kitx_none I.bO True.intro ho hk (fun z=>nomatch z) fun tk=> ⟨.bl r,H,I.tok _,rfl,q⟩
   ·cases ru
    obtain⟨_,_,n,_,h1⟩:=(show aP X.prog X.w H s.heap l (.lst ys) from I.ag l _ hl)
    exact PySem.W.kia_tup PySem.W.kitx_list I.bO ⟨_,h1,rfl⟩ ho hk (fun z=>nomatch z) fun tk=> ⟨.bl r,H,I.tok _,rfl,q⟩
   ·cases ru
    obtain⟨_,_,_,p,_⟩:=(show aP X.prog X.w H s.heap l (.tup ys) from I.ag l _ hl)
    obtain⟨o,h1,h2,_⟩:=p
    exact PySem.W.kia_tup PySem.W.kitx_tuple I.bO ⟨o,h1,h2⟩ ho hk (fun z=>nomatch z) fun tk=> ⟨.bl r,H,I.tok _,rfl,q⟩
end
end L2
namespace L2
open PySem PySem.Spec PyProof.Rows
section
variable {prog:Program}{w:World}{A:Around}{E:Value→Shared→Prop}{s:Shared}{it d:Addr}{i n ep:Nat}{ok ov:Value}{od:Obj}{es:Array DictEntry}
theorem Oq {en:DictEntry}{Q:Option Value→Shared→Prop}(gi:IsItemIter s.heap it d i n ep ok ov) (go:s.heap.get? d=some od) (gd:od.data=.dict es ep) (gn:es.size=n) (gx:es[i]? =some en)
    (q:∀h',IsItemIterOut h' it d (i+1) n ep en.key en.val s.heap.objs.size→h'.get? s.heap.objs.size=some {cls:=.type "tuple",data:=.seq #[en.key,en.val]}→h'.objs.size=s.heap.objs.size+1→
      (∀b o,b≠it→s.heap.get? b=some o→h'.get? b=some o)→Q (some (.ref s.heap.objs.size)) {s with heap:=h'}):wpAny (model prog w) A (pyNext (.ref it)) Q E s:=by
  obtain⟨hp,g,dr,tk,os⟩:=s
  have ty:Shared.TypeIs ⟨hp,g,dr,tk,os⟩ (.ref it) "dict_itemiterator" :=⟨_,gi,rfl⟩
  unfold pyNext
  refine wpAny_bind (wpAny_attempt (wpAny_callSpecial?_slot (name:=Str.ofString "__next__") ty F.slot_dict_itemiterator_next (wpAny_call_entry F.slot_dict_itemiterator_next ty F.entry_dict_itemiterator_next ?_ (F.args_dict_itemiterator_next_1 _))))
  refine wpAny_bind (wpAny_pure (wpAny_bind (wpAny_bind ?_)))
  first |refine wpAny_bind (wpAny_typeNameOfWhole_itemiter ty (wpAny_pure ?_)) |refine wpAny_bind (wpAny_typeNameOf_itemiter ty (wpAny_pure ?_))
  refine wpAny_bind (wpAny_fieldsOf gi rfl ?_)
  have own:Builtin.Dict_items.ownsTuple "dict_itemiterator" =true:=by decide
  simp only[own,if_true]
  show wpAny _ _ (if (Value.ref d==Value.none)=true then _ else _) _ _ _
  rw[if_neg (show ¬((Value.ref d==Value.none)=true) from Bool.false_ne_true)]
  refine wpAny_bind (wpAny_pure (wpAny_bind (wpAny_dictEntries go gd ?_)))
  rw[if_neg (by rw[gn];simp)]
  refine wpAny_bind (wpAny_pure (wpAny_bind (wpAny_dictEpoch go gd ?_)))
  rw[if_neg (by simp)]
  refine wpAny_pure ?_
  simp only[show ¬((i:Int)<0) from by omega,if_false,Int.toNat_natCast,gx]
  refine wpAny_bind ?_
  first |refine wpAny_bind (wpAny_typeNameOfWhole_itemiter ty (wpAny_pure ?_)) |refine wpAny_bind (wpAny_typeNameOf_itemiter ty (wpAny_pure ?_))
  refine wpAny_bind (wpAny_isOneOf_itemiter ty ?_)
  show wpAny _ _ (setField (.ref it) 3 (rawInt ((i:Int)+1)) >>=_) _ _ ⟨hp,g,dr,tk,os⟩
  refine wpAny_bind (wpAny_setField_rec gi (by simp) fun h1 g1 c1=> ?_)
  have c1:Heap.SameBut it hp h1:=c1
  have g1:IsItemIter h1 it d (i+1) n ep ok ov:=by
    have e:((i+1:Nat):Int)=(i:Int)+1:=by omega
    unfold IsItemIter;rw[e];simpa[rawInt] using g1
  have yf:Shared.TypeIs ⟨h1,g,dr,tk,os⟩ (.ref it) "dict_itemiterator" :=⟨_,g1,rfl⟩
  refine wpAny_bind (wpAny_holding (wpAny_bind (wpAny_isOneOf_itemiter yf (wpAny_bind (wpAny_isOneOf_itemiter yf ?_)))))
  show wpAny _ _ (Builtin.Dict_items.pairFromOwner (.ref it) 6 en.key en.val) _ _ ⟨h1,g,dr,tk,os⟩
  unfold Builtin.Dict_items.pairFromOwner
  refine wpAny_bind (wpAny_newTuple ?_)
  have z1:h1.objs.size=hp.objs.size:=c1.1
  have lt:it<hp.objs.size:=Heap.lt_size gi
  have g2:IsItemIter (h1.push {cls:=.type "tuple",data:=.seq #[en.key,en.val]}) it d (i+1) n ep ok ov:=Heap.get?_push_of_some _ g1
  have t2:(h1.push {cls:=.type "tuple",data:=.seq #[en.key,en.val]}).get? hp.objs.size=some {cls:=.type "tuple",data:=.seq #[en.key,en.val]} :=by rw[←z1];exact Heap.get?_push_size _ rfl
  have z2:(h1.push {cls:=.type "tuple",data:=.seq #[en.key,en.val]}).objs.size=hp.objs.size+1:=by rw[Heap.size_push,z1]
  have k2:∀b o,b≠it→hp.get? b=some o→(h1.push {cls:=.type "tuple",data:=.seq #[en.key,en.val]}).get? b=some o:=fun b o hb e=>Heap.get?_push_of_some _ (c1.extBut b o hb e)
  show wpAny _ _ (Builtin.Dict_items.ownedTupleIsFree (.ref it) >>=_) _ _ ⟨h1.push {cls:=.type "tuple",data:=.seq #[en.key,en.val]},g,dr,tk,os⟩
  rw[z1]
  generalize h1.push {cls:=.type "tuple",data:=.seq #[en.key,en.val]} =h2 at g2 t2 z2 k2
  refine wpAny_bind ?_
  unfold Builtin.Dict_items.ownedTupleIsFree
  refine wpAny_bind (wpAny_field g2 rfl (x:=.none) rfl (wpAny_pure ?_))
  simp only[if_true]
  refine wpAny_bind (wpAny_field g2 rfl (x:=ok) rfl (wpAny_bind (wpAny_field g2 rfl (x:=ov) rfl ?_)))
  refine wpAny_bind (wpAny_setField_rec g2 (by simp) fun h3 g3 c3=> ?_)
  have c3:Heap.SameBut it h2 h3:=c3
  have g3:IsItemIter h3 it d (i+1) n ep en.key ov:=g3
  refine wpAny_bind (wpAny_setField_rec g3 (by simp) fun h4 g4 c4=> ?_)
  have c4:Heap.SameBut it h3 h4:=c4
  have g4:IsItemIter h4 it d (i+1) n ep en.key en.val:=g4
  refine wpAny_bind (wpAny_setField_rec g4 (by simp) fun h5 g5 c5=> ?_)
  have c5:Heap.SameBut it h4 h5:=c5
  have g5:IsItemIterOut h5 it d (i+1) n ep en.key en.val hp.objs.size:=g5
  refine wpAny_bind (wpAny_setField_rec g5 (by simp) fun h6 g6 c6=> ?_)
  have c6:Heap.SameBut it h5 h6:=c6
  have g6:IsItemIterOut h6 it d (i+1) n ep en.key en.val hp.objs.size:=g6
  have c:=c3.trans (c4.trans (c5.trans c6))
  exact wpAny_bind (wpAny_letGo (wpAny_pure (wpAny_pure ⟨_,rfl,wpAny_pure (q h6 g6 (c.extBut _ _ (Nat.ne_of_gt lt) t2) (c.1.trans z2) fun b o hb e=>c.extBut b o hb (k2 b o hb e))⟩)))
theorem OU {Q:Option Value→Shared→Prop}(hh:A.handled=none) (gi:IsItemIter s.heap it d i n ep ok ov) (go:s.heap.get? d=some od) (gd:od.data=.dict es ep) (gn:es.size=n) (ge:n≤i)
  (q:∀h',Heap.ExtBut it s.heap h'→Q none {s with heap:=h'}):wpAny (model prog w) A (pyNext (.ref it)) Q E s:=by
 have ty:s.TypeIs (.ref it) "dict_itemiterator" :=⟨_,gi,rfl⟩
 unfold pyNext
 refine wpAny_bind (wpAny_attempt (wpAny_callSpecial?_slot (name:=Str.ofString "__next__") ty F.slot_dict_itemiterator_next (wpAny_call_entry F.slot_dict_itemiterator_next ty F.entry_dict_itemiterator_next ?_ (F.args_dict_itemiterator_next_1 _))))
 refine wpAny_bind (wpAny_pure (wpAny_bind (wpAny_bind ?_)))
 first |refine wpAny_bind (wpAny_typeNameOfWhole_itemiter ty (wpAny_pure ?_)) |refine wpAny_bind (wpAny_typeNameOf_itemiter ty (wpAny_pure ?_))
 refine wpAny_bind (wpAny_fieldsOf gi rfl ?_)
 have own:Builtin.Dict_items.ownsTuple "dict_itemiterator" =true:=by decide
 simp only[own,if_true]
 show wpAny _ _ (if (Value.ref d==Value.none)=true then _ else _) _ _ s
 rw[if_neg (show ¬((Value.ref d==Value.none)=true) from Bool.false_ne_true)]
 refine wpAny_bind (wpAny_pure (wpAny_bind (wpAny_dictEntries go gd ?_)))
 rw[if_neg (by rw[gn];simp)]
 refine wpAny_bind (wpAny_pure (wpAny_bind (wpAny_dictEpoch go gd ?_)))
 rw[if_neg (by simp)]
 refine wpAny_pure ?_
 simp only[show ¬((i:Int)<0) from by omega,if_false,Int.toNat_natCast,Array.getElem?_eq_none (show es.size≤i by omega)]
 refine wpAny_bind ?_
 first |refine wpAny_bind (wpAny_typeNameOfWhole_itemiter ty (wpAny_pure ?_)) |refine wpAny_bind (wpAny_typeNameOf_itemiter ty (wpAny_pure ?_))
 show wpAny _ _ (setField (.ref it) 2 .none >>=_) _ _ s
 refine wpAny_bind (wpAny_setField gi rfl (by simp) ?_)
 show wpAny _ _ (newExc (.type "StopIteration") [] >>=_) _ _ _
 refine wpAny_bind ?_
 simp only[newExc,newTuple]
 refine wpAny_bind (wpAny_newObj_type ?_ (by size_fits))
 refine wpAny_bind (m:=firstArgMember _ _) (wpAny_of_eq (a:=Value.none) (by first |rfl |(simp only[firstArgMember];rfl)) ?_)
 refine wpAny_newObj_type ?_ (by size_fits)
 simp only[raiseNew]
 refine wpAny_bind (wpAny_handled ?_)
 rw[show A.in1.handled=none from hh]
 refine wpAny_bind (wpAny_pure (wpAny_throw ?_))
 exact wpAny_bind (wpAny_isInstance (T:= "StopIteration") (b:=true) ⟨_,Heap.get?_push_size _ rfl,rfl⟩ isSubtype_stop (wpAny_pure (q _ (((Heap.SameBut.update ..).extBut.push _).push _))))
end
section
variable {X:Cx}{pins:List (Addr×Obj)}{σ:St}{H:Hp}{s:Shared}{d:Addr}{kvs:List (List Key×V)}{o:Obj}
theorem Inv.freeze (I:Inv X pins σ H s) (e:H d=some (.dT kvs)) (g:s.heap.get? d=some o):Inv X pins σ (upd H d (.aT o (.dT kvs))) s:=by
 have ne:∀b u,H b=some u→(∀k,u≠.dT k)→b≠d:=fun b u q n z=>by rw[z,e]at q;cases q;exact n _ rfl
 have nn:∀b,H b=none→b≠d:=fun b q z=>by rw[z,e]at q;cases q
 have J:=I.call (g':=s.gens) (d':=s.drawn) (t':=s.toks) (h':=s.heap) (ch:=[]) (H':=upd H d (.aT o (.dT kvs)))
  ⟨fun b o q _ _ _=>q,fun b o q _ _ _=> ⟨o.slots,q⟩,fun b o q n _=>by rw[Zg (nn b n)];exact n,fun b o q _=> ⟨o,q⟩,fun b xs q=>by rw[Zg (ne b _ q fun k z=>by cases z)];exact q,
   fun b o u q=>by rw[Zg (ne b _ q fun k z=>by cases z)];exact q,fun b ps q=> ⟨#[],by rw[Zg (ne b _ q fun k z=>by cases z),q];simp⟩⟩ (fun b u q=> ?_) I.bare (fun b hb=>absurd hb (by simp))
 ·exact J
 ·have st:∀{b u},aP X.prog X.w H s.heap b u→aP X.prog X.w (upd H d (.aT o (.dT kvs))) s.heap b u:=fun x=>x.bz (fun _ _ _ q=>q) (fun b q=>by rw[Zg (ne b _ q fun k z=>by cases z)];exact q) fun b xs q=>by rw[Zg (ne b _ q fun k z=>by cases z)];exact q
  by_cases hb:b=d
  ·subst hb
   rw[Zc]at q
   cases q
   exact⟨g,st (I.ag b _ e)⟩
  ·rw[Zg hb]at q
   exact st (I.ag b u q)
end
theorem Od:entryFor table "dict_itemiterator.__iter__" =some Builtin.«dict_keyiterator.__iter__» :=entryFor_alias (id':= "dict_keyiterator.__iter__") (by kernel_rfl) (by decide+kernel) (by decide+kernel) (by kernel_rfl)
theorem Nt {prog:Program}{w:World}{A:Around}{E:Value→Shared→Prop}{s:Shared}{it d:Addr}{i n ep:Nat}{ok ov:Value}{Q:Value→Shared→Prop}(g:IsItemIter s.heap it d i n ep ok ov) (h:Q (.ref it) s):wpAny (model prog w) A (pyIter (.ref it)) Q E s:=by
 have ty:s.TypeIs (.ref it) "dict_itemiterator" :=⟨_,g,rfl⟩
 refine wpAny_pyIter_slot ty F.slot_dict_itemiterator_iter (wpAny_call_entry F.slot_dict_itemiterator_iter ty Od ?_ (F.args_dict_itemiterator_iter_1 _))
 show wpAny _ _ (ret (.ref it)) _ _ s
 exact wpAny_pure ⟨_,rfl, "dict_itemiterator",_,ty,F.slot_dict_itemiterator_next.lookup,h⟩
def xM (o:Obj) (d:Addr) (kvs:List (List Key×V)):It:=
 ⟨fun i H=>H d=some (.aT o (.dT kvs))∧i<kvs.length,
  fun i H v H'=> ∃(T a:Addr) (k:List Key) (y:V),v=.ref T∧H T=none∧kvs[i]? =some (k,y)∧H a=some (.tup (k.map kV))∧H'=upd H T (.par [.ref a,y]),
  fun i H=>H d=some (.aT o (.dT kvs))∧kvs.length≤i⟩
theorem UM {P:Program}{w:World}{K:PySem.W.Frag}{elts:List Expr}{kk:Nat}{pos:Pos}{o:Obj}{es:Array DictEntry}{ep:Nat}(it d:Addr) (kvs:List (List Key×V)) (gd:o.data=.dict es ep) (gn:es.size=kvs.length) (nd:it≠d):
  Turn P w K (.Tuple elts kk pos) (xM o d kvs) [it] it (fun i h=> ∃ok ov,IsItemIter h it d i kvs.length ep ok ov) where
 mem:=by simp
 obj:=fun i h ⟨ok,ov,st⟩ b hb=>by
  have e:b=it:=by simpa using hb
  subst e
  exact⟨_,st,fun v z=>by cases z⟩
 keep:=fun i h h' ⟨ok,ov,st⟩ k=> ⟨ok,ov,k it (by simp) _ st⟩
 item:=by
  intro X hP hw hK hc i pins s σ H E I hf st hg
  subst hP hw hK
  obtain⟨ok,ov,st⟩:=st
  obtain⟨hd,hi⟩:=hg
  obtain⟨gh,z,sm,xs,pr,o',r8,se,g1,g2,g3,g4,g5⟩:=(show aP X.prog X.w H s.heap d (.aT o (.dT kvs)) from I.ag d _ hd)
  rw[gh]at g1
  cases g1
  rw[gd]at g3
  cases g3
  have iK:=List.getElem?_eq_getElem hi
  have hx:i<xs.length:=by rw[←Paired.length pr];exact hi
  have Iy:es[i]? =some (entryOfKey (tupleKind (eF X.prog X.w)) xs[i]):=by rw[←Array.getElem?_toList,g4,List.getElem?_map,List.getElem?_eq_getElem hx];rfl
  obtain⟨q',oH,p1,p2,p3⟩:=Y2 pr iK
  rw[List.getElem?_eq_getElem hx]at oH
  cases oH
  refine Oq st gh gd gn Iy fun h' b1 b2 b3 b4=> ⟨_,rfl,?_⟩
  refine wpAny_letOwnedTupleGo_items b1 fun dk c1 c2=> ?_
  have hW:H s.heap.objs.size=none:=I.ag.fresh (Nat.le_refl _)
  have zV:=Heap.lt_size st
  have both:∀b u,b≠it→s.heap.get? b=some u→dk.get? b=some u:=fun b u hb q=> (c2.2 b hb).trans (b4 b u hb q)
  have neT:∀b u,s.heap.get? b=some u→b≠s.heap.objs.size:=fun b u q=>Nat.ne_of_lt (Heap.lt_size q)
  have cA:∀b u,H b=some u→b≠s.heap.objs.size:=fun b u q=>Ze q hW
  have bN:∀b u,H b=some u→b≠it:=fun b u q z=>by
   have:=(hf it (by simp)).1
   rw[z,this]at q;cases q
  have tT:dk.get? s.heap.objs.size=some {cls:=.type "tuple",data:=.seq #[Value.ref (xs[i]).2.1,(xs[i]).2.2]} :=(c2.2 _ (Nat.ne_of_gt zV)).trans b2
  refine⟨.ref s.heap.objs.size,upd H s.heap.objs.size (.par [.ref (xs[i]).2.1,(kvs[i]).2]),?_,rfl,⟨_,(xs[i]).2.1,(kvs[i]).1,(kvs[i]).2,rfl,hW,iK,p2,rfl⟩,⟨_,_,c1⟩,fun b hb=> ?_⟩
  ·refine(show Inv X pins σ _ {s with heap:=dk} from ?_)
   refine I.call (g':=s.gens) (d':=s.drawn) (t':=s.toks) (h':=dk) (ch:=[it]) ⟨fun b u q _ _ hx=>both b u (by simpa using hx) q,fun b u q _ _ hx=> ⟨u.slots,both b u (by simpa using hx) q⟩,fun b u q n hx=>by rw[Zg (neT b u q)];exact n,fun b u q hx=> ⟨u,both b u (by simpa using hx) q⟩,
    fun b ys q=>by rw[Zg (cA b _ q)];exact q,fun b u v q=>by rw[Zg (cA b _ q)];exact q,fun b ps q=> ⟨#[],by rw[Zg (cA b _ q),q];simp⟩⟩ (fun b u q=> ?_) I.bare fun b hb=> ?_
   ·by_cases hb:b=s.heap.objs.size
    ·subst hb
     rw[Zc]at q
     cases q
     exact⟨by show 2≤sizeLine;decide,[.ref (xs[i]).2.1,(xs[i]).2.2],.cons rfl (.cons p3 .nil),⟨_,tT,rfl,0,rfl⟩⟩
    ·rw[Zg hb]at q
     refine(I.ag b u q).bz (fun c ob aZ q'=>both c ob ?_ q') (fun c q'=>by rw[Zg (cA c _ q')];exact q') fun c ys q'=>by rw[Zg (cA c _ q')];exact q'
     rcases aZ with z' |z'
     ·rw[z'];exact bN b u q
     ·exact bN c _ z'
   ·have e:b=it:=by simpa using hb
    subst e
    obtain⟨f0,f1,f2,f3,f4,f5⟩:=hf b (by simp)
    exact⟨f3,f1,f4,f5⟩
  ·have e:b=it:=by simpa using hb
   subst e
   rw[Zg (Nat.ne_of_lt zV)]
   exact(hf b (by simp)).1
 done:=by
  intro X hP hw hK hc i pins s σ H E I hf st hg
  subst hP hw hK
  obtain⟨ok,ov,st⟩:=st
  obtain⟨hd,hi⟩:=hg
  have gh:=(show aP X.prog X.w H s.heap d (.aT o (.dT kvs)) from I.ag d _ hd).1
  refine OU (I.ok.hd hc) st gh gd gn hi fun h' k=> ⟨rfl,?_⟩
  have bN:∀b u,H b=some u→b≠it:=fun b u q z=>by
   have:=(hf it (by simp)).1
   rw[z,this]at q;cases q
  refine I.call (g':=s.gens) (d':=s.drawn) (t':=s.toks) (h':=h') (ch:=[it]) ⟨fun b u q _ _ hx=>k b u (by simpa using hx) q,fun b u q _ _ hx=> ⟨u.slots,k b u (by simpa using hx) q⟩,fun b u q n hx=>n,fun b u q hx=> ⟨u,k b u (by simpa using hx) q⟩,fun b ys q=>q,fun b u v q=>q,fun b ps q=> ⟨#[],by rw[q];simp⟩⟩ (fun b u q=> ?_) I.bare fun b hb=> ?_
  ·refine(I.ag b u q).bz (fun c ob aZ q'=>k c ob ?_ q') (fun _ q'=>q') fun _ _ q'=>q'
   rcases aZ with z' |z'
   ·rw[z'];exact bN b u q
   ·exact bN c _ z'
  ·have e:b=it:=by simpa using hb
   subst e
   obtain⟨f0,f1,f2,f3,f4,f5⟩:=hf b (by simp)
   exact⟨f3,f1,f4,f5⟩
 self:=fun A i s Q E ⟨ok,ov,st⟩ h=>Nt st h
section
variable {X:Cx}{elts:List Expr}{kk:Nat}{tp:Pos}
theorem U5 {A:Around}{E:Value→Shared→Prop}{s:Shared}{d:Addr}{Q:Value→Shared→Prop}(ty:s.TypeIs (.ref d) "dict") (sm:(d==sysModules)=false) (q:Q (.ref s.heap.objs.size) {s with heap:=s.heap.push {cls:=.type "dict_items",data:=.fields #[.ref d]} }):wpAny (model X.prog X.w) A (call (.builtin "dict.items") [.ref d]) Q E s:=by
 refine wpAny_call_entry F.slot_dict_items ty F.entry_dict_items ?_ (F.args_dict_items_1 _)
 unfold Builtin.«dict.items» Builtin.Dict.noArgs
 refine wpAny_bind (wpAny_bind (wpAny_notOrdered_dict ty ?_))
 show wpAny _ _ (pure d) _ _ s
 refine wpAny_pure ?_
 show wpAny _ _ (Builtin.Dict.showsAll d >>=_) _ _ s
 unfold Builtin.Dict.showsAll
 rw[if_neg (by rw[sm];exact Bool.false_ne_true)]
 exact wpAny_bind (wpAny_pure (wpAny_bind (wpAny_newObj_type (wpAny_pure ⟨_,rfl,q⟩))))
theorem Pk {A:Around}{E:Value→Shared→Prop}{s:Shared}{v d:Addr}{o:Obj}{es:Array DictEntry}{ep:Nat}{Q:Value→Shared→Prop}(gv:s.heap.IsItemsView v d) (g:s.heap.get? d=some o) (gd:o.data=.dict es ep) (hs:es.size≤sizeLine)
  (q:Q (.ref s.heap.objs.size) {s with heap:=s.heap.push {cls:=.type "dict_itemiterator",data:=.fields #[.none,.bool false,.ref d,.int 0 0,.int es.size 0,.int ep 0,.none,.none]} }):wpAny (model X.prog X.w) A (pyIter (.ref v)) Q E s:=by
 obtain⟨ov,HC,QO,IA⟩:=id gv
 refine wpAny_pyIter_slot gv.typeIs F.slot_dict_items_iter (wpAny_call_entry F.slot_dict_items_iter gv.typeIs F.entry_dict_items_iter ?_ (F.args_dict_items_iter_1 _))
 unfold Builtin.«dict_items.__iter__»
 refine wpAny_bind (wpAny_pure (wpAny_bind ?_))
 unfold Builtin.Dict_items.dictOf
 refine wpAny_bind (wpAny_field HC IA (x:=.ref d) rfl (wpAny_pure (wpAny_bind ?_)))
 unfold Builtin.Dict_items.newIterator
 refine wpAny_bind (wpAny_dictEntries g gd (wpAny_bind (wpAny_dictEpoch g gd ?_)))
 have own:Builtin.Dict_items.ownsTuple "dict_itemiterator" =true:=by decide
 simp only[own,if_true]
 refine wpAny_newObj_type (wpAny_pure ⟨_,rfl, "dict_itemiterator",_,⟨_,Heap.get?_push_size _ rfl,rfl⟩,F.slot_dict_itemiterator_next.lookup,?_⟩)
  (by simp only[sizeOk,Builtin.Dict_items.ownedTupleFields,List.size_toArray,List.length_append,List.length_cons,List.length_nil,sizeLine_eq];omega)
 simpa[rawInt,Builtin.Dict_items.ownedTupleFields] using q
def GN (to:TE):TI:=fun σ H R=>to σ H fun x H1=> ∃(d:Addr) (kvs:List (List Key×V)),x=.ref d∧H1 d=some (.dT kvs)∧∀o,R (xM o d kvs) (upd H1 d (.aT o (.dT kvs)))
theorem NW {o:Expr}{to:TE}{apos bD:Pos}(ho:PE X o to) (wA:attributeBase o "items" X.env (eval o X.env)=eval o X.env:=by rfl) (vZ:(apos.endLine==bD.line)=true:=by rfl):
  PI X (.Tuple elts kk tp) (.Call (.Attribute o "items" apos) [] [] bD) (GN to):=by
 intro pins s σ H R I h
 refine wpAny_Call_method0_late wA vZ (ar (ho pins s σ H _ I h) fun v s1 ⟨x,H1,I1,r1,d,kvs,ex,hd,q⟩=> ?_)
 subst ex
 cases r1
 obtain⟨z,sm,xs,pr,od,es,ep,g1,g2,g3,g4,g5⟩:=(show aP X.prog X.w H1 s1.heap d (.dT kvs) from I1.ag d _ hd)
 have ty:s1.TypeIs (.ref d) "dict" :=⟨_,g1,g2.1⟩
 refine⟨"dict", "dict.items",PySem.F.plainAttrs_dict,PySem.F.slot_dict_items,PySem.F.type_dict_items,ty,fun a e=>by cases e;exact⟨_,g1,g2.2.1⟩,Calls.callWith_builtin rfl (PySem.evalArgs_none ?_)⟩
 refine U5 ty sm ?_
 have gn:es.size=kvs.length:=by rw[Paired.length pr,←Array.length_toList,g4,List.length_map]
 have I2:Inv X pins σ H1 {s1 with heap:=s1.heap.push {cls:=.type "dict_items",data:=.fields #[.ref d]} } :=I1.kept (t':=s1.toks) fun b o q=>Heap.get?_push_of_some _ q
 have gv:(s1.heap.push {cls:=.type "dict_items",data:=.fields #[.ref d]}).IsItemsView s1.heap.objs.size d:=⟨_,Heap.get?_push_size _ rfl,rfl,rfl⟩
 have mW:(s1.heap.push {cls:=.type "dict_items",data:=.fields #[.ref d]}).get? d=some od:=Heap.get?_push_of_some _ g1
 generalize s1.heap.push {cls:=.type "dict_items",data:=.fields #[.ref d]} =h2 at I2 gv mW
 refine Pk (s:= {s1 with heap:=h2}) gv mW g3 (by omega) ?_
 have I3:Inv X pins σ H1 {s1 with heap:=h2.push {cls:=.type "dict_itemiterator",data:=.fields #[.none,.bool false,.ref d,.int 0 0,.int es.size 0,.int ep 0,.none,.none]} } :=I2.kept (t':=s1.toks) fun b o q=>Heap.get?_push_of_some _ q
 have r0:(h2.push {cls:=.type "dict_itemiterator",data:=.fields #[.none,.bool false,.ref d,.int 0 0,.int es.size 0,.int ep 0,.none,.none]}).get? d=some od:=Heap.get?_push_of_some _ mW
 have nd:h2.objs.size≠d:=Nat.ne_of_gt (Heap.lt_size mW)
 refine⟨h2.objs.size,[h2.objs.size],_,_,_,rfl,I3.freeze hd r0,UM h2.objs.size d kvs g3 gn nd,⟨.none,.none,?_⟩,fun b hb=> ?_,q od⟩
 ·show(h2.push _).get? h2.objs.size=_
  rw[gn]
  exact Heap.get?_push_size _ rfl
 ·have e:b=h2.objs.size:=by simpa using hb
  subst e
  have nn:H1 h2.objs.size=none:=I2.ag.fresh (Nat.le_refl _)
  exact I2.j9 (Nat.le_refl _) (by rw[Zg nd];exact nn)
end
theorem UZ {o:Obj}{d:Addr}{kvs:List (List Key×V)}{g:TG}{tt:TT}{ti:TC}{ys:List V}{σ:St}{H:Hp}{Q:List V→St→Hp→Prop}(Pv:Nat→List V→St→Hp→Prop) (h0:Pv 0 ys σ H)
  (hl:∀i ys σ H,Pv i ys σ H→H d=some (.aT o (.dT kvs)))
  (hs:∀i k y (T a:Addr) ys σ H,kvs[i]? =some (k,y)→H T=none→H a=some (.tup (k.map kV))→Pv i ys σ H→g (.ref T) σ (upd H T (.par [.ref a,y])) fun aS H2=>tt aS H2 fun b H3=>if b=true then ti ys aS H3 (Pv (i+1)) else Pv (i+1) ys aS H3)
  (hd:∀ys σ H,Pv kvs.length ys σ H→Q ys σ H):gF g tt ti (xM o d kvs) ys σ H Q:=by
 refine⟨fun i m ys σ H=>m=kvs.length - i∧i≤kvs.length∧Pv i ys σ H,⟨kvs.length,by simp,Nat.zero_le _,h0⟩,?_⟩
 rintro i m ys σ H ⟨rfl,hi,p⟩
 have e:=hl i ys σ H p
 by_cases aC:i<kvs.length
 ·refine .inr ⟨⟨e,aC⟩,Pv (i+1),fun cf ak H' p'=> ⟨kvs.length - (i+1),by omega,rfl,aC,p'⟩,fun x H' y=> ?_⟩
  obtain⟨T,a,k,v,e1,e2,e3,e4,e5⟩:=y
  subst e1 e5
  exact hs i k v T a ys σ H e3 e2 e4 p
 ·have e':i=kvs.length:=by omega
  subst e'
  exact .inl ⟨⟨e,Nat.le_refl _⟩,hd ys σ H p⟩
end L2
namespace PyProof.Rows.fK
open PySem
end PyProof.Rows.fK
namespace L2
open PySem PySem.Spec PyProof.Rows PyProof.Rows.fK
end L2
namespace U
open PySem L2 PyProof.Rows
def top (i:Nat):Stmt:=PySem.Challenge.pw_unlikesteps_k11_hits_of_a_lay.main.body.getD i (.Pass ⟨0,0,0,0⟩)
structure Gs (mg:Str→Option Value):Prop where
 isinstance:mg "isinstance" =none
 int:mg "int" =none
 bool:mg "bool" =none
 tuple:mg "tuple" =none
 list:mg "list" =none
 len:mg "len" =none
 all:mg "all" =none
 set:mg "set" =none
 range:mg "range" =none
 max:mg "max" =none
 min:mg "min" =none
 enumerate:mg "enumerate" =none
 zip:mg "zip" =none
 sorted:mg "sorted" =none
 longest:∃t,mg "LONGEST_SIDE" =some (.int 12 t)
section
variable {P:Program}{w:World}{K:PySem.W.Frag}{mg:Str→Option Value}{base:Heap}
abbrev uu:Stmt:=top 19
def nZ (K:PySem.W.Frag):Sp:=fun vs H Q _=> ∃x,vs=[x]∧ck K H x∧Q (.bl (whole x)) H
theorem EF:bu ["thing"] ["thing"] (ay uu):=⟨rfl,rfl,rfl,by decide+kernel,rfl,by decide+kernel,by decide+kernel⟩
theorem OA {f:Addr}{fd:FuncData}(F:aH K "is_whole" "is_whole" uu f fd) (G:Gs mg):aA P w K mg base aG 1 f fd ["thing"] (nZ K):=by
 refine F.ok EF (fun vs H Q E h=> ?_) (fun ao A outer s H vs Q E hr h=> ?_)
 ·obtain⟨x,rfl,_⟩:=h
  rfl
 ·obtain⟨x,rfl,⟨T,t⟩,q⟩:=h
  refine⟨_,Zl (ZC (Yx (Zk (ZE (c:= "int")) rfl G.isinstance boot_isinstance (Za (pv 0) (Za (ZI (v:=.ty "int") rfl G.int boot_int rfl) Zb)))
   (Yv (Mp (Zk (ZE (c:= "bool")) rfl G.isinstance boot_isinstance (Za (pv 0) (Za (ZI (v:=.ty "bool") rfl G.bool boot_bool rfl) Zb))))))),?_⟩
  refine⟨x,rfl,x,_,_,rfl,t,Nu t,_,rfl,?_⟩
  rw[Uv]at q
  cases e:vE x with
  |false=>rw[e]at q;exact aM q
  |true=>rw[e]at q;exact aX ⟨x,rfl,x,_,_,rfl,t,Oi t,_,rfl,q⟩
abbrev ur:Stmt:=top 20
def qr (K:PySem.W.Frag):Sp:=fun vs H Q _=> ∃x a b,vs=[x,.int a,.int b]∧ck K H x∧Q (.bl (bM x a b)) H
theorem EE:bu ["thing", "least", "most"] ["thing", "least", "most"] (ay ur):=⟨rfl,rfl,rfl,by decide+kernel,rfl,by decide+kernel,by decide+kernel⟩
theorem O1 {f:Addr}{fd:FuncData}(F:aH K "is_whole_within" "is_whole_within" ur f fd) (D1:Def P w K mg base 1 "is_whole" ["thing"] (nZ K)):aA P w K mg base aG 2 f fd ["thing", "least", "most"] (qr K):=by
 refine F.ok EE (fun vs H Q E h=> ?_) (fun ao A outer s H vs Q E hr h=> ?_)
 ·obtain⟨x,a,b,rfl,_⟩:=h
  rfl
 ·obtain⟨x,a,b,rfl,t,q⟩:=h
  refine⟨_,Zl (ZC (Yx (Zj D1 hr (Za (pv 0) Zb)) (Yv (NT xr xr (pv 1) (pv 0) (pv 2))))),?_⟩
  refine⟨x,rfl,x,rfl,t,_,rfl,?_⟩
  cases x with
  |int i=>
   refine aX ⟨_,rfl,_,rfl,_,_,rfl,rfl,_,rfl,?_⟩
   have e:bM (.int i) a b=(decide (a≤i)&&decide (i≤b)):=rfl
   rw[e]at q
   cases e1:decide (a≤i) with
   |false=>rw[e1]at q;exact aM q
   |true=>rw[e1]at q;exact aX ⟨_,rfl,_,_,rfl,rfl,q⟩
  |_=>exact aM q
abbrev uv:Stmt:=top 22
def qt (K:PySem.W.Frag):Sp:=fun vs H Q _=> ∃x n,vs=[x,.int n]∧ck K H x∧Q (.bl (match aY H x with |some xs=>decide ((xs.length:Int)=n) |none=>false)) H
theorem EG:bu ["thing", "many"] ["thing", "many"] (ay uv):=⟨rfl,rfl,rfl,by decide+kernel,rfl,by decide+kernel,by decide+kernel⟩
theorem Oz {f:Addr}{fd:FuncData}(F:aH K "is_tuple_of" "is_tuple_of" uv f fd) (G:Gs mg):aA P w K mg base aG 1 f fd ["thing", "many"] (qt K):=by
 refine F.ok EG (fun vs H Q E h=> ?_) (fun ao A outer s H vs Q E hr h=> ?_)
 ·obtain⟨x,n,rfl,_⟩:=h
  rfl
 ·obtain⟨x,n,rfl,⟨T,t⟩,q⟩:=h
  refine⟨_,Zl (ZC (Yx (Zk (ZE (c:= "tuple")) rfl G.isinstance boot_isinstance (Za (pv 0) (Za (ZI (v:=.ty "tuple") rfl G.tuple boot_tuple rfl) Zb)))
   (Yv (Ym JD (Zk Zp rfl G.len boot_len (Za (pv 0) Zb)) (pv 1) (cq _))))),?_⟩
  refine⟨x,rfl,x,_,_,rfl,t,OM t,_,rfl,?_⟩
  cases e:aY H x with
  |none=>rw[e]at q;exact aM q
  |some xs=>
   rw[e]at q
   obtain⟨a,rfl,ha⟩:=ZM e
   refine aX ⟨_,rfl,a,xs,rfl,.inr (ai.of ha),_,rfl,rfl,?_⟩
   have z:decide (V.int (xs.length:Int)=V.int n)=decide ((xs.length:Int)=n):=by simp
   rw[z]
   exact q
abbrev uS:Stmt:=top 23
def kQ:Option (List V)→Bool
 |some [a,b]=>bM a 1 12&&bM b 1 12
 |_=>false
def fe (K:PySem.W.Frag) (H:Hp) (x:V):Prop:=ck K H x∧∀xs,aY H x=some xs→∀y∈xs,ck K H y
def qA (K:PySem.W.Frag):Sp:=fun vs H Q _=> ∃x,vs=[x]∧fe K H x∧∀H',ae H H'→Q (.bl (kQ (aY H x))) H'
theorem EJ:bu ["thing"] ["thing"] (ay uS):=⟨rfl,rfl,rfl,by decide+kernel,rfl,by decide+kernel,by decide+kernel⟩
theorem Ou {f:Addr}{fd:FuncData}(F:aH K "is_board" "is_board" uS f fd) (G:Gs mg) (D1:Def P w K mg base 1 "is_tuple_of" ["thing", "many"] (qt K)) (D2:Def P w K mg base 2 "is_whole_within" ["thing", "least", "most"] (qr K)):
  aA P w K mg base aG 3 f fd ["thing"] (qA K):=by
 obtain⟨tk,hL⟩:=G.longest
 refine F.ok EJ (fun vs H Q E h=> ?_) (fun ao A outer s H vs Q E hr h=> ?_)
 ·obtain⟨x,rfl,_⟩:=h
  rfl
 ·obtain⟨x,rfl,⟨t,hi⟩,q⟩:=h
  refine⟨_,Zl (ZC (Yx (Zj D1 (hr.mono (by decide)) (Za (pv 0) (Za Zi Zb)))
   (Yv (Zk Jr rfl G.all boot_all (Za (Yu ["side"] 1 [] (UT (pv 0)) (fun C s H fp=>pb 0) (fun C s H fp=>YC)
    (fun C s H fp D=>ZT rfl (Zj D2 (hr.mono (by decide)) (Za (pv 0) (Za Zi (Za (ZO (v:=.int 12) rfl hL ⟨_,rfl⟩) Zb)))))) Zb))))),?_⟩
  refine⟨x,rfl,x,2,rfl,t,_,rfl,?_⟩
  cases e:aY H x with
  |none=>rw[e]at q;exact aM (q H (ae.refl H))
  |some xs=>
   rw[e]at q
   obtain⟨a,rfl,ha⟩:=ZM e
   show if decide ((xs.length:Int)=2)=true then _ else _
   by_cases h2:xs.length=2
   ·rw[decide_eq_true (show(xs.length:Int)=2 by omega)]
    refine aX ⟨_,rfl,a,rfl,⟨xs,ai.of ha⟩,?_⟩
    refine J5 (xs:=xs) (fun i ys σ H2=>ys=(xs.take i).map (fun y=>V.bl (bM y 1 12))∧H2=H∧∃v,σ=[v]) ⟨rfl,rfl,none,rfl⟩ (fun i ys σ H2 _ ⟨_,e2,_⟩=>by rw[e2];exact ai.of ha) ?_ ?_
    ·rintro i y ys σ H2 hy ⟨rfl,rfl,v,rfl⟩
     have my:y∈xs:=List.mem_of_getElem? hy
     refine⟨y,rfl,y,1,12,rfl,hi xs e y my,?_,?_⟩
     ·rw[List.length_map,sizeLine_eq,List.length_take];omega
     ·refine⟨?_,rfl,_,rfl⟩
      rw[List.take_add_one,hy,List.map_append]
      rfl
    ·rintro ys σ H2 ⟨rfl,rfl,v,rfl⟩ p hp
     rw[List.take_length]
     refine⟨p,xs.map (fun y=>bM y 1 12),rfl,?_,?_⟩
     ·rw[List.map_map];exact ah.of Zc
     ·have e3:kQ (some xs)=(xs.map (fun y=>bM y 1 12)).all id:=by
       match xs,h2 with
       | [a,b],_=>simp[kQ]
      rw[←e3]
      exact q _ fun b o hb=>by rw[Zg (Ze hb hp)];exact hb
   ·rw[decide_eq_false (show ¬(xs.length:Int)=2 by omega)]
    have e3:kQ (some xs)=false:=by
     match xs,h2 with
     | [],_=>rfl
     | [a],_=>rfl
     | [a,b],h=>exact absurd rfl h
     |a::b::c::r,_=>rfl
    rw[e3]at q
    exact aM (q H (ae.refl H))
end
section
theorem YO (val:Nat→Int):∀n,((PyProof.Rows.firstMet val n).length=n↔((List.range n).map val).Nodup)
 |0=>by simp[PyProof.Rows.firstMet_zero]
 |n+1=>by
  have ih:=YO val n
  have le:=PyProof.Rows.firstMet_length_le val n
  rw[PyProof.Rows.firstMet_succ,PyProof.Rows.step_length,PyProof.Rows.firstMet_any,List.range_succ,List.map_append]
  have e:(((List.range n).map val).any (· ==val n))=true↔val n∈(List.range n).map val:=by
   rw[List.any_eq_true]
   constructor
   ·rintro⟨x,hx,q⟩
    have:x=val n:=by simpa using q
    rw[←this];exact hx
   ·intro h;exact⟨_,h,by simp⟩
  have nd:((List.range n).map val++List.map val [n]).Nodup↔((List.range n).map val).Nodup∧¬val n∈(List.range n).map val:=by
   rw[List.nodup_append]
   constructor
   ·rintro⟨h1,_,h3⟩
    exact⟨h1,fun m=>h3 _ m (val n) (by simp) rfl⟩
   ·rintro⟨h1,h2⟩
    refine⟨h1,by simp,fun a ha b hb q=>h2 ?_⟩
    have hJ:b=val n:=by simpa using hb
    rw[←hJ,←q];exact ha
  rw[nd,←ih]
  by_cases m:val n∈(List.range n).map val
  ·rw[if_pos (e.mpr m)]
   constructor
   ·intro h;omega
   ·rintro⟨_,h⟩;exact absurd m h
  ·rw[if_neg (fun z=>m (e.mp z))]
   constructor
   ·intro h;exact⟨by omega,m⟩
   ·rintro⟨h,_⟩;omega
theorem UO (ns:List Int):me ns=ns.length↔ns.Nodup:=by
 unfold me
 rw[YO]
 have e:(List.range ns.length).map (fun i=>ns.getD i 0)=ns:=by
  refine List.ext_getElem (by simp) fun i h1 h2=> ?_
  rw[List.getElem_map,List.getElem_range,List.getD_eq_getElem?_getD,List.getElem?_eq_getElem h2,Option.getD_some]
 rw[e]
def rowsOf (xs:List V):List V:=xs.filter fun x=> !decide (x=.af)
def gR (wd hg:Int):Option (List V)→Bool
 |some xs=>decide ((xs.length:Int)=wd)&&((rowsOf xs).all fun r=>bM r 0 (hg - 1))&&decide (rowsOf xs).Nodup
 |none=>false
def fg (H:Hp) (x:V) (wd hg:Int):Prop:=aY H x=some [.int wd,.int hg]∧1≤wd∧wd≤12∧1≤hg∧hg≤12
theorem fg.same {H H':Hp}{x:V}{wd hg:Int}(b:fg H x wd hg) (s:ae H H'):fg H' x wd hg:=⟨s.aY b.1,b.2⟩
theorem fg.is {H:Hp}{x:V}{wd hg:Int}(b:fg H x wd hg):kQ (aY H x)=true:=by
 obtain⟨h,h1,h2,h3,h4⟩:=b
 rw[h]
 show(decide (1≤wd)&&decide (wd≤12)&&(decide (1≤hg)&&decide (hg≤12)))=true
 simp[h1,h2,h3,h4]
theorem fg.pl {K:PySem.W.Frag}{H:Hp}{x:V}{wd hg:Int}(b:fg H x wd hg):fe K H x:=by
 obtain⟨a,rfl,ha⟩:=ZM b.1
 refine⟨⟨_,.tup ha⟩,fun xs e y hy=> ?_⟩
 rw[b.1]at e
 cases e
 rcases List.mem_cons.mp hy with z |hy
 ·rw[z];exact⟨_,.int wd⟩
 ·rw[List.mem_singleton.mp hy];exact⟨_,.int hg⟩
theorem Uw {xs:List V}{lo hi:Int}(h:(xs.all fun r=>bM r lo hi)=true):∃ns:List Int,xs=ns.map V.int:=by
 induction xs with
 |nil=>exact⟨[],rfl⟩
 |cons x xs ih=>
  rw[List.all_cons,Bool.and_eq_true]at h
  obtain⟨ns,e⟩:=ih h.2
  cases x with
  |int i=>exact⟨i::ns,by rw[e];rfl⟩
  |_=>cases h.1
theorem WC (ns:List Int):(ns.map V.int).Nodup↔ns.Nodup:=by
 induction ns with
 |nil=>simp
 |cons n ns ih=>rw[List.map_cons,List.nodup_cons,List.nodup_cons,ih];simp
end
section
variable {P:Program}{w:World}{K:PySem.W.Frag}{mg:Str→Option Value}{base:Heap}
abbrev qI:Stmt:=top 24
def tZ (K:PySem.W.Frag):Sp:=fun vs H Q _=> ∃x wd hg,vs=[x]∧fg H x wd hg∧∀H',ae H H'→Q .af H'
theorem yY:bu ["board"] ["board"] (ay qI):=⟨rfl,rfl,rfl,by decide+kernel,rfl,by decide+kernel,by decide+kernel⟩
theorem WV {f:Addr}{fd:FuncData}(F:aH K "need_board" "need_board" qI f fd) (D1:Def P w K mg base 3 "is_board" ["thing"] (qA K)):aA P w K mg base aG 4 f fd ["board"] (tZ K):=by
 refine F.ok yY (fun vs H Q E h=> ?_) (fun ao A outer s H vs Q E hr h=> ?_)
 ·obtain⟨x,wd,hg,rfl,_⟩:=h
  rfl
 ·obtain⟨x,wd,hg,rfl,b,q⟩:=h
  refine⟨_,Zl (ZS (Yk (ZY (Zj D1 hr (Za (pv 0) Zb)))) Zy ZD),?_⟩
  refine⟨x,rfl,x,rfl,b.pl,fun H' sm=> ⟨_,rfl,?_⟩⟩
  rw[b.is]
  exact aM (q H' sm)
abbrev qK:Stmt:=top 25
def qw (K:PySem.W.Frag):Sp:=fun vs H Q _=> ∃x y wd hg,vs=[x,y]∧fg H x wd hg∧fe K H y∧∀H',ae H H'→Q (.bl (gR wd hg (aY H y))) H'
theorem oo:bu ["board", "thing", "wide", "high", "rows"] ["board", "thing"] (ay qK):=⟨rfl,rfl,rfl,by decide+kernel,rfl,by decide+kernel,by decide+kernel⟩
theorem Mf {f:Addr}{fd:FuncData}(F:aH K "is_lay" "is_lay" qK f fd) (G:Gs mg) (D1:Def P w K mg base 4 "need_board" ["board"] (tZ K)) (D2:Def P w K mg base 1 "is_tuple_of" ["thing", "many"] (qt K))
  (D3:Def P w K mg base 2 "is_whole_within" ["thing", "least", "most"] (qr K)):aA P w K mg base aG 5 f fd ["board", "thing"] (qw K):=by
 refine F.ok oo (fun vs H Q E h=> ?_) (fun ao A outer s H vs Q E hr h=> ?_)
 ·obtain⟨x,y,wd,hg,rfl,_⟩:=h
  rfl
 ·obtain⟨x,y,wd,hg,rfl,b,⟨ty,hy⟩,q⟩:=h
  refine⟨_,Zd (ZK (Zj D1 hr (Za (pv 0) Zb)))
   (Zd (Jv (pv 0) (Yf rfl (Zt (ZB (i:=2) oo.nd rfl (Or.inl rfl)) (Zt (ZB (i:=3) oo.nd rfl (Or.inr rfl)) Z2))))
   (Zd (ZS (Yk (ZY (Zj D2 (hr.mono (by decide)) (Za (pv 1) (Za (pv 2) Zb))))) (Zl (ZC WB)) ZD)
   (Zd (JL ["row"] 1 [] (i:=4) oo.nd rfl (Or.inl rfl) (UT (pv 1)) (fun C s H fp=>pb 0) (fun C s H fp=>YS (Y6 (YF (pv 0)))) (fun C s H fp D=>ZT rfl (pv 0)))
   (Zl (ZC (Yx (Zk Jr rfl G.all boot_all (Za (Yu ["row", "high"] 1 [3] (Yl (pv 4)) (fun C s H fp=>pb 0) (fun C s H fp=>YC)
     (fun C s H fp D=>ZT rfl (Zj D3 (hr.mono (by decide)) (Za (pv 0) (Za Zi (Za (Zn Yd (pv 1) Zi) Zb)))))) Zb))
    (Yv (Ym JD (Zk Wt rfl G.len boot_len (Za (Yp Wr rfl G.set boot_set (Za (pv 4) Zb)) Zb)) (Zk Zp rfl G.len boot_len (Za (pv 4) Zb)) (cq _))))))))),?_⟩
  refine⟨x,rfl,x,wd,hg,rfl,b,fun H1 s1=> ?_⟩
  have b1:=b.same s1
  obtain⟨a,rfl,ha⟩:=ZM b1.1
  refine⟨_,rfl,a,_,rfl,ai.of ha,rfl,_,_,rfl,_,_,rfl,rfl,?_⟩
  refine⟨y,rfl,_,rfl,y,wd,rfl,s1.gN ty,_,rfl,?_⟩
  cases e:aY H y with
  |none=>
   have e1:aY H1 y=none:=by
    obtain⟨T,t⟩:=ty
    cases t with
    |tup e2=>rw[Zx e2]at e;cases e
    |lst e2=>rw[Zw,s1 _ _ e2];rfl
    |aT e2=>rw[Zw,s1 _ _ e2];rfl
    |dK e2=>rw[Zw,s1 _ _ e2];rfl
    |dT e2=>rw[Zw,s1 _ _ e2];rfl
    |_=>rfl
   rw[e1]
   rw[e]at q
   exact aX (q H1 s1)
  |some xs=>
   have e1:=s1.aY e
   rw[e1]
   rw[e]at q
   obtain⟨l,rfl,hl⟩:=ZM e1
   by_cases hw:(xs.length:Int)=wd
   ·refine(show if (!decide ((xs.length:Int)=wd))=true then _ else _ from ?_)
    rw[decide_eq_true hw]
    refine aM ?_
    have QE:=b.2.2.1
    have hlen:xs.length≤12:=by omega
    refine⟨_,rfl,l,rfl,⟨xs,ai.of hl⟩,?_⟩
    refine J5 (xs:=xs) (fun i ys σ H2=>ys=rowsOf (xs.take i)∧H2=H1∧∃v,σ=[v]) ⟨rfl,rfl,none,rfl⟩ (fun i ys σ H2 _ ⟨_,e2,_⟩=>by rw[e2];exact ai.of hl) ?_ ?_
    ·rintro i r ys σ H2 cY ⟨rfl,rfl,v,rfl⟩
     have et:rowsOf (xs.take (i+1))=rowsOf (xs.take i)++(if (!decide (r=V.af))=true then [r] else []):=by
      unfold rowsOf
      rw[List.take_add_one,cY,List.filter_append]
      cases hh:(!decide (r=V.af)) with
      |true=>simp[hh]
      |false=>simp[hh]
     refine⟨r,rfl,_,rfl,?_⟩
     cases hh:(!decide (r=V.af)) with
     |true=>
      rw[hh]at et
      refine aX ?_
      refine⟨r,rfl,?_,?_⟩
      ·have:=List.length_filter_le (fun x=> !decide (x=V.af)) (xs.take i)
       unfold rowsOf
       rw[sizeLine_eq]
       rw[List.length_take]at this
       omega
      ·exact⟨by rw[et,if_pos rfl],rfl,_,rfl⟩
     |false=>
      rw[hh]at et
      exact aM ⟨by rw[et,if_neg Bool.false_ne_true,List.append_nil],rfl,_,rfl⟩
    ·rintro ys σ H2 ⟨rfl,rfl,v,rfl⟩ p hp
     rw[List.take_length]
     have QF:(rowsOf xs).length≤12:=Nat.le_trans (List.length_filter_le _ _) hlen
     have s2:ae H2 (upd H2 p (.lst (rowsOf xs))):=fun b o hb=>by rw[Zg (Ze hb hp)];exact hb
     refine⟨_,rfl,p,rfl,⟨rowsOf xs,ah.of Zc⟩,?_⟩
     generalize Bi:upd H2 p (HO.lst (rowsOf xs))=H3 at s2
     have gY:H3 p=some (.lst (rowsOf xs)):=by rw[←Bi];exact Zc
     refine YV (xs:=rowsOf xs) (fun i ys σ H4=>ys=((rowsOf xs).take i).map (fun r=>V.bl (bM r 0 (hg - 1)))∧H4=H3∧∃v,σ=[v,some (.int hg)]) ⟨rfl,rfl,none,rfl⟩ (fun i ys σ H4 _ ⟨_,e2,_⟩=>by rw[e2];exact ah.of gY) ?_ ?_
     ·rintro i r ys σ H4 cY ⟨rfl,rfl,v,rfl⟩
      have mr:r∈xs:=(List.mem_filter.mp (List.mem_of_getElem? cY)).1
      refine⟨r,rfl,_,rfl,_,_,rfl,rfl,r,0,hg - 1,rfl,(s1.trans s2).gN (hy xs e r mr),?_,?_⟩
      ·rw[List.length_map,sizeLine_eq,List.length_take];omega
      ·refine⟨?_,rfl,_,rfl⟩
       rw[List.take_add_one,cY,List.map_append]
       rfl
     ·rintro ys σ H4 ⟨rfl,rfl,v,rfl⟩ p' HB
      rw[List.take_length]
      have s3:∀o,ae H4 (upd H4 p' o):=fun o b u hb=>by rw[Zg (Ze hb HB)];exact hb
      refine⟨p',(rowsOf xs).map (fun r=>bM r 0 (hg - 1)),rfl,?_,?_⟩
      ·rw[List.map_map];exact ah.of Zc
      ·have K0:((rowsOf xs).map (fun r=>bM r 0 (hg - 1))).all id=(rowsOf xs).all fun r=>bM r 0 (hg - 1):=by rw[List.all_map];rfl
       rw[K0]
       have KW:gR wd hg (some xs)=(((rowsOf xs).all fun r=>bM r 0 (hg - 1))&&decide (rowsOf xs).Nodup):=by
        show(decide ((xs.length:Int)=wd)&&_&&_)=_
        rw[decide_eq_true hw,Bool.true_and]
       rw[KW]at q
       refine⟨_,rfl,?_⟩
       cases oZ:((rowsOf xs).all fun r=>bM r 0 (hg - 1)) with
       |false=>
        rw[oZ]at q
        exact aM (q _ (s1.trans (s2.trans (s3 _))))
       |true=>
        rw[oZ,Bool.true_and]at q
        obtain⟨ns,en⟩:=Uw oZ
        have dj:(upd H4 p' (.lst (((rowsOf xs).map (fun r=>V.bl (bM r 0 (hg - 1))))))) p=some (.lst (rowsOf xs)):=s3 _ _ _ gY
        refine aX ?_
        have QJ:ns.length=(rowsOf xs).length:=by rw[en,List.length_map]
        refine⟨_,rfl,p,ns,rfl,by rw[←en];exact ah.of dj,by omega,fun q2 S bh=> ⟨q2,S,me ns,rfl,Zc,_,rfl,p,rowsOf xs,rfl,.inl (ah.of ?_),rfl,?_⟩⟩
        ·rw[Zg (Ze dj bh)];exact dj
        ·have ed:decide (V.int (me ns:Int)=V.int ((rowsOf xs).length:Int))=decide (rowsOf xs).Nodup:=by
          rw[decide_eq_decide]
          rw[en,WC,←UO,List.length_map]
          constructor
          ·intro h;injection h with h;omega
          ·intro h;rw[h]
         rw[ed]
         exact q _ (s1.trans (s2.trans ((s3 _).trans fun b o hb=>by rw[Zg (Ze hb bh)];exact hb)))
   ·refine(show if (!decide ((xs.length:Int)=wd))=true then _ else _ from ?_)
    rw[decide_eq_false hw]
    have e3:gR wd hg (some xs)=false:=by
     show(decide ((xs.length:Int)=wd)&&_&&_)=false
     rw[decide_eq_false hw,Bool.false_and,Bool.false_and]
    rw[e3]at q
    exact aX (q H1 s1)
abbrev uR:Stmt:=top 34
def um (K:PySem.W.Frag):Sp:=fun vs H Q _=> ∃(a:Addr) (ns:List Int) (k:Nat),vs=[.ref a,.int k]∧ah K H a (ns.map V.int)∧∀n:Int,Q (.int n) H
theorem EI:bu ["_law_script", "_law_k"] ["_law_script", "_law_k"] (ay uR):=⟨rfl,rfl,rfl,by decide+kernel,rfl,by decide+kernel,by decide+kernel⟩
theorem MS {f:Addr}{fd:FuncData}(F:aH K "_law_cell_at" "_law_cell_at" uR f fd) (G:Gs mg):aA P w K mg base aG 1 f fd ["_law_script", "_law_k"] (um K):=by
 refine F.ok EI (fun vs H Q E h=> ?_) (fun ao A outer s H vs Q E hr h=> ?_)
 ·obtain⟨a,ns,k,rfl,_⟩:=h
  rfl
 ·obtain⟨a,ns,k,rfl,hs,q⟩:=h
  refine⟨_,Zd (ZS (ZR B5 (pv 1) (Zk Zp rfl G.len boot_len (Za (pv 0) Zb)) (cq _)) (Zl (ZC (ZL ZN (pv 0) (pv 1) (fun _ _=>rfl)))) ZD) (Zl (ZC Zi)),?_⟩
  refine⟨_,rfl,_,rfl,a,ns.map V.int,rfl,.inl hs,_,_,rfl,rfl,_,rfl,?_⟩
  by_cases hk:k<ns.length
  ·rw[decide_eq_true (by rw[List.length_map];omega)]
   refine aX ⟨_,rfl,_,rfl,a,ns.map V.int,k,V.int ns[k],rfl,rfl,hs,ZU ?_,q _⟩
   rw[List.getElem?_map,List.getElem?_eq_getElem hk]
   rfl
  ·rw[decide_eq_false (by rw[List.length_map];omega)]
   exact aM (q 0)
def br (H:Hp) (p:Addr):Prop:=∃u v:Int,H p=some (.lst [.int u,.int v])∧0≤u∧0≤v∧v<2147483647
abbrev uA:Stmt:=top 35
def tS (K:PySem.W.Frag):Sp:=fun vs H Q _=> ∃(a:Addr) (ns:List Int) (k:Nat),vs=[.ref a,.int k]∧ah K H a (ns.map V.int)∧∀p H',H p=none→ae H H'→br H' p→Q (.ref p) H'
theorem yU:bu ["_law_script", "_law_k", "_law_cell"] ["_law_script", "_law_k"] (ay uA):=⟨rfl,rfl,rfl,by decide+kernel,rfl,by decide+kernel,by decide+kernel⟩
theorem Oy {f:Addr}{fd:FuncData}(F:aH K "_law_state" "_law_state" uA f fd) (G:Gs mg) (D1:Def P w K mg base 1 "_law_cell_at" ["_law_script", "_law_k"] (um K)):aA P w K mg base aG 2 f fd ["_law_script", "_law_k"] (tS K):=by
 refine F.ok yU (fun vs H Q E h=> ?_) (fun ao A outer s H vs Q E hr h=> ?_)
 ·obtain⟨a,ns,k,rfl,_⟩:=h
  rfl
 ·obtain⟨a,ns,k,rfl,hs,q⟩:=h
  refine⟨_,Zd (Zo (i:=2) yU.nd rfl (Or.inl rfl) (Zj D1 hr (Za (pv 0) (Za (pv 1) Zb))))
   (Zl (ZC (ZA (Za (Zk (WH rfl) rfl G.max boot_max (Za Zi (Za (Zn Yd (pv 2) (Zn WT Zi Zi)) Zb))) (Za (Zn Ys (pv 2) Zi) Zb))))),?_⟩
  refine⟨_,rfl,_,rfl,a,ns,k,rfl,hs,fun n=> ?_⟩
  refine⟨_,rfl,_,_,rfl,rfl,⟨by decide,by decide,by decide⟩,_,_,rfl,rfl,_,_,rfl,?_⟩
  refine⟨_,rfl,_,_,rfl,rfl,(by show(0:Int)<2147483647;decide),(by show 2≤sizeLine;decide),fun p hp=>q p _ hp (fun b o hb=>by rw[Zg (Ze hb hp)];exact hb) ?_⟩
  refine⟨_,_,Zc,?_,Int.emod_nonneg _ (by decide),Int.emod_lt_of_pos _ (by decide)⟩
  split<;>omega
abbrev uw:Stmt:=top 36
def iY:Sp:=fun vs H Q _=> ∃(p:Addr) (m:Int),vs=[.ref p,.int m]∧br H p∧0<m∧m<1073741824∧∀r o,0≤r→r<m→br (upd H p o) p→Q (.int r) (upd H p o)
theorem qB:bu ["_law_state_here", "_law_many", "_law_found", "_law_stirred"] ["_law_state_here", "_law_many"] (ay uw):=⟨rfl,rfl,rfl,by decide+kernel,rfl,by decide+kernel,by decide+kernel⟩
theorem nu {x y:V} :dW [x,y] 0=some x:=rfl
theorem cO {x y:V} :dW [x,y] 1=some y:=rfl
theorem MU {f:Addr}{fd:FuncData}(F:aH K "_law_take" "_law_take" uw f fd):aA P w K mg base aG 1 f fd ["_law_state_here", "_law_many"] iY:=by
 refine F.ok qB (fun vs H Q E h=> ?_) (fun ao A outer s H vs Q E hr h=> ?_)
 ·obtain⟨p,m,rfl,_⟩:=h
  rfl
 ·obtain⟨p,m,rfl,⟨u,v,hp,hu,hv,GX⟩,hm,dS,q⟩:=h
  refine⟨_,Zd (ZS (ZR xq (ZL ZN (pv 0) Zi (fun _ _=>rfl)) Zi (cq _))
    (Zd (Zo (i:=2) qB.nd rfl (Or.inl rfl) (Zn Ys (ZL ZN (pv 0) Zi (fun _ _=>rfl)) (pv 1)))
    (Zd (Jv (Zn CG (ZL ZN (pv 0) Zi (fun _ _=>rfl)) (pv 1)) (Cd (pv 0) Zi Ud)) (Zl (ZC (pv 2))))) ZD)
   (Zd (Jv (Zn Ys (Zn ZZ (Zn JY (ZL ZN (pv 0) Zi (fun _ _=>rfl)) Zi) Zi) Zi) (Cd (pv 0) Zi Ud))
   (Zd (Zo (i:=3) qB.nd rfl (Or.inl rfl) (Zn Ys (Zn ZZ (Zn ZZ (Zn JY (ZL ZN (pv 0) Zi (fun _ _=>rfl)) (ZL ZN (pv 0) Zi (fun _ _=>rfl))) (Zn JY Zi (ZL ZN (pv 0) Zi (fun _ _=>rfl)))) Zi) Zi))
   (Zd (Zo (i:=3) qB.nd rfl (Or.inl rfl) (Zn Ys (Zn ZZ (Zn JY (pv 3) (pv 3)) (Zn JY Zi (pv 3))) Zi))
   (Zl (ZC (Zn Ys (Zn CG (pv 3) Zi) (pv 1))))))),?_⟩
  have s0:=ah.of (K:=K) hp
  refine⟨_,rfl,p,_,_,_,rfl,rfl,s0,nu,_,_,rfl,rfl,_,rfl,?_⟩
  by_cases h0:0<u
  ·rw[decide_eq_true h0]
   refine aX ?_
   refine⟨_,rfl,p,_,_,_,rfl,rfl,s0,nu,_,rfl,_,_,rfl,rfl,hm,?_⟩
   refine⟨_,rfl,p,_,_,_,rfl,rfl,s0,nu,_,rfl,_,_,rfl,rfl,⟨hm,by omega⟩,?_⟩
   refine⟨_,rfl,p,_,0,0,rfl,rfl,hp,rfl,?_⟩
   refine⟨_,rfl,q _ _ (Int.emod_nonneg _ (by omega)) (Int.emod_lt_of_pos _ hm) ?_⟩
   exact⟨u/m,v,Zc,Int.ediv_nonneg hu (by omega),hv,GX⟩
  ·rw[decide_eq_false h0]
   refine aM ?_
   refine⟨_,rfl,p,_,_,_,rfl,rfl,s0,cO,_,_,rfl,rfl,.inr ⟨by decide,by decide⟩,_,_,rfl,rfl,_,_,rfl,rfl,(by show(0:Int)<2147483647;decide),?_⟩
   refine⟨_,rfl,p,_,1,1,rfl,rfl,hp,rfl,?_⟩
   have b1:0≤((v*48271+29)%2147483647):=Int.emod_nonneg _ (by decide)
   have b2:((v*48271+29)%2147483647)<2147483647:=Int.emod_lt_of_pos _ (by decide)
   have s1:ah K (upd H p (.lst (([V.int u,V.int v]:List V).set 1 (V.int ((v*48271+29)%2147483647))))) p [.int u,.int ((v*48271+29)%2147483647)]:=ah.of Zc
   have lo:∀{t:Int},0≤t→ -(2^64)<t:=fun h=>Int.lt_of_lt_of_le (by decide) h
   have hi:∀{t:Int},t<2147483647→t<2^64:=fun h=>Int.lt_trans h (by decide)
   refine⟨_,rfl,p,_,_,_,rfl,rfl,s1,cO,_,rfl,p,_,_,_,rfl,rfl,s1,cO,_,_,rfl,rfl,.inl ⟨lo b1,hi b2⟩,?_⟩
   refine⟨_,rfl,p,_,_,_,rfl,rfl,s1,cO,_,_,rfl,rfl,.inl ⟨by decide,by decide⟩,_,_,rfl,rfl,_,_,rfl,rfl,_,_,rfl,rfl,(by show(0:Int)<2147483629;decide),?_⟩
   have c1:0≤((((v*48271+29)%2147483647)*((v*48271+29)%2147483647)+39373*((v*48271+29)%2147483647)+7)%2147483629):=Int.emod_nonneg _ (by decide)
   have c2:((((v*48271+29)%2147483647)*((v*48271+29)%2147483647)+39373*((v*48271+29)%2147483647)+7)%2147483629)<2147483647:=Int.lt_trans (Int.emod_lt_of_pos _ (by decide)) (by decide)
   refine⟨_,rfl,_,rfl,_,_,rfl,rfl,.inl ⟨lo c1,hi c2⟩,_,rfl,_,_,rfl,rfl,.inl ⟨by decide,by decide⟩,_,_,rfl,rfl,_,_,rfl,rfl,(by show(0:Int)<2147483587;decide),?_⟩
   refine⟨_,rfl,_,_,rfl,rfl,⟨by decide,by decide⟩,_,rfl,_,_,rfl,rfl,hm,?_⟩
   refine q _ _ (Int.emod_nonneg _ (by omega)) (Int.emod_lt_of_pos _ hm) ?_
   exact⟨u,_,Zc,hu,b1,b2⟩
abbrev uQ:Stmt:=top 38
def uk:Sp:=fun vs H Q _=> ∃(p:Addr) (m:Int),vs=[.ref p,.int m]∧br H p∧0<m∧m<1073741824∧
 ∀(b:Addr) (H':Hp) (wd hg:Int),1≤wd→wd≤m→1≤hg→hg≤m→aq p H H'→br H' p→H' b=some (.tup [.int wd,.int hg])→b≠p→Q (.ref b) H'
theorem zb:bu ["_law_state_here", "_law_upto", "_law_way", "_law_wide", "_law_high"] ["_law_state_here", "_law_upto"] (ay uQ):=⟨rfl,rfl,rfl,by decide+kernel,rfl,by decide+kernel,by decide+kernel⟩
theorem Ov {f:Addr}{fd:FuncData}(F:aH K "_law_board" "_law_board" uQ f fd) (D1:Def P w K mg base 1 "_law_take" ["_law_state_here", "_law_many"] iY):aA P w K mg base aG 2 f fd ["_law_state_here", "_law_upto"] uk:=by
 refine F.ok zb (fun vs H Q E h=> ?_) (fun ao A outer s H vs Q E hr h=> ?_)
 ·obtain⟨p,m,rfl,_⟩:=h
  rfl
 ·obtain⟨p,m,rfl,st,hm,dS,q⟩:=h
  refine⟨_,Zd (WS (i:=2) (j:=3) (k:=4) rfl zb.nd rfl rfl rfl rfl rfl rfl
    (Za (Zj D1 hr (Za (pv 0) (Za Zi Zb))) (Za (Zn ZZ Zi (Zj D1 hr (Za (pv 0) (Za (pv 1) Zb)))) (Za (Zn ZZ Zi (Zj D1 hr (Za (pv 0) (Za (pv 1) Zb)))) Zb))))
   (Zl (ZC (NV (ZR JD (pv 2) Zi (cq _)) (Zz (Za (pv 3) (Za (pv 3) Zb))) (Zz (Za (pv 3) (Za (pv 4) Zb)))))),?_⟩
  refine⟨_,rfl,p,3,rfl,st,by decide,by decide,fun r1 o1 h1 pF aw=> ?_⟩
  refine⟨_,rfl,_,rfl,p,m,rfl,aw,hm,dS,fun r2 o2 h2 mT aj=> ⟨_,_,rfl,rfl,?_⟩⟩
  refine⟨_,rfl,_,rfl,p,m,rfl,aj,hm,dS,fun r3 o3 h3 wK aF=> ⟨_,_,rfl,rfl,_,_,_,rfl,?_⟩⟩
  have sx:aq p H (upd (upd (upd H p o1) p o2) p o3):=(aq.upd.trans aq.upd).trans aq.upd
  have fin:∀wd hg:Int,1≤wd→wd≤m→1≤hg→hg≤m→∀b,upd (upd (upd H p o1) p o2) p o3 b=none→Q (.ref b) (upd (upd (upd (upd H p o1) p o2) p o3) b (.tup [.int wd,.int hg])):=fun wd hg a1 a2 a3 a4 b hb=>by
   obtain⟨u,v,e,x1,x2,x3⟩:=aF
   have As:p≠b:=Ze e hb
   exact q b _ wd hg a1 a2 a3 a4 (fun c o hc hn=>by rw[Zg (Ze (sx c o hc hn) hb)];exact sx c o hc hn) ⟨u,v,by rw[Zg As];exact e,x1,x2,x3⟩ Zc As.symm
  refine⟨_,rfl,rfl,_,rfl,?_⟩
  refine rH (fun _=> ?_) (fun _=> ?_)
  ·exact⟨_,rfl,_,rfl,(by show 2≤sizeLine;decide),fun b hb=>fin (1+r2) (1+r2) (by omega) (by omega) (by omega) (by omega) b hb⟩
  ·exact⟨_,rfl,_,rfl,(by show 2≤sizeLine;decide),fun b hb=>fin (1+r2) (1+r3) (by omega) (by omega) (by omega) (by omega) b hb⟩
structure eP (wd hg:Int) (xs:List V):Prop where
 len:(xs.length:Int)=wd
 row:∀r∈rowsOf xs,bM r 0 (hg - 1)=true
 nd:(rowsOf xs).Nodup
theorem eP.is {wd hg:Int}{xs:List V}(h:eP wd hg xs):gR wd hg (some xs)=true:=by
 show(decide ((xs.length:Int)=wd)&&((rowsOf xs).all fun r=>bM r 0 (hg - 1))&&decide (rowsOf xs).Nodup)=true
 rw[decide_eq_true h.len,decide_eq_true h.nd,List.all_eq_true.mpr h.row]
 rfl
abbrev uP:Stmt:=top 40
def uj (K:PySem.W.Frag):Sp:=fun vs H Q _=> ∃(p b:Addr) (wd hg:Int),vs=[.ref p,.ref b]∧br H p∧fg H (.ref b) wd hg∧
 ∀(l:Addr) (H':Hp) (xs:List V),aq p H H'→br H' p→H' l=some (.tup xs)→l≠p→eP wd hg xs→Q (.ref l) H'
theorem qE:bu ["_law_state_here", "_law_board_here", "_law_way", "_law_left", "_law_found", "_law_line", "_law_share", "_law_spot"] ["_law_state_here", "_law_board_here"] (ay uP):=⟨rfl,rfl,rfl,by decide+kernel,rfl,by decide+kernel,by decide+kernel⟩
theorem KJ {v:Int}(h:0≤v) (h':v<5):∃c:Int,dW ([V.int 4,.int 4,.int 3,.int 1,.int 0]:List V) v=some (.int c):=by
 have:v=0∨v=1∨v=2∨v=3∨v=4:=by omega
 rcases this with rfl |rfl |rfl |rfl |rfl<;>exact⟨_,rfl⟩
theorem Mv {n:Nat}{i:Int}(h:0≤i) (h':i<n):seqIndex? i n=some i.toNat:=by
 have e:ja n i=some i.toNat:=by unfold ja;rw[if_pos h,if_pos h']
 exact(W1 e).1
theorem Z6 (xs:List V) (y:V):rowsOf (xs++[y])=rowsOf xs++(if (!decide (y=V.af))=true then [y] else []):=by
 unfold rowsOf
 rw[List.filter_append]
 cases hh:(!decide (y=V.af))<;>simp[hh]
theorem JV:∀(l:List V) (k:Nat) (h:k<l.length),(l[k]::l.eraseIdx k).Perm l
 |x::l,0,_=> .refl _
 |x::l,k+1,h=>by
  have h':k<l.length:=by simpa using h
  show(l[k]::x::l.eraseIdx k).Perm (x::l)
  exact(List.Perm.swap x l[k] _).trans (List.Perm.cons x (JV l k h'))
theorem Ow {f:Addr}{fd:FuncData}(F:aH K "_law_lay" "_law_lay" uP f fd) (G:Gs mg) (D1:Def P w K mg base 1 "_law_take" ["_law_state_here", "_law_many"] iY):aA P w K mg base aG 2 f fd ["_law_state_here", "_law_board_here"] (uj K):=by
 refine F.ok qE (fun vs H Q E h=> ?_) (fun ao A outer s H vs Q E hr h=> ?_)
 ·obtain⟨p,b,wd,hg,rfl,_⟩:=h
  rfl
 ·obtain⟨p,b,wd,hg,rfl,st,bd,q⟩:=h
  refine⟨_,Zd (WS (i:=2) (j:=3) (k:=4) rfl qE.nd rfl rfl rfl rfl rfl rfl
    (Za (Zj D1 hr (Za (pv 0) (Za Zi Zb))) (Za (Yp Ws rfl G.list boot_list (Za (Yp UF rfl G.range boot_range (Za (ZL Ye (pv 1) Zi (fun _ _=>rfl)) Zb)) Zb)) (Za (ZA Zb) Zb))))
   (Zd (Yb PassesOwn.never rfl (Z1 rfl G.range (Za (ZL Ye (pv 1) Zi (fun _ _=>rfl)) Zb)) (ZB (i:=5) qE.nd rfl (Or.inl rfl))
    (Zd (Ce (i:=6) (j:=7) rfl qE.nd rfl rfl (by decide) rfl rfl (Za (Zj D1 hr (Za (pv 0) (Za Zi Zb))) (Za (Zj D1 hr (Za (pv 0) (Za Zi Zb))) Zb)) rfl)
    (Zl (ZS (PW.pt (xw (ZR (Cb hr.tL) (pv 3) (ZA Zb) (cq _)) (UQ (ZR BZ (pv 6) (ZL ZN (ZA (Za Zi (Za Zi (Za Zi (Za Zi (Za Zi Zb)))))) (pv 2) (fun _ _=>rfl)) (cq _)))))
     (Zl (ZK (YH PySem.F.plainAttrs_list PySem.F.slot_list_append PySem.F.type_list_append ZW (pv 4) (Za Yw Zb))))
     (Zl (ZK (YH PySem.F.plainAttrs_list PySem.F.slot_list_append PySem.F.type_list_append ZW (pv 4)
      (Za (YH PySem.F.plainAttrs_list PySem.F.slot_list_pop PySem.F.type_list_pop Oo (pv 3) (Za (Zn Ys (pv 7) (Zk Zp rfl G.len boot_len (Za (pv 3) Zb))) Zb)) Zb))))))))
   (Zl (ZC (Yp Wq rfl G.tuple boot_tuple (Za (pv 4) Zb))))),?_⟩
  obtain⟨a,e,hb⟩:=ZM bd.1
  cases e
  obtain⟨_,w1,w2,g1,g2⟩:=id bd
  obtain⟨u0,v0,e0,_⟩:=id st
  have j4:b≠p:=Z7 hb e0 (by intro z;cases z)
  refine⟨_,rfl,p,5,rfl,st,by decide,by decide,fun way o1 h1 pF aw=> ?_⟩
  have x1:aq p H (upd H p o1):=aq.upd
  have eJ:=x1 _ _ hb j4
  refine⟨_,rfl,b,_,_,_,rfl,rfl,ai.of eJ,cO,hg,rfl,fun q1 dQ=> ⟨q1,hg,rfl,Zc,by omega,by omega,fun L hL=> ⟨Nat.zero_le _,fun M hM=> ⟨_,_,_,rfl,?_⟩⟩⟩⟩
  generalize wI:upd (upd (upd (upd H p o1) q1 (.fT 0 hg)) L (.lst (L2.upTo hg.toNat))) M (.lst [])=H0
  have sA:ae (upd H p o1) (upd (upd H p o1) q1 (.fT 0 hg)):=fun c o hc=>by rw[Zg (Ze hc dQ)];exact hc
  have sB:ae (upd (upd H p o1) q1 (.fT 0 hg)) (upd (upd (upd H p o1) q1 (.fT 0 hg)) L (.lst (L2.upTo hg.toNat))):=fun c o hc=>by rw[Zg (Ze hc hL)];exact hc
  have sC:ae (upd (upd (upd H p o1) q1 (.fT 0 hg)) L (.lst (L2.upTo hg.toNat))) H0:=fun c o hc=>by rw[←wI,Zg (Ze hc hM)];exact hc
  have s0:ae (upd H p o1) H0:=sA.trans (sB.trans sC)
  have IZ:H0 M=some (.lst []):=by rw[←wI];exact Zc
  have I9:H0 L=some (.lst (L2.upTo hg.toNat)):=sC _ _ Zc
  obtain⟨u1,v1,e1,y1,y2,y3⟩:=id aw
  have cZ:br H0 p:=⟨u1,v1,s0 _ _ e1,y1,y2,y3⟩
  have lN:=s0 _ _ e1
  have wG:L≠M:=Ze (by exact Zc) hM
  have Au:p≠L:=Ze (sA _ _ e1) hL
  have vT:p≠M:=Ze (sB _ _ (sA _ _ e1)) hM
  have wC:H0 b=some (.tup [.int wd,.int hg]):=s0 _ _ eJ
  have xt:∀H2,(∀c o,H0 c=some o→c≠p→c≠L→c≠M→H2 c=some o)→aq p H H2:=fun H2 k c o hc hn=>by
   have c1:=x1 c o hc hn
   exact k c o (s0 _ _ c1) hn (Ze (sA _ _ c1) hL) (Ze (sB _ _ (sA _ _ c1)) hM)
  refine⟨_,rfl,b,_,_,_,rfl,rfl,ai.of wC,nu,wd,rfl,by omega,by omega,?_⟩
  refine Z3 (n:=wd.toNat) (fun i σ H2=> ∃(ls fs:List V) (x5 x6 x7:Option V),σ=[some (.ref p),some (.ref b),some (.int way),some (.ref L),some (.ref M),x5,x6,x7]∧
    (∀c o,H0 c=some o→c≠p→c≠L→c≠M→H2 c=some o)∧br H2 p∧H2 L=some (.lst ls)∧H2 M=some (.lst fs)∧fs.length=i∧(∀r∈rowsOf fs++ls,bM r 0 (hg - 1)=true)∧(rowsOf fs++ls).Nodup)
   ⟨L2.upTo hg.toNat,[],none,none,none,rfl,fun c o hc _ _ _=>hc,cZ,I9,IZ,rfl,?_,?_⟩ ?_ ?_
  ·intro r cY
   have fB:r∈L2.upTo hg.toNat:=cY
   unfold L2.upTo at fB
   obtain⟨j,hj,rfl⟩:=List.mem_map.mp fB
   have:=List.mem_range.mp hj
   show(decide ((0:Int)≤(j:Int))&&decide ((j:Int)≤hg - 1))=true
   rw[decide_eq_true (by omega),decide_eq_true (by omega)]
   rfl
  ·show(L2.upTo hg.toNat).Nodup
   unfold L2.upTo
   have e:((List.range hg.toNat).map fun(i:Nat)=>V.int (i:Int))=(((List.range hg.toNat).map fun(i:Nat)=> (i:Int))).map V.int:=by rw[List.map_map];rfl
   rw[e,WC]
   exact List.Pairwise.map _ (fun x y h z=>h (by omega)) List.nodup_range
  ·rintro i σ H2 hi ⟨ls,fs,x5,x6,x7,rfl,k2,aj,iJ,dS,wj,eG,dw⟩
   refine⟨_,rfl,p,4,rfl,aj,by decide,by decide,fun sh o3 _ _ aF=> ?_⟩
   refine⟨_,rfl,p,12,rfl,aF,by decide,by decide,fun sp o4 Ao iG cm=> ⟨_,_,rfl,?_⟩⟩
   generalize mS:upd (upd H2 p o3) p o4=H4 at cm
   have x4:aq p H2 H4:=by rw[←mS];exact aq.upd.trans aq.upd
   have rP:=x4 _ _ iJ Au.symm
   have lr:=x4 _ _ dS vT.symm
   have k4:∀c o,H0 c=some o→c≠p→c≠L→c≠M→H4 c=some o:=fun c o hc a1 a2 a3=>x4 c o (k2 c o hc a1 a2 a3) a1
   have hlen:fs.length<sizeLine:=by rw[sizeLine_eq];omega
   refine⟨_,rfl,Nat.zero_le _,fun q2 bh=> ⟨L,q2,ls,rfl,rfl,?_,ah.of Zc,_,rfl,?_⟩⟩
   ·exact ah.of (by rw[Zg (Ze rP bh)];exact rP)
   have sD:ae H4 (upd H4 q2 (.lst [])):=fun c o hc=>by rw[Zg (Ze hc bh)];exact hc
   generalize pE:upd H4 q2 (HO.lst [])=H5 at sD
   obtain⟨u4,v4,e4,z1,z2,z3⟩:=id cm
   have keep:∀H6,ae H4 H6→(∀c o,H0 c=some o→c≠p→c≠L→c≠M→H6 c=some o)∧br H6 p:=fun H6 s6=> ⟨fun c o hc a1 a2 a3=>s6 _ _ (k4 c o hc a1 a2 a3),u4,v4,s6 _ _ e4,z1,z2,z3⟩
   have BY:∀H6,ae H4 H6→yz K "list" zz (jz 4) (l7 (tC .af) nV) [some (.ref p),some (.ref b),some (.int way),some (.ref L),some (.ref M),some (.int (0+(i:Int))),some (.int sh),some (.int sp)] H6 (fun _ H7=> ∃(ls fs:List V) (x5 x6 x7:Option V),([some (.ref p),some (.ref b),some (.int way),some (.ref L),some (.ref M),some (.int (0+(i:Int))),some (.int sh),some (.int sp)]:L2.St)=[some (.ref p),some (.ref b),some (.int way),some (.ref L),some (.ref M),x5,x6,x7]∧
     (∀c o,H0 c=some o→c≠p→c≠L→c≠M→H7 c=some o)∧br H7 p∧H7 L=some (.lst ls)∧H7 M=some (.lst fs)∧fs.length=i+1∧(∀r∈rowsOf fs++ls,bM r 0 (hg - 1)=true)∧(rowsOf fs++ls).Nodup):=fun H6 s6=>by
    obtain⟨k6,t6⟩:=keep H6 s6
    have oK:=s6 _ _ lr
    have fE:=s6 _ _ rP
    refine⟨_,rfl,.inl ⟨rfl,_,ah.of oK⟩,M,fs,.af,rfl,rfl,oK,hlen,ls,fs++[.af],_,_,_,rfl,fun c o hc a1 a2 a3=>by rw[Zg a3];exact k6 c o hc a1 a2 a3,?_,by rw[Zg wG];exact fE,Zc,by rw[List.length_append,wj];rfl,?_,?_⟩
    ·obtain⟨u,v,e,r⟩:=t6
     exact⟨u,v,by rw[Zg vT];exact e,r⟩
    ·rw[Z6];simpa using eG
    ·rw[Z6];simpa using dw
   cases oS:ls.isEmpty with
   |true=>exact aX (aX (BY H5 sD))
   |false=>
    refine aM ?_
    have bP:ls≠[]:=fun z=>by rw[z]at oS;cases oS
    have Hx:0<ls.length:=List.length_pos_iff.mpr bP
    refine⟨_,rfl,(by show 5≤sizeLine;decide),fun q3 lg=> ?_⟩
    obtain⟨c5,IJ⟩:=KJ h1 pF
    have sE:ae H5 (upd H5 q3 (.lst [.int 4,.int 4,.int 3,.int 1,.int 0])):=fun c o hc=>by rw[Zg (Ze hc lg)];exact hc
    refine⟨_,rfl,q3,_,_,_,rfl,rfl,ah.of Zc,IJ,_,_,rfl,rfl,_,rfl,?_⟩
    generalize Bh:upd H5 q3 (HO.lst [V.int 4,.int 4,.int 3,.int 1,.int 0])=H6 at sE
    have s6:=sD.trans sE
    refine rH (fun _=>BY H6 s6) (fun _=> ?_)
    obtain⟨k6,t6⟩:=keep H6 s6
    have oK:=s6 _ _ lr
    have fE:=s6 _ _ rP
    have m1:0≤sp%(ls.length:Int):=Int.emod_nonneg _ (by omega)
    have m2:sp%(ls.length:Int)<ls.length:=Int.emod_lt_of_pos _ (by omega)
    have m3:(sp%(ls.length:Int)).toNat<ls.length:=by omega
    have m4:sp%(ls.length:Int)<2^63:=by
     by_cases hh:sp< (ls.length:Int)
     ·rw[Int.emod_eq_of_lt Ao hh];omega
     ·omega
    refine⟨_,rfl,.inl ⟨rfl,_,ah.of oK⟩,_,rfl,.inl ⟨rfl,_,ah.of fE⟩,_,rfl,_,rfl,L,ls,rfl,.inl (ah.of fE),_,_,rfl,rfl,(by show(0:Int)< (ls.length:Int);omega),L,ls,_,_,_,rfl,rfl,fE,by omega,m4,Mv m1 m2,List.getElem?_eq_getElem m3,?_⟩
    generalize hk:(sp%(ls.length:Int)).toNat=k at m3
    have HP:upd H6 L (.lst (ls.eraseIdx k)) M=some (.lst fs):=by rw[Zg wG.symm];exact oK
    have my:ls[k]∈ls:=List.getElem_mem m3
    have wy:bM ls[k] 0 (hg - 1)=true:=eG _ (List.mem_append_right _ my)
    have ny:(!decide (ls[k]=V.af))=true:=by
     cases e:ls[k] with
     |af=>rw[e]at wy;cases wy
     |_=>rfl
    have pm:(rowsOf fs++[ls[k]]++ls.eraseIdx k).Perm (rowsOf fs++ls):=by
     rw[List.append_assoc]
     exact List.Perm.append_left _ (JV ls k m3)
    refine⟨M,fs,_,rfl,rfl,HP,hlen,ls.eraseIdx k,fs++[ls[k]],_,_,_,rfl,fun c o hc a1 a2 a3=>by rw[Zg a3,Zg a2];exact k6 c o hc a1 a2 a3,?_,by rw[Zg wG,Zc],Zc,by rw[List.length_append,wj];rfl,?_,?_⟩
    ·obtain⟨u,v,e,r⟩:=t6
     exact⟨u,v,by rw[Zg vT,Zg Au];exact e,r⟩
    ·rw[Z6,if_pos ny]
     intro r cY
     exact eG r (pm.mem_iff.mp cY)
    ·rw[Z6,if_pos ny]
     exact pm.nodup_iff.mpr dw
  ·rintro σ H2 ⟨ls,fs,x5,x6,x7,rfl,k2,aj,iJ,dS,wj,eG,dw⟩
   refine⟨_,rfl,M,fs,rfl,.inl ⟨ah.of dS,fun l hl=> ?_⟩⟩
   obtain⟨u,v,e,r⟩:=id aj
   have dj:p≠l:=Ze e hl
   refine q l _ fs (fun c o hc hn=> ?_) ⟨u,v,by rw[Zg dj];exact e,r⟩ Zc dj.symm ⟨by omega,fun r cY=>eG r (List.mem_append_left _ cY),(List.nodup_append.mp dw).1⟩
   have:=xt H2 k2 c o hc hn
   rw[Zg (Ze this hl)]
   exact this
end
section
def kG:V→Option Int
 | .int r=>some r
 |_=>none
def rowAt (xs:List V) (i:Nat):Option Int:=xs[i]?.bind kG
abbrev nz:=Int×Int×Int×Int
def gG (xs:List V) (o l:Nat):Option nz:=(rowAt xs l).bind fun a=> (rowAt xs o).map fun b=> ((o:Int) - l,b - a,(l:Int),(o:Int))
def gp (xs:List V) (o j:Nat):List nz:=(List.range j).filterMap (gG xs o)
def fV (xs:List V) (n:Nat):List nz:=(List.range n).flatMap fun o=>gp xs o o
theorem Jc (xs:List V) (o j:Nat):gp xs o (j+1)=gp xs o j++(gG xs o j).toList:=by
 unfold gp
 rw[List.range_succ,List.filterMap_append]
 cases h:gG xs o j<;>simp[h]
theorem Z5 (xs:List V) (n:Nat):fV xs (n+1)=fV xs n++gp xs n n:=by
 unfold fV
 rw[List.range_succ,List.flatMap_append]
 simp
def lU (H:Hp) (v:V) (q:nz):Prop:=∃t t':Addr,v=.ref t∧H t=some (.tup [.ref t',.int q.2.2.1,.int q.2.2.2])∧H t'=some (.tup [.int q.1,.int q.2.1])
theorem lU.x {M:Addr}{H H':Hp}{v:V}{q:nz}(h:lU H v q) {ms:List V}(hM:H M=some (.lst ms)) (s:aq M H H'):lU H' v q:=by
 obtain⟨t,t',e,h1,h2⟩:=h
 exact⟨t,t',e,s _ _ h1 (Z7 h1 hM (by intro z;cases z)),s _ _ h2 (Z7 h2 hM (by intro z;cases z))⟩
def nB (xs:List V):Prop:=∀x∈xs,x=.af∨∃i,x=.int i
theorem eP.ok {wd hg:Int}{xs:List V}(h:eP wd hg xs):nB xs:=fun x hx=>by
 by_cases e:x=.af
 ·exact .inl e
 ·have m:x∈rowsOf xs:=List.mem_filter.mpr ⟨hx,by simp[e]⟩
  have q:=h.row x m
  cases x with
  |int i=>exact .inr ⟨i,rfl⟩
  |_=>cases q
end
section
variable {P:Program}{w:World}{K:PySem.W.Frag}{mg:Str→Option Value}{base:Heap}
abbrev uE:Stmt:=top 41
def ue (K:PySem.W.Frag):Sp:=fun vs H Q _=> ∃(a:Addr) (xs:List V),vs=[.ref a]∧ai K H a xs∧H a=some (.tup xs)∧nB xs∧xs.length≤12∧
 ∀(l:Addr) (H':Hp) (rs:List V),ae H H'→H l=none→H' l=some (.lst rs)→Paired (lU H') rs (fV xs xs.length)→Q (.ref l) H'
theorem qC:bu ["_law_lay_here", "_law_found", "_law_other", "_law_line"] ["_law_lay_here"] (ay uE):=⟨rfl,rfl,rfl,by decide+kernel,rfl,by decide+kernel,by decide+kernel⟩
theorem OW {f:Addr}{fd:FuncData}(F:aH K "_law_steps" "_law_steps" uE f fd) (G:Gs mg):aA P w K mg base aG 1 f fd ["_law_lay_here"] (ue K):=by
 refine F.ok qC (fun vs H Q E h=> ?_) (fun ao A outer s H vs Q E hr h=> ?_)
 ·obtain⟨a,xs,rfl,_⟩:=h
  rfl
 ·obtain⟨a,xs,rfl,_,ha,eG,hlen,q⟩:=h
  refine⟨_,Zd (Zo (i:=1) qC.nd rfl (Or.inl rfl) (ZA Zb))
   (Zd (Yb PassesOwn.never rfl (Z1 rfl G.range (Za (Zk Zp rfl G.len boot_len (Za (pv 0) Zb)) Zb)) (ZB (i:=2) qC.nd rfl (Or.inl rfl))
    (Zl (Yb PassesOwn.never rfl (Z1 rfl G.range (Za (pv 2) Zb)) (ZB (i:=3) qC.nd rfl (Or.inl rfl))
     (Zl (ZS (PW.pt (WP (Y6 (YF (ZL Ye (pv 0) (pv 3) (fun _ _=>rfl)))) (JK (Y6 (YF (ZL Ye (pv 0) (pv 2) (fun _ _=>rfl)))))))
      (Zl (ZK (YH PySem.F.plainAttrs_list PySem.F.slot_list_append PySem.F.type_list_append ZW (pv 1)
       (Za (Zz (Za (Zz (Za (Zn Yd (pv 2) (pv 3)) (Za (Zn Yd (ZL Ye (pv 0) (pv 2) (fun _ _=>rfl)) (ZL Ye (pv 0) (pv 3) (fun _ _=>rfl))) Zb))) (Za (pv 3) (Za (pv 2) Zb)))) Zb)))) ZD)))))
   (Zl (ZC (pv 1)))),?_⟩
  refine⟨Nat.zero_le _,fun M hM=> ?_⟩
  have s0:ae H (upd H M (.lst [])):=fun c o hc=>by rw[Zg (Ze hc hM)];exact hc
  refine⟨_,rfl,a,xs,rfl,.inr (ai.of (s0 _ _ ha)),(xs.length:Int),rfl,by omega,by omega,?_⟩
  refine Z3 (n:=((xs.length:Int)).toNat) (fun i σ H2=> ∃(rs:List V) (x2 x3:Option V),σ=[some (.ref a),some (.ref M),x2,x3]∧ae H H2∧H2 M=some (.lst rs)∧Paired (lU H2) rs (fV xs i)∧rs.length≤i*12)
   ⟨[],none,none,rfl,s0,Zc,.nil,Nat.zero_le _⟩ ?_ ?_
  ·rintro i σ H2 hi ⟨rs,x2,x3,rfl,s2,dS,cj,iJ⟩
   have bT:i<xs.length:=by omega
   refine⟨_,rfl,(0+(i:Int)),rfl,by omega,by omega,?_⟩
   refine Z3 (n:=((0:Int)+(i:Int)).toNat) (fun j σ H3=> ∃(rs:List V) (x3:Option V),σ=[some (.ref a),some (.ref M),some (.int (i:Int)),x3]∧ae H H3∧H3 M=some (.lst rs)∧Paired (lU H3) rs (fV xs i++gp xs i j)∧rs.length≤i*12+j)
    ⟨rs,x3,by rw[Int.zero_add];rfl,s2,dS,by simpa[gp] using cj,iJ⟩ ?_ ?_
   ·rintro j σ H3 hj ⟨rs,x3,rfl,s3,jc,gM,wc⟩
    have g9:j<i:=by omega
    have rY:=s3 _ _ ha
    have lu:j<xs.length:=by omega
    have ej:dW xs (0+(j:Int))=some xs[j]:=by rw[Int.zero_add];exact ZU (List.getElem?_eq_getElem lu)
    have ei:dW xs (i:Int)=some xs[i]:=ZU (List.getElem?_eq_getElem bT)
    have rj:rowAt xs j=kG xs[j]:=by unfold rowAt;rw[List.getElem?_eq_getElem lu];rfl
    have ri:rowAt xs i=kG xs[i]:=by unfold rowAt;rw[List.getElem?_eq_getElem bT];rfl
    refine⟨_,rfl,_,rfl,a,xs,_,_,rfl,rfl,ai.of rY,ej,_,rfl,?_⟩
    have skip:gG xs i j=none→∃(uV:List V) (x3:Option V),([some (.ref a),some (.ref M),some (.int (i:Int)),some (.int (0+(j:Int)))]:L2.St)=[some (.ref a),some (.ref M),some (.int (i:Int)),x3]∧ae H H3∧H3 M=some (.lst uV)∧Paired (lU H3) uV (fV xs i++gp xs i (j+1))∧uV.length≤i*12+(j+1):=fun e=>by
     refine⟨rs,_,rfl,s3,jc,?_,by omega⟩
     rw[Jc,e]
     simpa using gM
    rcases eG xs[j] (List.getElem_mem lu) with nj |⟨vj,nj⟩
    ·rw[nj]
     exact aM (aM (skip (by unfold gG;rw[rj,nj];rfl)))
    ·rw[nj]
     refine aX ?_
     refine⟨_,rfl,_,rfl,a,xs,_,_,rfl,rfl,ai.of rY,ei,_,rfl,?_⟩
     rcases eG xs[i] (List.getElem_mem bT) with ni |⟨vi,ni⟩
     ·rw[ni]
      exact aM (skip (by unfold gG;rw[rj,ri,nj,ni];rfl))
     ·rw[ni]
      refine aX ?_
      refine⟨_,rfl,.inl ⟨rfl,_,ah.of jc⟩,_,rfl,_,rfl,_,_,rfl,rfl,_,rfl,_,rfl,a,xs,_,_,rfl,rfl,ai.of rY,ei,_,rfl,_,rfl,a,xs,_,_,rfl,rfl,ai.of rY,ej,vi,vj,by rw[ni],by rw[nj],(by show 2≤sizeLine;decide),fun t' rL=> ?_⟩
      refine⟨_,rfl,_,rfl,(by show 3≤sizeLine;decide),fun t ht=> ?_⟩
      generalize mS:upd H3 t' (HO.tup [V.int ((i:Int) - (0+(j:Int))),V.int (vi - vj)])=H4 at ht
      have s4:ae H3 H4:=fun c o hc=>by rw[←mS,Zg (Ze hc rL)];exact hc
      have Hi:H4 t'=some (.tup [V.int ((i:Int) - (0+(j:Int))),V.int (vi - vj)]):=by rw[←mS];exact Zc
      generalize pE:upd H4 t (HO.tup [V.ref t',V.int (0+(j:Int)),V.int (i:Int)])=H5
      have s5:ae H4 H5:=fun c o hc=>by rw[←pE,Zg (Ze hc ht)];exact hc
      have An:H5 t=some (.tup [V.ref t',V.int (0+(j:Int)),V.int (i:Int)]):=by rw[←pE];exact Zc
      have iI:=s5 _ _ (s4 _ _ jc)
      have sX:aq M H3 (upd H5 M (.lst (rs++[.ref t]))):=(s4.trans s5).x.trans aq.upd
      have HQ:rs.length<sizeLine:=by rw[sizeLine_eq];omega
      refine⟨M,rs,_,rfl,rfl,iI,HQ,rs++[.ref t],_,rfl,?_,Zc,?_,by rw[List.length_append];simp;omega⟩
      ·intro c o hc
       have h3:=s3 _ _ hc
       exact sX c o h3 (Ze hc hM)
      ·rw[Jc,←List.append_assoc]
       have es:gG xs i j=some ((i:Int) - j,vi - vj,(j:Int),(i:Int)):=by unfold gG;rw[rj,ri,nj,ni];rfl
       rw[es]
       refine Paired.snoc (Paired.cu gM fun v q' hq=>hq.x jc sX) ⟨t,t',rfl,?_,?_⟩
       ·rw[Zg (Z7 An iI (by intro z;cases z)),An,Int.zero_add]
       ·have:=s5 _ _ Hi
        rw[Zg (Z7 this iI (by intro z;cases z)),this,Int.zero_add]
   ·rintro σ H3 ⟨rs,x3,rfl,s3,jc,gM,wc⟩
    have ei:((0:Int)+(i:Int)).toNat=i:=by omega
    rw[ei]at gM wc
    refine⟨rs,_,_,rfl,s3,jc,?_,by omega⟩
    rw[Z5]
    exact gM
  ·rintro σ H2 ⟨rs,x2,x3,rfl,s2,dS,cj,iJ⟩
   have e:((xs.length:Int)).toNat=xs.length:=by omega
   rw[e]at cj
   exact⟨_,rfl,q M H2 rs s2 hM dS cj⟩
end
section
def keyOf (q:nz):List Key:=[Sum.inl q.1,Sum.inl q.2.1]
def dF (xs:List V):Bool:=decide ((fV xs xs.length).map keyOf).Nodup
theorem Jl (xs:List V):∀n,(fV xs n).length≤n*n
 |0=>Nat.zero_le _
 |n+1=>by
  have ih:=Jl xs n
  have h2:(gp xs n n).length≤n:=by
   have:=List.length_filterMap_le (gG xs n) (List.range n)
   rw[List.length_range]at this
   exact this
  rw[Z5,List.length_append,Nat.add_mul,Nat.mul_add]
  omega
theorem Wa (xs:List V) (h:xs.length≤12):(fV xs xs.length).length≤144:=Nat.le_trans (Jl xs _) (Nat.mul_le_mul h h)
end
section
variable {P:Program}{w:World}{K:PySem.W.Frag}{mg:Str→Option Value}{base:Heap}
abbrev uD:Stmt:=top 42
def ud:Sp:=fun vs H Q _=> ∃(a:Addr) (xs:List V),vs=[.ref a]∧H a=some (.tup xs)∧nB xs∧xs.length≤12∧∀H',ae H H'→Q (.bl (dF xs)) H'
theorem oq:bu ["_law_lay_here", "_law_met", "_law_step", "_law_line", "_law_other"] ["_law_lay_here"] (ay uD):=⟨rfl,rfl,rfl,by decide+kernel,rfl,by decide+kernel,by decide+kernel⟩
theorem Paired.at {α β:Type}{F:α→β→Prop} :∀{jN:List α}{jM:List β}{i:Nat}{a:α},Paired F jN jM→jN[i]? =some a→∃b,jM[i]? =some b∧F a b
 |_,_,_,_,.nil,e=>by simp at e
 |_,_,0,_,.cons r _,e=>by simp at e;subst e;exact⟨_,rfl,r⟩
 |_,_,i+1,a,.cons _ t,e=>by
  obtain⟨u,h1,h2⟩:=Paired.at (i:=i) (a:=a) t (by simpa using e)
  exact⟨u,by simpa using h1,h2⟩
theorem UX {f:Addr}{fd:FuncData}(F:aH K "_law_unlike" "_law_unlike" uD f fd) (D1:Def P w K mg base 1 "_law_steps" ["_law_lay_here"] (ue K)):aA P w K mg base aG 2 f fd ["_law_lay_here"] ud:=by
 refine F.ok oq (fun vs H Q E h=> ?_) (fun ao A outer s H vs Q E hr h=> ?_)
 ·obtain⟨a,xs,rfl,_⟩:=h
  rfl
 ·obtain⟨a,xs,rfl,ha,eG,hlen,q⟩:=h
  have hu:=sJ hr
  refine⟨_,Zd (Zo (i:=1) oq.nd rfl (Or.inl rfl) Ui)
   (Zd (Yb PassesOwn.never rfl (Yl (Zj D1 hr (Za (pv 0) Zb))) (Yf rfl (Zt (ZB (i:=2) oq.nd rfl (Or.inl rfl)) (Zt (ZB (i:=3) oq.nd rfl (Or.inl rfl)) (Zt (ZB (i:=4) oq.nd rfl (Or.inl rfl)) Z2))))
    (Zd (ZS (Y6 (Mm hu (pv 2) (pv 1))) (Zl (ZC WB)) ZD) (Zl (CI hu (pv 1) (pv 2) WB rfl))))
   (Zl (ZC WB))),?_⟩
  intro d hd
  have s0:ae H (upd H d (.dT [])):=fun c o hc=>by rw[Zg (Ze hc hd)];exact hc
  have AZ:=s0 _ _ ha
  refine⟨_,rfl,a,xs,rfl,ai.of AZ,AZ,eG,hlen,fun l H1 rs s1 QN hl pr=> ⟨l,rfl,⟨rs,ah.of hl⟩,?_⟩⟩
  have rW:H1 d=some (.dT []):=s1 _ _ Zc
  have HY:l≠d:=Z7 hl rW (by intro z;cases z)
  generalize Ap:fV xs xs.length=qs at pr
  have GZ:dF xs=decide (qs.map keyOf).Nodup:=by unfold dF;rw[Ap]
  rw[GZ]at q
  have HU:rs.length=qs.length:=Paired.length pr
  refine YN (K:=K) (a:=l) (xs:=rs) (fun i σ H2=> ∃(kvs:List (List Key×V)) (x2 x3 x4:Option V),σ=[some (.ref a),some (.ref d),x2,x3,x4]∧aq d H1 H2∧H2 d=some (.dT kvs)∧kvs.map (·.1)=(qs.take i).map keyOf∧((qs.take i).map keyOf).Nodup)
   ⟨[],none,none,none,rfl,aq.refl _ _,rW,rfl,List.nodup_nil⟩ (fun i σ H2 _ ⟨_,_,_,_,_,k,_⟩=>ah.of (k _ _ hl HY)) ?_ ?_
  ·rintro i v σ H2 hv ⟨kvs,x2,x3,x4,rfl,k2,hd2,fF,mG⟩
   obtain⟨qq,hq,t,t',rfl,ht,rL⟩:=Paired.at pr hv
   have vN:=k2 _ _ ht (Z7 ht rW (by intro z;cases z))
   have Hk:=k2 _ _ rL (Z7 rL rW (by intro z;cases z))
   have wY:(qs.take (i+1)).map keyOf=(qs.take i).map keyOf++[keyOf qq]:=by rw[List.take_add_one,hq,List.map_append];rfl
   have AK:H2 t'=some (.tup ((keyOf qq).map kV)):=Hk
   refine⟨t,_,rfl,ai.of vN,rfl,_,_,rfl,_,_,rfl,_,_,rfl,rfl,?_⟩
   refine⟨_,rfl,_,rfl,d,_,rfl,ju.t hd2 AK,_,rfl,?_⟩
   have hsz:kvs.length<sizeLine:=by
    have e1:kvs.length=((qs.take i).map keyOf).length:=by rw[←fF,List.length_map]
    rw[List.length_map,List.length_take]at e1
    have:i<rs.length:=(List.getElem?_eq_some_iff.mp hv).1
    rw[sizeLine_eq]
    have Hw:=Wa xs hlen
    rw[Ap]at Hw
    omega
   cases e:bE kvs (keyOf qq) with
   |some z=>
    refine aX ?_
    have m:keyOf qq∈(qs.take i).map keyOf:=by rw[←fF];exact Ng e
    have HF:¬(qs.map keyOf).Nodup:=fun nd=>by
     have e2:qs.map keyOf=(qs.take (i+1)).map keyOf++(qs.drop (i+1)).map keyOf:=by rw[←List.map_append,List.take_append_drop]
     rw[e2,wY]at nd
     have:=(List.nodup_append.mp nd).1
     exact(List.nodup_append.mp this).2.2 _ m _ (List.mem_singleton.mpr rfl) rfl
    rw[decide_eq_false HF]at q
    exact q _ fun c o hc=>k2 c o (s1 _ _ (s0 _ _ hc)) (Ze hc hd)
   |none=>
    refine aM ?_
    refine⟨_,rfl,_,rfl,d,_,rfl,nJ.t hd2 AK hsz,putK kvs (keyOf qq) (.bl true),_,_,_,rfl,k2.trans aq.upd,Zc,?_,?_⟩
    ·rw[NZ _ e,List.map_append,fF,wY];rfl
    ·rw[wY]
     exact WW mG (by rw[←fF];exact N8 e)
  ·rintro σ H2 ⟨kvs,x2,x3,x4,rfl,k2,hd2,fF,mG⟩
   rw[HU,List.take_length]at mG
   rw[decide_eq_true mG]at q
   exact q _ fun c o hc=>k2 c o (s1 _ _ (s0 _ _ hc)) (Ze hc hd)
end
section
def Fe (K:PySem.W.Frag):R2:=fun x y H Q=> ∃a b ys,x=.ref a∧y=.ref b∧ai K H a []∧ai K H b ys∧Q (.ref b) H
def jK (K:PySem.W.Frag):R2:=fun x y H Q=>Fe K x y H Q∨zy K x y H Q
theorem Yn {X:Cx} :ba X (binaryOp .Add) (jK X.K):=OB.or MW
theorem Cr {K:PySem.W.Frag}{fa:Addr}{fs:List V}{y:V}{H:Hp}{Q:VK}{σ:L2.St}{i j:Nat}(hf:H fa=some (.tup fs)) (hl:fs.length≤100) (h1:σ[i]? =some (some (.ref fa))) (h2:σ[j]? =some (some y))
  (q:∀(a':Addr) (H':Hp),ae H H'→H' a'=some (.tup (fs++[y]))→Q (.ref a') H'):jA (jK K) (jz i) (qi (l7 (jz j) nV)) σ H Q:=by
 refine⟨_,h1,_,h2,(by show 1≤sizeLine;decide),fun t ht=> ?_⟩
 have s1:ae H (upd H t (.tup [y])):=fun c o hc=>by rw[Zg (Ze hc ht)];exact hc
 have AS:=s1 _ _ hf
 cases fs with
 |nil=>exact .inl ⟨fa,t,[y],rfl,rfl,ai.of AS,ai.of Zc,q t _ s1 Zc⟩
 |cons x r=>
  refine .inr ⟨fa,t,x::r,[y],rfl,rfl,ai.of AS,ai.of Zc,(by simp),(by rw[sizeLine_eq];simp at hl ⊢;omega),(fun e=>by cases e),fun _ p hp=> ?_⟩
  exact q p _ (s1.trans fun c o hc=>by rw[Zg (Ze hc hp)];exact hc) Zc
theorem Pa (n:Nat):L2.upTo (n+1)=L2.upTo n++[.int (n:Int)]:=by
 unfold L2.upTo
 rw[List.range_succ,List.map_append]
 rfl
theorem Om {n:Nat}{x:V}(h:x∈L2.upTo n):∃j:Nat,j<n∧x=.int (j:Int):=by
 unfold L2.upTo at h
 obtain⟨j,hj,e⟩:=List.mem_map.mp h
 exact⟨j,List.mem_range.mp hj,e.symm⟩
theorem JS {fs:List V}{y:V}{i:Nat}(h:i<fs.length):rowAt (fs++[y]) i=rowAt fs i:=by
 unfold rowAt
 rw[List.getElem?_append_left h]
theorem Uz {α β:Type}{f g:α→Option β} :∀{l:List α},(∀x∈l,f x=g x)→l.filterMap f=l.filterMap g
 | [],_=>rfl
 |a::l,h=>by
  rw[List.filterMap_cons,List.filterMap_cons,h a List.mem_cons_self,Uz fun x hx=>h x (List.mem_cons_of_mem _ hx)]
theorem Y4 {fs:List V}{y:V} :∀n,n≤fs.length→fV (fs++[y]) n=fV fs n
 |0,_=>rfl
 |n+1,h=>by
  rw[Z5,Z5,Y4 n (by omega)]
  congr 1
  unfold gp
  refine Uz fun j hj=> ?_
  have:=List.mem_range.mp hj
  unfold gG
  rw[JS (by omega),JS (by omega)]
theorem Uc {fs:List V}(h:dF fs=true):dF (fs++[.af])=true:=by
 unfold dF at h ⊢
 have e:(fs++[V.af]).length=fs.length+1:=by simp
 rw[e,Z5,Y4 _ (Nat.le_refl _)]
 have e2:gp (fs++[V.af]) fs.length fs.length=[]:=by
  unfold gp
  rw[List.filterMap_eq_nil_iff]
  intro j _
  unfold gG
  have e3:rowAt (fs++[V.af]) fs.length=none:=by unfold rowAt;simp;rfl
  rw[e3]
  cases rowAt (fs++[V.af]) j<;>rfl
 rw[e2,List.append_nil]
 exact h
theorem Ot {j:Int}{fs:List V}(h:(!ft (.int j) fs)=true):V.int j∉fs:=fun m=>by
 have:ft (.int j) fs=true:=List.any_eq_true.mpr ⟨_,m,by show(j==j)=true;simp⟩
 rw[this]at h
 cases h
theorem three {v:Int}(h:0≤v) (h':v<3):∃c:Int,dW ([V.int 0,.int 1,.int 3]:List V) v=some (.int c):=by
 have:v=0∨v=1∨v=2:=by omega
 rcases this with rfl |rfl |rfl<;>exact⟨_,rfl⟩
end
section
variable {P:Program}{w:World}{K:PySem.W.Frag}{mg:Str→Option Value}{base:Heap}
abbrev uO:Stmt:=top 43
def ui (K:PySem.W.Frag):Sp:=fun vs H Q _=> ∃(p b:Addr) (wd hg:Int),vs=[.ref p,.ref b]∧br H p∧fg H (.ref b) wd hg∧
 ∀(l:Addr) (H':Hp) (xs:List V),aq p H H'→br H' p→H' l=some (.tup xs)→l≠p→eP wd hg xs→dF xs=true→Q (.ref l) H'
theorem iD:bu ["_law_state_here", "_law_board_here", "_law_way", "_law_found", "_law_line", "_law_share", "_law_spot", "_law_left", "_law_some", "_law_row"] ["_law_state_here", "_law_board_here"] (ay uO):=⟨rfl,rfl,rfl,by decide+kernel,rfl,by decide+kernel,by decide+kernel⟩
theorem Ox {f:Addr}{fd:FuncData}(F:aH K "_law_grown" "_law_grown" uO f fd) (G:Gs mg) (D1:Def P w K mg base 1 "_law_take" ["_law_state_here", "_law_many"] iY) (D2:Def P w K mg base 2 "_law_unlike" ["_law_lay_here"] ud):
  aA P w K mg base aG 3 f fd ["_law_state_here", "_law_board_here"] (ui K):=by
 refine F.ok iD (fun vs H Q E h=> ?_) (fun ao A outer s H vs Q E hr h=> ?_)
 ·obtain⟨p,b,wd,hg,rfl,_⟩:=h
  rfl
 ·obtain⟨p,b,wd,hg,rfl,st,bd,q⟩:=h
  have vQ:=hr.mono (show 1≤2 by decide)
  refine⟨_,Zd (Jv (Zz (Za (Zj D1 vQ (Za (pv 0) (Za Zi Zb))) (Za (Zz Zb) Zb))) (Yf rfl (Zt (ZB (i:=2) iD.nd rfl (Or.inl rfl)) (Zt (ZB (i:=3) iD.nd rfl (Or.inr rfl)) Z2))))
   (Zd (Yb PassesOwn.never rfl (Z1 rfl G.range (Za (ZL Ye (pv 1) Zi (fun _ _=>rfl)) Zb)) (ZB (i:=4) iD.nd rfl (Or.inl rfl))
    (Zd (Ce (i:=5) (j:=6) rfl iD.nd rfl rfl (by decide) rfl rfl (Za (Zj D1 vQ (Za (pv 0) (Za Zi Zb))) (Za (Zj D1 vQ (Za (pv 0) (Za Zi Zb))) Zb)) rfl)
    (Zd (JL ["_law_row", "_law_found"] 1 [3] (i:=7) iD.nd rfl (Or.inl rfl) (Z1 rfl G.range (Za (ZL Ye (pv 1) Zi (fun _ _=>rfl)) Zb)) (fun C s H fp=>pb 0) (fun C s H fp=>YS (ZR (show ba (aV _ _ _ C s H fp) (compareOp .NotIn) (zx K true) from WU) (pv 0) (pv 1) rfl)) (fun C s H fp D=>ZT rfl (pv 0)))
    (Zd (JL ["_law_row", "_law_found"] 1 [3] (i:=8) iD.nd rfl (Or.inl rfl) (Yl (pv 7)) (fun C s H fp=>pb 0) (fun C s H fp=>YS (ZY (Zj D2 hr (Za (Zn (show ba (aV _ _ _ C s H fp) (binaryOp .Add) (jK K) from Yn) (pv 1) (Zz (Za (pv 0) Zb))) Zb)))) (fun C s H fp D=>ZT rfl (pv 0)))
    (Zd (Zo (i:=9) iD.nd rfl (Or.inl rfl) Yw)
    (Zd (ZS (PW.pt (WP (ZR (Cc hr.tL) (pv 8) (ZA Zb) (cq _)) (JK (ZR BZ (pv 5) (ZL ZN (ZA (Za Zi (Za Zi (Za Zi Zb)))) (pv 2) (fun _ _=>rfl)) (cq _)))))
     (Zl (Zo (i:=9) iD.nd rfl (Or.inl rfl) (ZL ZN (pv 8) (Zn Ys (pv 6) (Zk Zp rfl G.len boot_len (Za (pv 8) Zb))) (fun _ _=>rfl)))) ZD)
    (Zl (Zo (i:=3) iD.nd rfl (Or.inr rfl) (Zn Yn (pv 3) (Zz (Za (pv 9) Zb)))))))))))
   (Zl (ZC (pv 3)))),?_⟩
  obtain⟨a,e,hb⟩:=ZM bd.1
  cases e
  obtain⟨_,w1,w2,g1,g2⟩:=id bd
  obtain⟨u0,v0,e0,_⟩:=id st
  have j4:b≠p:=Z7 hb e0 (by intro z;cases z)
  refine⟨_,rfl,p,3,rfl,st,by decide,by decide,fun way o1 h1 pF aw=> ⟨Nat.zero_le _,fun f0 Iw=> ⟨(by show 2≤sizeLine;decide),fun tt Hd=> ⟨tt,_,rfl,ai.of Zc,rfl,_,_,rfl,_,_,rfl,rfl,?_⟩⟩⟩⟩
  have x1:aq p H (upd H p o1):=aq.upd
  have sA:ae (upd H p o1) (upd (upd H p o1) f0 (.tup [])):=fun c o hc=>by rw[Zg (Ze hc Iw)];exact hc
  have sB:ae (upd (upd H p o1) f0 (.tup [])) (upd (upd (upd H p o1) f0 (.tup [])) tt (.tup [.int way,.ref f0])):=fun c o hc=>by rw[Zg (Ze hc Hd)];exact hc
  generalize wI:upd (upd (upd H p o1) f0 (HO.tup [])) tt (HO.tup [V.int way,V.ref f0])=H0 at sB
  have x0:aq p H H0:=x1.trans (sA.trans sB).x
  obtain⟨u1,v1,e1,y1,y2,y3⟩:=id aw
  have cZ:br H0 p:=⟨u1,v1,(sA.trans sB) _ _ e1,y1,y2,y3⟩
  have wC:=x0 _ _ hb j4
  refine⟨_,rfl,b,_,_,_,rfl,rfl,ai.of wC,nu,wd,rfl,by omega,by omega,?_⟩
  refine Z3 (n:=wd.toNat) (fun i σ H2=> ∃(fa:Addr) (fs:List V) (x4 x5 x6 x7 x8 x9:Option V),σ=[some (.ref p),some (.ref b),some (.int way),some (.ref fa),x4,x5,x6,x7,x8,x9]∧aq p H H2∧br H2 p∧H2 fa=some (.tup fs)∧fs.length=i∧
    (∀r∈rowsOf fs,bM r 0 (hg - 1)=true)∧(rowsOf fs).Nodup∧dF fs=true)
   ⟨f0,[],none,none,none,none,none,none,rfl,x0,cZ,sB _ _ Zc,rfl,(fun r cY=>nomatch (show r∈([]:List V) from cY)),List.nodup_nil,rfl⟩ ?_ ?_
  ·rintro i σ H2 hi ⟨fa,fs,x4,x5,x6,x7,x8,x9,rfl,k2,aj,oR,AR,eG,dw,vK⟩
   have bT:i<wd.toNat:=hi
   refine⟨_,rfl,p,4,rfl,aj,by decide,by decide,fun sh o3 _ _ aF=> ?_⟩
   refine⟨_,rfl,p,12,rfl,aF,by decide,by decide,fun sp o4 Ao iG cm=> ⟨_,_,rfl,?_⟩⟩
   generalize mS:upd (upd H2 p o3) p o4=H4 at cm
   have xY:aq p H2 H4:=by rw[←mS];exact aq.upd.trans aq.upd
   obtain⟨uz,vz,ez,_⟩:=id aj
   have Ir:fa≠p:=Z7 oR ez (by intro z;cases z)
   have wk:=xY _ _ oR Ir
   have k4:aq p H H4:=k2.trans xY
   have IS:=k4 _ _ hb j4
   have zu:nB fs:=fun x hx=>by
    by_cases e:x=.af
    ·exact .inl e
    ·have m:x∈rowsOf fs:=List.mem_filter.mpr ⟨hx,by simp[e]⟩
     have q':=eG x m
     cases x with
     |int i=>exact .inr ⟨i,rfl⟩
     |_=>cases q'
   have flat:fs.all gz=true:=List.all_eq_true.mpr fun x hx=>by
    rcases zu x hx with z |⟨j,z⟩<;>rw[z]<;>rfl
   refine⟨_,rfl,b,_,_,_,rfl,rfl,ai.of IS,cO,hg,rfl,by omega,by omega,?_⟩
   refine J6 (n:=hg.toNat) (fun j ys ak H'=>ys=(L2.upTo j).filter (fun r=> !ft r fs)∧H'=H4∧∃v,ak=[v,some (.ref fa)]) ⟨rfl,rfl,none,rfl⟩ ?_ ?_
   ·rintro j ys ak H' hj ⟨rfl,rfl,v,rfl⟩
    have eu:(L2.upTo (j+1)).filter (fun r=> !ft r fs)=(L2.upTo j).filter (fun r=> !ft r fs)++(if (!ft (.int (0+(j:Int))) fs)=true then [V.int (0+(j:Int))] else []):=by
     rw[Pa,List.filter_append,Int.zero_add]
     cases hh:(!ft (.int (j:Int)) fs)<;>simp[hh]
    refine⟨_,rfl,_,rfl,fa,fs,rfl,.inr (ai.of wk),rfl,flat,_,rfl,?_⟩
    show if (!ft (.int (0+(j:Int))) fs)=true then _ else _
    cases hh:(!ft (.int (0+(j:Int))) fs) with
    |true=>
     rw[hh]at eu
     refine aX ?_
     refine⟨_,rfl,?_,?_⟩
     ·have:=List.length_filter_le (fun r=> !ft r fs) (L2.upTo j)
      have e2:(L2.upTo j).length=j:=by unfold L2.upTo;simp
      rw[sizeLine_eq]
      omega
     ·exact⟨by rw[eu,if_pos rfl],rfl,_,rfl⟩
    |false=>
     rw[hh]at eu
     exact aM ⟨by rw[eu,if_neg Bool.false_ne_true,List.append_nil],rfl,_,rfl⟩
   ·rintro ys ak H' ⟨rfl,rfl,v,rfl⟩ L hL
    generalize AI:(L2.upTo hg.toNat).filter (fun r=> !ft r fs)=ls
    have sL:ae H' (upd H' L (.lst ls)):=fun c o hc=>by rw[Zg (Ze hc hL)];exact hc
    generalize pE:upd H' L (HO.lst ls)=H5 at sL
    have mQ:H5 L=some (.lst ls):=by rw[←pE];exact Zc
    have QL:ls.length≤12:=by
     have:=List.length_filter_le (fun r=> !ft r fs) (L2.upTo hg.toNat)
     have e2:(L2.upTo hg.toNat).length=hg.toNat:=by unfold L2.upTo;simp
     rw[AI]at this
     omega
    have good:∀y∈ls,∃j:Int,y=.int j∧0≤j∧j<hg∧V.int j∉fs:=fun y hy=>by
     rw[←AI]at hy
     obtain⟨m1,m2⟩:=List.mem_filter.mp hy
     obtain⟨j,hj,rfl⟩:=Om m1
     exact⟨j,rfl,by omega,by omega,Ot m2⟩
    refine⟨_,rfl,L,rfl,⟨ls,ah.of mQ⟩,?_⟩
    refine YV (xs:=ls) (fun j ys ak jt=>ys=(ls.take j).filter (fun r=>dF (fs++[r]))∧ae H5 jt∧∃v,ak=[v,some (.ref fa)]) ⟨rfl,ae.refl _,none,rfl⟩ (fun j ys ak jt _ ⟨_,s',_⟩=>ah.of (s' _ _ mQ)) ?_ ?_
    ·rintro j y ys ak jt hy ⟨rfl,s',v,rfl⟩
     obtain⟨jj,ey,_,_,_⟩:=good y (List.mem_of_getElem? hy)
     have eu:(ls.take (j+1)).filter (fun r=>dF (fs++[r]))=(ls.take j).filter (fun r=>dF (fs++[r]))++(if dF (fs++[y])=true then [y] else []):=by
      rw[List.take_add_one,hy,List.filter_append]
      cases hh:dF (fs++[y])<;>simp[hh]
     have Iv:=s' _ _ (sL _ _ wk)
     refine Cr (i:=1) (j:=0) Iv (by omega) rfl rfl fun a' H7 s7 o9=> ?_
     refine⟨a',fs++[y],rfl,o9,fun x hx=> ?_,by rw[List.length_append];simp;omega,fun H8 s8=> ⟨_,rfl,?_⟩⟩
     ·rcases List.mem_append.mp hx with z |z
      ·exact zu x z
      ·exact .inr ⟨jj,by rw[List.mem_singleton.mp z,ey]⟩
     cases hh:dF (fs++[y]) with
     |true=>
      rw[hh]at eu
      refine aX ?_
      refine⟨_,rfl,?_,?_⟩
      ·have:=List.length_filter_le (fun r=>dF (fs++[r])) (ls.take j)
       rw[List.length_take]at this
       rw[sizeLine_eq]
       omega
      ·exact⟨by rw[eu,if_pos rfl],s'.trans (s7.trans s8),_,rfl⟩
     |false=>
      rw[hh]at eu
      exact aM ⟨by rw[eu,if_neg Bool.false_ne_true,List.append_nil],s'.trans (s7.trans s8),_,rfl⟩
    ·rintro ys ak jt ⟨rfl,s',v,rfl⟩ S hS
     rw[List.take_length]
     generalize wg:ls.filter (fun r=>dF (fs++[r]))=gs
     have sS:ae jt (upd jt S (.lst gs)):=fun c o hc=>by rw[Zg (Ze hc hS)];exact hc
     generalize Bh:upd jt S (HO.lst gs)=H6 at sS
     have A9:H6 S=some (.lst gs):=by rw[←Bh];exact Zc
     have zp:ae H' H6:=sL.trans (s'.trans sS)
     obtain⟨u4,v4,e4,z1,z2,z3⟩:=id cm
     have fin:∀(y:V) (H7:Hp) (b5 b6 b7 b8:Option V) (D:Ends),(D.nx=fun σ H2=> ∃(fa:Addr) (fs:List V) (x4 x5 x6 x7 x8 x9:Option V),σ=[some (.ref p),some (.ref b),some (.int way),some (.ref fa),x4,x5,x6,x7,x8,x9]∧aq p H H2∧br H2 p∧H2 fa=some (.tup fs)∧fs.length=i+1∧
       (∀r∈rowsOf fs,bM r 0 (hg - 1)=true)∧(rowsOf fs).Nodup∧dF fs=true)→ae H6 H7→(y=.af∨y∈gs)→
       nW (jA (jK K) (jz 3) (qi (l7 (jz 9) nV))) (fb 3) D [some (.ref p),some (.ref b),some (.int way),some (.ref fa),some (.int (0+(i:Int))),b5,b6,b7,b8,some y] H7:=fun y H7 b5 b6 b7 b8 D eD s7 hy=>by
      have Iu:=s7 _ _ (zp _ _ wk)
      refine Cr (i:=3) (j:=9) Iu (by omega) rfl rfl fun a' H8 s8 o9=> ?_
      show D.nx _ _
      rw[eD]
      have zo:ae H' H8:=zp.trans (s7.trans s8)
      refine⟨a',fs++[y],_,_,_,_,_,_,rfl,k4.trans zo.x,⟨u4,v4,zo _ _ e4,z1,z2,z3⟩,o9,by rw[List.length_append,AR];rfl,?_⟩
      rcases hy with rfl |hy
      ·have e9:rowsOf (fs++[.af])=rowsOf fs:=by rw[Z6];simp
       rw[e9]
       exact⟨eG,dw,Uc vK⟩
      ·rw[←wg]at hy
       obtain⟨m1,m2⟩:=List.mem_filter.mp hy
       obtain⟨jj,rfl,j1,j2,j3⟩:=good y m1
       have e9:rowsOf (fs++[.int jj])=rowsOf fs++[.int jj]:=by rw[Z6];rfl
       rw[e9]
       refine⟨fun r cY=> ?_,?_,m2⟩
       ·rcases List.mem_append.mp cY with z |z
        ·exact eG r z
        ·rw[List.mem_singleton.mp z]
         show(decide ((0:Int)≤jj)&&decide (jj≤hg - 1))=true
         rw[decide_eq_true j1,decide_eq_true (by omega)]
         rfl
       ·exact WW dw fun m=>j3 (List.mem_filter.mp m).1
     refine⟨_,rfl,Nat.zero_le _,fun q2 bh=> ?_⟩
     have sD:ae H6 (upd H6 q2 (.lst [])):=fun c o hc=>by rw[Zg (Ze hc bh)];exact hc
     refine⟨S,q2,gs,rfl,rfl,ah.of (sD _ _ A9),ah.of Zc,_,rfl,?_⟩
     generalize QR:upd H6 q2 (HO.lst [])=H7 at sD
     cases oS:gs.isEmpty with
     |true=>exact aM (aM (fin .af H7 _ _ _ _ _ rfl sD (.inl rfl)))
     |false=>
      refine aX ?_
      have bP:gs≠[]:=fun z=>by rw[z]at oS;cases oS
      have Hx:0<gs.length:=List.length_pos_iff.mpr bP
      refine⟨_,rfl,(by show 3≤sizeLine;decide),fun q3 lg=> ?_⟩
      obtain⟨c3,IK⟩:=three h1 pF
      have sE:ae H7 (upd H7 q3 (.lst [.int 0,.int 1,.int 3])):=fun c o hc=>by rw[Zg (Ze hc lg)];exact hc
      refine⟨_,rfl,q3,_,_,_,rfl,rfl,ah.of Zc,IK,_,_,rfl,rfl,_,rfl,?_⟩
      generalize QQ:upd H7 q3 (HO.lst [V.int 0,.int 1,.int 3])=H8 at sE
      have A0:=sE _ _ (sD _ _ A9)
      have m1:0≤sp%(gs.length:Int):=Int.emod_nonneg _ (by omega)
      have m2:sp%(gs.length:Int)<gs.length:=Int.emod_lt_of_pos _ (by omega)
      have m3:(sp%(gs.length:Int)).toNat<gs.length:=by omega
      have m5:dW gs (sp%(gs.length:Int))=some gs[(sp%(gs.length:Int)).toNat]:=by
       have:=ZU (xs:=gs) (List.getElem?_eq_getElem m3)
       rw[Int.toNat_of_nonneg m1]at this
       exact this
      refine rH (fun _=> ?_) (fun _=>fin .af H8 _ _ _ _ _ rfl (sD.trans sE) (.inl rfl))
      refine⟨_,rfl,_,rfl,_,rfl,S,gs,rfl,.inl (ah.of A0),_,_,rfl,rfl,(by show(0:Int)< (gs.length:Int);omega),S,gs,_,_,rfl,rfl,ah.of A0,m5,?_⟩
      exact fin _ H8 _ _ _ _ _ rfl (sD.trans sE) (.inr (List.getElem_mem m3))
  ·rintro σ H2 ⟨fa,fs,x4,x5,x6,x7,x8,x9,rfl,k2,aj,oR,AR,eG,dw,vK⟩
   obtain⟨uz,vz,ez,_⟩:=id aj
   exact⟨_,rfl,q fa H2 fs k2 aj oR (Z7 oR ez (by intro z;cases z)) ⟨by omega,eG,dw⟩ vK⟩
end
section
def aI (xs:List V):List (Int×Int):=(List.range xs.length).filterMap fun l=> (rowAt xs l).map fun r=> ((l:Int),r)
def nC (H:Hp) (v:V) (q:Int×Int):Prop:=∃t:Addr,v=.ref t∧H t=some (.tup [.int q.1,.int q.2])
theorem nC.same {H H':Hp}{v:V}{q:Int×Int}(h:nC H v q) (s:ae H H'):nC H' v q:=by
 obtain⟨t,e,h1⟩:=h
 exact⟨t,e,s _ _ h1⟩
end
section
variable {P:Program}{w:World}{K:PySem.W.Frag}{mg:Str→Option Value}{base:Heap}
abbrev qH:Stmt:=top 26
def cP (H:Hp) (x y:V) (wd hg:Int) (xs:List V):Prop:=fg H x wd hg∧aY H y=some xs∧eP wd hg xs
theorem cP.same {H H':Hp}{x y:V}{wd hg:Int}{xs:List V}(h:cP H x y wd hg xs) (s:ae H H'):cP H' x y wd hg xs:=⟨h.1.same s,s.aY h.2.1,h.2.2⟩
theorem cP.pl {H:Hp}{x y:V}{wd hg:Int}{xs:List V}(h:cP H x y wd hg xs):fe K H y:=by
 obtain⟨a,rfl,ha⟩:=ZM h.2.1
 refine⟨⟨_,.tup ha⟩,fun zs e z hz=> ?_⟩
 rw[h.2.1]at e
 cases e
 rcases h.2.2.ok z hz with rfl |⟨i,rfl⟩
 ·exact⟨_,.af⟩
 ·exact⟨_,.int i⟩
def tY:Sp:=fun vs H Q _=> ∃x y wd hg xs,vs=[x,y]∧cP H x y wd hg xs∧∀H',ae H H'→Q .af H'
theorem yX:bu ["board", "lay"] ["board", "lay"] (ay qH):=⟨rfl,rfl,rfl,by decide+kernel,rfl,by decide+kernel,by decide+kernel⟩
theorem UW {f:Addr}{fd:FuncData}(F:aH K "need_lay" "need_lay" qH f fd) (D1:Def P w K mg base 5 "is_lay" ["board", "thing"] (qw K)):aA P w K mg base aG 6 f fd ["board", "lay"] tY:=by
 refine F.ok yX (fun vs H Q E h=> ?_) (fun ao A outer s H vs Q E hr h=> ?_)
 ·obtain⟨x,y,wd,hg,xs,rfl,_⟩:=h
  rfl
 ·obtain⟨x,y,wd,hg,xs,rfl,l,q⟩:=h
  refine⟨_,Zl (ZS (Yk (ZY (Zj D1 hr (Za (pv 0) (Za (pv 1) Zb))))) Zy ZD),?_⟩
  refine⟨x,rfl,y,rfl,x,y,wd,hg,rfl,l.1,l.pl,fun H' sm=> ⟨_,rfl,?_⟩⟩
  rw[l.2.1,l.2.2.is]
  exact aM (q H' sm)
def qu:Sp:=fun vs H Q _=> ∃x y wd hg xs,vs=[x,y]∧cP H x y wd hg xs∧∀(l:Addr) (H':Hp) (ps:List V),ae H H'→H l=none→H' l=some (.lst ps)→Paired (nC H') ps (aI xs)→Q (.ref l) H'
end
section
def qT (xs:List V) (n:Nat):List (Int×Int):=(List.range n).filterMap fun l=> (rowAt xs l).map fun r=> ((l:Int),r)
theorem JT (xs:List V) (n:Nat):qT xs (n+1)=qT xs n++((rowAt xs n).map fun r=> ((n:Int),r)).toList:=by
 unfold qT
 rw[List.range_succ,List.filterMap_append]
 cases h:rowAt xs n<;>simp[h]
end
section
variable {P:Program}{w:World}{K:PySem.W.Frag}{mg:Str→Option Value}{base:Heap}
abbrev qG:Stmt:=top 27
theorem yV:bu ["board", "lay"] ["board", "lay"] (ay qG):=⟨rfl,rfl,rfl,by decide+kernel,rfl,by decide+kernel,by decide+kernel⟩
theorem OX {f:Addr}{fd:FuncData}(F:aH K "points" "points" qG f fd) (G:Gs mg) (D1:Def P w K mg base 6 "need_lay" ["board", "lay"] tY):aA P w K mg base aG 7 f fd ["board", "lay"] qu:=by
 refine F.ok yV (fun vs H Q E h=> ?_) (fun ao A outer s H vs Q E hr h=> ?_)
 ·obtain⟨x,y,wd,hg,xs,rfl,_⟩:=h
  rfl
 ·obtain⟨x,y,wd,hg,xs,rfl,l,q⟩:=h
  refine⟨_,Zd (ZK (Zj D1 hr (Za (pv 0) (Za (pv 1) Zb))))
   (Zl (ZC (Yu ["line", "row"] 2 [] (M5 rfl G.enumerate (Za (pv 1) Zb))
    (fun C s H fp=>show PG (aV _ _ _ C s H fp) _ (mU K 2 (hX (fb 0) (hX (fb 1) mV))) from Yf rfl (Zt (pb 0) (Zt (pb 1) Z2)))
    (fun C s H fp=>YS (Y6 (YF (pv 1)))) (fun C s H fp D=>ZT rfl (Zz (Za (pv 0) (Za (pv 1) Zb))))))),?_⟩
  refine⟨x,rfl,y,rfl,x,y,wd,hg,xs,rfl,l,fun H1 s1=> ?_⟩
  obtain⟨a,rfl,ha⟩:=ZM (l.same s1).2.1
  have hlen:xs.length≤12:=by
   have h1:=l.2.2.len
   have h2:=l.1.2.2.1
   omega
  refine⟨_,rfl,a,rfl,⟨xs,ai.of ha⟩,?_⟩
  refine OQ (xs:=xs) (fun i ys σ H2=> ∃v0 v1,σ=[v0,v1]∧ae H1 H2∧Paired (nC H2) ys (qT xs i)∧ys.length≤i) ⟨_,_,rfl,ae.refl _,.nil,Nat.zero_le _⟩ (fun i ys σ H2 _ ⟨_,_,_,s2,_⟩=>ai.of (s2 _ _ ha)) ?_ ?_
  ·rintro i v T ys σ H2 hv hT ⟨v0,v1,rfl,s2,cj,iJ⟩
   have hi:i<xs.length:=(List.getElem?_eq_some_iff.mp hv).1
   have sT:ae H2 (upd H2 T (.par [.int (i:Int),v])):=fun c o hc=>by rw[Zg (Ze hc hT)];exact hc
   have er:rowAt xs i=kG v:=by unfold rowAt;rw[hv];rfl
   refine⟨T,_,rfl,ai.qZ Zc,rfl,_,_,rfl,_,_,rfl,rfl,?_⟩
   refine⟨_,rfl,_,rfl,?_⟩
   generalize Bi:upd H2 T (HO.par [V.int (i:Int),v])=H3 at sT
   rcases l.2.2.ok v (List.mem_of_getElem? hv) with rfl |⟨r,rfl⟩
   ·refine aM ⟨_,_,rfl,s2.trans sT,?_,by omega⟩
    rw[JT,er]
    exact(by simpa[kG] using Paired.cu cj fun v q' hq=>hq.same sT)
   ·refine aX ?_
    refine⟨_,rfl,_,rfl,(by show 2≤sizeLine;decide),fun t ht=> ⟨by rw[sizeLine_eq];omega,?_⟩⟩
    have s4:ae H3 (upd H3 t (.tup [.int (i:Int),.int r])):=fun c o hc=>by rw[Zg (Ze hc ht)];exact hc
    refine⟨_,_,rfl,s2.trans (sT.trans s4),?_,by rw[List.length_append];simp;omega⟩
    rw[JT,er]
    exact Paired.snoc (Paired.cu cj fun v q' hq=>hq.same (sT.trans s4)) ⟨t,rfl,Zc⟩
  ·rintro ys σ H2 ⟨v0,v1,rfl,s2,cj,iJ⟩ p hp
   have s4:ae H2 (upd H2 p (.lst ys)):=fun c o hc=>by rw[Zg (Ze hc hp)];exact hc
   exact q p _ ys (s1.trans (s2.trans s4)) ((s1.trans s2).free hp) Zc (Paired.cu cj fun v q' hq=>hq.same s4)
end
end U
namespace U
open PySem L2 PyProof.Rows PyProof.Rows.fK
section
theorem WR (xs:List V):(aI xs).length≤xs.length:=by
 unfold aI
 have:=List.length_filterMap_le (fun l:Nat=> (rowAt xs l).map fun r=> ((l:Int),r)) (List.range xs.length)
 rw[List.length_range]at this
 exact this
theorem CD {xs:List V}{p:Int×Int} :p∈aI xs↔∃l:Nat,l<xs.length∧rowAt xs l=some p.2∧p.1=(l:Int):=by
 unfold aI
 rw[List.mem_filterMap]
 constructor
 ·rintro⟨l,hl,e⟩
  rw[Option.map_eq_some_iff]at e
  obtain⟨r,hr,rfl⟩:=e
  exact⟨l,List.mem_range.mp hl,hr,rfl⟩
 ·rintro⟨l,hl,hr,e⟩
  refine⟨l,List.mem_range.mpr hl,?_⟩
  rw[hr,Option.map_some,←e]
theorem NK (xs:List V):(aI xs).Pairwise fun a b=>a.1≠b.1:=by
 unfold aI
 rw[List.pairwise_filterMap]
 refine List.Pairwise.imp ?_ (List.nodup_iff_pairwise_ne.mp List.nodup_range)
 intro l l' bP q hq q' oH
 rw[Option.map_eq_some_iff]at hq oH
 obtain⟨_,_,rfl⟩:=hq
 obtain⟨_,_,rfl⟩:=oH
 show(l:Int)≠(l':Int)
 omega
end
end U
namespace U
open PySem L2 PyProof.Rows
section
abbrev mZ:List Value:=[.type "ValueError",.type "Exception",.type "BaseException",.type "object"]
structure xP (K:PySem.W.Frag) (mg:Str→Option Value) (cB cL:Addr):Prop where
 mB:mg "NoBoard" =some (.ref cB)
 xB:PySem.W.excIn K cB mZ "ValueError.__new__" =true
 mL:mg "NoLay" =some (.ref cL)
 xL:PySem.W.excIn K cL mZ "ValueError.__new__" =true
def gD (K:PySem.W.Frag) (H:Hp) (x:V):Prop:=fe K H x∧kQ (aY H x)=false
def ku (K:PySem.W.Frag) (cB cL:Addr) (H:Hp) (x y:V) (C:Addr):Prop:=
 (C=cB∧gD K H x)∨(C=cL∧∃wd hg,fg H x wd hg∧fe K H y∧gR wd hg (aY H y)=false)
theorem JG {K:PySem.W.Frag}{H H1:Hp}{y:V}(ty:ck K H y) (s1:ae H H1) (e:aY H y=none):aY H1 y=none:=by
 obtain⟨T,t⟩:=ty
 cases t with
 |tup e2=>rw[Zx e2]at e;cases e
 |lst e2=>rw[Zw,s1 _ _ e2];rfl
 |aT e2=>rw[Zw,s1 _ _ e2];rfl
 |dK e2=>rw[Zw,s1 _ _ e2];rfl
 |dT e2=>rw[Zw,s1 _ _ e2];rfl
 |_=>rfl
theorem Yz {K:PySem.W.Frag}{H H1:Hp}{y:V}(ty:ck K H y) (s1:ae H H1):aY H1 y=aY H y:=by
 cases e:aY H y with
 |none=>exact JG ty s1 e
 |some xs=>exact s1.aY e
theorem fe.same {K:PySem.W.Frag}{H H1:Hp}{y:V}(p:fe K H y) (s1:ae H H1):fe K H1 y:=by
 refine⟨s1.gN p.1,fun xs e z hz=>s1.gN (p.2 xs ?_ z hz)⟩
 rw[←Yz p.1 s1];exact e
theorem gD.same {K:PySem.W.Frag}{H H1:Hp}{x:V}(b:gD K H x) (s1:ae H H1):gD K H1 x:=⟨b.1.same s1,by rw[Yz b.1.1 s1];exact b.2⟩
theorem ku.same {K:PySem.W.Frag}{cB cL:Addr}{H H1:Hp}{x y:V}{C:Addr}(b:ku K cB cL H x y C) (s1:ae H H1):ku K cB cL H1 x y C:=by
 rcases b with ⟨e,b⟩ |⟨e,wd,hg,b1,b2,b3⟩
 ·exact .inl ⟨e,b.same s1⟩
 ·exact .inr ⟨e,wd,hg,b1.same s1,b2.same s1,by rw[Yz b2.1 s1];exact b3⟩
end
section
variable {P:Program}{w:World}{K:PySem.W.Frag}{mg:Str→Option Value}{base:Heap}{cB cL:Addr}
def ua (K:PySem.W.Frag) (cB:Addr):Sp:=fun vs H _ E=> ∃x,vs=[x]∧gD K H x∧∀e H',ae H H'→E (.ref e) (some cB) H'
theorem Wo {f:Addr}{fd:FuncData}(F:aH K "need_board" "need_board" qI f fd) (G:Gs mg) (X:xP K mg cB cL) (D1:Def P w K mg base 3 "is_board" ["thing"] (qA K)):aA P w K mg base (bB P w) 4 f fd ["board"] (ua K cB):=by
 obtain⟨tk,hL⟩:=G.longest
 refine F.i8 yY (fun vs H Q E h=> ?_) (fun ao A outer s H vs Q E hr h=> ?_)
 ·obtain⟨x,rfl,_⟩:=h
  rfl
 ·obtain⟨x,rfl,b,q⟩:=h
  refine⟨_,Zl (ZS (Yk (ZY (Zj D1 hr (Za (pv 0) Zb)))) (Zl (JU PySem.F.excBase_ValueError X.mB X.xB rfl (Za (M3 JX (ZO (v:=.int 12) rfl hL ⟨_,rfl⟩)) Zb))) ZD),?_⟩
  refine⟨x,rfl,x,rfl,b.1,fun H' sm=> ⟨_,rfl,?_⟩⟩
  rw[b.2]
  exact aX ⟨_,rfl,by decide,12,rfl,by decide,by decide,fun z=> ⟨by show 1≤sizeLine;decide,fun e=>q e H' sm⟩⟩
def ub (K:PySem.W.Frag) (cB:Addr):Sp:=fun vs H _ E=> ∃x y,vs=[x,y]∧gD K H x∧∀e H',ae H H'→E (.ref e) (some cB) H'
theorem MT {f:Addr}{fd:FuncData}(F:aH K "is_lay" "is_lay" qK f fd) (D1:bV P w K mg base 4 "need_board" ["board"] (ua K cB)):aA P w K mg base (bB P w) 5 f fd ["board", "thing"] (ub K cB):=by
 refine F.i8 oo (fun vs H Q E h=> ?_) (fun ao A outer s H vs Q E hr h=> ?_)
 ·obtain⟨x,y,rfl,_⟩:=h
  rfl
 ·obtain⟨x,y,rfl,b,q⟩:=h
  refine⟨_,Zd (ZK (Z4 D1 hr (Za (pv 0) Zb))) Zy,?_⟩
  exact⟨x,rfl,x,rfl,b,q⟩
def iA (K:PySem.W.Frag) (cB cL:Addr):Sp:=fun vs H _ E=> ∃x y C,vs=[x,y]∧ku K cB cL H x y C∧∀e H',ae H H'→E (.ref e) (some C) H'
theorem Um {f:Addr}{fd:FuncData}(F:aH K "need_lay" "need_lay" qH f fd) (X:xP K mg cB cL) (D1:bV P w K mg base 5 "is_lay" ["board", "thing"] (ub K cB)) (D2:Def P w K mg base 5 "is_lay" ["board", "thing"] (qw K)):
  aA P w K mg base (bB P w) 6 f fd ["board", "lay"] (iA K cB cL):=by
 refine F.i8 yX (fun vs H Q E h=> ?_) (fun ao A outer s H vs Q E hr h=> ?_)
 ·obtain⟨x,y,C,rfl,_⟩:=h
  rfl
 ·obtain⟨x,y,C,rfl,b,q⟩:=h
  rcases b with ⟨rfl,b⟩ |⟨rfl,wd,hg,b1,b2,b3⟩
  ·refine⟨_,Zl (ZS (Yk (ZY (Z4 D1 hr (Za (pv 0) (Za (pv 1) Zb))))) Zy ZD),?_⟩
   exact⟨x,rfl,y,rfl,x,y,rfl,b,q⟩
  ·refine⟨_,Zl (ZS (Yk (ZY (Zj D2 hr (Za (pv 0) (Za (pv 1) Zb))))) (Zl (JU PySem.F.excBase_ValueError X.mL X.xL rfl (Za JX Zb))) ZD),?_⟩
   refine⟨x,rfl,y,rfl,x,y,wd,hg,rfl,b1,b2,fun H' sm=> ⟨_,rfl,?_⟩⟩
   rw[b3]
   exact aX ⟨by show 1≤sizeLine;decide,fun e=>q e H' sm⟩
theorem UV {f:Addr}{fd:FuncData}(F:aH K "points" "points" qG f fd) (D1:bV P w K mg base 6 "need_lay" ["board", "lay"] (iA K cB cL)):aA P w K mg base (bB P w) 7 f fd ["board", "lay"] (iA K cB cL):=by
 refine F.i8 yV (fun vs H Q E h=> ?_) (fun ao A outer s H vs Q E hr h=> ?_)
 ·obtain⟨x,y,C,rfl,_⟩:=h
  rfl
 ·obtain⟨x,y,C,rfl,b,q⟩:=h
  refine⟨_,Zd (ZK (Z4 D1 hr (Za (pv 0) (Za (pv 1) Zb)))) Zy,?_⟩
  exact⟨x,rfl,y,rfl,x,y,C,rfl,b,q⟩
end
section
def zM:List Str:=["NoBoard", "NoLay", "NoNumber", "NoPoints", "NoPoint", "NoPaper", "NoUnlike", "NoPrime", "NoRoot", "NoTurn", "TooFew", "TooMany", "NoText", "NoLine", "NoDeed"]
structure lW (K:PySem.W.Frag) (mg:Str→Option Value) (cS C:Addr) (iC:Nat):Prop where
 z:lZ K C
 ms:mg "StepError" =some (.ref cS)
 xs:PySem.W.exmOne K (.ref C) (.ref cS)=some true
 m:∀i,i<15→∃c,mg (zM.getD i "")=some (.ref c)∧PySem.W.kitOne K (.ref C) (.ref c)=some (decide (i=iC))
 mv:mg "ValueError" =none
 xv:PySem.W.kitOne K (.ref C) (.type "ValueError")=some true
end
section
variable {P:Program}{w:World}{K:PySem.W.Frag}{mg:Str→Option Value}{base:Heap}
abbrev uC:Stmt:=top 37
def l9 (P:Program) (w:World) (K:PySem.W.Frag) (mg:Str→Option Value) (base:Heap) (cS:Addr) (k:Nat):Sp:=fun vs H Q _=> ∃f fd sp C iC,vs=[.ref f]∧(iC=0∨iC=1∨iC=2)∧lW K mg cS C iC∧(∀s,bg P w H s→PySem.W.FnAt f s)∧aA P w K mg base (bB P w) k f fd [] sp∧
 (∀s,BindsTo s fd ⟨[],[]⟩ [])∧(∀Q' E',(∀e H',ae H H'→E' (.ref e) (some C) H')→sp [] H Q' E')∧∀l H',ae H H'→H l=none→H' l=some (.lst [.int (iC:Int)])→Q (.ref l) H'
theorem iZ:bu ["_law_call", "_law_error", "e", "_law_marks"] ["_law_call"] (ay uC):=⟨rfl,rfl,rfl,by decide+kernel,rfl,by decide+kernel,by decide+kernel⟩
def bF (iC n:Nat):List V:=(List.range n).map fun i=>V.bl (decide (i=iC))
theorem Zf {H:Hp}{p:Addr}{o:HO}(h:H p=none):ae H (upd H p o):=fun b u hb=>by rw[Zg (Ze hb h)];exact hb
theorem Ml {k:Nat}{f:Addr}{fd:FuncData}{cS:Addr}(F:aH K "_law_refused" "_law_refused" uC f fd) (G:Gs mg):aA P w K mg base aG (k+1) f fd ["_law_call"] (l9 P w K mg base cS k):=by
 refine F.ok iZ (fun vs H Q E h=> ?_) (fun ao A outer s H vs Q E hr h=> ?_)
 ·obtain⟨f,fd,sp,C,iC,rfl,_⟩:=h
  rfl
 ·obtain⟨f,fd,sp,C,iC,rfl,hi,M,fG,Fl,wz,dh,q⟩:=h
  obtain⟨c0,m0,k0⟩:=M.m 0 (by decide)
  obtain⟨c1,m1,k1⟩:=M.m 1 (by decide)
  obtain⟨c2,m2,k2⟩:=M.m 2 (by decide)
  obtain⟨c3,m3,k3⟩:=M.m 3 (by decide)
  obtain⟨c4,m4,k4⟩:=M.m 4 (by decide)
  obtain⟨c5,m5,k5⟩:=M.m 5 (by decide)
  obtain⟨c6,m6,k6⟩:=M.m 6 (by decide)
  obtain⟨c7,m7,k7⟩:=M.m 7 (by decide)
  obtain⟨c8,m8,k8⟩:=M.m 8 (by decide)
  obtain⟨c9,m9,k9⟩:=M.m 9 (by decide)
  obtain⟨c10,F7,GC⟩:=M.m 10 (by decide)
  obtain⟨c11,F6,GB⟩:=M.m 11 (by decide)
  obtain⟨c12,F5,GA⟩:=M.m 12 (by decide)
  obtain⟨c13,F4,Gz⟩:=M.m 13 (by decide)
  obtain⟨c14,F3,Gy⟩:=M.m 14 (by decide)
  refine⟨_,Zd (Zo (i:=1) iZ.nd rfl (Or.inl rfl) Yw)
   (Zd (UR (ic:=0) (ie:=2) rfl rfl rfl iZ.nd rfl (Or.inl rfl) rfl rfl M.ms rfl hr (fun e=>Zl (Zo (i:=1) iZ.nd rfl (Or.inl rfl) (pv 2))))
   (Zd (Zo (i:=3) iZ.nd rfl (Or.inr rfl) (ZA (Za (Zk Zs rfl G.isinstance boot_isinstance (Za (pv 1) (Za (ZO (v:=.ref c0) rfl m0 rfl) Zb))) (Za (Zk Zs rfl G.isinstance boot_isinstance (Za (pv 1) (Za (ZO (v:=.ref c1) rfl m1 rfl) Zb))) (Za (Zk Zs rfl G.isinstance boot_isinstance (Za (pv 1) (Za (ZO (v:=.ref c2) rfl m2 rfl) Zb))) Zb)))))
   (Zd (Zo (i:=3) iZ.nd rfl (Or.inr rfl) (Zn YG (pv 3) (ZA (Za (Zk Zs rfl G.isinstance boot_isinstance (Za (pv 1) (Za (ZO (v:=.ref c3) rfl m3 rfl) Zb))) (Za (Zk Zs rfl G.isinstance boot_isinstance (Za (pv 1) (Za (ZO (v:=.ref c4) rfl m4 rfl) Zb))) (Za (Zk Zs rfl G.isinstance boot_isinstance (Za (pv 1) (Za (ZO (v:=.ref c5) rfl m5 rfl) Zb))) Zb))))))
   (Zd (Zo (i:=3) iZ.nd rfl (Or.inr rfl) (Zn YG (pv 3) (ZA (Za (Zk Zs rfl G.isinstance boot_isinstance (Za (pv 1) (Za (ZO (v:=.ref c6) rfl m6 rfl) Zb))) (Za (Zk Zs rfl G.isinstance boot_isinstance (Za (pv 1) (Za (ZO (v:=.ref c7) rfl m7 rfl) Zb))) (Za (Zk Zs rfl G.isinstance boot_isinstance (Za (pv 1) (Za (ZO (v:=.ref c8) rfl m8 rfl) Zb))) Zb))))))
   (Zd (Zo (i:=3) iZ.nd rfl (Or.inr rfl) (Zn YG (pv 3) (ZA (Za (Zk Zs rfl G.isinstance boot_isinstance (Za (pv 1) (Za (ZO (v:=.ref c9) rfl m9 rfl) Zb))) (Za (Zk Zs rfl G.isinstance boot_isinstance (Za (pv 1) (Za (ZO (v:=.ref c10) rfl F7 rfl) Zb))) (Za (Zk Zs rfl G.isinstance boot_isinstance (Za (pv 1) (Za (ZO (v:=.ref c11) rfl F6 rfl) Zb))) Zb))))))
   (Zd (Zo (i:=3) iZ.nd rfl (Or.inr rfl) (Zn YG (pv 3) (ZA (Za (Zk Zs rfl G.isinstance boot_isinstance (Za (pv 1) (Za (ZO (v:=.ref c12) rfl F5 rfl) Zb))) (Za (Zk Zs rfl G.isinstance boot_isinstance (Za (pv 1) (Za (ZO (v:=.ref c13) rfl F4 rfl) Zb))) (Za (Zk Zs rfl G.isinstance boot_isinstance (Za (pv 1) (Za (ZO (v:=.ref c14) rfl F3 rfl) Zb))) Zb))))))
   (Zd (ZS (Yk (ZY (Zk Zs rfl G.isinstance boot_isinstance (Za (pv 1) (Za (ZI (v:=.ty "ValueError") rfl M.mv PyProof.Rows.Boot.«ValueError» rfl) Zb))))) (Zl (ZC Yw)) ZD)
   (Zl (ZC (Yu ["_law_k", "_law_marks"] 1 [3] (Z1 rfl G.range (Za Zi Zb)) (fun C s H fp=>pb 0)
    (fun C s H fp=>YS (ZY (ZL (show sU (aV _ _ _ C s H fp) (zw K) from ZN) (pv 1) (pv 0) (fun _ _=>rfl)))) (fun C s H fp D=>ZT rfl (pv 0)))))))))))),?_⟩
  refine⟨f,fd,sp,rfl,fG,Fl,wz,dh _ _ fun e H1 s1=> ⟨e,C,rfl,rfl,M.xs,fun mO=> ⟨_,rfl,?_⟩⟩⟩
  have s2:ae H1 (upd H1 e (ka e C)):=Zf mO
  have he:upd H1 e (ka e C) e=some (ka e C):=Zc
  generalize upd H1 e (ka e C)=H2 at s2 he
  refine⟨_,rfl,e,C,_,_,_,rfl,he,M.z,fun _ h=>h,k0,_,rfl,e,C,_,_,_,rfl,he,M.z,fun _ h=>h,k1,_,rfl,e,C,_,_,_,rfl,he,M.z,fun _ h=>h,k2,(by show 3≤sizeLine;decide),fun l1 Ia=> ?_⟩
  have sa:ae H2 (upd H2 l1 (.lst (bF iC 3))):=Zf Ia
  have ha:upd H2 l1 (.lst (bF iC 3)) l1=some (.lst (bF iC 3)):=Zc
  show _
  generalize Kc:upd H2 l1 (HO.lst (bF iC 3))=Ha at sa ha
  rw[show upd H2 l1 (HO.lst [V.bl (decide (0=iC)),V.bl (decide (1=iC)),V.bl (decide (2=iC))])=Ha from Kc]
  have rT:=sa _ _ he
  refine⟨_,rfl,_,rfl,e,C,_,_,_,rfl,rT,M.z,fun _ h=>h,k3,_,rfl,e,C,_,_,_,rfl,rT,M.z,fun _ h=>h,k4,_,rfl,e,C,_,_,_,rfl,rT,M.z,fun _ h=>h,k5,(by show 3≤sizeLine;decide),fun m0 AG=> ⟨l1,m0,bF iC 3,_,rfl,rfl,Zf AG _ _ ha,Zc,(by show 3+3≤sizeLine;decide),fun p0 Aw=> ?_⟩⟩
  have uN:ae Ha (upd Ha m0 (.lst [V.bl (decide (3=iC)),V.bl (decide (4=iC)),V.bl (decide (5=iC))])):=Zf AG
  generalize upd Ha m0 (HO.lst [V.bl (decide (3=iC)),V.bl (decide (4=iC)),V.bl (decide (5=iC))])=pS at uN Aw
  have uJ:ae pS (upd pS p0 (.lst (bF iC 6))):=Zf Aw
  have Bg:upd pS p0 (.lst (bF iC 6)) p0=some (.lst (bF iC 6)):=Zc
  generalize Kg:upd pS p0 (HO.lst (bF iC 6))=tf at uJ Bg
  rw[show upd pS p0 (HO.lst (bF iC 3++[V.bl (decide (3=iC)),V.bl (decide (4=iC)),V.bl (decide (5=iC))]))=tf from Kg]
  have mO:=uJ _ _ (uN _ _ rT)
  refine⟨_,rfl,_,rfl,e,C,_,_,_,rfl,mO,M.z,fun _ h=>h,k6,_,rfl,e,C,_,_,_,rfl,mO,M.z,fun _ h=>h,k7,_,rfl,e,C,_,_,_,rfl,mO,M.z,fun _ h=>h,k8,(by show 3≤sizeLine;decide),fun m1 AF=> ⟨p0,m1,bF iC 6,_,rfl,rfl,Zf AF _ _ Bg,Zc,(by show 6+3≤sizeLine;decide),fun p1 lh=> ?_⟩⟩
  have uM:ae tf (upd tf m1 (.lst [V.bl (decide (6=iC)),V.bl (decide (7=iC)),V.bl (decide (8=iC))])):=Zf AF
  generalize upd tf m1 (HO.lst [V.bl (decide (6=iC)),V.bl (decide (7=iC)),V.bl (decide (8=iC))])=nH at uM lh
  have uI:ae nH (upd nH p1 (.lst (bF iC 9))):=Zf lh
  have Bf:upd nH p1 (.lst (bF iC 9)) p1=some (.lst (bF iC 9)):=Zc
  generalize Kf:upd nH p1 (HO.lst (bF iC 9))=sY at uI Bf
  rw[show upd nH p1 (HO.lst (bF iC 6++[V.bl (decide (6=iC)),V.bl (decide (7=iC)),V.bl (decide (8=iC))]))=sY from Kf]
  have rV:=uI _ _ (uM _ _ mO)
  refine⟨_,rfl,_,rfl,e,C,_,_,_,rfl,rV,M.z,fun _ h=>h,k9,_,rfl,e,C,_,_,_,rfl,rV,M.z,fun _ h=>h,GC,_,rfl,e,C,_,_,_,rfl,rV,M.z,fun _ h=>h,GB,(by show 3≤sizeLine;decide),fun m2 dS=> ⟨p1,m2,bF iC 9,_,rfl,rfl,Zf dS _ _ Bf,Zc,(by show 9+3≤sizeLine;decide),fun p2 dv=> ?_⟩⟩
  have uL:ae sY (upd sY m2 (.lst [V.bl (decide (9=iC)),V.bl (decide (10=iC)),V.bl (decide (11=iC))])):=Zf dS
  generalize upd sY m2 (HO.lst [V.bl (decide (9=iC)),V.bl (decide (10=iC)),V.bl (decide (11=iC))])=nG at uL dv
  have uH:ae nG (upd nG p2 (.lst (bF iC 12))):=Zf dv
  have Be:upd nG p2 (.lst (bF iC 12)) p2=some (.lst (bF iC 12)):=Zc
  generalize Ke:upd nG p2 (HO.lst (bF iC 12))=sW at uH Be
  rw[show upd nG p2 (HO.lst (bF iC 9++[V.bl (decide (9=iC)),V.bl (decide (10=iC)),V.bl (decide (11=iC))]))=sW from Ke]
  have mM:=uH _ _ (uL _ _ rV)
  refine⟨_,rfl,_,rfl,e,C,_,_,_,rfl,mM,M.z,fun _ h=>h,GA,_,rfl,e,C,_,_,_,rfl,mM,M.z,fun _ h=>h,Gz,_,rfl,e,C,_,_,_,rfl,mM,M.z,fun _ h=>h,Gy,(by show 3≤sizeLine;decide),fun m3 jc=> ⟨p2,m3,bF iC 12,_,rfl,rfl,Zf jc _ _ Be,Zc,(by show 12+3≤sizeLine;decide),fun p3 gY=> ?_⟩⟩
  have uK:ae sW (upd sW m3 (.lst [V.bl (decide (12=iC)),V.bl (decide (13=iC)),V.bl (decide (14=iC))])):=Zf jc
  generalize upd sW m3 (HO.lst [V.bl (decide (12=iC)),V.bl (decide (13=iC)),V.bl (decide (14=iC))])=nF at uK gY
  have uG:ae nF (upd nF p3 (.lst (bF iC 15))):=Zf gY
  have Bd:upd nF p3 (.lst (bF iC 15)) p3=some (.lst (bF iC 15)):=Zc
  generalize Kd:upd nF p3 (HO.lst (bF iC 15))=CW at uG Bd
  rw[show upd nF p3 (HO.lst (bF iC 12++[V.bl (decide (12=iC)),V.bl (decide (13=iC)),V.bl (decide (14=iC))]))=CW from Kd]
  have Iz:=uG _ _ (uK _ _ mM)
  refine⟨_,rfl,e,C,_,_,_,rfl,Iz,M.z,fun _ h=>h,M.xv,_,rfl,?_⟩
  refine aM ?_
  refine⟨15,rfl,by decide,by decide,?_⟩
  refine J6 (n:=15) (fun i ys σ H4=>ys=((List.range i).filter fun k=>decide (k=iC)).map (fun k:Nat=>V.int (k:Int))∧H4=CW∧∃v,σ=[v,some (.ref p3)]) ⟨rfl,rfl,none,rfl⟩ ?_ ?_
  ·rintro i ys σ H4 Ij ⟨rfl,rfl,v,rfl⟩
   have hm:dW (bF iC 15) (0+(i:Int))=some (V.bl (decide (i=iC))):=by
    rw[Int.zero_add]
    refine ZU ?_
    unfold bF
    rw[List.getElem?_map,List.getElem?_range Ij]
    rfl
   refine⟨_,rfl,_,rfl,p3,_,_,_,rfl,rfl,ah.of Bd,hm,_,rfl,?_⟩
   have er:((List.range (i+1)).filter fun k=>decide (k=iC))=((List.range i).filter fun k=>decide (k=iC))++(if decide (i=iC)=true then [i] else []):=by
    rw[List.range_succ,List.filter_append]
    cases hd:decide (i=iC)<;>simp_all
   cases hd:decide (i=iC) with
   |true=>
    rw[hd]at er
    refine aX ⟨_,rfl,?_,?_,rfl,_,rfl⟩
    ·rw[List.length_map,sizeLine_eq]
     have:=List.length_filter_le (fun k=>decide (k=iC)) (List.range i)
     rw[List.length_range]at this
     omega
    ·rw[er,if_pos rfl,List.map_append,Int.zero_add]
     rfl
   |false=>
    rw[hd]at er
    exact aM ⟨by rw[er,if_neg Bool.false_ne_true,List.append_nil],rfl,_,rfl⟩
  ·rintro ys σ H4 ⟨rfl,rfl,v,rfl⟩ p hp
   have ef:((List.range 15).filter fun k=>decide (k=iC)).map (fun k:Nat=>V.int (k:Int))=[V.int (iC:Int)]:=by
    rcases hi with rfl |rfl |rfl<;>rfl
   rw[ef]
   have fj:=s1.trans (s2.trans (sa.trans (uN.trans (uJ.trans (uM.trans (uI.trans (uL.trans (uH.trans (uK.trans uG)))))))))
   exact q p _ (fj.trans (Zf hp)) (fj.free hp) Zc
end
section
theorem br.same {H H':Hp}{p:Addr}(h:br H p) (s:ae H H'):br H' p:=by
 obtain⟨u,v,e,r⟩:=h
 exact⟨u,v,s _ _ e,r⟩
def jB:V→Bool
 | .int _=>true
 | .bl _=>true
 | .str _=>true
 | .af=>true
 |_=>false
theorem CH {K:PySem.W.Frag}{H:Hp} :∀{v:V},jB v=true→ck K H v
 | .int i,_=> ⟨_,.int i⟩
 | .bl b,_=> ⟨_,.bl b⟩
 | .str x,_=> ⟨_,.str x⟩
 | .af,_=> ⟨_,.af⟩
def i5:Lit→Bool
 | .sc v=>jB v
 | .tup xs=>xs.all jB
 |_=>true
def vt:Lit→Option (List V)
 | .tup xs=>some xs
 |_=>none
theorem JN {H:Hp}{v:V} :∀{l:Lit},i5 l=true→ff H v l→aY H v=vt l
 | .sc u,hp,h=>by
  have h':v=u:=h
  subst h'
  cases v with
  |ref a=>cases hp
  |_=>rfl
 | .tup xs,_,⟨a,e,h⟩=>by rw[e,Zx h];rfl
 | .lst xs,_,⟨a,e,h⟩=>by rw[e,Zw,h];rfl
 | .dU,_,⟨a,e,h⟩=>by rw[e,Zw,h];rfl
theorem WY {K:PySem.W.Frag}{H:Hp}{v:V} :∀{l:Lit},i5 l=true→ff H v l→fe K H v
 | .sc u,hp,h=>by
  have h':v=u:=h
  subst h'
  refine⟨CH hp,fun xs e y hy=> ?_⟩
  rw[JN (l:=.sc v) hp rfl]at e
  cases e
 | .tup xs,hp,⟨a,e,h⟩=>by
  subst e
  refine⟨⟨_,.tup h⟩,fun ys e y hy=> ?_⟩
  rw[Zx h]at e
  cases e
  exact CH (List.all_eq_true.mp hp y hy)
 | .lst xs,hp,⟨a,e,h⟩=>by
  subst e
  refine⟨⟨_,.lst h⟩,fun ys e y hy=> ?_⟩
  rw[Zw,h]at e
  cases e
 | .dU,hp,⟨a,e,h⟩=>by
  subst e
  refine⟨⟨_,.dK h⟩,fun ys e y hy=> ?_⟩
  rw[Zw,h]at e
  cases e
theorem Paired.app {α β:Type}{F:α→β→Prop} :∀{a c:List α}{b d:List β},Paired F a b→Paired F c d→Paired F (a++c) (b++d)
 |_,_,_,_,.nil,h=>h
 |_,_,_,_,.cons r t,h=> .cons r (Paired.app t h)
end
section
variable {P:Program}{w:World}{K:PySem.W.Frag}{mg:Str→Option Value}{base:Heap}
abbrev kE:Stmt:=top 39
def rm:List Lit:=[.tup [.int 0,.int 1],.tup [.int 1,.int 13],.tup [.int 13,.int 1],.tup [.int 1,.int 0],.tup [.int (-1),.int 2],.tup [.bl true,.int 2],.tup [.int 2,.bl true],.tup [.bl false,.int 1],.tup [.int 2],.tup [.int 2,.int 2,.int 2]]
def rh:List Lit:=[.lst [.int 2,.int 2],.sc .af,.sc (.int 4),.sc (.str "2x2"),.tup [.str "2",.int 2],.tup [.int 2,.af],.tup [.int (10^(29:Int).toNat),.int 2],.dU]
def BV (l:Lit):Bool:=i5 l&& !kQ (vt l)
theorem NC:(rm++rh).all BV=true:=by decide+kernel
def iR (p:Addr) (H:Hp) (v:V):Prop:=v≠.ref p∧∀xs,aY H v=some xs→∀y∈xs,y≠.ref p
def tX (K:PySem.W.Frag):Sp:=fun vs H Q _=> ∃p:Addr,vs=[.ref p]∧br H p∧∀v H',aq p H H'→br H' p→gD K H' v→iR p H' v→Q v H'
def vg:List Expr:=match bI kE with | .Assign _ (.List es _) _::_=>es |_=> []
def vf:List Expr:=match bI kE with |_:: .Return (some (.Subscript (.BinOp _ _ (.List es _) _) _ _)) _::_=>es |_=> []
def FJ (a b:List Expr):List Stmt:=match bI kE with
 | [.Assign x (.List _ p1) p2,.Return (some (.Subscript (.BinOp y o (.List _ p3) p4) z p5)) p6]=> [.Assign x (.List a p1) p2,.Return (some (.Subscript (.BinOp y o (.List b p3) p4) z p5)) p6]
 |_=> []
theorem NH:bI kE=FJ vg vf:=by kernel_rfl
theorem ND:litsOf vg=some rm:=by kernel_rfl
theorem NF:litsOf vf=some rh:=by kernel_rfl
theorem yW:bu ["_law_state_here", "_law_some"] ["_law_state_here"] (ay kE):=⟨rfl,rfl,rfl,by decide+kernel,rfl,by decide+kernel,by decide+kernel⟩
theorem Mg {f:Addr}{fd:FuncData}(F:aH K "_law_no_board" "_law_no_board" kE f fd) (D1:Def P w K mg base 1 "_law_take" ["_law_state_here", "_law_many"] iY):aA P w K mg base aG 2 f fd ["_law_state_here"] (tX K):=by
 refine F.ok yW (fun vs H Q E h=> ?_) (fun ao A outer s H vs Q E hr h=> ?_)
 ·obtain⟨p,rfl,_⟩:=h
  rfl
 ·obtain⟨p,rfl,st,q⟩:=h
  rw[NH]
  have i1:=ND
  have i2:=NF
  generalize vg=KS at i1
  generalize vf=KR at i2
  refine⟨_,Zd (Zo (i:=1) yW.nd rfl (Or.inl rfl) (ZA (YU (ls:=rm) i1))) (Zl (ZC (ZL ZN (Zn YG (pv 1) (ZA (YU (ls:=rh) i2))) (Zj D1 hr (Za (pv 0) (Za Zi Zb))) (fun _ _=>rfl)))),?_⟩
  refine fun cR H1 s1 mn n1=> ?_
  have l1:cR.length=10:=Paired.length mn
  refine⟨by rw[l1];decide,fun L1 jg=> ?_⟩
  have s2:ae H1 (upd H1 L1 (.lst cR)):=Zf jg
  have eL:upd H1 L1 (.lst cR) L1=some (.lst cR):=Zc
  generalize upd H1 L1 (HO.lst cR)=H2 at s2 eL
  refine⟨_,rfl,fun cQ H3 s3 cj n2=> ?_⟩
  have l2:cQ.length=8:=Paired.length cj
  refine⟨by rw[l2];decide,fun L2 pB=> ?_⟩
  have s4:ae H3 (upd H3 L2 (.lst cQ)):=Zf pB
  have eM:upd H3 L2 (.lst cQ) L2=some (.lst cQ):=Zc
  generalize upd H3 L2 (HO.lst cQ)=H4 at s4 eM
  refine⟨L1,L2,_,_,rfl,rfl,s4 _ _ (s3 _ _ eL),eM,by rw[l1,l2];decide,fun L3 pj=> ?_⟩
  have s5:ae H4 (upd H4 L3 (.lst (cR++cQ))):=Zf pj
  have eN:upd H4 L3 (.lst (cR++cQ)) L3=some (.lst (cR++cQ)):=Zc
  generalize upd H4 L3 (HO.lst (cR++cQ))=H5 at s5 eN
  have fj:ae H H5:=s1.trans (s2.trans (s3.trans (s4.trans s5)))
  have pr:Paired (ff H5) (cR++cQ) (rm++rh):=Paired.app (Paired.cu mn fun _ _ h=>h.same (s2.trans (s3.trans (s4.trans s5)))) (Paired.cu cj fun _ _ h=>h.same (s4.trans s5))
  have dG:=st.same fj
  refine⟨_,rfl,p,18,rfl,dG,by decide,by decide,fun r o h0 QS iz=> ?_⟩
  obtain⟨u0,v0,ij,_⟩:=id dG
  have vB:(cR++cQ).length=18:=by rw[List.length_append,l1,l2]
  have nL:L3≠p:=fun z=>by
   rw[z,ij]at eN
   have y:[V.int u0,V.int v0]=cR++cQ:=by injection eN with y;injection y
   rw[←y]at vB
   cases vB
  have aC:r.toNat< (cR++cQ).length:=by rw[vB];omega
  have fX:=List.getElem?_eq_getElem aC
  have j6:=ZU fX
  rw[Int.toNat_of_nonneg h0]at j6
  obtain⟨l,hl,gf⟩:=Paired.at pr fX
  have hb:=List.all_eq_true.mp NC l (List.mem_of_getElem? hl)
  unfold BV at hb
  rw[Bool.and_eq_true]at hb
  refine⟨L3,_,_,_,rfl,rfl,ah.of (by rw[Zg nL];exact eN),j6,?_⟩
  have keep:∀c u,H5 c=some u→c≠p→upd H5 p o c=some u:=fun c u hc hn=>by rw[Zg hn];exact hc
  have nh:ff (upd H5 p o) (cR++cQ)[r.toNat] l:=by
   cases l with
   |sc v=>exact gf
   |tup xs=>
    obtain⟨a,e,h⟩:=gf
    exact⟨a,e,keep _ _ h fun z=>by rw[z,ij]at h;cases h⟩
   |lst xs=>
    obtain⟨a,e,h⟩:=gf
    refine⟨a,e,keep _ _ h fun z=> ?_⟩
    have hm:V.ref a∈cR++cQ:=by rw[←e];exact List.getElem_mem aC
    obtain⟨_,_,y,_⟩:=id st
    rcases List.mem_append.mp hm with hm |hm
    ·have:=n1 a hm
     rw[z,y]at this
     cases this
    ·have:=n2 a hm
     rw[z,(s1.trans s2) _ _ y]at this
     cases this
   |dU=>
    obtain⟨a,e,h⟩:=gf
    exact⟨a,e,keep _ _ h fun z=>by rw[z,ij]at h;cases h⟩
  have nr:iR p (upd H5 p o) (cR++cQ)[r.toNat]:=by
   have r9:upd H5 p o p=some o:=Zc
   cases l with
   |sc v=>
    have e:(cR++cQ)[r.toNat]=v:=nh
    rw[e]
    have hs:jB v=true:=hb.1
    refine⟨fun z=> (by rw[z]at hs;cases hs),fun xs h y hy=> ?_⟩
    rw[JN (l:=.sc v) hs rfl]at h
    cases h
   |tup xs=>
    obtain⟨a,e,h⟩:=gf
    have bP:a≠p:=fun z=>by rw[z,ij]at h;cases h
    rw[e]
    refine⟨fun z=>bP (by cases z;rfl),fun ys h2 y hy z=> ?_⟩
    rw[Zx (keep _ _ h bP)]at h2
    cases h2
    have hs:=List.all_eq_true.mp (show xs.all jB=true from hb.1) y hy
    rw[z]at hs
    cases hs
   |lst xs=>
    obtain⟨a,e,h⟩:=nh
    have hm:V.ref a∈cR++cQ:=by rw[←e];exact List.getElem_mem aC
    obtain⟨_,_,y,_⟩:=id st
    have bP:a≠p:=fun z=>by
     rcases List.mem_append.mp hm with hm |hm
     ·have:=n1 a hm
      rw[z,y]at this
      cases this
     ·have:=n2 a hm
      rw[z,(s1.trans s2) _ _ y]at this
      cases this
    rw[e]
    refine⟨fun z=>bP (by cases z;rfl),fun ys h2 y hy=> ?_⟩
    rw[Zw,h]at h2
    cases h2
   |dU=>
    obtain⟨a,e,h⟩:=gf
    have bP:a≠p:=fun z=>by rw[z,ij]at h;cases h
    rw[e]
    refine⟨fun z=>bP (by cases z;rfl),fun ys h2 y hy=> ?_⟩
    rw[Zw,keep _ _ h bP]at h2
    cases h2
  refine q _ _ (fun c u hc hn=>keep c u (fj _ _ hc) hn) iz ⟨WY hb.1 nh,?_⟩ nr
  rw[JN hb.1 nh]
  simpa using hb.2
end
section
theorem Yh {wd hg:Int}{xs:List V}(h:(xs.length:Int)≠wd):gR wd hg (some xs)=false:=by
 show(decide ((xs.length:Int)=wd)&&_&&_)=false
 rw[decide_eq_false h,Bool.false_and,Bool.false_and]
theorem WZ {wd hg:Int}{xs:List V}{y:V}{k:Nat}(hn:y≠.af) (hw:bM y 0 (hg - 1)=false):gR wd hg (some (xs.take k++[y]++xs.drop (k+1)))=false:=by
 show(decide _&&((rowsOf (xs.take k++[y]++xs.drop (k+1))).all fun r=>bM r 0 (hg - 1))&&_)=false
 have hm:y∈rowsOf (xs.take k++[y]++xs.drop (k+1)):=by
  unfold rowsOf
  refine List.mem_filter.mpr ⟨by simp,by simp[hn]⟩
 have:((rowsOf (xs.take k++[y]++xs.drop (k+1))).all fun r=>bM r 0 (hg - 1))=false:=by
  rw[Bool.eq_false_iff]
  intro h
  have:=List.all_eq_true.mp h y hm
  rw[hw]at this
  cases this
 rw[this,Bool.and_false,Bool.false_and]
theorem Uf (a b:List V):rowsOf (a++b)=rowsOf a++rowsOf b:=by unfold rowsOf;rw[List.filter_append]
theorem Nw {wd hg:Int}{xs:List V}{y:V}{j k:Nat}(hj:xs[j]? =some y) (we:j≠k) (hn:y≠.af):gR wd hg (some (xs.take k++[y]++xs.drop (k+1)))=false:=by
 show(decide _&&_&&decide (rowsOf (xs.take k++[y]++xs.drop (k+1))).Nodup)=false
 have:¬(rowsOf (xs.take k++[y]++xs.drop (k+1))).Nodup:=by
  rw[Uf,Uf]
  have e1:rowsOf [y]=[y]:=by unfold rowsOf;simp[hn]
  rw[e1]
  intro nd
  have rQ:∀l:List V,y∈l→y∈rowsOf l:=fun l hl=>List.mem_filter.mpr ⟨hl,by simp[hn]⟩
  obtain⟨n1,n2,n3⟩:=List.nodup_append.mp nd
  obtain⟨m1,m2,m3⟩:=List.nodup_append.mp n1
  by_cases aC:j<k
  ·have:y∈xs.take k:=List.mem_of_getElem? (i:=j) (by rw[List.getElem?_take,if_pos aC];exact hj)
   exact m3 y (rQ _ this) y (by simp) rfl
  ·have:y∈xs.drop (k+1):=List.mem_of_getElem? (i:=j - (k+1)) (by rw[List.getElem?_drop,show k+1+(j - (k+1))=j by omega];exact hj)
   exact n3 y (by simp) y (rQ _ this) rfl
 rw[decide_eq_false this,Bool.and_false]
def iT (K:PySem.W.Frag) (wd hg:Int) (H:Hp) (v:V):Prop:=fe K H v∧gR wd hg (aY H v)=false
theorem iT.same {K:PySem.W.Frag}{wd hg:Int}{H H':Hp}{v:V}(b:iT K wd hg H v) (s:ae H H'):iT K wd hg H' v:=⟨b.1.same s,by rw[Yz b.1.1 s];exact b.2⟩
theorem OD {K:PySem.W.Frag}{wd hg:Int}{H:Hp}{a:Addr}{xs:List V}(h:H a=some (.tup xs)) (hp:∀y∈xs,ck K H y) (hb:gR wd hg (some xs)=false):iT K wd hg H (.ref a):=by
 refine⟨⟨⟨_,.tup h⟩,fun ys e y hy=> ?_⟩,by rw[Zx h];exact hb⟩
 rw[Zx h]at e
 cases e
 exact hp y hy
theorem UH {K:PySem.W.Frag}{wd hg:Int}{H:Hp}{v:V}{l:Lit}(hp:i5 l=true) (hn:vt l=none) (h:ff H v l):iT K wd hg H v:=⟨WY hp h,by rw[JN hp h,hn];rfl⟩
theorem OC {K:PySem.W.Frag}{wd hg:Int}{H:Hp}{a:Addr}{xs:List V}(h:H a=some (.lst xs)):iT K wd hg H (.ref a):=by
 have e0:aY H (.ref a)=none:=by rw[Zw,h];rfl
 exact⟨⟨⟨_,.lst h⟩,fun ys e=>by rw[e0]at e;cases e⟩,by rw[e0];rfl⟩
def oh:V→Bool
 | .int i=>decide (i.natAbs.log2<1920)
 | .bl _=>true
 | .af=>true
 | .str x=>x== "0" ||x== "1x1: ."
 |_=>false
def i0 (H:Hp) (y:V):Prop:=oh y=true∨∃(b:Addr) (z:V),y=.ref b∧(H b=some (.tup [z])∨H b=some (.lst [z]))∧oh z=true
def kg (p:Addr) (H:Hp) (v:V):Prop:=oh v=true∨(∃(a:Addr) (xs:List V),v=.ref a∧xs.length≤1000∧(H a=some (.tup xs)∨(a≠p∧H a=some (.lst xs)))∧∀y∈xs,i0 H y)∨∃a:Addr,v=.ref a∧H a=some (.dK [])
theorem i0.same {H H':Hp}{y:V}(h:i0 H y) (s:ae H H'):i0 H' y:=by
 rcases h with h |⟨b,z,e,h |h,hz⟩
 ·exact .inl h
 ·exact .inr ⟨b,z,e,.inl (s _ _ h),hz⟩
 ·exact .inr ⟨b,z,e,.inr (s _ _ h),hz⟩
theorem kg.same {p:Addr}{H H':Hp}{v:V}(h:kg p H v) (s:ae H H'):kg p H' v:=by
 rcases h with h |⟨a,xs,e,hl,h |⟨n,h⟩,hy⟩ |⟨a,e,h⟩
 ·exact .inl h
 ·exact .inr (.inl ⟨a,xs,e,hl,.inl (s _ _ h),fun y m=> (hy y m).same s⟩)
 ·exact .inr (.inl ⟨a,xs,e,hl,.inr ⟨n,s _ _ h⟩,fun y m=> (hy y m).same s⟩)
 ·exact .inr (.inr ⟨a,e,s _ _ h⟩)
def kh (K:PySem.W.Frag) (H:Hp) (y:V):Prop:=ck K H y∧i0 H y
theorem kh.same {K:PySem.W.Frag}{H H':Hp}{y:V}(h:kh K H y) (s:ae H H'):kh K H' y:=⟨s.gN h.1,h.2.same s⟩
def bt (K:PySem.W.Frag) (p:Addr) (wd hg:Int) (H:Hp) (v:V):Prop:=iT K wd hg H v∧kg p H v
theorem bt.same {K:PySem.W.Frag}{p:Addr}{wd hg:Int}{H H':Hp}{v:V}(b:bt K p wd hg H v) (s:ae H H'):bt K p wd hg H' v:=⟨b.1.same s,b.2.same s⟩
theorem ZQ {K:PySem.W.Frag}{p:Addr}{wd hg:Int}{H:Hp}{a:Addr}{xs:List V}(h:H a=some (.tup xs)) (hp:∀y∈xs,kh K H y) (hb:gR wd hg (some xs)=false) (hl:xs.length≤1000:=by(simp only[List.length_append,List.length_cons,List.length_nil,List.length_take,List.length_drop];omega)):bt K p wd hg H (.ref a):=⟨OD h (fun y hy=> (hp y hy).1) hb,.inr (.inl ⟨a,xs,rfl,hl,.inl h,fun y hy=> (hp y hy).2⟩)⟩
theorem YZ {K:PySem.W.Frag}{p:Addr}{wd hg:Int}{H:Hp}{v:V}(hp:i5 (.sc v)=true) (hs:oh v=true):bt K p wd hg H v:=⟨UH (l:=.sc v) hp rfl rfl,.inl hs⟩
theorem Wi {K:PySem.W.Frag}{p:Addr}{wd hg:Int}{H:Hp}{a:Addr}(h:H a=some (.dK [])):bt K p wd hg H (.ref a):=⟨UH (l:=.dU) rfl rfl ⟨a,rfl,h⟩,.inr (.inr ⟨a,rfl,h⟩)⟩
theorem Wh {K:PySem.W.Frag}{p:Addr}{wd hg:Int}{H:Hp}{a:Addr}{xs:List V}(h:H a=some (.lst xs)) (np:a≠p) (hl:xs.length≤1000) (hp:∀y∈xs,i0 H y):bt K p wd hg H (.ref a):=⟨OC h,.inr (.inl ⟨a,xs,rfl,hl,.inr ⟨np,h⟩,hp⟩)⟩
theorem Yo {K:PySem.W.Frag}{a b:Addr}{xs ys:List V}{H:Hp}{Q:VK}(ha:H a=some (.tup xs)) (hb:H b=some (.tup ys)) (hl:xs.length+ys.length≤1000) (q:∀(c:Addr) (H':Hp),ae H H'→H' c=some (.tup (xs++ys))→Q (.ref c) H'):jK K (.ref a) (.ref b) H Q:=by
 cases xs with
 |nil=>exact .inl ⟨a,b,ys,rfl,rfl,ai.of ha,ai.of hb,q b H (ae.refl H) hb⟩
 |cons x r=>
  refine .inr ⟨a,b,x::r,ys,rfl,rfl,ai.of ha,ai.of hb,(by simp),Nat.le_of_lt (uo hl),fun e=> ?_,fun e p hp=> ?_⟩
  ·subst e
   exact q a H (ae.refl H) (by rw[List.append_nil];exact ha)
  ·exact q p _ (Zf hp) Zc
theorem MM {K:PySem.W.Frag}{a:Addr}{xs:List V}{H:Hp}{Q:VK}{k:Nat}(ha:H a=some (.tup xs)) (hk:k<xs.length) (q:∀p:Addr,H p=none→Q (.ref p) (upd H p (.tup (xs.take k)))):jI K (.ref a) none (some (k:Int)) H Q:=by
 refine⟨a,xs,rfl,ai.of ha,fun h=> ?_,fun p hp=> ?_⟩
 ·rw[HT.qL]at h
  omega
 ·have e:cM xs none (some (k:Int))=xs.take k:=by
   unfold cM
   rw[HT.zj,HT.qL,List.drop_zero,Nat.sub_zero,Nat.min_eq_left (by omega)]
  rw[e]
  exact q p hp
theorem UC {K:PySem.W.Frag}{a:Addr}{xs:List V}{H:Hp}{Q:VK}{k:Nat}(ha:H a=some (.tup xs)) (hk:0<k) (fF:k≤xs.length) (q:∀p:Addr,H p=none→Q (.ref p) (upd H p (.tup (xs.drop k)))):jI K (.ref a) (some (k:Int)) none H Q:=by
 refine⟨a,xs,rfl,ai.of ha,fun h=> ?_,fun p hp=> ?_⟩
 ·rw[HT.qL]at h
  omega
 ·have e:cM xs (some (k:Int)) none=xs.drop k:=by
   unfold cM
   rw[HT.zj,HT.qL,Nat.min_eq_left fF]
   exact List.take_of_length_le (by rw[List.length_drop];omega)
  rw[e]
  exact q p hp
theorem WQ {K:PySem.W.Frag}{a:Addr}{xs:List V}{y:V}{H:Hp}{Q:VK}{k:Nat}{σ:L2.St}{te tl th ym:TE}(ha:H a=some (.tup xs)) (hk:k<xs.length) (hl:xs.length≤100)
  (e1:∀H Q,Q (.ref a) H→te σ H Q) (e2:∀H Q,Q (.int (k:Int)) H→tl σ H Q) (e3:∀H Q,Q y H→th σ H Q) (e4:∀H Q,Q (.int ((k+1:Nat):Int)) H→ym σ H Q)
  (q:∀(c:Addr) (H':Hp),ae H H'→H' c=some (.tup (xs.take k++[y]++xs.drop (k+1)))→Q (.ref c) H'):
  jA (jK K) (jA (jK K) (qj (jI K) te ql (qk tl)) (qi (l7 th nV))) (qj (jI K) te (qk ym) ql) σ H Q:=by
 refine e1 _ _ (e2 _ _ ⟨_,rfl,MM ha hk fun p1 lh=>e3 _ _ ⟨(by show 1≤sizeLine;decide),fun p2 dv=> ?_⟩⟩)
 have s1:ae H (upd H p1 (.tup (xs.take k))):=Zf lh
 have s2:=Zf (o:=.tup [y]) dv
 refine Yo (s2 _ _ Zc) Zc (by rw[List.length_take];simp;omega) fun c H3 s3 hc=> ?_
 have sA:=s1.trans (s2.trans s3)
 refine e1 _ _ (e4 _ _ ⟨_,rfl,?_⟩)
 show jI K (.ref a) (some ((k+1:Nat):Int)) none H3 (fun y H2=>jK K (.ref c) y H2 Q)
 refine UC (k:=k+1) (sA _ _ ha) (by omega) (by omega) fun p4 HA=> ?_
 have s4:=Zf (o:=.tup (xs.drop (k+1))) HA
 refine Yo (s4 _ _ hc) Zc (by rw[List.length_append,List.length_take,List.length_drop];simp;omega) fun c2 H5 s5 lG=> ?_
 exact q c2 H5 (sA.trans (s4.trans s5)) lG
end
section
variable {P:Program}{w:World}{K:PySem.W.Frag}{mg:Str→Option Value}{base:Heap}
abbrev kD:Stmt:=top 44
def kK:List Lit:=[.sc (.int (-1)),.sc (.bl true),.sc (.bl false),.sc (.str "0"),.tup [.int 0],.sc (.int (10^(29:Int).toNat)),.lst [.int 0]]
def rG:List Lit:=[.sc (.int 0),.sc (.int 0),.sc (.int 0),.sc (.int 1),.sc (.int 1),.sc (.int 2),.sc (.int 3),.sc (.int 4),.sc (.int 5),.sc (.int 6),.sc (.int 7),.sc (.int 8)]
theorem MR {K:PySem.W.Frag}{H:Hp}{v:V}{l:Lit}{hg:Int}(h2:hg≤12) (hl:l∈kK) (h:ff H v l):v≠.af∧bM v 0 (hg - 1)=false∧kh K H v:=by
 have hp:i5 l=true:=List.all_eq_true.mp (show kK.all i5=true by decide+kernel) l hl
 refine⟨?_,?_,(WY hp h).1,?_⟩
 ·simp only[kK,List.mem_cons,List.not_mem_nil,or_false]at hl
  rcases hl with rfl |rfl |rfl |rfl |rfl |rfl |rfl
  ·rw[show v=_ from h];simp
  ·rw[show v=_ from h];simp
  ·rw[show v=_ from h];simp
  ·rw[show v=_ from h];simp
  ·obtain⟨a,e,_⟩:=h;rw[e];simp
  ·rw[show v=_ from h];simp
  ·obtain⟨a,e,_⟩:=h;rw[e];simp
 ·simp only[kK,List.mem_cons,List.not_mem_nil,or_false]at hl
  rcases hl with rfl |rfl |rfl |rfl |rfl |rfl |rfl
  ·rw[show v=_ from h];rfl
  ·rw[show v=_ from h];rfl
  ·rw[show v=_ from h];rfl
  ·rw[show v=_ from h];rfl
  ·obtain⟨a,e,_⟩:=h;rw[e];rfl
  ·rw[show v=_ from h]
   show(decide ((0:Int)≤10^(29:Int).toNat)&&decide ((10:Int)^(29:Int).toNat≤hg - 1))=false
   have:¬(10:Int)^(29:Int).toNat≤hg - 1:=by
    have:(10:Int)^(29:Int).toNat=100000000000000000000000000000:=by decide
    omega
   rw[decide_eq_false this,Bool.and_false]
  ·obtain⟨a,e,_⟩:=h;rw[e];rfl
 ·simp only[kK,List.mem_cons,List.not_mem_nil,or_false]at hl
  rcases hl with rfl |rfl |rfl |rfl |rfl |rfl |rfl
  ·rw[show v=_ from h];exact .inl (by decide)
  ·rw[show v=_ from h];exact .inl (by decide)
  ·rw[show v=_ from h];exact .inl (by decide)
  ·rw[show v=_ from h];exact .inl (by decide)
  ·obtain⟨a,e,h1⟩:=h;exact .inr ⟨a,.int 0,e,.inl h1,by decide⟩
  ·rw[show v=_ from h];exact .inl (by decide)
  ·obtain⟨a,e,h1⟩:=h;exact .inr ⟨a,.int 0,e,.inr h1,by decide⟩
theorem U4 {r:Int}{vs:List V}{H:Hp}(h0:0≤r) (h1:r<12) (pr:Paired (ff H) vs rG):∃c:Nat,c≤8∧dW vs r=some (.int (c:Int)):=by
 have key:∀(vs:List V) (ls:List Lit),Paired (ff H) vs ls→ls.all (fun l=>match l with | .sc (.int i)=>decide (0≤i∧i≤8) |_=>false)=true→∀i:Nat,i<ls.length→∃c:Nat,c≤8∧vs[i]? =some (.int (c:Int)):=by
  intro vs ls pr
  induction pr with
  |nil=>intro _ i hi;simp at hi
  |cons r t ih=>
   rename_i v l kB Qy
   intro ha i hi
   rw[List.all_cons,Bool.and_eq_true]at ha
   cases i with
   |zero=>
    cases l with
    |sc u=>
     have e:v=u:=r
     subst e
     cases v with
     |int j=>
      have hj:=of_decide_eq_true ha.1
      exact⟨j.toNat,by omega,by simp;omega⟩
     |_=>cases ha.1
    |_=>cases ha.1
   |succ i=>
    obtain⟨c,h1,h2⟩:=ih ha.2 i (by simpa using hi)
    exact⟨c,h1,by simpa using h2⟩
 obtain⟨c,h2,h3⟩:=key vs rG pr (by decide+kernel) r.toNat (by show r.toNat<12;omega)
 have:=ZU h3
 rw[Int.toNat_of_nonneg h0]at this
 exact⟨c,h2,this⟩
theorem Jk {wd hg:Int}{xs:List V}(h:eP wd hg xs):∀x∈xs,x=.af∨∃i:Int,x=.int i:=fun x hx=>by
 by_cases e:x=.af
 ·exact .inl e
 ·have m:x∈rowsOf xs:=List.mem_filter.mpr ⟨hx,by simp[e]⟩
  have q':=h.row x m
  cases x with
  |int i=>exact .inr ⟨i,rfl⟩
  |_=>cases q'
theorem Cg {i:Int}(h0:0≤i) (h1:i≤12):oh (.int i)=true:=by
 have c:i=0∨i=1∨i=2∨i=3∨i=4∨i=5∨i=6∨i=7∨i=8∨i=9∨i=10∨i=11∨i=12:=by omega
 rcases c with rfl |rfl |rfl |rfl |rfl |rfl |rfl |rfl |rfl |rfl |rfl |rfl |rfl<;>decide
theorem ZJ {K:PySem.W.Frag}{H:Hp}{wd hg:Int}{xs:List V}(g2:hg≤12) (h:eP wd hg xs):∀x∈xs,kh K H x:=fun x hx=>by
 rcases Jk h x hx with rfl |⟨i,rfl⟩
 ·exact⟨⟨_,.af⟩,.inl rfl⟩
 ·have hm:V.int i∈rowsOf xs:=List.mem_filter.mpr ⟨hx,by simp⟩
  have hw:(decide (0≤i)&&decide (i≤hg - 1))=true:=h.row _ hm
  rw[Bool.and_eq_true,decide_eq_true_eq,decide_eq_true_eq]at hw
  exact⟨⟨_,.int i⟩,.inl (Cg hw.1 (by omega))⟩
theorem UA:∀(xs:List V) (i:Int),V.int i∈xs→(∀x∈xs,x=.af∨∃j:Int,x=.int j)→∃j:Nat,xs[j]? =some (.int i)∧∀m y,m<j→xs[m]? =some y→dC y (.int i)=false
 | [],i,h,_=>by simp at h
 |x::r,i,h,hr=>by
  by_cases e:x=.int i
  ·exact⟨0,by rw[e];rfl,fun m y hm _=>absurd hm (Nat.not_lt_zero _)⟩
  ·have h':V.int i∈r:=by
    rcases List.mem_cons.mp h with z |z
    ·exact absurd z.symm e
    ·exact z
   obtain⟨j,hj,hn⟩:=UA r i h' fun y hy=>hr y (List.mem_cons_of_mem _ hy)
   refine⟨j+1,by simpa using hj,fun m y hm hy=> ?_⟩
   cases m with
   |zero=>
    have:y=x:=by simpa using hy.symm
    subst this
    rcases hr y List.mem_cons_self with rfl |⟨k,rfl⟩
    ·rfl
    ·show(k==i)=false
     have:k≠i:=fun z=>e (by rw[z])
     simpa using this
   |succ m=>exact hn m y (by omega) (by simpa using hy)
def tW (K:PySem.W.Frag):Sp:=fun vs H Q _=> ∃(p b l:Addr) (wd hg:Int) (xs:List V),vs=[.ref p,.ref b,.ref l]∧br H p∧fg H (.ref b) wd hg∧H l=some (.tup xs)∧eP wd hg xs∧∀v H',aq p H H'→br H' p→bt K p wd hg H' v→Q v H'
def vk:List Expr:=match bI kD with |_:: .Assign _ (.Subscript (.List (_::es) _) _ _) _::_=>es |_=> []
def vh:List Expr:=match bI kD with | [_,_,_,_,_,_,_,.Return (some (.Subscript _ (.Subscript (.List es _) _ _) _)) _]=>es |_=> []
def FN (a b:List Expr):List Stmt:=match bI kD with
 | [s0,.Assign x (.Subscript (.List (y::_) p1) z p2) p3,s2,s3,s4,s5,s6,.Return (some (.Subscript u (.Subscript (.List _ q1) v q2) q3)) q4]=> [s0,.Assign x (.Subscript (.List (y::a) p1) z p2) p3,s2,s3,s4,s5,s6,.Return (some (.Subscript u (.Subscript (.List b q1) v q2) q3)) q4]
 |_=> []
theorem NB:bI kD=FN vk vh:=by kernel_rfl
theorem Nz:litsOf vk=some kK:=by kernel_rfl
theorem NA:litsOf vh=some rG:=by kernel_rfl
theorem iB:bu ["_law_state_here", "_law_board_here", "_law_lay_here", "_law_way", "_law_at", "_law_to", "_law_odd", "_law_rows", "_law_twice", "_law_row", "_law_spot", "_law_some"] ["_law_state_here", "_law_board_here", "_law_lay_here"] (ay kD):=⟨rfl,rfl,rfl,by decide+kernel,rfl,by decide+kernel,by decide+kernel⟩
theorem YB {D:Ends}{σ:L2.St}{H:Hp}(h:D.nx σ H):yt D σ H:=h
theorem Zq {t u:TS}{D:Ends}{σ:L2.St}{H:Hp}(h:t {D with nx:=u D} σ H):yr t u D σ H:=h
theorem ZH {te:TE}{g:TG}{D:Ends}{σ:L2.St}{H:Hp}(h:te σ H fun v H1=>g v σ H1 D.nx):nW te g D σ H:=h
theorem UN {t:TA}{σ:L2.St}{H:Hp}{Q:VK}(h:t σ H fun xs H1=>xs.length≤sizeLine∧∀p,H1 p=none→Q (.ref p) (upd H1 p (.lst xs))):yu t σ H Q:=h
theorem YQ {ta:TE}{tr:TA}{σ:L2.St}{H:Hp}{Q:List V→Hp→Prop}(h:ta σ H fun x H1=>tr σ H1 fun xs H2=>Q (x::xs) H2):l7 ta tr σ H Q:=h
theorem Zr {i:Nat}{v:V}{σ:L2.St}{H:Hp}{Q:L2.St→Hp→Prop}(h:Q (σ.set i (some v)) H):fb i v σ H Q:=h
theorem Y8 {K:PySem.W.Frag}{a:Addr}{xs:List V}{H:Hp}{Q:VK}{k:Nat}{σ:L2.St}{te tl:TE}(ha:H a=some (.tup xs)) (hk:0<k) (fF:k≤xs.length) (e1:∀H Q,Q (.ref a) H→te σ H Q) (e2:∀H Q,Q (.int (k:Int)) H→tl σ H Q)
  (q:∀p:Addr,H p=none→Q (.ref p) (upd H p (.tup (xs.drop k)))):qj (jI K) te (qk tl) ql σ H Q:=e1 _ _ (e2 _ _ ⟨_,rfl,show jI K (.ref a) (some (k:Int)) none H Q from UC ha hk fF q⟩)
theorem Mh {f:Addr}{fd:FuncData}(F:aH K "_law_no_lay" "_law_no_lay" kD f fd) (G:Gs mg) (D1:Def P w K mg base 1 "_law_take" ["_law_state_here", "_law_many"] iY):aA P w K mg base aG 2 f fd ["_law_state_here", "_law_board_here", "_law_lay_here"] (tW K):=by
  refine F.ok iB (fun vs H Q E h=> ?_) (fun ao A outer s H vs Q E hr h=> ?_)
  · obtain⟨p,b,l,wd,hg,xs,rfl,_⟩:=h
    rfl
  · obtain⟨p,b,l,wd,hg,xs,rfl,st,bd,hl,lay,q⟩:=h
    rw[NB]
    have i1:=Nz
    have i2:=NA
    generalize vk=KS at i1
    generalize vh=KR at i2
    refine⟨_,Zd (WS (i:=3) (j:=4) (k:=5) rfl iB.nd rfl rfl rfl rfl rfl rfl
        (Za (Zj D1 hr (Za (pv 0) (Za Zi Zb))) (Za (Zj D1 hr (Za (pv 0) (Za (ZL Ye (pv 1) Zi (fun _ _=>rfl)) Zb))) (Za (Zj D1 hr (Za (pv 0) (Za Zi Zb))) Zb))))
      (Zd (Zo (i:=6) iB.nd rfl (Or.inl rfl) (ZL ZN (ZA (Za (ZL Ye (pv 1) Zi (fun _ _=>rfl)) (YU (ls:=kK) i1))) (Zj D1 hr (Za (pv 0) (Za Zi Zb))) (fun _ _=>rfl)))
      (Zd (JL ["_law_row"] 1 [] (i:=7) iB.nd rfl (Or.inl rfl) (UT (pv 2)) (fun C s H fp=>pb 0) (fun C s H fp=>YS (Y6 (YF (pv 0)))) (fun C s H fp D=>ZT rfl (pv 0)))
      (Zd (Zo (i:=8) iB.nd rfl (Or.inl rfl) (Zn Yn (pv 2) (Zz (Za Yw Zb))))
      (Zd (ZS (PW.pt (WP (ZR (Cc hr.tL) (pv 7) (ZA Zb) (cq _)) (JK (ZR xq (Zk Zp rfl G.len boot_len (Za (pv 2) Zb)) Zi (cq _)))))
        (Zd (Zo (i:=9) iB.nd rfl (Or.inl rfl) (ZL ZN (pv 7) (Zn Ys (pv 5) (Zk Zp rfl G.len boot_len (Za (pv 7) Zb))) (fun _ _=>rfl)))
        (Zd (Zo (i:=10) iB.nd rfl (Or.inl rfl) (Zn Ys (Zn ZZ (Zn ZZ (YH PySem.F.plainAttrs_tuple PySem.F.slot_tuple_index PySem.F.type_tuple_index OP (pv 2) (Za (pv 9) Zb)) Zi) (Zn Ys (pv 4) (Zn Yd (Zk Zp rfl G.len boot_len (Za (pv 2) Zb)) Zi))) (Zk Zp rfl G.len boot_len (Za (pv 2) Zb))))
        (Zl (Zo (i:=8) iB.nd rfl (Or.inl rfl) (Zn Yn (Zn Yn (Yr Js (pv 2) YE (YD (pv 10))) (Zz (Za (pv 9) Zb))) (Yr Js (pv 2) (YD (Zn ZZ (pv 10) Zi)) YE)))))) ZD)
      (Zd (Zo (i:=11) iB.nd rfl (Or.inl rfl) (ZA (Za (Zn Yn (Zn Yn (Yr Js (pv 2) YE (YD (pv 4))) (Zz (Za (pv 6) Zb))) (Yr Js (pv 2) (YD (Zn ZZ (pv 4) Zi)) YE))
        (Za (pv 8) (Za (Zn Yn (pv 2) (Zz (Za Yw Zb))) (Za (Yr Js (pv 2) (YD Zi) YE) (Za (Yp W4 rfl G.list boot_list (Za (pv 2) Zb)) Zb)))))))
      (Zd (Zo (i:=11) iB.nd rfl (Or.inl rfl) (Zn YG (pv 11) (ZA (Za Yw (Za JX (Za Uj (Za (Zn Yn (pv 2) (pv 2)) Zb)))))))
      (Zl (ZC (ZL ZN (pv 11) (ZL ZN (ZA (YU (ls:=rG) i2)) (pv 3) (fun _ _=>rfl)) (fun _ _=>rfl)))))))))),?_⟩
    obtain⟨IL,w1,w2,g1,g2⟩:=id bd
    have hb:H b=some (.tup [.int wd,.int hg]):=by
      obtain⟨a,e,h⟩:=ZM IL
      cases e
      exact h
    obtain⟨u0,v0,ep,_⟩:=id st
    have j4:b≠p:=Z7 hb ep (by intro z;cases z)
    have AJ:l≠p:=Z7 hl ep (by intro z;cases z)
    have hlen:=lay.len
    refine⟨_,rfl,p,12,rfl,st,by decide,by decide,fun r1 o1 a1 a2 aw=> ?_⟩
    refine⟨_,rfl,_,rfl,b,_,_,_,rfl,rfl,ai.of (by rw[Zg j4];exact hb),nu,p,wd,rfl,aw,by omega,by omega,fun r2 o2 a3 a4 aj=> ?_⟩
    obtain⟨k2,rfl⟩:=Int.eq_ofNat_of_zero_le a3
    refine⟨_,rfl,p,12,rfl,aj,by decide,by decide,fun r3 o3 a5 a6 aF=> ⟨_,_,_,rfl,?_⟩⟩
    have x3:aq p H (upd (upd (upd H p o1) p o2) p o3):=(aq.upd.trans aq.upd).trans aq.upd
    generalize upd (upd (upd H p o1) p o2) p o3=H3 at aF x3
    have IT:=x3 _ _ hb j4
    have wc:=x3 _ _ hl AJ
    refine⟨_,rfl,b,_,_,_,rfl,rfl,ai.of IT,cO,fun i7 H4 s4 gL n4=> ?_⟩
    have lo:i7.length=7:=Paired.length gL
    refine⟨by show i7.length+1≤sizeLine;rw[lo];decide,fun L4 j7=> ?_⟩
    have s5:ae H4 (upd H4 L4 (.lst (V.int hg::i7))):=Zf j7
    have e5:upd H4 L4 (.lst (V.int hg::i7)) L4=some (.lst (V.int hg::i7)):=Zc
    generalize upd H4 L4 (HO.lst (V.int hg::i7))=H5 at s5 e5
    have zq:ae H3 H5:=s4.trans s5
    refine⟨_,rfl,p,8,rfl,aF.same zq,by decide,by decide,fun r4 o4 a7 a8 iz=> ?_⟩
    obtain⟨u3,v3,sd,_⟩:=id aF
    have FX:L4≠p:=fun z=>by rw[z,s4 _ _ sd]at j7;cases j7
    have aC:r4.toNat< (V.int hg::i7).length:=by rw[List.length_cons,lo];omega
    have fX:=List.getElem?_eq_getElem aC
    have j6:=ZU fX
    rw[Int.toNat_of_nonneg a7]at j6
    have xX:aq p H5 (upd H5 p o4):=aq.upd
    refine⟨L4,_,_,_,rfl,rfl,ah.of (by rw[Zg FX];exact e5),j6,?_⟩
    generalize QI:(V.int hg::i7)[r4.toNat]=od at fX
    have odd:od≠.af∧bM od 0 (hg - 1)=false∧kh K (upd H5 p o4) od:=by
      cases hr:r4.toNat with
      |zero=>
       rw[hr]at fX
       have e:V.int hg=od:=by simpa using fX
       rw[←e]
       refine⟨by simp,?_,⟨_,.int hg⟩,.inl (Cg (by omega) (by omega))⟩
       show(decide (0≤hg)&&decide (hg≤hg - 1))=false
       rw[decide_eq_false (show ¬hg≤hg - 1 by omega),Bool.and_false]
      |succ k=>
       rw[hr]at fX
       have hk:i7[k]? =some od:=by simpa using fX
       obtain⟨lt,HR,LH⟩:=Y2 gL hk
       have gf:=LH.same s5
       have nh:ff (upd H5 p o4) od lt:=by
         have vp:∀a,od=.ref a→a≠p:=fun a e z=>by
           have:=n4 a (by rw[←e];exact List.mem_of_getElem? hk)
           rw[z,sd]at this
           cases this
         cases lt with
         |sc v=>exact gf
         |tup ys=>
          obtain⟨a,e,h⟩:=gf
          exact⟨a,e,by rw[Zg (vp a e)];exact h⟩
         |lst ys=>
          obtain⟨a,e,h⟩:=gf
          exact⟨a,e,by rw[Zg (vp a e)];exact h⟩
         |dU=>
          obtain⟨a,e,h⟩:=gf
          exact⟨a,e,by rw[Zg (vp a e)];exact h⟩
       exact MR g2 (List.mem_of_getElem? HR) nh
    have x6:aq p H (upd H5 p o4):=(x3.trans zq.x).trans xX
    generalize upd H5 p o4=H6 at iz odd x6
    clear xX e5 j7
    have fE:=x6 _ _ hl AJ
    have wB:=x6 _ _ hb j4
    obtain⟨vc,uZ,va⟩:=odd
    obtain⟨u6,v6,r9,_⟩:=id iz
    refine⟨_,rfl,l,rfl,⟨xs,ai.of fE⟩,?_⟩
    refine J5 (xs:=xs) (fun i ys σ H2=>ys=rowsOf (xs.take i)∧H2=H6∧∃v,σ=[v]) ⟨rfl,rfl,none,rfl⟩ (fun i ys σ H2 _ ⟨_,e2,_⟩=>by rw[e2];exact ai.of fE) ?_ ?_
    · rintro i r ys σ H2 cY ⟨rfl,rfl,v,rfl⟩
      have et:rowsOf (xs.take (i+1))=rowsOf (xs.take i)++(if (!decide (r=V.af))=true then [r] else []):=by
        unfold rowsOf
        rw[List.take_add_one,cY,List.filter_append]
        cases hh:(!decide (r=V.af)) with
        |true=>simp[hh]
        |false=>simp[hh]
      refine⟨r,rfl,_,rfl,?_⟩
      cases hh:(!decide (r=V.af)) with
      |true=>
       rw[hh]at et
       refine aX ?_
       refine⟨r,rfl,?_,?_⟩
       · have:=List.length_filter_le (fun x=> !decide (x=V.af)) (xs.take i)
         unfold rowsOf
         rw[sizeLine_eq]
         rw[List.length_take]at this
         omega
       · exact⟨by rw[et,if_pos rfl],rfl,_,rfl⟩
      |false=>
       rw[hh]at et
       exact aM ⟨by rw[et,if_neg Bool.false_ne_true,List.append_nil],rfl,_,rfl⟩
    · rintro ys σ H2 ⟨rfl,rfl,v,rfl⟩ R7 IY
      rw[List.take_length]
      have s7:ae H2 (upd H2 R7 (.lst (rowsOf xs))):=Zf IY
      have e7:upd H2 R7 (.lst (rowsOf xs)) R7=some (.lst (rowsOf xs)):=Zc
      generalize upd H2 R7 (HO.lst (rowsOf xs))=H7 at s7 e7
      refine⟨_,rfl,(by show 1≤sizeLine;decide),fun t8 Hh=> ?_⟩
      have s8:ae H7 (upd H7 t8 (.tup [.af])):=Zf Hh
      refine Yo (s8 _ _ (s7 _ _ fE)) Zc (by simp;omega) fun c9 H9 s9 II=> ?_
      have ES:ae H2 H9:=s7.trans (s8.trans s9)
      have Fu:∀y∈xs++[V.af],kh K H9 y:=fun y hy=>by
        rcases List.mem_append.mp hy with m |m
        · exact ZJ g2 lay y m
        · rw[List.mem_singleton.mp m];exact⟨⟨_,.af⟩,.inl rfl⟩
      have Lq:bt K p wd hg H9 (.ref c9):=ZQ II Fu (Yh (by rw[List.length_append];simp;omega))
      have e9:=(s8.trans s9) _ _ e7
      refine⟨_,rfl,Nat.zero_le _,fun nN GP=> ?_⟩
      have sz:ae H9 (upd H9 nN (.lst [])):=Zf GP
      have ez:upd H9 nN (.lst []) nN=some (.lst []):=Zc
      generalize upd H9 nN (HO.lst [])=tj at sz ez
      have dm:ae H2 tj:=ES.trans sz
      refine⟨R7,nN,rowsOf xs,rfl,rfl,ah.of (sz _ _ e9),ah.of ez,_,rfl,?_⟩
      have il:=Lq.same sz
      cases hE:(rowsOf xs).isEmpty with
      |true=>
       refine aM (aM (YB ?_))
       dsimp only
       have eW:=dm _ _ fE
       refine Zq (ZH (UN (YQ ?_)))
       refine WQ (K:=K) (a:=l) (xs:=xs) (y:=od) (k:=k2) eW (by omega) (by omega) (fun H Q h=> ⟨_,rfl,h⟩) (fun H Q h=> ⟨_,rfl,h⟩) (fun H Q h=> ⟨_,rfl,h⟩)
         (fun H Q h=> ⟨_,rfl,_,_,rfl,rfl,(by have e:((k2+1:Nat):Int)=(k2:Int)+1:=by omega
                                             rw[e]at h;exact h)⟩) fun c11 pU dH oY=> ?_
       have b11:bt K p wd hg pU (.ref c11):=ZQ oY (fun y hy=>by
         rcases List.mem_append.mp hy with m |m
         · rcases List.mem_append.mp m with m |m
           · exact ZJ g2 lay y (List.mem_of_mem_take m)
           · rw[List.mem_singleton.mp m];exact va.same (dm.trans dH)
         · exact ZJ g2 lay y (List.mem_of_mem_drop m)) (WZ vc uZ)
       replace il:=il.same dH
       have jV:=dH _ _ eW
       refine⟨_,rfl,_,rfl,(by show 1≤sizeLine;decide),fun yA oE=> ?_⟩
       have jG:=Zf (o:=.tup [V.af]) oE
       refine Yo (jG _ _ jV) Zc (by simp;omega) fun c13 fN kF oX=> ?_
       have sA:=jG.trans kF
       have b13:bt K p wd hg fN (.ref c13):=ZQ oX (fun y hy=>by
         rcases List.mem_append.mp hy with m |m
         · exact ZJ g2 lay y m
         · rw[List.mem_singleton.mp m];exact⟨⟨_,.af⟩,.inl rfl⟩) (Yh (by rw[List.length_append];simp;omega))
       have jU:=sA _ _ jV
       refine YQ (Y8 (K:=K) (a:=l) (xs:=xs) (k:=1) jU (by omega) (by omega) (fun H Q h=> ⟨_,rfl,h⟩) (fun H Q h=>h) fun c14 oW=> ?_)
       have cW:=Zf (o:=.tup (xs.drop 1)) oW
       have b14:bt K p wd hg (upd fN c14 (.tup (xs.drop 1))) (.ref c14):=ZQ Zc (fun y hy=>ZJ g2 lay y (List.mem_of_mem_drop hy)) (Yh (by rw[List.length_drop];omega))
       generalize upd fN c14 (HO.tup (xs.drop 1))=ir at cW b14
       have jT:=cW _ _ jU
       refine⟨_,rfl,l,xs,rfl,.inr (ai.of jT),fun c15 jY=> ?_⟩
       have fm:=Zf (o:=.lst xs) jY
       have oz:c15≠p:=fun z=>by
         have h:=cW _ _ (sA _ _ (dH _ _ (dm _ _ r9)))
         rw[←z,jY]at h
         cases h
       have b15:bt K p wd hg (upd ir c15 (.lst xs)) (.ref c15):=Wh Zc oz (by omega) fun y hy=> (ZJ (K:=K) g2 lay y hy).2
       generalize upd ir c15 (HO.lst xs)=kq at fm b15
       refine⟨(by show 5≤sizeLine;decide),fun fM pD=> ?_⟩
       have fk:=Zf (o:=.lst [V.ref c11,V.ref c9,V.ref c13,V.ref c14,V.ref c15]) pD
       have e16:upd kq fM (.lst [V.ref c11,V.ref c9,V.ref c13,V.ref c14,V.ref c15]) fM=some (.lst [V.ref c11,V.ref c9,V.ref c13,V.ref c14,V.ref c15]):=Zc
       generalize upd kq fM (HO.lst [V.ref c11,V.ref c9,V.ref c13,V.ref c14,V.ref c15])=ko at fk e16
       have oM:=fk _ _ (fm _ _ jT)
       refine⟨_,rfl,fun aU oU=> ?_⟩
       have dc:=Zf (o:=.dK []) oU
       have b17:bt K p wd hg (upd ko aU (.dK [])) (.ref aU):=Wi Zc
       generalize upd ko aU (HO.dK [])=CZ at dc b17
       have jS:=dc _ _ oM
       refine⟨_,rfl,_,rfl,Yo jS jS (by omega) fun c18 iq gJ oV=> ?_⟩
       have b18:bt K p wd hg iq (.ref c18):=ZQ oV (fun y hy=>by
         rcases List.mem_append.mp hy with m |m
         · exact ZJ g2 lay y m
         · exact ZJ g2 lay y m) (Yh (by rw[List.length_append];omega))
       refine⟨(by show 4≤sizeLine;decide),fun ip pC=> ?_⟩
       have jF:=Zf (o:=.lst [V.af,V.str "1x1: .",V.ref aU,V.ref c18]) pC
       refine⟨fM,ip,_,_,rfl,rfl,jF _ _ (gJ _ _ (dc _ _ e16)),Zc,(by show 5+4≤sizeLine;decide),fun fL pA=> ?_⟩
       have jE:=Zf (o:=.lst ([V.ref c11,V.ref c9,V.ref c13,V.ref c14,V.ref c15]++[V.af,V.str "1x1: .",V.ref aU,V.ref c18])) pA
       have e20:upd (upd iq ip (.lst [V.af,V.str "1x1: .",V.ref aU,V.ref c18])) fL (.lst ([V.ref c11,V.ref c9,V.ref c13,V.ref c14,V.ref c15]++[V.af,V.str "1x1: .",V.ref aU,V.ref c18])) fL=some (.lst ([V.ref c11,V.ref c9,V.ref c13,V.ref c14,V.ref c15]++[V.af,V.str "1x1: .",V.ref aU,V.ref c18])):=Zc
       generalize upd (upd iq ip (.lst [V.af,V.str "1x1: .",V.ref aU,V.ref c18])) fL (HO.lst ([V.ref c11,V.ref c9,V.ref c13,V.ref c14,V.ref c15]++[V.af,V.str "1x1: .",V.ref aU,V.ref c18]))=CY at jE e20
       refine⟨_,rfl,fun gQ pT jD jL zU=> ?_⟩
       have li:gQ.length=12:=Paired.length jL
       refine⟨by rw[li];decide,fun kj pk=> ?_⟩
       have jC:=Zf (o:=.lst gQ) pk
       obtain⟨ci,AV,o7⟩:=U4 a1 a2 jL
       refine⟨_,rfl,kj,_,_,_,rfl,rfl,ah.of Zc,o7,?_⟩
       have sB:=jF.trans (jE.trans (jD.trans jC))
       have pN:∀v∈[V.ref c11,V.ref c9,V.ref c13,V.ref c14,V.ref c15]++[V.af,V.str "1x1: .",V.ref aU,V.ref c18],bt K p wd hg (upd pT kj (.lst gQ)) v:=by
         intro v hv
         have sC:=gJ.trans sB
         have sD:=dc.trans sC
         have sE:=fk.trans sD
         have sF:=fm.trans sE
         have sG:=cW.trans sF
         simp only[List.cons_append,List.nil_append,List.mem_cons,List.not_mem_nil,or_false]at hv
         rcases hv with rfl |rfl |rfl |rfl |rfl |rfl |rfl |rfl |rfl
         · exact b11.same (sA.trans sG)
         · exact il.same (sA.trans sG)
         · exact b13.same sG
         · exact b14.same sF
         · exact b15.same sE
         · exact YZ rfl rfl
         · exact YZ rfl (by decide)
         · exact b17.same sC
         · exact b18.same sB
       have jR:ci< ([V.ref c11,V.ref c9,V.ref c13,V.ref c14,V.ref c15]++[V.af,V.str "1x1: .",V.ref aU,V.ref c18]).length:=by show ci<9;omega
       refine⟨fL,_,_,_,rfl,rfl,ah.of ((jD.trans jC) _ _ e20),ZU (List.getElem?_eq_getElem jR),?_⟩
       have fj:=dm.trans (dH.trans (sA.trans (cW.trans (fm.trans (fk.trans (dc.trans (gJ.trans sB)))))))
       exact q _ _ (x6.trans fj.x) (iz.same fj) (pN _ (List.getElem_mem jR))
      |false=>
       refine aX ?_
       refine⟨_,rfl,l,xs,rfl,.inr (ai.of (dm _ _ fE)),_,_,rfl,rfl,_,rfl,?_⟩
       refine rH (fun h1=> ?_) (fun _=> ?_)
       · have pF:1<xs.length:=by
           have:=of_decide_eq_true h1
           omega
         have nr:0< (rowsOf xs).length:=by
           cases Hv:rowsOf xs with
           |nil=>rw[Hv]at hE;cases hE
           |cons a b=>simp
         have HL:0≤r3%((rowsOf xs).length:Int)∧r3%((rowsOf xs).length:Int)< ((rowsOf xs).length:Int):=⟨Int.emod_nonneg _ (by omega),Int.emod_lt_of_pos _ (by omega)⟩
         have AH:(r3%((rowsOf xs).length:Int)).toNat< (rowsOf xs).length:=by omega
         have wD:=ZU (List.getElem?_eq_getElem AH)
         rw[Int.toNat_of_nonneg HL.1]at wD
         have vX:(rowsOf xs)[(r3%((rowsOf xs).length:Int)).toNat]∈rowsOf xs:=List.getElem_mem AH
         generalize (rowsOf xs)[(r3%((rowsOf xs).length:Int)).toNat]=row at wD vX
         have AE:row∈xs:=(List.mem_filter.mp vX).1
         have Hs:row≠.af:=by simpa using (List.mem_filter.mp vX).2
         obtain⟨ri,rfl⟩:∃ri:Int,row=.int ri:=by
           rcases Jk lay row AE with z |z
           · exact absurd z Hs
           · exact z
         obtain⟨j,hj,iH⟩:=UA xs ri AE (Jk lay)
         have lu:j<xs.length:=(List.getElem?_eq_some_iff.mp hj).1
         have flat:xs.all gz=true:=List.all_eq_true.mpr fun x hx=>by
           rcases Jk lay x hx with z |⟨i,z⟩<;>rw[z]<;>rfl
         have eW:=dm _ _ fE
         refine⟨_,rfl,_,rfl,_,rfl,R7,_,rfl,.inl (ah.of (sz _ _ e9)),_,_,rfl,rfl,by omega,R7,_,_,_,rfl,rfl,ah.of (sz _ _ e9),wD,?_⟩
         refine⟨_,rfl,.inr (.inl ⟨rfl,.inr ⟨_,eW⟩⟩),_,rfl,l,xs,.int ri,j,rfl,rfl,ai.of eW,rfl,flat,⟨_,hj,by show(ri==ri)=true;simp⟩,iH,?_⟩
         have yM:0≤((j:Int)+1+(k2:Int)%((xs.length:Int) - 1))%(xs.length:Int)∧((j:Int)+1+(k2:Int)%((xs.length:Int) - 1))%(xs.length:Int)< (xs.length:Int):=⟨Int.emod_nonneg _ (by omega),Int.emod_lt_of_pos _ (by omega)⟩
         have Er:((j:Int)+1+(k2:Int)%((xs.length:Int) - 1))%(xs.length:Int)≠(j:Int):=by
           have m1:0≤(k2:Int)%((xs.length:Int) - 1):=Int.emod_nonneg _ (by omega)
           have m2:(k2:Int)%((xs.length:Int) - 1)< (xs.length:Int) - 1:=Int.emod_lt_of_pos _ (by omega)
           generalize (k2:Int)%((xs.length:Int) - 1)=m at m1 m2
           intro hz
           by_cases aC:(j:Int)+1+m< (xs.length:Int)
           · rw[Int.emod_eq_of_lt (by omega) aC]at hz
             omega
           · have e:((j:Int)+1+m)%(xs.length:Int)=(j:Int)+1+m - (xs.length:Int):=by
               rw[←Int.sub_emod_right,Int.emod_eq_of_lt (by omega) (by omega)]
             rw[e]at hz
             omega
         refine⟨_,_,rfl,rfl,_,rfl,_,rfl,l,xs,rfl,.inr (ai.of eW),_,_,rfl,rfl,_,_,rfl,rfl,by omega,_,_,rfl,rfl,_,rfl,l,xs,rfl,.inr (ai.of eW),_,_,rfl,rfl,by omega,?_⟩
         refine Zr ?_
         dsimp only
         generalize ((j:Int)+1+(k2:Int)%((xs.length:Int) - 1))%(xs.length:Int)=Qh at yM Er ⊢
         obtain⟨sp,rfl⟩:=Int.eq_ofNat_of_zero_le yM.1
         have Hn:sp<xs.length:=by omega
         have Ho:j≠sp:=by omega
         refine ZH ?_
         refine WQ (K:=K) (a:=l) (xs:=xs) (y:=.int ri) (k:=sp) eW Hn (by omega) (fun H Q h=> ⟨_,rfl,h⟩) (fun H Q h=> ⟨_,rfl,h⟩) (fun H Q h=> ⟨_,rfl,h⟩)
           (fun H Q h=> ⟨_,rfl,_,_,rfl,rfl,(by have e:((sp+1:Nat):Int)=(sp:Int)+1:=by omega
                                               rw[e]at h;exact h)⟩) fun cz Hz El IG=> ?_
         refine Zr ?_
         dsimp only
         have Lp:bt K p wd hg Hz (.ref cz):=ZQ IG (fun y hy=>by
           rcases List.mem_append.mp hy with m |m
           · rcases List.mem_append.mp m with m |m
             · exact ZJ g2 lay y (List.mem_of_mem_take m)
             · rw[List.mem_singleton.mp m];exact ZJ g2 lay _ (List.mem_of_getElem? hj)
           · exact ZJ g2 lay y (List.mem_of_mem_drop m)) (Nw hj Ho (by simp))
         clear il
         have dm:=dm.trans El
         have il:=Lp
         clear eW
         have eW:=dm _ _ fE
         refine Zq (ZH (UN (YQ ?_)))
         refine WQ (K:=K) (a:=l) (xs:=xs) (y:=od) (k:=k2) eW (by omega) (by omega) (fun H Q h=> ⟨_,rfl,h⟩) (fun H Q h=> ⟨_,rfl,h⟩) (fun H Q h=> ⟨_,rfl,h⟩)
           (fun H Q h=> ⟨_,rfl,_,_,rfl,rfl,(by have e:((k2+1:Nat):Int)=(k2:Int)+1:=by omega
                                               rw[e]at h;exact h)⟩) fun c11 pU dH oY=> ?_
         have b11:bt K p wd hg pU (.ref c11):=ZQ oY (fun y hy=>by
           rcases List.mem_append.mp hy with m |m
           · rcases List.mem_append.mp m with m |m
             · exact ZJ g2 lay y (List.mem_of_mem_take m)
             · rw[List.mem_singleton.mp m];exact va.same (dm.trans dH)
           · exact ZJ g2 lay y (List.mem_of_mem_drop m)) (WZ vc uZ)
         replace il:=il.same dH
         have jV:=dH _ _ eW
         refine⟨_,rfl,_,rfl,(by show 1≤sizeLine;decide),fun yA oE=> ?_⟩
         have jG:=Zf (o:=.tup [V.af]) oE
         refine Yo (jG _ _ jV) Zc (by simp;omega) fun c13 fN kF oX=> ?_
         have sA:=jG.trans kF
         have b13:bt K p wd hg fN (.ref c13):=ZQ oX (fun y hy=>by
           rcases List.mem_append.mp hy with m |m
           · exact ZJ g2 lay y m
           · rw[List.mem_singleton.mp m];exact⟨⟨_,.af⟩,.inl rfl⟩) (Yh (by rw[List.length_append];simp;omega))
         have jU:=sA _ _ jV
         refine YQ (Y8 (K:=K) (a:=l) (xs:=xs) (k:=1) jU (by omega) (by omega) (fun H Q h=> ⟨_,rfl,h⟩) (fun H Q h=>h) fun c14 oW=> ?_)
         have cW:=Zf (o:=.tup (xs.drop 1)) oW
         have b14:bt K p wd hg (upd fN c14 (.tup (xs.drop 1))) (.ref c14):=ZQ Zc (fun y hy=>ZJ g2 lay y (List.mem_of_mem_drop hy)) (Yh (by rw[List.length_drop];omega))
         generalize upd fN c14 (HO.tup (xs.drop 1))=ir at cW b14
         have jT:=cW _ _ jU
         refine⟨_,rfl,l,xs,rfl,.inr (ai.of jT),fun c15 jY=> ?_⟩
         have fm:=Zf (o:=.lst xs) jY
         have oz:c15≠p:=fun z=>by
           have h:=cW _ _ (sA _ _ (dH _ _ (dm _ _ r9)))
           rw[←z,jY]at h
           cases h
         have b15:bt K p wd hg (upd ir c15 (.lst xs)) (.ref c15):=Wh Zc oz (by omega) fun y hy=> (ZJ (K:=K) g2 lay y hy).2
         generalize upd ir c15 (HO.lst xs)=kq at fm b15
         refine⟨(by show 5≤sizeLine;decide),fun fM pD=> ?_⟩
         have fk:=Zf (o:=.lst [V.ref c11,V.ref cz,V.ref c13,V.ref c14,V.ref c15]) pD
         have e16:upd kq fM (.lst [V.ref c11,V.ref cz,V.ref c13,V.ref c14,V.ref c15]) fM=some (.lst [V.ref c11,V.ref cz,V.ref c13,V.ref c14,V.ref c15]):=Zc
         generalize upd kq fM (HO.lst [V.ref c11,V.ref cz,V.ref c13,V.ref c14,V.ref c15])=ko at fk e16
         have oM:=fk _ _ (fm _ _ jT)
         refine⟨_,rfl,fun aU oU=> ?_⟩
         have dc:=Zf (o:=.dK []) oU
         have b17:bt K p wd hg (upd ko aU (.dK [])) (.ref aU):=Wi Zc
         generalize upd ko aU (HO.dK [])=CZ at dc b17
         have jS:=dc _ _ oM
         refine⟨_,rfl,_,rfl,Yo jS jS (by omega) fun c18 iq gJ oV=> ?_⟩
         have b18:bt K p wd hg iq (.ref c18):=ZQ oV (fun y hy=>by
           rcases List.mem_append.mp hy with m |m
           · exact ZJ g2 lay y m
           · exact ZJ g2 lay y m) (Yh (by rw[List.length_append];omega))
         refine⟨(by show 4≤sizeLine;decide),fun ip pC=> ?_⟩
         have jF:=Zf (o:=.lst [V.af,V.str "1x1: .",V.ref aU,V.ref c18]) pC
         refine⟨fM,ip,_,_,rfl,rfl,jF _ _ (gJ _ _ (dc _ _ e16)),Zc,(by show 5+4≤sizeLine;decide),fun fL pA=> ?_⟩
         have jE:=Zf (o:=.lst ([V.ref c11,V.ref cz,V.ref c13,V.ref c14,V.ref c15]++[V.af,V.str "1x1: .",V.ref aU,V.ref c18])) pA
         have e20:upd (upd iq ip (.lst [V.af,V.str "1x1: .",V.ref aU,V.ref c18])) fL (.lst ([V.ref c11,V.ref cz,V.ref c13,V.ref c14,V.ref c15]++[V.af,V.str "1x1: .",V.ref aU,V.ref c18])) fL=some (.lst ([V.ref c11,V.ref cz,V.ref c13,V.ref c14,V.ref c15]++[V.af,V.str "1x1: .",V.ref aU,V.ref c18])):=Zc
         generalize upd (upd iq ip (.lst [V.af,V.str "1x1: .",V.ref aU,V.ref c18])) fL (HO.lst ([V.ref c11,V.ref cz,V.ref c13,V.ref c14,V.ref c15]++[V.af,V.str "1x1: .",V.ref aU,V.ref c18]))=CY at jE e20
         refine⟨_,rfl,fun gQ pT jD jL zU=> ?_⟩
         have li:gQ.length=12:=Paired.length jL
         refine⟨by rw[li];decide,fun kj pk=> ?_⟩
         have jC:=Zf (o:=.lst gQ) pk
         obtain⟨ci,AV,o7⟩:=U4 a1 a2 jL
         refine⟨_,rfl,kj,_,_,_,rfl,rfl,ah.of Zc,o7,?_⟩
         have sB:=jF.trans (jE.trans (jD.trans jC))
         have pN:∀v∈[V.ref c11,V.ref cz,V.ref c13,V.ref c14,V.ref c15]++[V.af,V.str "1x1: .",V.ref aU,V.ref c18],bt K p wd hg (upd pT kj (.lst gQ)) v:=by
           intro v hv
           have sC:=gJ.trans sB
           have sD:=dc.trans sC
           have sE:=fk.trans sD
           have sF:=fm.trans sE
           have sG:=cW.trans sF
           simp only[List.cons_append,List.nil_append,List.mem_cons,List.not_mem_nil,or_false]at hv
           rcases hv with rfl |rfl |rfl |rfl |rfl |rfl |rfl |rfl |rfl
           · exact b11.same (sA.trans sG)
           · exact il.same (sA.trans sG)
           · exact b13.same sG
           · exact b14.same sF
           · exact b15.same sE
           · exact YZ rfl rfl
           · exact YZ rfl (by decide)
           · exact b17.same sC
           · exact b18.same sB
         have jR:ci< ([V.ref c11,V.ref cz,V.ref c13,V.ref c14,V.ref c15]++[V.af,V.str "1x1: .",V.ref aU,V.ref c18]).length:=by show ci<9;omega
         refine⟨fL,_,_,_,rfl,rfl,ah.of ((jD.trans jC) _ _ e20),ZU (List.getElem?_eq_getElem jR),?_⟩
         have fj:=dm.trans (dH.trans (sA.trans (cW.trans (fm.trans (fk.trans (dc.trans (gJ.trans sB)))))))
         exact q _ _ (x6.trans fj.x) (iz.same fj) (pN _ (List.getElem_mem jR))
       · refine YB ?_
         dsimp only
         have eW:=dm _ _ fE
         refine Zq (ZH (UN (YQ ?_)))
         refine WQ (K:=K) (a:=l) (xs:=xs) (y:=od) (k:=k2) eW (by omega) (by omega) (fun H Q h=> ⟨_,rfl,h⟩) (fun H Q h=> ⟨_,rfl,h⟩) (fun H Q h=> ⟨_,rfl,h⟩)
           (fun H Q h=> ⟨_,rfl,_,_,rfl,rfl,(by have e:((k2+1:Nat):Int)=(k2:Int)+1:=by omega
                                               rw[e]at h;exact h)⟩) fun c11 pU dH oY=> ?_
         have b11:bt K p wd hg pU (.ref c11):=ZQ oY (fun y hy=>by
           rcases List.mem_append.mp hy with m |m
           · rcases List.mem_append.mp m with m |m
             · exact ZJ g2 lay y (List.mem_of_mem_take m)
             · rw[List.mem_singleton.mp m];exact va.same (dm.trans dH)
           · exact ZJ g2 lay y (List.mem_of_mem_drop m)) (WZ vc uZ)
         replace il:=il.same dH
         have jV:=dH _ _ eW
         refine⟨_,rfl,_,rfl,(by show 1≤sizeLine;decide),fun yA oE=> ?_⟩
         have jG:=Zf (o:=.tup [V.af]) oE
         refine Yo (jG _ _ jV) Zc (by simp;omega) fun c13 fN kF oX=> ?_
         have sA:=jG.trans kF
         have b13:bt K p wd hg fN (.ref c13):=ZQ oX (fun y hy=>by
           rcases List.mem_append.mp hy with m |m
           · exact ZJ g2 lay y m
           · rw[List.mem_singleton.mp m];exact⟨⟨_,.af⟩,.inl rfl⟩) (Yh (by rw[List.length_append];simp;omega))
         have jU:=sA _ _ jV
         refine YQ (Y8 (K:=K) (a:=l) (xs:=xs) (k:=1) jU (by omega) (by omega) (fun H Q h=> ⟨_,rfl,h⟩) (fun H Q h=>h) fun c14 oW=> ?_)
         have cW:=Zf (o:=.tup (xs.drop 1)) oW
         have b14:bt K p wd hg (upd fN c14 (.tup (xs.drop 1))) (.ref c14):=ZQ Zc (fun y hy=>ZJ g2 lay y (List.mem_of_mem_drop hy)) (Yh (by rw[List.length_drop];omega))
         generalize upd fN c14 (HO.tup (xs.drop 1))=ir at cW b14
         have jT:=cW _ _ jU
         refine⟨_,rfl,l,xs,rfl,.inr (ai.of jT),fun c15 jY=> ?_⟩
         have fm:=Zf (o:=.lst xs) jY
         have oz:c15≠p:=fun z=>by
           have h:=cW _ _ (sA _ _ (dH _ _ (dm _ _ r9)))
           rw[←z,jY]at h
           cases h
         have b15:bt K p wd hg (upd ir c15 (.lst xs)) (.ref c15):=Wh Zc oz (by omega) fun y hy=> (ZJ (K:=K) g2 lay y hy).2
         generalize upd ir c15 (HO.lst xs)=kq at fm b15
         refine⟨(by show 5≤sizeLine;decide),fun fM pD=> ?_⟩
         have fk:=Zf (o:=.lst [V.ref c11,V.ref c9,V.ref c13,V.ref c14,V.ref c15]) pD
         have e16:upd kq fM (.lst [V.ref c11,V.ref c9,V.ref c13,V.ref c14,V.ref c15]) fM=some (.lst [V.ref c11,V.ref c9,V.ref c13,V.ref c14,V.ref c15]):=Zc
         generalize upd kq fM (HO.lst [V.ref c11,V.ref c9,V.ref c13,V.ref c14,V.ref c15])=ko at fk e16
         have oM:=fk _ _ (fm _ _ jT)
         refine⟨_,rfl,fun aU oU=> ?_⟩
         have dc:=Zf (o:=.dK []) oU
         have b17:bt K p wd hg (upd ko aU (.dK [])) (.ref aU):=Wi Zc
         generalize upd ko aU (HO.dK [])=CZ at dc b17
         have jS:=dc _ _ oM
         refine⟨_,rfl,_,rfl,Yo jS jS (by omega) fun c18 iq gJ oV=> ?_⟩
         have b18:bt K p wd hg iq (.ref c18):=ZQ oV (fun y hy=>by
           rcases List.mem_append.mp hy with m |m
           · exact ZJ g2 lay y m
           · exact ZJ g2 lay y m) (Yh (by rw[List.length_append];omega))
         refine⟨(by show 4≤sizeLine;decide),fun ip pC=> ?_⟩
         have jF:=Zf (o:=.lst [V.af,V.str "1x1: .",V.ref aU,V.ref c18]) pC
         refine⟨fM,ip,_,_,rfl,rfl,jF _ _ (gJ _ _ (dc _ _ e16)),Zc,(by show 5+4≤sizeLine;decide),fun fL pA=> ?_⟩
         have jE:=Zf (o:=.lst ([V.ref c11,V.ref c9,V.ref c13,V.ref c14,V.ref c15]++[V.af,V.str "1x1: .",V.ref aU,V.ref c18])) pA
         have e20:upd (upd iq ip (.lst [V.af,V.str "1x1: .",V.ref aU,V.ref c18])) fL (.lst ([V.ref c11,V.ref c9,V.ref c13,V.ref c14,V.ref c15]++[V.af,V.str "1x1: .",V.ref aU,V.ref c18])) fL=some (.lst ([V.ref c11,V.ref c9,V.ref c13,V.ref c14,V.ref c15]++[V.af,V.str "1x1: .",V.ref aU,V.ref c18])):=Zc
         generalize upd (upd iq ip (.lst [V.af,V.str "1x1: .",V.ref aU,V.ref c18])) fL (HO.lst ([V.ref c11,V.ref c9,V.ref c13,V.ref c14,V.ref c15]++[V.af,V.str "1x1: .",V.ref aU,V.ref c18]))=CY at jE e20
         refine⟨_,rfl,fun gQ pT jD jL zU=> ?_⟩
         have li:gQ.length=12:=Paired.length jL
         refine⟨by rw[li];decide,fun kj pk=> ?_⟩
         have jC:=Zf (o:=.lst gQ) pk
         obtain⟨ci,AV,o7⟩:=U4 a1 a2 jL
         refine⟨_,rfl,kj,_,_,_,rfl,rfl,ah.of Zc,o7,?_⟩
         have sB:=jF.trans (jE.trans (jD.trans jC))
         have pN:∀v∈[V.ref c11,V.ref c9,V.ref c13,V.ref c14,V.ref c15]++[V.af,V.str "1x1: .",V.ref aU,V.ref c18],bt K p wd hg (upd pT kj (.lst gQ)) v:=by
           intro v hv
           have sC:=gJ.trans sB
           have sD:=dc.trans sC
           have sE:=fk.trans sD
           have sF:=fm.trans sE
           have sG:=cW.trans sF
           simp only[List.cons_append,List.nil_append,List.mem_cons,List.not_mem_nil,or_false]at hv
           rcases hv with rfl |rfl |rfl |rfl |rfl |rfl |rfl |rfl |rfl
           · exact b11.same (sA.trans sG)
           · exact il.same (sA.trans sG)
           · exact b13.same sG
           · exact b14.same sF
           · exact b15.same sE
           · exact YZ rfl rfl
           · exact YZ rfl (by decide)
           · exact b17.same sC
           · exact b18.same sB
         have jR:ci< ([V.ref c11,V.ref c9,V.ref c13,V.ref c14,V.ref c15]++[V.af,V.str "1x1: .",V.ref aU,V.ref c18]).length:=by show ci<9;omega
         refine⟨fL,_,_,_,rfl,rfl,ah.of ((jD.trans jC) _ _ e20),ZU (List.getElem?_eq_getElem jR),?_⟩
         have fj:=dm.trans (dH.trans (sA.trans (cW.trans (fm.trans (fk.trans (dc.trans (gJ.trans sB)))))))
         exact q _ _ (x6.trans fj.x) (iz.same fj) (pN _ (List.getElem_mem jR))
abbrev mh:Stmt:=top 47
def eQ (R:Hp→V→V→Prop):Sp:=fun vs H Q _=> ∃x y,vs=[x,y]∧R H x y∧∀H',ae H H'→Q (.bl true) H'
theorem uq:bu ["_law_found", "_law_due"] ["_law_found", "_law_due"] (ay mh):=⟨rfl,rfl,rfl,by decide+kernel,rfl,by decide+kernel,by decide+kernel⟩
end
end U
namespace U
open PySem L2 PyProof.Rows PyProof.Rows.fK
section
variable {P:Program}{w:World}{K:PySem.W.Frag}{mg:Str→Option Value}{base:Heap}
def Rl (_:Hp) (x y:V):Prop:=(∃i:Int,x=.int i∧y=.int i)∨(∃k:Bool,x=.bl k∧y=.bl k)∨(x=.af∧y=.af)
def CM (R:Hp→V→V→Prop) (H:Hp) (x y:V):Prop:=∃(a b:Addr) (xs ys:List V),x=.ref a∧y=.ref b∧H a=some (.tup xs)∧H b=some (.tup ys)∧Paired (R H) xs ys∧xs.length≤1000
def xE (R:Hp→V→V→Prop) (H:Hp) (x y:V):Prop:=∃(a b:Addr) (xs ys:List V),x=.ref a∧y=.ref b∧H a=some (.lst xs)∧H b=some (.lst ys)∧Paired (R H) xs ys∧xs.length≤1000
def iQ (R:Hp→V→V→Prop) (H:Hp) (x y:V):Prop:=Rl H x y∨CM R H x y
theorem Rl.same {H H':Hp}{x y:V}(r:Rl H x y) (_:ae H H'):Rl H' x y:=r
theorem iQ.same {R:Hp→V→V→Prop}(hR:∀{H H':Hp}{x y:V},R H x y→ae H H'→R H' x y) {H H':Hp}{x y:V}(r:iQ R H x y) (s:ae H H'):iQ R H' x y:=by
 rcases r with r |⟨a,b,xs,ys,e1,e2,h1,h2,pr,hl⟩
 ·exact .inl r
 ·exact .inr ⟨a,b,xs,ys,e1,e2,s _ _ h1,s _ _ h2,Paired.cu pr fun _ _ q=>hR q s,hl⟩
theorem Ul {f:Addr}{fd:FuncData}(F:aH K "_law_same" "_law_same" mh f fd) (G:Gs mg) {k:Nat} :aA P w K mg base aG (k+1) f fd ["_law_found", "_law_due"] (eQ Rl):=by
 refine F.ok uq (fun vs H Q E h=> ?_) (fun ao A outer s H vs Q E hr h=> ?_)
 ·obtain⟨x,y,rfl,_⟩:=h
  rfl
 ·obtain⟨x,y,rfl,r,q⟩:=h
  refine⟨_,Zd (ZS (ZY (Zk (Y5 (a:= "tuple") (b:= "list")) rfl G.isinstance boot_isinstance (Za (pv 1) (Za (Zz (Za (ZI (v:=.ty "tuple") rfl G.tuple boot_tuple rfl) (Za (ZI (v:=.ty "list") rfl G.list boot_list rfl) Zb))) Zb)))) Zy ZD)
   (Zl (ZC (Yx (Ym JD (Zk (ZE (c:= "bool")) rfl G.isinstance boot_isinstance (Za (pv 0) (Za (ZI (v:=.ty "bool") rfl G.bool boot_bool rfl) Zb)))
     (Zk (ZE (c:= "bool")) rfl G.isinstance boot_isinstance (Za (pv 1) (Za (ZI (v:=.ty "bool") rfl G.bool boot_bool rfl) Zb))) (cq _))
    (Yv (Ym JD (pv 0) (pv 1) (cq _)))))),?_⟩
  refine⟨_,rfl,(by show 2≤sizeLine;decide),fun t ht=> ?_⟩
  have s1:=Zf (o:=.tup [V.ty "tuple",V.ty "list"]) ht
  rcases r with ⟨i,rfl,rfl⟩ |⟨k,rfl,rfl⟩ |⟨rfl,rfl⟩
  ·refine⟨_,t,_,_,rfl,ai.of Zc,.inl ⟨i,rfl,rfl⟩,(show _=some false from rfl),_,rfl,aM ?_⟩
   refine⟨_,rfl,_,_,_,rfl,.int i,(show _=some false from rfl),_,rfl,_,_,_,rfl,.int i,(show _=some false from rfl),rfl,_,rfl,?_⟩
   refine aX ⟨_,rfl,_,rfl,rfl,?_⟩
   have e:decide (V.int i=V.int i)=true:=decide_eq_true rfl
   rw[e]
   exact q _ s1
  ·refine⟨_,t,_,_,rfl,ai.of Zc,.inr (.inl ⟨k,rfl,rfl⟩),(show _=some false from rfl),_,rfl,aM ?_⟩
   refine⟨_,rfl,_,_,_,rfl,.bl k,(show _=some true from rfl),_,rfl,_,_,_,rfl,.bl k,(show _=some true from rfl),rfl,_,rfl,?_⟩
   refine aX ⟨_,rfl,_,rfl,(by cases k<;>rfl),?_⟩
   have e:decide (V.bl k=V.bl k)=true:=decide_eq_true rfl
   rw[e]
   exact q _ s1
  ·refine⟨_,t,_,_,rfl,ai.of Zc,.inr (.inr (.inl ⟨rfl,rfl⟩)),(show _=some false from rfl),_,rfl,aM ?_⟩
   refine⟨_,rfl,_,_,_,rfl,.af,(show _=some false from rfl),_,rfl,_,_,_,rfl,.af,(show _=some false from rfl),rfl,_,rfl,?_⟩
   refine aX ⟨_,rfl,_,rfl,rfl,?_⟩
   have e:decide (V.af=V.af)=true:=decide_eq_true rfl
   rw[e]
   exact q _ s1
theorem O0 {R:Hp→V→V→Prop}{k:Nat}(hR:∀{H H':Hp}{x y:V},R H x y→ae H H'→R H' x y) {f:Addr}{fd:FuncData}(F:aH K "_law_same" "_law_same" mh f fd) (G:Gs mg) (D:Def P w K mg base k "_law_same" ["_law_found", "_law_due"] (eQ R)):
  aA P w K mg base aG (k+1) f fd ["_law_found", "_law_due"] (eQ (CM R)):=by
 refine F.ok uq (fun vs H Q E h=> ?_) (fun ao A outer s H vs Q E hr h=> ?_)
 ·obtain⟨x,y,rfl,_⟩:=h
  rfl
 ·obtain⟨x,y,rfl,⟨a,b,xs,ys,rfl,rfl,ha,hb,pr,hl⟩,q⟩:=h
  refine⟨_,Zd (ZS (ZY (Zk (Y5 (a:= "tuple") (b:= "list")) rfl G.isinstance boot_isinstance (Za (pv 1) (Za (Zz (Za (ZI (v:=.ty "tuple") rfl G.tuple boot_tuple rfl) (Za (ZI (v:=.ty "list") rfl G.list boot_list rfl) Zb))) Zb))))
    (Zd (ZS (PW.pt (xw (ZR sO (Zk (ZE (c:= "tuple")) rfl G.isinstance boot_isinstance (Za (pv 0) (Za (ZI (v:=.ty "tuple") rfl G.tuple boot_tuple rfl) Zb))) (Zk (ZE (c:= "tuple")) rfl G.isinstance boot_isinstance (Za (pv 1) (Za (ZI (v:=.ty "tuple") rfl G.tuple boot_tuple rfl) Zb))) (cq _))
      (UQ (ZR sO (Zk (ZE (c:= "list")) rfl G.isinstance boot_isinstance (Za (pv 0) (Za (ZI (v:=.ty "list") rfl G.list boot_list rfl) Zb))) (Zk (ZE (c:= "list")) rfl G.isinstance boot_isinstance (Za (pv 1) (Za (ZI (v:=.ty "list") rfl G.list boot_list rfl) Zb))) (cq _))))) Zy ZD)
    (Zl (ZC (Yx (Ym JD (Zk Zp rfl G.len boot_len (Za (pv 0) Zb)) (Zk Zp rfl G.len boot_len (Za (pv 1) Zb)) (cq _))
     (Yv (Zk Jr rfl G.all boot_all (Za (Yu ["_law_one", "_law_other"] 2 [] (M7 rfl G.zip (Za (pv 0) (Za (pv 1) Zb)))
      (fun C s H fp=>show PG (aV _ _ _ C s H fp) _ (mU K 2 (hX (fb 0) (hX (fb 1) mV))) from Yf rfl (Zt (pb 0) (Zt (pb 1) Z2))) (fun C s H fp=>YC)
      (fun C s H fp D'=>ZT rfl (Zj D hr (Za (pv 0) (Za (pv 1) Zb))))) Zb))))))) ZD) Zy,?_⟩
  refine⟨_,rfl,(by show 2≤sizeLine;decide),fun t ht=> ?_⟩
  have s1:=Zf (o:=.tup [V.ty "tuple",V.ty "list"]) ht
  have e1:upd H t (.tup [V.ty "tuple",V.ty "list"]) t=some (.tup [V.ty "tuple",V.ty "list"]):=Zc
  generalize upd H t (HO.tup [V.ty "tuple",V.ty "list"])=H1 at s1 e1
  have hV:=s1 _ _ ha
  have eJ:=s1 _ _ hb
  refine⟨_,t,_,_,rfl,ai.of e1,.inr (.inr (.inr (.inr ⟨b,ys,rfl,eJ,rfl⟩))),(show _=some true from rfl),_,rfl,aX ?_⟩
  refine⟨_,rfl,_,_,_,rfl,.tup hV,(show _=some true from rfl),_,rfl,_,_,_,rfl,.tup eJ,(show _=some true from rfl),rfl,_,rfl,aM ?_⟩
  refine⟨_,rfl,_,_,_,rfl,.tup hV,(show _=some false from rfl),_,rfl,_,_,_,rfl,.tup eJ,(show _=some false from rfl),rfl,_,rfl,aM ?_⟩
  have hlen:xs.length=ys.length:=Paired.length pr
  refine⟨_,rfl,a,xs,rfl,.inr (ai.of hV),_,rfl,b,ys,rfl,.inr (ai.of eJ),rfl,_,rfl,?_⟩
  have el:decide (V.int (xs.length:Int)=V.int (ys.length:Int))=true:=decide_eq_true (by rw[hlen])
  rw[el]
  refine aX ⟨_,rfl,_,rfl,a,b,rfl,⟨xs,ys,ai.of hV,ai.of eJ⟩,?_⟩
  refine OS (xs:=xs) (zs:=ys) hlen (fun i zs σ H2=> ∃v0 v1,σ=[v0,v1]∧ae H1 H2∧zs=List.replicate i (V.bl true)) ⟨_,_,rfl,ae.refl _,rfl⟩ (fun i zs σ H2 _ ⟨_,_,_,s2,_⟩=> ⟨ai.of (s2 _ _ hV),ai.of (s2 _ _ eJ)⟩) ?_ ?_
  ·rintro i x y T zs σ H2 hx hy hT ⟨v0,v1,rfl,s2,rfl⟩
   obtain⟨y',fW,r⟩:=Y2 pr hx
   rw[hy]at fW
   cases fW
   have sT:=Zf (o:=.par [x,y]) hT
   have hi:i<xs.length:=(List.getElem?_eq_some_iff.mp hx).1
   refine⟨T,_,rfl,ai.qZ Zc,rfl,_,_,rfl,_,_,rfl,rfl,?_⟩
   refine⟨x,rfl,y,rfl,x,y,rfl,hR r (s1.trans (s2.trans sT)),fun H3 s3=> ⟨by rw[List.length_replicate,sizeLine_eq];omega,_,_,rfl,s2.trans (sT.trans s3),?_⟩⟩
   rw[List.replicate_succ']
  ·rintro zs σ H2 ⟨v0,v1,rfl,s2,rfl⟩ p hp
   refine⟨p,List.replicate xs.length true,rfl,?_,?_⟩
   ·rw[List.map_replicate]
    exact ah.of Zc
   ·have e:(List.replicate xs.length true).all id=true:=by simp
    rw[e]
    exact q _ (s1.trans (s2.trans (Zf hp)))
theorem OY {R:Hp→V→V→Prop}{k:Nat}(hR:∀{H H':Hp}{x y:V},R H x y→ae H H'→R H' x y) {f:Addr}{fd:FuncData}(F:aH K "_law_same" "_law_same" mh f fd) (G:Gs mg) (D:Def P w K mg base k "_law_same" ["_law_found", "_law_due"] (eQ R)):
  aA P w K mg base aG (k+1) f fd ["_law_found", "_law_due"] (eQ (xE R)):=by
 refine F.ok uq (fun vs H Q E h=> ?_) (fun ao A outer s H vs Q E hr h=> ?_)
 ·obtain⟨x,y,rfl,_⟩:=h
  rfl
 ·obtain⟨x,y,rfl,⟨a,b,xs,ys,rfl,rfl,ha,hb,pr,hl⟩,q⟩:=h
  refine⟨_,Zd (ZS (ZY (Zk (W5 (a:= "tuple") (b:= "list")) rfl G.isinstance boot_isinstance (Za (pv 1) (Za (Zz (Za (ZI (v:=.ty "tuple") rfl G.tuple boot_tuple rfl) (Za (ZI (v:=.ty "list") rfl G.list boot_list rfl) Zb))) Zb))))
    (Zd (ZS (PW.pt (xw (ZR sO (Zk (ZE (c:= "tuple")) rfl G.isinstance boot_isinstance (Za (pv 0) (Za (ZI (v:=.ty "tuple") rfl G.tuple boot_tuple rfl) Zb))) (Zk (ZE (c:= "tuple")) rfl G.isinstance boot_isinstance (Za (pv 1) (Za (ZI (v:=.ty "tuple") rfl G.tuple boot_tuple rfl) Zb))) (cq _))
      (UQ (ZR sO (Zk (ZE (c:= "list")) rfl G.isinstance boot_isinstance (Za (pv 0) (Za (ZI (v:=.ty "list") rfl G.list boot_list rfl) Zb))) (Zk (ZE (c:= "list")) rfl G.isinstance boot_isinstance (Za (pv 1) (Za (ZI (v:=.ty "list") rfl G.list boot_list rfl) Zb))) (cq _))))) Zy ZD)
    (Zl (ZC (Yx (Ym JD (Zk Zp rfl G.len boot_len (Za (pv 0) Zb)) (Zk Zp rfl G.len boot_len (Za (pv 1) Zb)) (cq _))
     (Yv (Zk Jr rfl G.all boot_all (Za (Yu ["_law_one", "_law_other"] 2 [] (M6 rfl G.zip (Za (pv 0) (Za (pv 1) Zb)))
      (fun C s H fp=>show PG (aV _ _ _ C s H fp) _ (mU K 2 (hX (fb 0) (hX (fb 1) mV))) from Yf rfl (Zt (pb 0) (Zt (pb 1) Z2))) (fun C s H fp=>YC)
      (fun C s H fp D'=>ZT rfl (Zj D hr (Za (pv 0) (Za (pv 1) Zb))))) Zb))))))) ZD) Zy,?_⟩
  refine⟨_,rfl,(by show 2≤sizeLine;decide),fun t ht=> ?_⟩
  have s1:=Zf (o:=.tup [V.ty "tuple",V.ty "list"]) ht
  have e1:upd H t (.tup [V.ty "tuple",V.ty "list"]) t=some (.tup [V.ty "tuple",V.ty "list"]):=Zc
  generalize upd H t (HO.tup [V.ty "tuple",V.ty "list"])=H1 at s1 e1
  have hV:=s1 _ _ ha
  have eJ:=s1 _ _ hb
  refine⟨_,t,_,_,rfl,ai.of e1,.inr ⟨b,ys,rfl,eJ,rfl⟩,(show _=some true from rfl),_,rfl,aX ?_⟩
  refine⟨_,rfl,_,_,_,rfl,.lst hV,(show _=some false from rfl),_,rfl,_,_,_,rfl,.lst eJ,(show _=some false from rfl),rfl,_,rfl,aM ?_⟩
  refine⟨_,rfl,_,_,_,rfl,.lst hV,(show _=some true from rfl),_,rfl,_,_,_,rfl,.lst eJ,(show _=some true from rfl),rfl,_,rfl,aM ?_⟩
  have hlen:xs.length=ys.length:=Paired.length pr
  refine⟨_,rfl,a,xs,rfl,.inl (ah.of hV),_,rfl,b,ys,rfl,.inl (ah.of eJ),rfl,_,rfl,?_⟩
  have el:decide (V.int (xs.length:Int)=V.int (ys.length:Int))=true:=decide_eq_true (by rw[hlen])
  rw[el]
  refine aX ⟨_,rfl,_,rfl,a,b,rfl,⟨xs,ys,ah.of hV,ah.of eJ⟩,?_⟩
  refine OR (xs:=xs) (zs:=ys) (fun i zs σ H2=> ∃v0 v1,σ=[v0,v1]∧ae H1 H2∧zs=List.replicate i (V.bl true)) ⟨_,_,rfl,ae.refl _,rfl⟩ (fun i zs σ H2 _ ⟨_,_,_,s2,_⟩=> ⟨ah.of (s2 _ _ hV),ah.of (s2 _ _ eJ)⟩) ?_ ?_
  ·rintro i x y T zs σ H2 hx hy hT ⟨v0,v1,rfl,s2,rfl⟩
   obtain⟨y',fW,r⟩:=Y2 pr hx
   rw[hy]at fW
   cases fW
   have sT:=Zf (o:=.par [x,y]) hT
   have hi:i<xs.length:=(List.getElem?_eq_some_iff.mp hx).1
   refine⟨T,_,rfl,ai.qZ Zc,rfl,_,_,rfl,_,_,rfl,rfl,?_⟩
   refine⟨x,rfl,y,rfl,x,y,rfl,hR r (s1.trans (s2.trans sT)),fun H3 s3=> ⟨by rw[List.length_replicate,sizeLine_eq];omega,_,_,rfl,s2.trans (sT.trans s3),?_⟩⟩
   rw[List.replicate_succ']
  ·rintro zs σ H2 ⟨v0,v1,rfl,s2,ez⟩ p hp
   rw[Nat.min_eq_left (by omega)]at ez
   subst ez
   refine⟨p,List.replicate xs.length true,rfl,?_,?_⟩
   ·rw[List.map_replicate]
    exact ah.of Zc
   ·have e:(List.replicate xs.length true).all id=true:=by simp
    rw[e]
    exact q _ (s1.trans (s2.trans (Zf hp)))
theorem Mt {CX:iw}{k:Nat}{f:Addr}{fd:FuncData}{ps:List Str}{R S:Hp→V→V→Prop}(h1:aA P w K mg base CX k f fd ps (eQ R)) (h2:aA P w K mg base CX k f fd ps (eQ S)):aA P w K mg base CX k f fd ps (eQ fun H x y=>R H x y∨S H x y):=by
 refine⟨fun vs H Q E h=> ?_,fun A outer s H args us vs Q E hr he hb hv h=> ?_⟩
 ·obtain⟨x,y,e,r |r,q⟩:=h
  ·exact h1.len vs H Q E ⟨x,y,e,r,q⟩
  ·exact h2.len vs H Q E ⟨x,y,e,r,q⟩
 ·obtain⟨x,y,e,r |r,q⟩:=h
  ·exact h1.run A outer s H args us vs Q E hr he hb hv ⟨x,y,e,r,q⟩
  ·exact h2.run A outer s H args us vs Q E hr he hb hv ⟨x,y,e,r,q⟩
theorem OZ {R:Hp→V→V→Prop}{k:Nat}(hR:∀{H H':Hp}{x y:V},R H x y→ae H H'→R H' x y) {f:Addr}{fd:FuncData}(F:aH K "_law_same" "_law_same" mh f fd) (G:Gs mg) (D:Def P w K mg base k "_law_same" ["_law_found", "_law_due"] (eQ R)):
  aA P w K mg base aG (k+1) f fd ["_law_found", "_law_due"] (eQ (iQ R)):=Mt (Ul F G) (O0 (R:=R) hR F G D)
end
section
def tD (Y:Cx) (cl:List (Str×Addr)) (x:Str) (v:V) (H:Hp) (s:Shared):Prop:=∃c u,cl.lookup x=some c∧s.heap.IsCell c (some u)∧RelV v u∧H c=none∧c∉aQ Y.stack
def Ge (so si:Scope):Bool:=si.names.all fun z=>z.2 !=.free||so.names.lookup z.1==some .cell||so.names.lookup z.1==some .free
theorem YI {X:Cx}{scope:Scope}(h:Ge X.env.scope scope=true):∀z∈scope.names,z.2=.free→X.env.kindOf z.1=some .cell∨X.env.kindOf z.1=some .free:=fun z hz e=>by
 have:=List.all_eq_true.mp h z hz
 simp only[Bool.or_eq_true,bne_iff_ne,ne_eq,beq_iff_eq]at this
 rcases this with (h |h) |h
 ·exact absurd e h
 ·exact .inl h
 ·exact .inr h
end
section
variable {Y:Cx}{pins:List (Addr×Obj)}{σ:L2.St}{H:Hp}{s:Shared}
theorem OG {i:Nat}{x:Str}{v:V}{scope:Scope}(I:Inv Y pins σ H s) (hi:Y.N[i]? =some x) (kS:σ[i]? =some (some v)) (hk:Y.env.scope.names.lookup x=some .cell) (fG:Y.fn x=true) (je:(x,NameKind.free)∈scope.names):tD Y (cF scope Y.env) x v H s:=by
 obtain⟨m,hn,hl⟩:=I.loc
 obtain⟨u,r,l⟩:=hl i x v hi kS (.inr (.inl hk))
 obtain⟨c,hc⟩:=Wf (env:=Y.env) je
 have e1:=(Yt hc).1
 rcases l with ⟨cI,_⟩ |⟨_,c',aZ,jX⟩
 ·have:Y.env.scope.names.lookup x=some .local:=cI
  rw[hk]at this
  cases this
 ·rw[aZ]at e1
  have e2:c=c':=e1
  subst e2
  refine⟨c,u,hc,jX,r,I.fI x c aZ,fun hm=> ?_⟩
  rcases List.mem_cons.mp (I.qp c hm) with z |z
  ·exact I.gB x c aZ z
  ·obtain⟨_,o,ho,_⟩:=I.ok.dB.mem z
   exact absurd (Nat.lt_of_lt_of_le (Heap.lt_size ho) (I.ok.ke x c fG aZ)) (Nat.lt_irrefl _)
theorem MK {scope:Scope}{env:Env}{z:Str}{c:Addr}(h:(cF scope env).lookup z=some c):(z,NameKind.free)∈scope.names:=(Yt h).2
end
section
variable {X:Cx}{cS c P fR:Addr}{kf:Nat}
abbrev lq (X:Cx):Str:=X.env.qual++ "<lambda>"
theorem YJ {H H':Hp}{P:Addr}{q:Str}(h:TabAt H P q) (s:ae H H'):TabAt H' P q:=by
 obtain⟨ps,h1,h2,h3⟩:=h
 exact⟨ps,s _ _ h1,h2,fun pos cv z=>by obtain⟨d,e,g⟩:=h3 pos cv z;exact⟨d,e,s _ _ g⟩⟩
structure LCtx (X:Cx) (cS c P fR:Addr) (kf:Nat):Prop where
 lam:CT X c P
 hR:∀b',Def X.prog X.w X.K X.mg b' (kf+2) "_law_refused" ["_law_call"] (l9 X.prog X.w X.K X.mg b' cS (kf+1))
 room:bL (kf+2) X.A
 mR:X.mg "_law_refused" =some (.ref fR)
 kR:PySem.W.keepIn X.K (.ref fR)=true
structure LN (X:Cx) (x:Str) (i:Nat):Prop where
 nx:X.N[i]? =some x
 kx:X.env.scope.names.lookup x=some .cell
 fx:X.fn x=true
def sP (sp:Sp) (vs:List V) (C:Addr) (H:Hp):Prop:=∀Q' E',(∀e H',ae H H'→E' (.ref e) (some C) H')→sp vs H Q' E'
structure xG (params:Arguments) (body:Expr) (scope:Scope) (N:List Str):Prop where
 kind:scope.kind=.function
 co:scope.isCoroutine=false
 gen:scope.isGenerator=false
 i9:∀z∈scope.names,z.2≠.cell
 only:∀z∈scope.names,z.2=.free→z.1∈N
 free:∀x∈N,scope.names.lookup x=some .free
 bind:∀(q:Str) (cl:List (Str×Addr)) (pm:Value) (c:Addr) (ct:Value),bindArgs (PySem.W.kla_fn "<lambda>" q params body scope cl pm (.ref c) ct) ⟨[],[]⟩=pure []
def nK (X:Cx) (kf:Nat) (C:Addr) (f:Addr) (q:Str) (bd:Expr) (scope:Scope) (cl:List (Str×Addr)) (N:List Str) (ws:List V) (Pre:Hp→Prop):Prop:=
 ∀(bZ:Heap) (cc:Addr) (A:Around) (outer:List Env) (s2:Shared) (H2:Hp) (Q2:VK) (E2:XK),bL kf (A.deeper (PySem.W.envX q scope s2.heap.objs.size f (.ref cc) cl))→Pre H2→(∀e H',ae H2 H'→E2 (.ref e) (some C) H')→
  ∃t,PE (ik X.prog X.w X.K X.mg bZ N q scope f (.ref cc) cl A outer s2 H2 E2) bd t∧t (ws.map some) H2 Q2
end
section
theorem Ca {H H':Hp}{P p:Addr}{q:Str}{o:HO}(h:TabAt H P q) (s:aq p H H') (hp:H p=some o) (h1:∀ps,o≠.cg ps) (h2:∀c,o≠gA c q):TabAt H' P q:=by
 obtain⟨ps,e,t,f⟩:=h
 refine⟨ps,s _ _ e fun z=>by rw[z,hp]at e;cases e;exact h1 _ rfl,t,fun pos cv z=> ?_⟩
 obtain⟨d,e1,e2⟩:=f pos cv z
 exact⟨d,e1,s _ _ e2 fun z=>by rw[z,hp]at e2;cases e2;exact h2 _ rfl⟩
theorem Ja {K:PySem.W.Frag}{H H':Hp}{p:Addr}{v:V}(t:ck K H v) (s:aq p H H') (hn:v≠.ref p):aY H' v=aY H v:=by
 obtain⟨T,t⟩:=t
 cases t with
 |tup e=>rw[Zx e,Zx (s _ _ e fun z=>hn (by rw[z]))]
 |lst e=>rw[Zw,Zw,e,s _ _ e fun z=>hn (by rw[z])]
 |aT e=>rw[Zw,Zw,e,s _ _ e fun z=>hn (by rw[z])]
 |dK e=>rw[Zw,Zw,e,s _ _ e fun z=>hn (by rw[z])]
 |dT e=>rw[Zw,Zw,e,s _ _ e fun z=>hn (by rw[z])]
 |_=>rfl
theorem Je {K:PySem.W.Frag}{H H':Hp}{p:Addr}{v:V}(t:ck K H v) (s:aq p H H') (hn:v≠.ref p):ck K H' v:=by
 obtain⟨T,t⟩:=t
 cases t with
 |tup e=>exact⟨_,.tup (s _ _ e fun z=>hn (by rw[z]))⟩
 |lst e=>exact⟨_,.lst (s _ _ e fun z=>hn (by rw[z]))⟩
 |aT e=>exact⟨_,.aT (s _ _ e fun z=>hn (by rw[z]))⟩
 |dK e=>exact⟨_,.dK (s _ _ e fun z=>hn (by rw[z]))⟩
 |dT e=>exact⟨_,.dT (s _ _ e fun z=>hn (by rw[z]))⟩
 |af=>exact⟨_,.af⟩
 |bl b=>exact⟨_,.bl b⟩
 |int i=>exact⟨_,.int i⟩
 |str x=>exact⟨_,.str x⟩
 |ig x=>exact⟨_,.ig x⟩
theorem xu {K:PySem.W.Frag}{H H':Hp}{p:Addr}{v:V}(t:fe K H v) (s:aq p H H') (n:iR p H v):fe K H' v:=by
 refine⟨Je t.1 s n.1,fun xs e y hy=> ?_⟩
 rw[Ja t.1 s n.1]at e
 exact Je (t.2 xs e y hy) s (n.2 xs e y hy)
theorem NG {K:PySem.W.Frag}{H H':Hp}{p q:Addr}{v:V}(t:ck K H v) (s:aq q H H') (hq:v≠.ref q) (n:iR p H v):iR p H' v:=⟨n.1,fun xs e=>n.2 xs (by rw[←Ja t s hq];exact e)⟩
theorem Cn {K:PySem.W.Frag}{H H':Hp}{p:Addr}{v:V}(b:gD K H v) (s:aq p H H') (n:iR p H v):gD K H' v:=⟨xu b.1 s n,by rw[Ja b.1.1 s n.1];exact b.2⟩
theorem MI {K:PySem.W.Frag}{wd hg:Int}{H H':Hp}{p:Addr}{v:V}(b:iT K wd hg H v) (s:aq p H H') (n:iR p H v):iT K wd hg H' v:=⟨xu b.1 s n,by rw[Ja b.1.1 s n.1];exact b.2⟩
theorem WD {K:PySem.W.Frag}{H:Hp}{P:Addr}{ps:Array Value}{v:V}(t:fe K H v) (h:H P=some (.cg ps)):iR P H v:=by
 have key:∀y,ck K H y→y≠.ref P:=fun y ⟨T,ty⟩ z=>by
  subst z
  cases ty with
  |lst e=>rw[h]at e;cases e
  |aT e=>rw[h]at e;cases e
  |tup e=>rw[h]at e;cases e
  |dK e=>rw[h]at e;cases e
  |dT e=>rw[h]at e;cases e
 exact⟨key v t.1,fun xs e y hy=>key y (t.2 xs e y hy)⟩
abbrev cw:Arguments:= {posonlyargs:=[],args:=[],vararg:=none,kwonlyargs:=[],kw_defaults:=[],kwarg:=none,defaults:=[]}
end
def cX (p q:Int×Int):List Key:=[Sum.inl (q.1 - p.1),Sum.inl (q.2 - p.2)]
def allM (ps qs:List (Int×Int)):List (List Key):=ps.flatMap fun p=>qs.map (cX p)
def cK (ms:List (List Key)) (k:List Key):Nat:=ms.countP fun m=>decide (m=k)
theorem Co (a b:List (List Key)) (k:List Key):cK (a++b) k=cK a k+cK b k:=List.countP_append
theorem MJ {ms:List (List Key)}{k:List Key} :0<cK ms k↔k∈ms:=by
 unfold cK
 rw[List.countP_pos_iff]
 constructor
 ·rintro⟨a,h1,h2⟩
  rw[←of_decide_eq_true h2]
  exact h1
 ·intro h
  exact⟨k,h,decide_eq_true rfl⟩
structure HM (kvs:List (List Key×V)) (ms:List (List Key)):Prop where
 val:∀k,bE kvs k=if cK ms k=0 then none else some (.int (cK ms k:Int))
 nd:(kvs.map (·.1)).Nodup
 len:kvs.length≤ms.length
 mem:∀kv∈kvs,kv.1∈ms
theorem HM.nil:HM [] []:=⟨fun k=>rfl,List.nodup_nil,Nat.le_refl _,fun kv h=>by cases h⟩
theorem Nl {kvs:List (List Key×V)}{k:List Key} :(kvs.any fun kv=>decide (kv.1=k))=true↔k∈kvs.map (·.1):=by
 rw[List.any_eq_true,List.mem_map]
 constructor
 ·rintro⟨kv,h1,h2⟩
  exact⟨kv,h1,of_decide_eq_true h2⟩
 ·rintro⟨kv,h1,h2⟩
  exact⟨kv,h1,decide_eq_true h2⟩
theorem HM.put {kvs:List (List Key×V)}{ms:List (List Key)}(h:HM kvs ms) (k:List Key):HM (putK kvs k (.int ((cK ms k:Int)+1))) (ms++[k]):=by
 have ek:∀j,cK (ms++[k]) j=cK ms j+if k=j then 1 else 0:=fun j=>by
  rw[Co]
  congr 1
  unfold cK
  by_cases e:k=j
  ·simp[e,List.countP_cons]
  ·simp[e,List.countP_cons]
 refine⟨fun j=> ?_,?_,?_,fun kv iK=> ?_⟩
 ·rw[N9,ek]
  by_cases e:j=k
  ·subst e
   rw[if_pos rfl,if_pos rfl,if_neg (by omega)]
   congr 2
  ·rw[if_neg e,if_neg (Ne.symm e),Nat.add_zero]
   exact h.val j
 ·unfold putK
  by_cases e:(kvs.any fun kv=>decide (kv.1=k))=true
  ·rw[if_pos e,List.map_map]
   have:((fun x:List Key×V=>x.1)∘fun kv=>if kv.1=k then (kv.1,V.int ((cK ms k:Int)+1)) else kv)=(·.1):=by
    funext kv
    show(if kv.1=k then (kv.1,V.int ((cK ms k:Int)+1)) else kv).1=kv.1
    split<;>rfl
   rw[this]
   exact h.nd
  ·rw[if_neg e,List.map_append]
   refine List.nodup_append.mpr ⟨h.nd,List.pairwise_singleton _ _,fun a ha b hb=> ?_⟩
   have hJ:b=k:=by simpa using hb
   rw[hJ]
   intro z
   rw[z]at ha
   exact e (Nl.mpr ha)
 ·refine Nat.le_trans (YL _ _ _) ?_
  rw[List.length_append]
  have:=h.len
  simp
  omega
 ·have key:kv.1∈kvs.map (·.1)∨kv.1=k:=by
   unfold putK at iK
   split at iK
   ·obtain⟨u,hu,rfl⟩:=List.mem_map.mp iK
    refine .inl ?_
    have:(if u.1=k then (u.1,V.int ((cK ms k:Int)+1)) else u).1=u.1:=by split<;>rfl
    rw[this]
    exact List.mem_map_of_mem hu
   ·rcases List.mem_append.mp iK with z |z
    ·exact .inl (List.mem_map_of_mem z)
    ·have:kv=(k,.int ((cK ms k:Int)+1)):=by simpa using z
     exact .inr (by rw[this])
  rcases key with z |z
  ·obtain⟨u,hu,e⟩:=List.mem_map.mp z
   rw[←e]
   exact List.mem_append_left _ (h.mem u hu)
  ·rw[z];simp
theorem HM.at_ {kvs:List (List Key×V)}{ms:List (List Key)}(h:HM kvs ms) {kv:List Key×V}(hk:kv∈kvs):kv.2=.int (cK ms kv.1:Int):=by
 have v:bE kvs kv.1=some kv.2:=by
  have:∀{l:List (List Key×V)},(l.map (·.1)).Nodup→kv∈l→bE l kv.1=some kv.2:=by
   intro l
   induction l with
   |nil=>intro _ h;cases h
   |cons x r ih=>
    intro nd hm
    rw[List.map_cons,List.nodup_cons]at nd
    by_cases e:x.1=kv.1
    ·rcases List.mem_cons.mp hm with z |z
     ·rw[z,ZV rfl]
     ·exact absurd (List.mem_map_of_mem (f:=fun x:List Key×V=>x.1) z) (by rw[←e];exact nd.1)
    ·rcases List.mem_cons.mp hm with z |z
     ·exact absurd (by rw[z]) e
     ·unfold bE
      rw[List.find?_cons_of_neg (by simpa using e)]
      exact ih nd.2 z
  exact this h.nd hk
 rw[h.val]at v
 split at v
 ·cases v
 ·exact(Option.some.inj v).symm
def gr (xs ys:List V) (a b:Int) (i:Nat):Bool:=match rowAt xs i with
 |some r=>decide (0≤(i:Int)+a)&&decide ((i:Int)+a<ys.length)&&decide (rowAt ys ((i:Int)+a).toNat=some (r+b))
 |none=>false
def eI (xs ys:List V) (a b:Int):Nat→Nat
 |0=>0
 |n+1=>eI xs ys a b n+if gr xs ys a b n=true then 1 else 0
def qU (xs:List V) (n:Nat):List (Int×Int):=(List.range n).filterMap fun l=> (rowAt xs l).map fun r=> ((l:Int),r)
theorem O3 (xs:List V) (n:Nat):qU xs (n+1)=qU xs n++((rowAt xs n).map fun r=> ((n:Int),r)).toList:=by
 unfold qU
 rw[List.range_succ,List.filterMap_append]
 congr 1
 all_goals (cases rowAt xs n<;>rfl)
theorem Nb {ys:List V}{a b:Int} :(a,b)∈aI ys↔0≤a∧a<ys.length∧rowAt ys a.toNat=some b:=by
 rw[CD]
 constructor
 ·rintro⟨l,h1,h2,h3⟩
  have h3:a=(l:Int):=h3
  subst h3
  exact⟨by omega,by omega,by rw[Int.toNat_natCast];exact h2⟩
 ·rintro⟨h1,h2,h3⟩
  exact⟨a.toNat,by omega,h3,by show a=(a.toNat:Int);omega⟩
theorem NJ (ys:List V):(aI ys).Nodup:=(NK ys).imp fun {a b} h e=>h (by rw[e])
theorem Wp {qs:List (Int×Int)}(nd:qs.Nodup) (p:Int×Int) (a b:Int):cK (qs.map (cX p)) [Sum.inl a,Sum.inl b]=if (p.1+a,p.2+b)∈qs then 1 else 0:=by
 have e:cK (qs.map (cX p)) [Sum.inl a,Sum.inl b]=qs.countP fun q=>decide (q=(p.1+a,p.2+b)):=by
  unfold cK
  rw[List.countP_map]
  refine List.countP_congr fun q _=> ?_
  show decide (cX p q=[Sum.inl a,Sum.inl b])=true↔decide (q=(p.1+a,p.2+b))=true
  rw[decide_eq_true_iff,decide_eq_true_iff]
  unfold cX
  constructor
  ·intro h
   injection h with h1 h2
   injection h2 with h2 _
   injection h1 with h1
   injection h2 with h2
   exact Prod.ext (by show q.1=p.1+a;omega) (by show q.2=p.2+b;omega)
  ·intro h
   rw[h]
   show [Sum.inl (p.1+a - p.1),Sum.inl (p.2+b - p.2)]=_
   rw[show p.1+a - p.1=a by omega,show p.2+b - p.2=b by omega]
 have one:∀{l:List (Int×Int)}{x:Int×Int},l.Nodup→l.countP (fun q=>decide (q=x))=if x∈l then 1 else 0:=by
  intro l x
  induction l with
  |nil=>intro _;rfl
  |cons y r ih=>
   intro nd
   rw[List.nodup_cons]at nd
   by_cases z:y=x
   ·subst z
    rw[List.countP_cons,ih nd.2,if_neg nd.1,if_pos List.mem_cons_self,if_pos (decide_eq_true rfl)]
   ·rw[List.countP_cons,ih nd.2,if_neg (show ¬decide (y=x)=true by rw[decide_eq_false z];exact Bool.false_ne_true),Nat.add_zero]
    by_cases m:x∈r
    ·rw[if_pos m,if_pos (List.mem_cons_of_mem _ m)]
    ·rw[if_neg m,if_neg fun h=> (List.mem_cons.mp h).elim (fun e=>z e.symm) m]
 rw[e]
 exact one nd
theorem Wc (xs ys:List V) (a b:Int):∀n,cK (allM (qU xs n) (aI ys)) [Sum.inl a,Sum.inl b]=eI xs ys a b n
 |0=>rfl
 |n+1=>by
  have ih:=Wc xs ys a b n
  unfold allM at *
  rw[O3,List.flatMap_append,Co,ih]
  show _=eI xs ys a b n+_
  congr 1
  cases hr:rowAt xs n with
  |none=>
   have hh:¬gr xs ys a b n=true:=by unfold gr;rw[hr];exact Bool.false_ne_true
   rw[if_neg hh]
   rfl
  |some r=>
   show cK (List.flatMap (fun p=> (aI ys).map (cX p)) [((n:Int),r)]) _=_
   rw[List.flatMap_singleton,Wp (NJ ys)]
   have iff:=Nb (ys:=ys) (a:=(n:Int)+a) (b:=r+b)
   have hh:gr xs ys a b n=true↔((n:Int)+a,r+b)∈aI ys:=by
    unfold gr
    rw[hr,iff]
    simp only[Bool.and_eq_true,decide_eq_true_eq,and_assoc]
   by_cases h:((n:Int)+a,r+b)∈aI ys
   ·rw[if_pos h,if_pos (hh.mpr h)]
   ·rw[if_neg h,if_neg fun z=>h (hh.mp z)]
abbrev bH (xs ys:List V) (a b:Int):Nat:=eI xs ys a b xs.length
theorem Jn (xs ys:List V) (a b:Int):cK (allM (aI xs) (aI ys)) [Sum.inl a,Sum.inl b]=bH xs ys a b:=Wc xs ys a b xs.length
def gK (xs ys:List V) (a:Int) (lo:Int) (n:Nat):List (List Int):=(List.range n).filterMap fun(j:Nat)=>if 0<bH xs ys a (lo+j) then some [a,lo+j,(bH xs ys a (lo+j):Int)] else none
def iO (xs ys:List V) (la lb:Int) (nb:Nat) (n:Nat):List (List Int):=(List.range n).flatMap fun(i:Nat)=>gK xs ys (la+i) lb nb
theorem Ju (xs ys:List V) (a lo:Int) (n:Nat):gK xs ys a lo (n+1)=gK xs ys a lo n++(if 0<bH xs ys a (lo+n) then [[a,lo+n,(bH xs ys a (lo+n):Int)]] else []):=by
 unfold gK
 rw[List.range_succ,List.filterMap_append]
 congr 1
 by_cases h:0<bH xs ys a (lo+n)
 ·simp[h]
 ·simp[h]
theorem JB (xs ys:List V) (la lb:Int) (nb n:Nat):iO xs ys la lb nb (n+1)=iO xs ys la lb nb n++gK xs ys (la+n) lb nb:=by
 unfold iO
 rw[List.range_succ,List.flatMap_append,List.flatMap_singleton]
theorem Jf {xs ys:List V}{a lo:Int}{n:Nat}{k:List Int} :k∈gK xs ys a lo n↔∃j:Nat,j<n∧0<bH xs ys a (lo+j)∧k=[a,lo+j,(bH xs ys a (lo+j):Int)]:=by
 unfold gK
 rw[List.mem_filterMap]
 constructor
 ·rintro⟨j,hj,e⟩
  split at e
  ·rename_i h
   exact⟨j,List.mem_range.mp hj,h,(Option.some.inj e).symm⟩
  ·cases e
 ·rintro⟨j,hj,h,rfl⟩
  exact⟨j,List.mem_range.mpr hj,by rw[if_pos h]⟩
theorem Jg {xs ys:List V}{la lb:Int}{nb n:Nat}{k:List Int} :k∈iO xs ys la lb nb n↔∃i j:Nat,i<n∧j<nb∧0<bH xs ys (la+i) (lb+j)∧k=[la+i,lb+j,(bH xs ys (la+i) (lb+j):Int)]:=by
 unfold iO
 rw[List.mem_flatMap]
 constructor
 ·rintro⟨i,hi,h⟩
  obtain⟨j,hj,h1,h2⟩:=Jf.mp h
  exact⟨i,j,List.mem_range.mp hi,hj,h1,h2⟩
 ·rintro⟨i,j,hi,hj,h1,h2⟩
  exact⟨i,List.mem_range.mpr hi,Jf.mpr ⟨j,hj,h1,h2⟩⟩
theorem CC {a a':Int}{l m:List Int}(h:a<a'):cC (a::l) (a'::m)=true:=by
 show(if a=a' then _ else decide (a<a'))=true
 rw[if_neg (by omega),decide_eq_true h]
theorem Nx {a b b':Int}{l m:List Int}(h:b<b'):cC (a::b::l) (a::b'::m)=true:=by
 show(if a=a then _ else _)=true
 rw[if_pos rfl]
 exact CC h
theorem Wz (xs ys:List V) (a lo:Int):∀n,(gK xs ys a lo n).Pairwise fun u v=>cC u v=true
 |0=>List.Pairwise.nil
 |n+1=>by
  rw[Ju]
  refine List.pairwise_append.mpr ⟨Wz xs ys a lo n,by split<;>simp,fun u hu v hv=> ?_⟩
  obtain⟨j,hj,_,rfl⟩:=Jf.mp hu
  split at hv
  ·have:v=[a,lo+n,(bH xs ys a (lo+n):Int)]:=by simpa using hv
   rw[this]
   exact Nx (by omega)
  ·cases hv
theorem JC (xs ys:List V) (la lb:Int) (nb:Nat):∀n,(iO xs ys la lb nb n).Pairwise fun u v=>cC u v=true
 |0=>List.Pairwise.nil
 |n+1=>by
  rw[JB]
  refine List.pairwise_append.mpr ⟨JC xs ys la lb nb n,Wz _ _ _ _ _,fun u hu v hv=> ?_⟩
  obtain⟨i,j,hi,_,_,rfl⟩:=Jg.mp hu
  obtain⟨j',_,_,rfl⟩:=Jf.mp hv
  exact CC (by omega)
theorem Ug (xs ys:List V) (a lo:Int) (n:Nat):(gK xs ys a lo n).length≤n:=by
 unfold gK
 exact Nat.le_trans (List.length_filterMap_le _ _) (by rw[List.length_range];exact Nat.le_refl _)
theorem Wd (xs ys:List V) (la lb:Int) (nb:Nat):∀n,(iO xs ys la lb nb n).length≤n*nb
 |0=>Nat.zero_le _
 |n+1=>by
  rw[JB,List.length_append,Nat.add_mul]
  have:=Wd xs ys la lb nb n
  have:=Ug xs ys (la+n) lb nb
  omega
def gk (wd hg:Int) (xs ys:List V):List (List Int):=iO xs ys (1 - wd) (1 - hg) (2*hg - 1).toNat (2*wd - 1).toNat
def dZ (kv:List Key×V):List Int:=(kv.1.map fun k=>match k with |Sum.inl i=>i |Sum.inr _=>0)++[match kv.2 with | .int n=>n |_=>0]
theorem Ol {ps qs:List (Int×Int)}{k:List Key} :k∈allM ps qs↔∃p∈ps,∃q∈qs,k=cX p q:=by
 unfold allM
 rw[List.mem_flatMap]
 constructor
 ·rintro⟨p,hp,h⟩
  obtain⟨q,hq,rfl⟩:=List.mem_map.mp h
  exact⟨p,hp,q,hq,rfl⟩
 ·rintro⟨p,hp,q,hq,rfl⟩
  exact⟨p,hp,List.mem_map_of_mem hq⟩
theorem HM.dZ {kvs:List (List Key×V)}{xs ys:List V}(h:HM kvs (allM (aI xs) (aI ys))) {kv:List Key×V}(hk:kv∈kvs):
  ∃p∈aI xs,∃q∈aI ys,kv.1=cX p q∧kv.2=.int (bH xs ys (q.1 - p.1) (q.2 - p.2):Int)∧0<bH xs ys (q.1 - p.1) (q.2 - p.2)∧U.dZ kv=[q.1 - p.1,q.2 - p.2,(bH xs ys (q.1 - p.1) (q.2 - p.2):Int)]:=by
 obtain⟨p,hp,q,hq,e⟩:=Ol.mp (h.mem kv hk)
 have v:=h.at_ hk
 have c:cK (allM (aI xs) (aI ys)) kv.1=bH xs ys (q.1 - p.1) (q.2 - p.2):=by rw[e];exact Jn xs ys _ _
 rw[c]at v
 have pos:0<cK (allM (aI xs) (aI ys)) kv.1:=MJ.mpr (h.mem kv hk)
 rw[c]at pos
 refine⟨p,hp,q,hq,e,v,pos,?_⟩
 unfold U.dZ
 rw[e,v]
 rfl
theorem B7 {wd hg:Int}{xs:List V}(l:eP wd hg xs) {p:Int×Int}(hp:p∈aI xs):0≤p.1∧p.1<wd∧0≤p.2∧p.2<hg:=by
 obtain⟨i,hi,hr,e⟩:=CD.mp hp
 have:=l.len
 have rr:xs[i]? =some (.int p.2):=by
  unfold rowAt at hr
  cases h:xs[i]? with
  |none=>rw[h]at hr;cases hr
  |some v=>
   rw[h]at hr
   cases v<;>first |(cases hr;rfl) |cases hr
 have m:V.int p.2∈rowsOf xs:=List.mem_filter.mpr ⟨List.mem_of_getElem? rr,by simp⟩
 have q:=l.row _ m
 have q:(decide (0≤p.2)&&decide (p.2≤hg - 1))=true:=q
 simp only[Bool.and_eq_true,decide_eq_true_eq]at q
 omega
theorem HM.K6 {kvs:List (List Key×V)}{xs ys:List V}{wd hg:Int}(h:HM kvs (allM (aI xs) (aI ys))) (lx:eP wd hg xs) (ly:eP wd hg ys):(kvs.map U.dZ).Perm (gk wd hg xs ys):=by
 have inj:∀{u v:List Key×V},u∈kvs→v∈kvs→U.dZ u=U.dZ v→u.1=v.1:=fun {u v} hu hv e=>by
  obtain⟨p,_,q,_,e1,_,_,t1⟩:=h.dZ hu
  obtain⟨p',_,q',_,e2,_,_,t2⟩:=h.dZ hv
  rw[t1,t2]at e
  injection e with f1 f2
  injection f2 with f2 _
  rw[e1,e2]
  unfold cX
  rw[f1,f2]
 refine(List.perm_ext_iff_of_nodup ?_ ?_).mpr fun k=> ?_
 ·have:∀{l:List (List Key×V)},(∀u∈l,u∈kvs)→(l.map (·.1)).Nodup→(l.map U.dZ).Nodup:=by
   intro l
   induction l with
   |nil=>intro _ _;exact List.nodup_nil
   |cons x r ih=>
    intro hm nd
    rw[List.map_cons,List.nodup_cons]at nd ⊢
    refine⟨fun hx=> ?_,ih (fun u hu=>hm u (List.mem_cons_of_mem _ hu)) nd.2⟩
    obtain⟨y,hy,e⟩:=List.mem_map.mp hx
    exact nd.1 (List.mem_map.mpr ⟨y,hy,inj (hm y (List.mem_cons_of_mem _ hy)) (hm x List.mem_cons_self) e⟩)
  exact this (fun u hu=>hu) h.nd
 ·refine(JC xs ys _ _ _ _).imp fun {u v} hl e=> ?_
  rw[e]at hl
  have:=Ji _ _ hl
  rw[this]at hl
  cases hl
 ·constructor
  ·intro hk
   obtain⟨kv,iK,rfl⟩:=List.mem_map.mp hk
   obtain⟨p,hp,q,hq,e,v,pos,t⟩:=h.dZ iK
   have a:=B7 lx hp
   have b:=B7 ly hq
   rw[t]
   refine Jg.mpr ⟨(q.1 - p.1 - (1 - wd)).toNat,(q.2 - p.2 - (1 - hg)).toNat,by omega,by omega,?_⟩
   have e1:1 - wd+((q.1 - p.1 - (1 - wd)).toNat:Int)=q.1 - p.1:=by omega
   have e2:1 - hg+((q.2 - p.2 - (1 - hg)).toNat:Int)=q.2 - p.2:=by omega
   rw[e1,e2]
   exact⟨pos,rfl⟩
  ·intro hk
   obtain⟨i,j,_,_,pos,rfl⟩:=Jg.mp hk
   rw[←Jn]at pos
   have v:=h.val [Sum.inl (1 - wd+i),Sum.inl (1 - hg+j)]
   rw[if_neg (by omega)]at v
   unfold bE at v
   obtain⟨kv,hf,e⟩:=Option.map_eq_some_iff.mp v
   have hm:=List.mem_of_find?_eq_some hf
   have bA:kv.1=[Sum.inl (1 - wd+(i:Int)),Sum.inl (1 - hg+(j:Int))]:=by
    have z:=List.find?_some hf
    exact of_decide_eq_true z
   refine List.mem_map.mpr ⟨kv,hm,?_⟩
   unfold U.dZ
   rw[bA,e,Jn]
   rfl
theorem Nk (wd hg:Int) (xs ys:List V):(gk wd hg xs ys).Pairwise fun a b=>cC b a=false:=(JC xs ys _ _ _ _).imp fun {a b} h=>Ji _ _ h
theorem Oa {wd hg:Int}{xs ys:List V}{ks:List (List Int)}(p:ks.Perm (gk wd hg xs ys)) (r:ks.Pairwise fun a b=>cC b a=false):ks=gk wd hg xs ys:=
 List.Perm.eq_of_pairwise (le:=fun a b=>cC b a=false) (fun a b _ _ h1 h2=>CA _ _ h2 h1) r (Nk wd hg xs ys) p
section
variable {P:Program}{w:World}{K:PySem.W.Frag}{mg:Str→Option Value}{base:Heap}{cB cL cN:Addr}
abbrev qJ:Stmt:=top 21
def qv (K:PySem.W.Frag):Sp:=fun vs H Q _=> ∃x,vs=[x]∧ck K H x∧whole x=true∧Q .af H
theorem yZ:bu ["number"] ["number"] (ay qJ):=⟨rfl,rfl,rfl,by decide+kernel,rfl,by decide+kernel,by decide+kernel⟩
theorem ME {f:Addr}{fd:FuncData}(F:aH K "need_whole" "need_whole" qJ f fd) (D1:Def P w K mg base 1 "is_whole" ["thing"] (nZ K)):aA P w K mg base aG 2 f fd ["number"] (qv K):=by
 refine F.ok yZ (fun vs H Q E h=> ?_) (fun ao A outer s H vs Q E hr h=> ?_)
 ·obtain⟨x,rfl,_⟩:=h
  rfl
 ·obtain⟨x,rfl,t,hx,q⟩:=h
  refine⟨_,Zl (ZS (Yk (ZY (Zj D1 hr (Za (pv 0) Zb)))) Zy ZD),?_⟩
  refine⟨_,rfl,x,rfl,t,_,rfl,?_⟩
  rw[hx]
  exact aM q
def t9 (K:PySem.W.Frag) (cN:Addr):Sp:=fun vs H _ E=> ∃x,vs=[x]∧ck K H x∧whole x=false∧∀e H',ae H H'→E (.ref e) (some cN) H'
theorem Mj {f:Addr}{fd:FuncData}(F:aH K "need_whole" "need_whole" qJ f fd) (mN:mg "NoNumber" =some (.ref cN)) (xN:PySem.W.excIn K cN mZ "ValueError.__new__" =true) (D1:Def P w K mg base 1 "is_whole" ["thing"] (nZ K)):aA P w K mg base (bB P w) 2 f fd ["number"] (t9 K cN):=by
 refine F.i8 yZ (fun vs H Q E h=> ?_) (fun ao A outer s H vs Q E hr h=> ?_)
 ·obtain⟨x,rfl,_⟩:=h
  rfl
 ·obtain⟨x,rfl,t,hx,q⟩:=h
  refine⟨_,Zl (ZS (Yk (ZY (Zj D1 hr (Za (pv 0) Zb)))) (Zl (JU PySem.F.excBase_ValueError mN xN rfl (Za JX Zb))) ZD),?_⟩
  refine⟨_,rfl,x,rfl,t,_,rfl,?_⟩
  rw[hx]
  exact aX ⟨by show 1≤sizeLine;decide,fun e=>q e H (ae.refl H)⟩
abbrev qO:Stmt:=top 29
def n9:Sp:=fun vs H Q _=> ∃x y z wd hg xs ys,vs=[x,y,z]∧cP H x y wd hg xs∧cP H x z wd hg ys∧∀(d:Addr) (H':Hp) (kvs:List (List Key×V)),ae H H'→H d=none→H' d=some (.dT kvs)→HM kvs (allM (aI xs) (aI ys))→Q (.ref d) H'
theorem fQ:bu ["board", "one", "other", "starts", "ends", "many_by_move", "line", "row", "at", "there", "move"] ["board", "one", "other"] (ay qO):=⟨rfl,rfl,rfl,by decide+kernel,rfl,by decide+kernel,by decide+kernel⟩
theorem Ob {ps qs:List (Int×Int)}{p:Int×Int}{i:Nat}(h:ps[i]? =some p):allM (ps.take (i+1)) qs=allM (ps.take i) qs++qs.map (cX p):=by
 unfold allM
 rw[List.take_add_one,h,List.flatMap_append]
 show _++List.flatMap _ [p]=_
 rw[List.flatMap_singleton]
theorem vA {H H':Hp}{x y:V}{wd hg:Int}{xs:List V}(l:cP H x y wd hg xs) (s:ae H H'):cP H' x y wd hg xs:=⟨l.1.same s,s.aY l.2.1,l.2.2⟩
theorem HM.get {kvs:List (List Key×V)}{ms:List (List Key)}(h:HM kvs ms) (k:List Key):(bE kvs k).getD (.int 0)=.int (cK ms k:Int):=by
 rw[h.val]
 split
 ·rename_i e
  rw[e]
  rfl
 ·rfl
theorem Mz {f:Addr}{fd:FuncData}(F:aH K "hits_by_move" "hits_by_move" qO f fd) (D1:Def P w K mg base 7 "points" ["board", "lay"] qu):aA P w K mg base aG 8 f fd ["board", "one", "other"] n9:=by
 refine F.ok fQ (fun vs H Q E h=> ?_) (fun ao A outer s H vs Q E hr h=> ?_)
 ·obtain⟨x,y,z,wd,hg,xs,ys,rfl,_⟩:=h
  rfl
 ·obtain⟨x,y,z,wd,hg,xs,ys,rfl,la,lb,q⟩:=h
  have hu:=sJ hr
  refine⟨_,Zd (Zo (i:=3) fQ.nd rfl (Or.inl rfl) (Zj D1 hr (Za (pv 0) (Za (pv 1) Zb))))
   (Zd (Zo (i:=4) fQ.nd rfl (Or.inl rfl) (Zj D1 hr (Za (pv 0) (Za (pv 2) Zb))))
   (Zd (Zo (i:=5) fQ.nd rfl (Or.inl rfl) Ui)
   (Zd (Yb PassesOwn.never rfl (Yl (pv 3)) (Yf rfl (Zt (ZB (i:=6) fQ.nd rfl (Or.inl rfl)) (Zt (ZB (i:=7) fQ.nd rfl (Or.inl rfl)) Z2)))
    (Zl (Yb PassesOwn.never rfl (Yl (pv 4)) (Yf rfl (Zt (ZB (i:=8) fQ.nd rfl (Or.inl rfl)) (Zt (ZB (i:=9) fQ.nd rfl (Or.inl rfl)) Z2)))
     (Zd (Zo (i:=10) fQ.nd rfl (Or.inl rfl) (Zz (Za (Zn Yd (pv 8) (pv 6)) (Za (Zn Yd (pv 9) (pv 7)) Zb))))
     (Zl (CI hu (pv 5) (pv 10) (Zn ZZ (Uk hu (pv 5) (pv 10) Zi ⟨rfl,rfl,rfl,rfl⟩) Zi) rfl))))))
   (Zl (ZC (pv 5)))))),?_⟩
  refine Zq (ZH ⟨_,rfl,_,rfl,x,y,wd,hg,xs,rfl,la,fun l1 H1 ps s1 n1 e1 mn=>Zr ?_⟩)
  dsimp only[List.set]
  refine Zq (ZH ⟨_,rfl,_,rfl,x,z,wd,hg,ys,rfl,vA lb s1,fun l2 H2 qs s2 n2 e2 cj=>Zr ?_⟩)
  dsimp only[List.set]
  refine Zq (ZH fun d hd=>Zr ?_)
  dsimp only[List.set]
  have lN:=s2 _ _ e1
  have Fi:Paired (nC H2) ps (aI xs):=Paired.cu mn fun v q h=>h.same s2
  have s3:aq d H2 (upd H2 d (.dT [])):=aq.upd
  have e3:upd H2 d (.dT []) d=some (.dT []):=Zc
  generalize upd H2 d (HO.dT [])=H3 at s3 e3
  have Qu:l1≠d:=Ze lN hd
  have Qt:l2≠d:=Ze e2 hd
  have small:(aI xs).length≤12∧(aI ys).length≤12:=by
   have a:=WR xs
   have b:=WR ys
   have c:=la.2.2.len
   have c':=lb.2.2.len
   have:=la.1.2.2.1
   omega
  have keep:∀{H':Hp},aq d H2 H'→∀{t:Addr}{o:HO},H2 t=some o→H' t=some o:=fun {H'} sx {t o} h=>sx _ _ h (Ze h hd)
  refine Zq ⟨_,rfl,l1,rfl,⟨ps,ah.of (keep s3 lN)⟩,?_⟩
  refine YN (K:=K) (a:=l1) (xs:=ps) (fun i σ H'=> ∃kvs v6 v7 v8 v9 v10,σ=[some x,some y,some z,some (.ref l1),some (.ref l2),some (.ref d),v6,v7,v8,v9,v10]∧aq d H2 H'∧H' d=some (.dT kvs)∧HM kvs (allM ((aI xs).take i) (aI ys)))
   ⟨_,none,none,none,none,none,rfl,s3,e3,HM.nil⟩ (fun i σ H' _ ⟨_,_,_,_,_,_,_,sx,_⟩=>ah.of (keep sx lN)) ?_ ?_
  ·rintro i v σ H4 hv ⟨kvs,v6,v7,v8,v9,v10,rfl,nX,e4,lr⟩
   obtain⟨p,hp,t,rfl,ht⟩:=Paired.at Fi hv
   refine⟨t,_,rfl,ai.of (keep nX ht),rfl,_,_,rfl,_,_,rfl,rfl,?_⟩
   dsimp only[List.set]
   have hi:i< (aI xs).length:=(List.getElem?_eq_some_iff.mp hp).1
   refine⟨_,rfl,l2,rfl,⟨qs,ah.of (keep nX e2)⟩,?_⟩
   refine YN (K:=K) (a:=l2) (xs:=qs) (fun j σ H'=> ∃kvs v8 v9 v10,σ=[some x,some y,some z,some (.ref l1),some (.ref l2),some (.ref d),some (.int p.1),some (.int p.2),v8,v9,v10]∧aq d H2 H'∧H' d=some (.dT kvs)∧HM kvs (allM ((aI xs).take i) (aI ys)++((aI ys).take j).map (cX p)))
    ⟨_,v8,v9,v10,rfl,nX,e4,by rw[List.take_zero,List.map_nil,List.append_nil];exact lr⟩ (fun j σ H' _ ⟨_,_,_,_,_,sx,_⟩=>ah.of (keep sx e2)) ?_ ?_
   ·rintro j u σ H5 oD ⟨Ab,u8,u9,tM,rfl,qo,e5,iI⟩
    obtain⟨r,cY,t2,rfl,vN⟩:=Paired.at cj oD
    have hj:j< (aI ys).length:=(List.getElem?_eq_some_iff.mp cY).1
    refine⟨t2,_,rfl,ai.of (keep qo vN),rfl,_,_,rfl,_,_,rfl,rfl,?_⟩
    dsimp only[List.set]
    refine Zq (ZH ⟨_,rfl,_,rfl,_,_,rfl,rfl,_,rfl,_,rfl,_,_,rfl,rfl,(by show 2≤sizeLine;decide),fun b hb=>Zr ?_⟩)
    dsimp only[List.set]
    have s6:=Zf (o:=.tup ((cX p r).map kV)) hb
    have e6:upd H5 b (.tup ((cX p r).map kV)) b=some (.tup ((cX p r).map kV)):=Zc
    have KU:upd H5 b (HO.tup [V.int (r.1 - p.1),V.int (r.2 - p.2)])=upd H5 b (.tup ((cX p r).map kV)):=rfl
    rw[KU]
    generalize upd H5 b (HO.tup ((cX p r).map kV))=H6 at s6 e6
    have wZ:=s6 _ _ e5
    have ln:Ab.length<sizeLine:=by
     have:=iI.len
     rw[List.length_append,List.length_map,List.length_take]at this
     have l2:(allM ((aI xs).take i) (aI ys)).length≤144:=by
      have:∀(l:List (Int×Int)),(allM l (aI ys)).length=l.length*(aI ys).length:=fun l=>by
       unfold allM
       induction l with
       |nil=>simp
       |cons a t ih=>rw[List.flatMap_cons,List.length_append,ih,List.length_map,List.length_cons,Nat.add_mul];omega
      rw[this,List.length_take]
      exact Nat.le_trans (Nat.mul_le_mul (by omega:min i (aI xs).length≤12) small.2) (by decide)
     rw[sizeLine_eq]
     omega
    refine⟨_,rfl,d,rfl,.inr ⟨_,.inl wZ⟩,_,rfl,_,ju.t wZ e6,_,_,iI.get (cX p r),rfl,_,rfl,_,rfl,d,_,rfl,nJ.t wZ e6 ln,?_⟩
    refine⟨_,_,_,_,rfl,(qo.trans s6.x).trans aq.upd,Zc,?_⟩
    rw[List.take_add_one,cY,List.map_append,←List.append_assoc]
    exact iI.put (cX p r)
   ·rintro σ H5 ⟨Ab,u8,u9,tM,rfl,qo,e5,iI⟩
    refine⟨_,_,_,_,_,_,rfl,qo,e5,?_⟩
    have lq:qs.length=(aI ys).length:=Paired.length cj
    rw[lq,List.take_length]at iI
    rw[Ob hp]
    exact iI
  ·rintro σ H4 ⟨kvs,v6,v7,v8,v9,v10,rfl,nX,e4,lr⟩
   have lp:ps.length=(aI xs).length:=Paired.length mn
   rw[lp,List.take_length]at lr
   have dn:H d=none:=by
    cases h:H d with
    |none=>rfl
    |some u=>rw[(s1.trans s2) _ _ h]at hd;cases hd
   exact⟨_,rfl,q d H4 kvs (fun b o h=>keep nX (s2 _ _ (s1 _ _ h))) dn e4 lr⟩
abbrev qN:Stmt:=top 30
def uh:Sp:=fun vs H Q _=> ∃x y z wd hg xs ys a b,vs=[x,y,z,.int a,.int b]∧cP H x y wd hg xs∧cP H x z wd hg ys∧∀(H':Hp),ae H H'→Q (.int (bH xs ys a b:Int)) H'
theorem mf:bu ["board", "one", "other", "right", "up", "many_by_move"] ["board", "one", "other", "right", "up"] (ay qN):=⟨rfl,rfl,rfl,by decide+kernel,rfl,by decide+kernel,by decide+kernel⟩
theorem MC {f:Addr}{fd:FuncData}(F:aH K "hits_between" "hits_between" qN f fd) (D1:Def P w K mg base 8 "hits_by_move" ["board", "one", "other"] n9) (D2:Def P w K mg base 2 "need_whole" ["number"] (qv K)):aA P w K mg base aG 9 f fd ["board", "one", "other", "right", "up"] uh:=by
 refine F.ok mf (fun vs H Q E h=> ?_) (fun ao A outer s H vs Q E hr h=> ?_)
 ·obtain⟨x,y,z,wd,hg,xs,ys,a,b,rfl,_⟩:=h
  rfl
 ·obtain⟨x,y,z,wd,hg,xs,ys,a,b,rfl,la,lb,q⟩:=h
  have hu:=sJ hr
  refine⟨_,Zd (Zo (i:=5) mf.nd rfl (Or.inl rfl) (Zj D1 hr (Za (pv 0) (Za (pv 1) (Za (pv 2) Zb)))))
   (Zd (ZK (Zj D2 (hr.mono (by decide)) (Za (pv 3) Zb)))
   (Zd (ZK (Zj D2 (hr.mono (by decide)) (Za (pv 4) Zb)))
   (Zl (ZC (Uk hu (pv 5) (Zz (Za (pv 3) (Za (pv 4) Zb))) Zi ⟨rfl,rfl,rfl,rfl⟩))))),?_⟩
  refine Zq (ZH ⟨_,rfl,_,rfl,_,rfl,x,y,z,wd,hg,xs,ys,rfl,la,lb,fun d H1 kvs s1 n1 e1 hm=>Zr ?_⟩)
  dsimp only[List.set]
  refine Zq ⟨_,rfl,.int a,rfl,⟨_,.int a⟩,rfl,?_⟩
  try dsimp only
  refine Zq ⟨_,rfl,.int b,rfl,⟨_,.int b⟩,rfl,?_⟩
  try dsimp only
  refine⟨_,rfl,d,rfl,.inr ⟨_,.inl e1⟩,_,rfl,_,rfl,(by show 2≤sizeLine;decide),fun t ht=> ?_⟩
  have s2:=Zf (o:=.tup [V.int a,V.int b]) ht
  have e2:upd H1 t (.tup [V.int a,V.int b]) t=some (.tup (([Sum.inl a,Sum.inl b]:List Key).map kV)):=Zc
  generalize upd H1 t (HO.tup [V.int a,V.int b])=H2 at s2 e2
  refine⟨_,ju.t (s2 _ _ e1) e2,?_⟩
  rw[hm.get,Jn]
  exact q H2 (s1.trans s2)
abbrev qM:Stmt:=top 31
def qy:Sp:=fun vs H Q _=> ∃x y wd hg xs a b,vs=[x,y,.int a,.int b]∧cP H x y wd hg xs∧∀(H':Hp),ae H H'→Q (.int (bH xs xs a b:Int)) H'
theorem za:bu ["board", "lay", "right", "up"] ["board", "lay", "right", "up"] (ay qM):=⟨rfl,rfl,rfl,by decide+kernel,rfl,by decide+kernel,by decide+kernel⟩
theorem MA {f:Addr}{fd:FuncData}(F:aH K "hits" "hits" qM f fd) (D1:Def P w K mg base 9 "hits_between" ["board", "one", "other", "right", "up"] uh):aA P w K mg base aG 10 f fd ["board", "lay", "right", "up"] qy:=by
 refine F.ok za (fun vs H Q E h=> ?_) (fun ao A outer s H vs Q E hr h=> ?_)
 ·obtain⟨x,y,wd,hg,xs,a,b,rfl,_⟩:=h
  rfl
 ·obtain⟨x,y,wd,hg,xs,a,b,rfl,la,q⟩:=h
  refine⟨_,Zl (ZC (Zj D1 hr (Za (pv 0) (Za (pv 1) (Za (pv 1) (Za (pv 2) (Za (pv 3) Zb))))))),?_⟩
  exact⟨_,rfl,_,rfl,_,rfl,_,rfl,_,rfl,x,y,y,wd,hg,xs,xs,a,b,rfl,la,la,q⟩
abbrev qP:Stmt:=top 32
def og:Sp:=fun vs H Q _=> ∃x y wd hg xs,vs=[x,y]∧cP H x y wd hg xs∧∀(L:Addr) (H':Hp) (ts:List V),ae H H'→H L=none→H' L=some (.lst ts)→Paired (bU H') ts (gk wd hg xs xs)→Q (.ref L) H'
theorem qF:bu ["board", "lay", "many_by_move"] ["board", "lay"] (ay qP):=⟨rfl,rfl,rfl,by decide+kernel,rfl,by decide+kernel,by decide+kernel⟩
theorem YA {H H':Hp}{v:V}{k:List Int}(h:bU H v k) (s:ae H H'):bU H' v k:=let ⟨t,e,g⟩:=h;⟨t,e,s _ _ g⟩
theorem My {f:Addr}{fd:FuncData}(F:aH K "all_hits" "all_hits" qP f fd) (G:Gs mg) (D1:Def P w K mg base 8 "hits_by_move" ["board", "one", "other"] n9):aA P w K mg base aG 9 f fd ["board", "lay"] og:=by
 refine F.ok qF (fun vs H Q E h=> ?_) (fun ao A outer s H vs Q E hr h=> ?_)
 ·obtain⟨x,y,wd,hg,xs,rfl,_⟩:=h
  rfl
 ·obtain⟨x,y,wd,hg,xs,rfl,la,q⟩:=h
  refine⟨_,Zd (Zo (i:=2) qF.nd rfl (Or.inl rfl) (Zj D1 hr (Za (pv 0) (Za (pv 1) (Za (pv 1) Zb)))))
   (Zl (ZC (Zk W3 rfl G.sorted boot_sorted (Za (Yu ["right", "up", "many"] 3 [] (NW (pv 2))
    (fun C s H fp=>show PG (aV _ _ _ C s H fp) _ (mU K 2 (hX (mU K 2 (hX (fb 0) (hX (fb 1) mV))) (hX (fb 2) mV))) from Yf rfl (Zt (Yf rfl (Zt (pb 0) (Zt (pb 1) Z2))) (Zt (pb 2) Z2))) (fun C s H fp=>YC)
    (fun C s H fp D=>ZT rfl (Zz (Za (pv 0) (Za (pv 1) (Za (pv 2) Zb)))))) Zb)))),?_⟩
  refine Zq (ZH ⟨_,rfl,_,rfl,_,rfl,x,y,y,wd,hg,xs,xs,rfl,la,la,fun d H1 kvs s1 n1 e1 hm=>Zr ?_⟩)
  dsimp only[List.set]
  refine⟨_,rfl,d,kvs,rfl,e1,fun o=> ?_⟩
  have x2:aq d H1 (upd H1 d (.aT o (.dT kvs))):=aq.upd
  have e2:upd H1 d (.aT o (.dT kvs)) d=some (.aT o (.dT kvs)):=Zc
  generalize upd H1 d (HO.aT o (.dT kvs))=H2 at x2 e2
  have zr:ae H H2:=fun b u h=>x2 _ _ (s1 _ _ h) (Ze h n1)
  have lk:kvs.length≤144:=by
   have a:=hm.len
   have b:=WR xs
   have c:=la.2.2.len
   have:=la.1.2.2.1
   have:∀(l:List (Int×Int)),(allM l (aI xs)).length=l.length*(aI xs).length:=fun l=>by
    unfold allM
    induction l with
    |nil=>simp
    |cons a t ih=>rw[List.flatMap_cons,List.length_append,ih,List.length_map,List.length_cons,Nat.add_mul];omega
   rw[this]at a
   exact Nat.le_trans a (Nat.le_trans (Nat.mul_le_mul (by omega:(aI xs).length≤12) (by omega:(aI xs).length≤12)) (by decide))
  refine UZ (kvs:=kvs) (o:=o) (d:=d) (fun i ys σ H'=> ∃v0 v1 v2,σ=[v0,v1,v2]∧ae H2 H'∧Paired (bU H') ys ((kvs.take i).map U.dZ)∧ys.length≤i) ⟨_,_,_,rfl,ae.refl _,.nil,Nat.zero_le _⟩ (fun i ys σ H' ⟨_,_,_,_,s',_⟩=>s' _ _ e2) ?_ ?_
  ·rintro i k yv T a ys σ H' hk hT ha ⟨v0,v1,v2,rfl,s',pr,ln⟩
   have hi:i<kvs.length:=(List.getElem?_eq_some_iff.mp hk).1
   obtain⟨p,hp,r,cY,ek,ev,pos,et⟩:=hm.dZ (List.mem_of_getElem? hk)
   have ek:k=cX p r:=ek
   have ev:yv=.int (bH xs xs (r.1 - p.1) (r.2 - p.2):Int):=ev
   subst ek ev
   have sT:=Zf (o:=.par [V.ref a,.int (bH xs xs (r.1 - p.1) (r.2 - p.2):Int)]) hT
   have eT:upd H' T (.par [V.ref a,.int (bH xs xs (r.1 - p.1) (r.2 - p.2):Int)]) T=some (.par [V.ref a,.int (bH xs xs (r.1 - p.1) (r.2 - p.2):Int)]):=Zc
   have o9:H' a=some (.tup [.int (r.1 - p.1),.int (r.2 - p.2)]):=ha
   generalize upd H' T (HO.par [V.ref a,.int (bH xs xs (r.1 - p.1) (r.2 - p.2):Int)])=H4 at sT eT
   refine⟨T,_,rfl,ai.qZ eT,rfl,_,_,rfl,⟨a,_,rfl,ai.of (sT _ _ o9),rfl,_,_,rfl,_,_,rfl,rfl,_,_,rfl,rfl,?_⟩⟩
   dsimp only[List.set]
   refine⟨_,rfl,_,rfl,_,rfl,(by show 3≤sizeLine;decide),fun t ht=> ⟨by rw[sizeLine_eq];omega,?_⟩⟩
   have s5:=Zf (o:=.tup [V.int (r.1 - p.1),V.int (r.2 - p.2),.int (bH xs xs (r.1 - p.1) (r.2 - p.2):Int)]) ht
   refine⟨_,_,_,rfl,s'.trans (sT.trans s5),?_,by rw[List.length_append];simp;omega⟩
   rw[List.take_add_one,hk,List.map_append]
   refine Paired.snoc (Paired.cu pr fun v q h=>YA h (sT.trans s5)) ?_
   show bU _ _ (U.dZ (cX p r,V.int (bH xs xs (r.1 - p.1) (r.2 - p.2):Int)))
   rw[et]
   exact⟨t,rfl,Zc⟩
  ·rintro ys σ H' ⟨v0,v1,v2,rfl,s',pr,ln⟩ L hL
   rw[List.take_length]at pr
   have sL:=Zf (o:=.lst ys) hL
   have eL:upd H' L (.lst ys) L=some (.lst ys):=Zc
   generalize upd H' L (HO.lst ys)=H5 at sL eL
   refine⟨L,ys,kvs.map U.dZ,rfl,ah.of eL,Paired.cu pr fun v q h=>YA h sL,fun k hk=> ?_,by omega,fun q' kB rE nq pm rise Fj=> ?_⟩
   ·obtain⟨kv,iK,rfl⟩:=List.mem_map.mp hk
    unfold U.dZ
    simp
   ·have ek:=Oa (pm.trans (hm.K6 la.2.2 la.2.2)) rise
    subst ek
    have s6:=Zf (o:=.lst kB) nq
    have nn:H q'=none:=by
     cases h:H q' with
     |none=>rfl
     |some u=>rw[(zr.trans (s'.trans sL)) _ _ h]at nq;cases nq
    exact q q' _ kB (zr.trans (s'.trans (sL.trans s6))) nn Zc (Paired.cu Fj fun v q h=>YA h s6)
def qz (K:PySem.W.Frag) (cB cL:Addr):Sp:=fun vs H _ E=> ∃x y z C,vs=[x,y,z]∧(ku K cB cL H x y C∨∃wd hg xs,cP H x y wd hg xs∧ku K cB cL H x z C)∧∀e H',ae H H'→E (.ref e) (some C) H'
theorem Mb {f:Addr}{fd:FuncData}(F:aH K "hits_by_move" "hits_by_move" qO f fd) (D1:Def P w K mg base 7 "points" ["board", "lay"] qu) (R1:bV P w K mg base 7 "points" ["board", "lay"] (iA K cB cL)):aA P w K mg base (bB P w) 8 f fd ["board", "one", "other"] (qz K cB cL):=by
 refine F.i8 fQ (fun vs H Q E h=> ?_) (fun ao A outer s H vs Q E hr h=> ?_)
 ·obtain⟨x,y,z,C,rfl,_⟩:=h
  rfl
 ·obtain⟨x,y,z,C,rfl,b |⟨wd,hg,xs,la,b⟩,q⟩:=h
  ·refine⟨_,Zd (Zo (i:=3) fQ.nd rfl (Or.inl rfl) (Z4 R1 hr (Za (pv 0) (Za (pv 1) Zb)))) Zy,?_⟩
   exact⟨_,rfl,_,rfl,x,y,C,rfl,b,q⟩
  ·refine⟨_,Zd (Zo (i:=3) fQ.nd rfl (Or.inl rfl) (Zj D1 hr (Za (pv 0) (Za (pv 1) Zb))))
    (Zd (Zo (i:=4) fQ.nd rfl (Or.inl rfl) (Z4 R1 hr (Za (pv 0) (Za (pv 2) Zb)))) Zy),?_⟩
   refine Zq (ZH ⟨_,rfl,_,rfl,x,y,wd,hg,xs,rfl,la,fun l1 H1 ps s1 n1 e1 mn=>Zr ?_⟩)
   dsimp only[List.set]
   exact⟨_,rfl,_,rfl,x,z,C,rfl,b.same s1,fun e H' s'=>q e H' (s1.trans s')⟩
def C9 (K:PySem.W.Frag) (cB cL cN:Addr) (H:Hp) (x y z a b:V) (C:Addr):Prop:=
 (ku K cB cL H x y C∨∃wd hg xs,cP H x y wd hg xs∧ku K cB cL H x z C)∨(C=cN∧∃wd hg xs ys,cP H x y wd hg xs∧cP H x z wd hg ys∧ck K H a∧ck K H b∧(whole a=false∨(whole a=true∧whole b=false)))
def ug (K:PySem.W.Frag) (cB cL cN:Addr):Sp:=fun vs H _ E=> ∃x y z a b C,vs=[x,y,z,a,b]∧C9 K cB cL cN H x y z a b C∧∀e H',ae H H'→E (.ref e) (some C) H'
theorem Md {f:Addr}{fd:FuncData}(F:aH K "hits_between" "hits_between" qN f fd) (D1:Def P w K mg base 8 "hits_by_move" ["board", "one", "other"] n9) (R1:bV P w K mg base 8 "hits_by_move" ["board", "one", "other"] (qz K cB cL)) (D2:Def P w K mg base 2 "need_whole" ["number"] (qv K)) (R2:bV P w K mg base 2 "need_whole" ["number"] (t9 K cN)):aA P w K mg base (bB P w) 9 f fd ["board", "one", "other", "right", "up"] (ug K cB cL cN):=by
 refine F.i8 mf (fun vs H Q E h=> ?_) (fun ao A outer s H vs Q E hr h=> ?_)
 ·obtain⟨x,y,z,a,b,C,rfl,_⟩:=h
  rfl
 ·obtain⟨x,y,z,a,b,C,rfl,bad |⟨rfl,wd,hg,xs,ys,la,lb,ta,tb,wh⟩,q⟩:=h
  ·refine⟨_,Zd (Zo (i:=5) mf.nd rfl (Or.inl rfl) (Z4 R1 hr (Za (pv 0) (Za (pv 1) (Za (pv 2) Zb))))) Zy,?_⟩
   exact⟨_,rfl,_,rfl,_,rfl,x,y,z,C,rfl,bad,q⟩
  ·rcases wh with wa |⟨wa,wb⟩
   ·refine⟨_,Zd (Zo (i:=5) mf.nd rfl (Or.inl rfl) (Zj D1 hr (Za (pv 0) (Za (pv 1) (Za (pv 2) Zb)))))
     (Zd (ZK (Z4 R2 (hr.mono (by decide)) (Za (pv 3) Zb))) Zy),?_⟩
    refine Zq (ZH ⟨_,rfl,_,rfl,_,rfl,x,y,z,wd,hg,xs,ys,rfl,la,lb,fun d H1 kvs s1 n1 e1 hm=>Zr ?_⟩)
    dsimp only[List.set]
    exact⟨_,rfl,a,rfl,s1.gN ta,wa,fun e H' s'=>q e H' (s1.trans s')⟩
   ·refine⟨_,Zd (Zo (i:=5) mf.nd rfl (Or.inl rfl) (Zj D1 hr (Za (pv 0) (Za (pv 1) (Za (pv 2) Zb)))))
     (Zd (ZK (Zj D2 (hr.mono (by decide)) (Za (pv 3) Zb)))
     (Zd (ZK (Z4 R2 (hr.mono (by decide)) (Za (pv 4) Zb))) Zy)),?_⟩
    refine Zq (ZH ⟨_,rfl,_,rfl,_,rfl,x,y,z,wd,hg,xs,ys,rfl,la,lb,fun d H1 kvs s1 n1 e1 hm=>Zr ?_⟩)
    dsimp only[List.set]
    refine Zq ⟨_,rfl,a,rfl,s1.gN ta,wa,?_⟩
    try dsimp only
    exact⟨_,rfl,b,rfl,s1.gN tb,wb,fun e H' s'=>q e H' (s1.trans s')⟩
def qx (K:PySem.W.Frag) (cB cL cN:Addr):Sp:=fun vs H _ E=> ∃x y a b C,vs=[x,y,a,b]∧C9 K cB cL cN H x y y a b C∧∀e H',ae H H'→E (.ref e) (some C) H'
theorem Mc {f:Addr}{fd:FuncData}(F:aH K "hits" "hits" qM f fd) (R1:bV P w K mg base 9 "hits_between" ["board", "one", "other", "right", "up"] (ug K cB cL cN)):aA P w K mg base (bB P w) 10 f fd ["board", "lay", "right", "up"] (qx K cB cL cN):=by
 refine F.i8 za (fun vs H Q E h=> ?_) (fun ao A outer s H vs Q E hr h=> ?_)
 ·obtain⟨x,y,a,b,C,rfl,_⟩:=h
  rfl
 ·obtain⟨x,y,a,b,C,rfl,bad,q⟩:=h
  refine⟨_,Zl (ZC (Z4 R1 hr (Za (pv 0) (Za (pv 1) (Za (pv 1) (Za (pv 2) (Za (pv 3) Zb))))))),?_⟩
  exact⟨_,rfl,_,rfl,_,rfl,_,rfl,_,rfl,x,y,y,a,b,C,rfl,bad,q⟩
theorem Ma {f:Addr}{fd:FuncData}(F:aH K "all_hits" "all_hits" qP f fd) (R1:bV P w K mg base 8 "hits_by_move" ["board", "one", "other"] (qz K cB cL)):aA P w K mg base (bB P w) 9 f fd ["board", "lay"] (iA K cB cL):=by
 refine F.i8 qF (fun vs H Q E h=> ?_) (fun ao A outer s H vs Q E hr h=> ?_)
 ·obtain⟨x,y,C,rfl,_⟩:=h
  rfl
 ·obtain⟨x,y,C,rfl,bad,q⟩:=h
  refine⟨_,Zd (Zo (i:=2) qF.nd rfl (Or.inl rfl) (Z4 R1 hr (Za (pv 0) (Za (pv 1) (Za (pv 1) Zb))))) Zy,?_⟩
  exact⟨_,rfl,_,rfl,_,rfl,x,y,y,C,rfl,.inl bad,q⟩
end
section
variable {P:Program}{w:World}{K:PySem.W.Frag}{mg:Str→Option Value}{base:Heap}
abbrev uF:Stmt:=top 45
def uf:Sp:=fun vs H Q _=> ∃(l m:Addr) (xs ys:List V) (a b:Int),vs=[.ref l,.ref m,.int a,.int b]∧H l=some (.tup xs)∧H m=some (.tup ys)∧nB xs∧nB ys∧xs.length≤12∧Q (.int (bH xs ys a b:Int)) H
theorem qD:bu ["_law_one", "_law_other", "_law_right_here", "_law_up", "_law_found", "_law_line"] ["_law_one", "_law_other", "_law_right_here", "_law_up"] (ay uF):=⟨rfl,rfl,rfl,by decide+kernel,rfl,by decide+kernel,by decide+kernel⟩
theorem MD {f:Addr}{fd:FuncData}(F:aH K "_law_hits" "_law_hits" uF f fd) (G:Gs mg):aA P w K mg base aG 1 f fd ["_law_one", "_law_other", "_law_right_here", "_law_up"] uf:=by
 refine F.ok qD (fun vs H Q E h=> ?_) (fun ao A outer s H vs Q E hr h=> ?_)
 ·obtain⟨l,m,xs,ys,a,b,rfl,_⟩:=h
  rfl
 ·obtain⟨l,m,xs,ys,a,b,rfl,hl,hm,rx,ry,len,q⟩:=h
  refine⟨_,Zd (Zo (i:=4) qD.nd rfl (Or.inl rfl) Zi)
   (Zd (Yb PassesOwn.never rfl (Z1 rfl G.range (Za (Zk Zp rfl G.len boot_len (Za (pv 0) Zb)) Zb)) (ZB (i:=5) qD.nd rfl (Or.inl rfl))
    (Zl (ZS (PW.pt (WP (Y6 (YF (ZL Ye (pv 0) (pv 5) (fun _ _=>rfl)))) (JK (NY xr B5 Zi (Zn ZZ (pv 5) (pv 2)) (Zk Zp rfl G.len boot_len (Za (pv 1) Zb))))))
     (Zl (Zo (i:=4) qD.nd rfl (Or.inl rfl) (Zn ZZ (pv 4) (Yp Pb rfl G.int boot_int (Za (Yx (Mn (YF (ZL Ye (pv 1) (Zn ZZ (pv 5) (pv 2)) (fun _ _=>rfl)))) (Yv (Ym JD (ZL Ye (pv 1) (Zn ZZ (pv 5) (pv 2)) (fun _ _=>rfl)) (Zn ZZ (ZL Ye (pv 0) (pv 5) (fun _ _=>rfl)) (pv 3)) (cq _)))) Zb))))) ZD)))
   (Zl (ZC (pv 4)))),?_⟩
  refine Zq (ZH (Zr ?_))
  dsimp only[List.set]
  refine Zq ⟨_,rfl,l,xs,rfl,.inr (ai.of hl),(xs.length:Int),rfl,by omega,by omega,?_⟩
  refine Z3 (n:=((xs.length:Int)).toNat) (fun i σ H'=> ∃v5,σ=[some (.ref l),some (.ref m),some (.int a),some (.int b),some (.int (eI xs ys a b i:Int)),v5]∧H'=H) ⟨_,rfl,rfl⟩ ?_ ?_
  ·rintro i σ H' hi ⟨v5,rfl,rfl⟩
   rw[Int.zero_add]
   refine Zr ?_
   dsimp only[List.set]
   have jd:i<xs.length:=by omega
   have ei:dW xs (i:Int)=some xs[i]:=ZU (List.getElem?_eq_getElem jd)
   have ri:rowAt xs i=kG xs[i]:=by unfold rowAt;rw[List.getElem?_eq_getElem jd];rfl
   have skip:gr xs ys a b i=false→∃v5,([some (.ref l),some (.ref m),some (.int a),some (.int b),some (.int (eI xs ys a b i:Int)),some (.int (i:Int))]:L2.St)=[some (.ref l),some (.ref m),some (.int a),some (.int b),some (.int (eI xs ys a b (i+1):Int)),v5]∧H'=H':=fun h=>by
    have e:eI xs ys a b (i+1)=eI xs ys a b i:=by
     show eI xs ys a b i+(if gr xs ys a b i=true then 1 else 0)=_
     rw[h,if_neg Bool.false_ne_true,Nat.add_zero]
    exact⟨some (.int (i:Int)),by rw[e],rfl⟩
   refine⟨_,rfl,_,rfl,l,xs,_,_,rfl,rfl,ai.of hl,ei,_,rfl,?_⟩
   rcases rx xs[i] (List.getElem_mem jd) with nj |⟨r,nj⟩
   ·rw[nj]
    exact aM (aM (skip (by unfold gr;rw[ri,nj];rfl)))
   ·rw[nj]
    have hA:gr xs ys a b i=(decide (0≤(i:Int)+a)&&decide ((i:Int)+a<ys.length)&&decide (rowAt ys ((i:Int)+a).toNat=some (r+b))):=by unfold gr;rw[ri,nj];rfl
    refine aX ⟨_,rfl,_,rfl,_,_,rfl,rfl,_,_,rfl,rfl,_,rfl,?_⟩
    by_cases h1:0≤(i:Int)+a
    ·rw[decide_eq_true h1]
     refine aX ⟨_,rfl,m,ys,rfl,.inr (ai.of hm),_,_,rfl,rfl,_,rfl,?_⟩
     by_cases h2:(i:Int)+a<ys.length
     ·rw[decide_eq_true h2]
      have hk:((i:Int)+a).toNat<ys.length:=by omega
      have ek:dW ys ((i:Int)+a)=some ys[((i:Int)+a).toNat]:=by
       have:=ZU (List.getElem?_eq_getElem hk)
       rw[Int.toNat_of_nonneg h1]at this
       exact this
      have rk:rowAt ys ((i:Int)+a).toNat=kG ys[((i:Int)+a).toNat]:=by unfold rowAt;rw[List.getElem?_eq_getElem hk];rfl
      refine aX (ZH ⟨_,rfl,_,rfl,_,rfl,_,rfl,_,_,rfl,rfl,m,ys,_,_,rfl,rfl,ai.of hm,ek,?_⟩)
      have put:∀t:Bool,t=gr xs ys a b i→∃v5,(([some (.ref l),some (.ref m),some (.int a),some (.int b),some (.int (eI xs ys a b i:Int)),some (.int (i:Int))]:L2.St).set 4 (some (.int ((eI xs ys a b i:Int)+if t=true then 1 else 0))))=[some (.ref l),some (.ref m),some (.int a),some (.int b),some (.int (eI xs ys a b (i+1):Int)),v5]∧H'=H':=fun t e=>by
       refine⟨some (.int (i:Int)),?_,rfl⟩
       have e':((eI xs ys a b (i+1):Nat):Int)=(eI xs ys a b i:Int)+if t=true then 1 else 0:=by
        show((eI xs ys a b i+(if gr xs ys a b i=true then 1 else 0):Nat):Int)=_
        rw[e]
        split<;>simp
       rw[e']
       rfl
      rw[decide_eq_true h1,decide_eq_true h2]at hA
      rcases ry ys[((i:Int)+a).toNat] (List.getElem_mem hk) with nk |⟨r',nk⟩
      ·rw[nk]
       refine⟨_,rfl,aM (.inr ⟨_,rfl,_,_,rfl,rfl,Zr (put false ?_)⟩)⟩
       rw[hA,rk,nk]
       rfl
      ·rw[nk]
       have Qk:=nk▸rk
       rw[nk]at ek
       refine⟨_,rfl,aX ⟨_,rfl,_,rfl,_,rfl,_,_,rfl,rfl,m,ys,_,_,rfl,rfl,ai.of hm,ek,_,rfl,_,rfl,l,xs,_,_,rfl,rfl,ai.of hl,ei,_,rfl,r,b,by rw[nj],rfl,?_⟩⟩
       refine⟨rfl,.inr ⟨_,rfl,_,_,rfl,rfl,Zr (put _ ?_)⟩⟩
       rw[hA,rk,nk]
       show decide (V.int r'=V.int (r+b))=(true&&true&&decide (some r'=some (r+b)))
       by_cases z:r'=r+b
       ·rw[z];simp
       ·rw[decide_eq_false fun h=>z (by cases h;rfl),decide_eq_false fun h=>z (by cases h;rfl)];rfl
     ·rw[decide_eq_false h2]
      exact aM (skip (by rw[hA,decide_eq_false h2,Bool.and_false,Bool.false_and]))
    ·rw[decide_eq_false h1]
     exact aM ⟨_,rfl,aM (skip (by rw[hA,decide_eq_false h1,Bool.false_and,Bool.false_and]))⟩
  ·rintro σ H' ⟨v5,rfl,rfl⟩
   refine⟨_,rfl,?_⟩
   rw[Int.toNat_natCast]
   exact q
abbrev mi:Stmt:=top 46
def tV (K:PySem.W.Frag):Sp:=fun vs H Q _=> ∃(q:Addr),vs=[.ref q]∧br H q∧∀v H',aq q H H'→br H' q→ck K H' v→whole v=false→v≠.ref q→Q v H'
theorem EH:bu ["_law_state_here"] ["_law_state_here"] (ay mi):=⟨rfl,rfl,rfl,by decide+kernel,rfl,by decide+kernel,by decide+kernel⟩
def ve:List Expr:=match bI mi with | [.Return (some (.Subscript (.List es _) _ _)) _]=>es |_=> []
def FC (a:List Expr):List Stmt:=match bI mi with
 | [.Return (some (.Subscript (.List _ p1) z p2)) p3]=> [.Return (some (.Subscript (.List a p1) z p2)) p3]
 |_=> []
theorem MQ:bI mi=FC ve:=by kernel_rfl
def ow:List Lit:=[.sc .af,.sc (.bl true),.sc (.bl false),.sc (.str "0"),.tup [.int 0],.lst [.int 1],.dU,.sc (.str "1")]
theorem L7:litsOf ve=some ow:=by kernel_rfl
theorem L8 {H:Hp}{v:V}{l:Lit}(hl:l∈ow) (h:ff H v l):ck K H v∧whole v=false:=by
 have hp:i5 l=true:=List.all_eq_true.mp (show ow.all i5=true by decide+kernel) l hl
 refine⟨(WY hp h).1,?_⟩
 simp only[ow,List.mem_cons,List.not_mem_nil,or_false]at hl
 rcases hl with rfl |rfl |rfl |rfl |rfl |rfl |rfl |rfl
 ·rw[show v=_ from h];rfl
 ·rw[show v=_ from h];rfl
 ·rw[show v=_ from h];rfl
 ·rw[show v=_ from h];rfl
 ·obtain⟨a,rfl,_⟩:=h;rfl
 ·obtain⟨a,rfl,_⟩:=h;rfl
 ·obtain⟨a,rfl,_⟩:=h;rfl
 ·rw[show v=_ from h];rfl
theorem Mi {f:Addr}{fd:FuncData}(F:aH K "_law_no_whole" "_law_no_whole" mi f fd) (D1:Def P w K mg base 1 "_law_take" ["_law_state_here", "_law_many"] iY):aA P w K mg base aG 2 f fd ["_law_state_here"] (tV K):=by
 refine F.ok EH (fun vs H Q E h=> ?_) (fun ao A outer s H vs Q E hr h=> ?_)
 ·obtain⟨q,rfl,_⟩:=h
  rfl
 ·obtain⟨q,rfl,st,k⟩:=h
  rw[MQ]
  have i1:=L7
  generalize ve=es at i1
  refine⟨_,Zl (ZC (ZL ZN (ZA (YU (ls:=ow) i1)) (Zj D1 hr (Za (pv 0) (Za Zi Zb))) (fun _ _=>rfl))),?_⟩
  refine fun S H3 sA pr nr=> ?_
  have lS:S.length=8:=Paired.length pr
  refine⟨by rw[lS];decide,fun L hL=> ?_⟩
  have s4:=Zf (o:=.lst S) hL
  have e4:upd H3 L (.lst S) L=some (.lst S):=Zc
  obtain⟨u0,v0,ij,_⟩:=id st
  have sd:=sA _ _ ij
  have FV:L≠q:=fun z=>by rw[z,sd]at hL;cases hL
  generalize upd H3 L (HO.lst S)=H4 at s4 e4
  have cm:=(st.same sA).same s4
  refine⟨_,rfl,q,8,rfl,cm,by decide,by decide,fun r o h0 h8 dG=> ?_⟩
  have x5:aq q H4 (upd H4 q o):=aq.upd
  have aC:r.toNat<S.length:=by rw[lS];omega
  have fX:=List.getElem?_eq_getElem aC
  have j6:=ZU fX
  rw[Int.toNat_of_nonneg h0]at j6
  refine⟨L,_,_,_,rfl,rfl,ah.of (x5 _ _ e4 FV),j6,?_⟩
  have dA:S[r.toNat]∈S:=List.getElem_mem aC
  generalize S[r.toNat]=v at dA
  obtain⟨l,hl,la⟩:=Yg pr dA
  have nv:v≠.ref q:=fun z=>by
   have:=nr q (by rw[←z];exact dA)
   rw[ij]at this
   cases this
  obtain⟨pt,wv⟩:=L8 (K:=K) hl la
  exact k v _ (fun b u h n=>x5 _ _ ((sA.trans s4) _ _ h) n) dG (Je (s4.gN pt) x5 nv) wv nv
end
theorem zd {H H1:Hp}{L:Addr}{o:HO}(s:ae H H1) (n:H L=none):ae H (upd H1 L o):=fun b u h=>by
 rw[Zg (Ze h n)]
 exact s b u h
theorem Ci {H:Hp}{L:Addr}{zs:List V}{o:HO}(e:H L=some (.lst zs)) {v:V}{k:List Int}(h:bU H v k):bU (upd H L o) v k:=by
 obtain⟨t,ev,ht⟩:=h
 exact⟨t,ev,by rw[Zg (Z7 ht e (by intro z;cases z))];exact ht⟩
theorem Na (H:Hp) (ks:List Int):Paired (Rl H) (ks.map V.int) (ks.map V.int):=by
 induction ks with
 |nil=>exact .nil
 |cons x r ih=>exact .cons (.inl ⟨x,rfl,rfl⟩) ih
theorem Nf {H:Hp}{ts rs:List V}{ks:List (List Int)}(a:Paired (bU H) ts ks) (b:Paired (bU H) rs ks) (h:∀k∈ks,k.length≤1000):Paired (iQ Rl H) ts rs:=by
 induction a generalizing rs with
 |nil=>cases b;exact .nil
 | @cons v k vs ks h1 t ih=>
  cases b with
  |cons h' t'=>
   obtain⟨x,rfl,hx⟩:=h1
   obtain⟨y,rfl,hy⟩:=h'
   exact .cons (.inr ⟨x,y,_,_,rfl,rfl,hx,hy,Na H k,by rw[List.length_map];exact h k List.mem_cons_self⟩) (ih t' fun k hk=>h k (List.mem_cons_of_mem _ hk))
theorem UI {wd hg:Int}{xs ys:List V}{k:List Int}(h:k∈gk wd hg xs ys):∃a b n,k=[a,b,n]:=by
 obtain⟨i,j,_,_,_,rfl⟩:=Jg.mp h
 exact⟨_,_,_,rfl⟩
theorem OI {xs:List V}{lo hi:Option Int}{i:Nat}{v:V}(h:(cM xs lo hi)[i]? =some v):v∈xs:=List.mem_of_mem_drop (List.mem_of_mem_take (List.mem_of_getElem? h))
def jn (H:Hp) (v:V):Prop:=∃(t:Addr) (a b:Int),v=.ref t∧H t=some (.tup [.int a,.int b])
theorem jn.same {H H':Hp}{v:V}(h:jn H v) (s:ae H H'):jn H' v:=let ⟨t,a,b,e,g⟩:=h;⟨t,a,b,e,s _ _ g⟩
section
variable {P:Program}{w:World}{K:PySem.W.Frag}{mg:Str→Option Value}{base:Heap}
abbrev uB:Stmt:=top 48
def tU:Sp:=fun vs H Q _=> ∃(p b l:Addr) (wd hg:Int) (xs:List V),vs=[.ref p,.ref b,.ref l]∧br H p∧H b=some (.tup [.int wd,.int hg])∧H l=some (.tup xs)∧cP H (.ref b) (.ref l) wd hg xs∧∀H',aq p H H'→br H' p→Q (.bl true) H'
theorem fi:bu ["_law_state_here", "_law_board_here", "_law_lay_here", "_law_wide", "_law_high", "_law_due", "_law_right_here", "_law_up", "_law_many", "_law_turn", "_law_found", "_law_far", "_law_goes"] ["_law_state_here", "_law_board_here", "_law_lay_here"] (ay uB):=⟨rfl,rfl,rfl,by decide+kernel,rfl,by decide+kernel,by decide+kernel⟩
theorem MF {f:Addr}{fd:FuncData}(F:aH K "_law_right" "_law_right" uB f fd) (G:Gs mg) (C8:Def P w K mg base 1 "_law_hits" ["_law_one", "_law_other", "_law_right_here", "_law_up"] uf) (tm:Def P w K mg base 9 "all_hits" ["board", "lay"] og) (S3:Def P w K mg base 3 "_law_same" ["_law_found", "_law_due"] (eQ (xE (iQ Rl))))
  (xQ:Def P w K mg base 1 "_law_take" ["_law_state_here", "_law_many"] iY) (P1:Def P w K mg base 10 "hits" ["board", "lay", "right", "up"] qy) (S1:Def P w K mg base 1 "_law_same" ["_law_found", "_law_due"] (eQ Rl)):aA P w K mg base aG 11 f fd ["_law_state_here", "_law_board_here", "_law_lay_here"] tU:=by
 refine F.ok fi (fun vs H Q E h=> ?_) (fun ao A outer s H vs Q E hr h=> ?_)
 ·obtain⟨p,b,l,wd,hg,xs,rfl,_⟩:=h
  rfl
 ·obtain⟨p,b,l,wd,hg,xs,rfl,st,hb,hl,la,q⟩:=h
  refine⟨_,Zd (Jv (pv 1) (Yf rfl (Zt (ZB (i:=3) fi.nd rfl (Or.inl rfl)) (Zt (ZB (i:=4) fi.nd rfl (Or.inl rfl)) Z2))))
   (Zd (Zo (i:=5) fi.nd rfl (Or.inl rfl) (ZA Zb))
   (Zd (Yb PassesOwn.never rfl (WA rfl G.range (Za (Zn Yd Zi (pv 3)) (Za (pv 3) Zb))) (ZB (i:=6) fi.nd rfl (Or.inl rfl))
    (Zl (Yb PassesOwn.never rfl (WA rfl G.range (Za (Zn Yd Zi (pv 4)) (Za (pv 4) Zb))) (ZB (i:=7) fi.nd rfl (Or.inl rfl))
     (Zd (Zo (i:=8) fi.nd rfl (Or.inl rfl) (Zj C8 (hr.mono (by decide)) (Za (pv 2) (Za (pv 2) (Za (pv 6) (Za (pv 7) Zb))))))
     (Zl (ZS (ZR xq (pv 8) Zi (cq _)) (Zl (ZK (YH PySem.F.plainAttrs_list PySem.F.slot_list_append PySem.F.type_list_append ZW (pv 5) (Za (Zz (Za (pv 6) (Za (pv 7) (Za (pv 8) Zb)))) Zb)))) ZD))))))
   (Zd (Yb PassesOwn.never rfl (Z1 rfl G.range (Za Zi Zb)) (ZB (i:=9) fi.nd rfl (Or.inl rfl))
    (Zd (Zo (i:=10) fi.nd rfl (Or.inl rfl) (Zj tm (hr.mono (by decide)) (Za (pv 1) (Za (pv 2) Zb))))
    (Zd (ZS (Yk (ZY (Zj S3 (hr.mono (by decide)) (Za (pv 10) (Za (pv 5) Zb))))) Zy ZD)
    (Zl (ZK (YH PySem.F.plainAttrs_list PySem.F.slot_list_append PySem.F.type_list_append ZW (pv 10) (Za (Zz Zb) Zb)))))))
   (Zd (Zo (i:=11) fi.nd rfl (Or.inl rfl) (Zn ZZ (Zn WT Zi Zi) (Zj xQ (hr.mono (by decide)) (Za (pv 0) (Za (Zn WT Zi Zi) Zb)))))
   (Zd (Zo (i:=12) fi.nd rfl (Or.inl rfl) (ZA (Za (Zz (Za Zi (Za Zi Zb))) (Za (Zz (Za (Zn Yd (Zj xQ (hr.mono (by decide)) (Za (pv 0) (Za Zi Zb))) Zi) (Za (Zn Yd (Zj xQ (hr.mono (by decide)) (Za (pv 0) (Za Zi Zb))) Zi) Zb)))
    (Za (Zz (Za (pv 11) (Za Zi Zb))) (Za (Zz (Za Zi (Za (Zn Yd Zi (pv 11)) Zb))) (Za (Zz (Za (pv 3) (Za Zi Zb))) Zb)))))))
   (Zd (Zo (i:=12) fi.nd rfl (Or.inl rfl) (Zn YG (pv 12) (ZA (Za (Zz (Za (Zn Yd Zi (pv 11)) (Za Zi Zb))) (Za (Zz (Za Zi (Za (pv 11) Zb))) Zb)))))
   (Zd (Yb PassesOwn.never rfl (Yl (Zn YG (Zn YG (pv 12) (ZA (Za (Zz (Za Zi (Za (Zn Yd Zi (pv 4)) Zb))) Zb)))
     (Yu ["_law_one"] 1 [] (Yl (Yr Nc (pv 5) YE (YD Zi))) (fun C s H fp=>pb 0) (fun C s H fp=>YC) (fun C s H fp D=>ZT rfl (Yr (show pP (aV _ _ _ C s H fp) (zv K) from Nd) (pv 0) YE (YD Zi))))))
    (Yf rfl (Zt (ZB (i:=6) fi.nd rfl (Or.inl rfl)) (Zt (ZB (i:=7) fi.nd rfl (Or.inl rfl)) Z2)))
    (Zl (ZS (Yk (ZY (Zj S1 (hr.mono (by decide)) (Za (Zj P1 hr (Za (pv 1) (Za (pv 2) (Za (pv 6) (Za (pv 7) Zb))))) (Za (Zj C8 (hr.mono (by decide)) (Za (pv 2) (Za (pv 2) (Za (pv 6) (Za (pv 7) Zb))))) Zb))))) Zy ZD)))
   (Zl (ZC WB))))))))),?_⟩
  obtain⟨_,w1,Qb,g1,QT⟩:=id la.1
  have ok:=la.2.2.ok
  have len:=la.2.2.len
  obtain⟨u0,v0,ij,_⟩:=id st
  have zR:b≠p:=Z7 hb ij (by intro z;cases z)
  have rn:l≠p:=Z7 hl ij (by intro z;cases z)
  refine Zq (ZH ⟨_,rfl,b,_,rfl,ai.of hb,rfl,_,_,rfl,_,_,rfl,rfl,?_⟩)
  dsimp only[List.set]
  refine Zq (ZH ⟨Nat.zero_le _,fun M hM=>Zr ?_⟩)
  dsimp only[List.set]
  have s1:=Zf (o:=.lst []) hM
  have e1:upd H M (.lst []) M=some (.lst []):=Zc
  generalize upd H M (HO.lst [])=H1 at s1 e1
  refine Zq ⟨_,rfl,_,_,rfl,rfl,_,rfl,1 - wd,wd,rfl,⟨by omega,by omega,by omega,by omega⟩,?_⟩
  refine Z3 (lo:=1 - wd) (n:=(wd - (1 - wd)).toNat) (fun i σ H'=> ∃rs v6 v7 v8,σ=[some (.ref p),some (.ref b),some (.ref l),some (.int wd),some (.int hg),some (.ref M),v6,v7,v8,none,none,none,none]∧ae H H'∧H' M=some (.lst rs)∧Paired (bU H') rs (iO xs xs (1 - wd) (1 - hg) (hg - (1 - hg)).toNat i))
   ⟨[],none,none,none,rfl,s1,e1,.nil⟩ ?_ ?_
  ·rintro i σ H2 hi ⟨rs,v6,v7,v8,rfl,s2,e2,cj⟩
   refine Zr ?_
   dsimp only[List.set]
   refine⟨_,rfl,_,_,rfl,rfl,_,rfl,1 - hg,hg,rfl,⟨by omega,by omega,by omega,by omega⟩,?_⟩
   refine Z3 (lo:=1 - hg) (n:=(hg - (1 - hg)).toNat) (fun j σ H'=> ∃rs v7 v8,σ=[some (.ref p),some (.ref b),some (.ref l),some (.int wd),some (.int hg),some (.ref M),some (.int (1 - wd+i)),v7,v8,none,none,none,none]∧ae H H'∧H' M=some (.lst rs)∧Paired (bU H') rs (iO xs xs (1 - wd) (1 - hg) (hg - (1 - hg)).toNat i++gK xs xs (1 - wd+i) (1 - hg) j))
    ⟨rs,v7,v8,rfl,s2,e2,by
     show Paired _ rs (_++[])
     rw[List.append_nil];exact cj⟩ ?_ ?_
   ·rintro j σ H3 hj ⟨rs,v7,v8,rfl,s3,e3,gM⟩
    refine Zr ?_
    dsimp only[List.set]
    have zX:rs.length≤1000:=by
     have a:=Paired.length gM
     have b:=Wd xs xs (1 - wd) (1 - hg) (hg - (1 - hg)).toNat i
     have c:=Ug xs xs (1 - wd+i) (1 - hg) j
     rw[List.length_append]at a
     have:i*(hg - (1 - hg)).toNat≤23*23:=Nat.mul_le_mul (by omega) (by omega)
     omega
    refine Zq (ZH ⟨_,rfl,_,rfl,_,rfl,_,rfl,l,l,xs,xs,_,_,rfl,s3 _ _ hl,s3 _ _ hl,ok,ok,by omega,Zr ?_⟩)
    dsimp only[List.set]
    refine⟨_,rfl,_,_,rfl,rfl,_,rfl,?_⟩
    by_cases hp:((bH xs xs (1 - wd+i) (1 - hg+j):Nat):Int)>0
    ·rw[decide_eq_true hp]
     refine aX ⟨_,rfl,.inl ⟨rfl,_,ah.of e3⟩,_,rfl,_,rfl,_,rfl,(by show 3≤sizeLine;decide),fun t ht=> ?_⟩
     have s4:=Zf (o:=.tup [V.int (1 - wd+i),V.int (1 - hg+j),V.int (bH xs xs (1 - wd+i) (1 - hg+j):Int)]) ht
     have e4:upd H3 t (.tup [V.int (1 - wd+i),V.int (1 - hg+j),V.int (bH xs xs (1 - wd+i) (1 - hg+j):Int)]) t=some (.tup [V.int (1 - wd+i),V.int (1 - hg+j),V.int (bH xs xs (1 - wd+i) (1 - hg+j):Int)]):=Zc
     generalize upd H3 t (HO.tup [V.int (1 - wd+i),V.int (1 - hg+j),V.int (bH xs xs (1 - wd+i) (1 - hg+j):Int)])=H4 at s4 e4
     have pI:=s4 _ _ e3
     refine⟨M,rs,.ref t,rfl,rfl,pI,by rw[sizeLine_eq];omega,?_⟩
     refine⟨_,_,_,rfl,zd (s3.trans s4) hM,Zc,?_⟩
     rw[Ju,if_pos (by omega),←List.append_assoc]
     exact Paired.snoc (Paired.cu gM fun v k h=>Ci pI (YA h s4)) (Ci pI ⟨t,rfl,e4⟩)
    ·rw[decide_eq_false hp]
     refine aM (YB ⟨_,_,_,rfl,s3,e3,?_⟩)
     rw[Ju,if_neg (by omega),List.append_nil]
     exact gM
   ·rintro σ H3 ⟨rs,v7,v8,rfl,s3,e3,gM⟩
    refine⟨_,_,_,_,rfl,s3,e3,?_⟩
    rw[JB]
    exact gM
  rintro σ H2 ⟨rs,v6,v7,v8,rfl,s2,e2,cj⟩
  try dsimp only
  have cj:Paired (bU H2) rs (gk wd hg xs xs):=by
   unfold gk
   rw[show(2*hg - 1).toNat=(hg - (1 - hg)).toNat by omega,show(2*wd - 1).toNat=(wd - (1 - wd)).toNat by omega]
   exact cj
  have zX:rs.length≤1000:=by
   have a:=Paired.length cj
   have b:=Wd xs xs (1 - wd) (1 - hg) (2*hg - 1).toNat (2*wd - 1).toNat
   have:(2*wd - 1).toNat*(2*hg - 1).toNat≤23*23:=Nat.mul_le_mul (by omega) (by omega)
   unfold gk at a
   omega
  refine Zq ⟨2,rfl,by decide,by decide,?_⟩
  refine Z3 (fun j σ H'=> ∃v9 v10,σ=[some (.ref p),some (.ref b),some (.ref l),some (.int wd),some (.int hg),some (.ref M),v6,v7,v8,v9,v10,none,none]∧ae H2 H') ⟨_,_,rfl,ae.refl _⟩ ?_ ?_
  ·rintro j σ H3 hj ⟨v9,v10,rfl,s3⟩
   refine Zr ?_
   dsimp only[List.set]
   refine Zq (ZH ⟨_,rfl,_,rfl,.ref b,.ref l,wd,hg,xs,rfl,vA la (s2.trans s3),fun L H4 ts s4 nL eL gL=>Zr ?_⟩)
   dsimp only[List.set]
   have uT:=s3.trans s4
   refine Zq ⟨_,rfl,_,rfl,.ref L,.ref M,rfl,⟨L,M,ts,rs,rfl,rfl,eL,uT _ _ e2,Nf gL (Paired.cu cj fun v k h=>YA h uT) (fun k hk=>by obtain⟨a,b,n,rfl⟩:=UI hk;show 3≤1000;decide),by rw[Paired.length gL,←Paired.length cj];exact zX⟩,fun H5 s5=> ⟨true,rfl,aM (YB ?_)⟩⟩
   try dsimp only
   have BH:=s5 _ _ eL
   refine⟨_,rfl,.inl ⟨rfl,_,ah.of BH⟩,Nat.zero_le _,fun t ht=> ?_⟩
   have s6:=Zf (o:=.tup []) ht
   have BG:=s6 _ _ BH
   generalize upd H5 t (HO.tup [])=H6 at s6 BG
   refine⟨L,ts,.ref t,rfl,rfl,BG,by rw[Paired.length gL,←Paired.length cj,sizeLine_eq];omega,?_⟩
   exact⟨_,_,rfl,fun b o h=>zd (uT.trans (s5.trans s6)) (by
    cases hh:H2 L with
    |none=>rfl
    |some u=>rw[s3 _ _ hh]at nL;cases nL) _ _ h⟩
  rintro σ H3 ⟨v9,v10,rfl,s3⟩
  try dsimp only
  have qQ:=s2.trans s3
  have aF:=st.same qQ
  have K2:=s3 _ _ e2
  have rp:M≠p:=by
   obtain⟨u,v,e,_⟩:=id st
   exact fun z=>by rw[z,e]at hM;cases hM
  refine Zq (ZH ⟨_,_,rfl,rfl,⟨by decide,by decide,by decide⟩,_,rfl,_,_,rfl,rfl,⟨by decide,by decide,by decide⟩,p,10^(9:Int).toNat,rfl,aF,by decide,by decide,fun rf of Qn Qm cm=> ⟨_,_,rfl,rfl,Zr ?_⟩⟩)
  dsimp only[List.set]
  have x4:aq p H3 (upd H3 p of):=aq.upd
  generalize upd H3 p of=H4 at cm x4
  generalize (10:Int)^(39:Int).toNat+rf=ji
  have Q3:=x4 _ _ (qQ _ _ hb) zR
  have Q1:=x4 _ _ (qQ _ _ hl) rn
  have pI:=x4 _ _ K2 rp
  have gL:Paired (bU H4) rs (gk wd hg xs xs):=Paired.cu cj fun v k h=>by
   obtain⟨t,e,g⟩:=YA h s3
   obtain⟨u,v',ep,_⟩:=id aF
   exact⟨t,e,x4 _ _ g (Z7 g ep (by intro z;cases z))⟩
  have jw:∀{H:Hp}{t:Addr} (a b:Int),H t=none→ae H (upd H t (.tup [V.int a,V.int b]))∧upd H t (.tup [V.int a,V.int b]) t=some (.tup [V.int a,V.int b]):=fun a b h=> ⟨Zf h,Zc⟩
  refine Zq (ZH ⟨(by show 2≤sizeLine;decide),fun t1 h1=> ?_⟩)
  obtain⟨y1,f1⟩:=jw 0 0 h1
  generalize upd H4 t1 (HO.tup [V.int 0,V.int 0])=G1 at y1 f1
  have yG:=cm.same y1
  refine⟨_,rfl,p,25,rfl,yG,by decide,by decide,fun ra oa Qr Qq yF=> ⟨_,_,rfl,rfl,?_⟩⟩
  have z2:aq p G1 (upd G1 p oa):=aq.upd
  generalize upd G1 p oa=G2 at yF z2
  refine⟨_,rfl,p,25,rfl,yF,by decide,by decide,fun rb ob Qp Qo yE=> ⟨_,_,rfl,rfl,(by show 2≤sizeLine;decide),fun t2 h2=> ?_⟩⟩
  have z3:aq p G2 (upd G2 p ob):=aq.upd
  generalize upd G2 p ob=G3 at yE z3 h2
  obtain⟨y4,f4⟩:=jw (ra - 12) (rb - 12) h2
  generalize upd G3 t2 (HO.tup [V.int (ra - 12),V.int (rb - 12)])=G4 at y4 f4
  refine⟨_,rfl,(by show 2≤sizeLine;decide),fun t3 h3=> ?_⟩
  obtain⟨y5,f5⟩:=jw ji 0 h3
  generalize upd G4 t3 (HO.tup [V.int ji,V.int 0])=G5 at y5 f5
  refine⟨_,rfl,_,_,rfl,rfl,(by show 2≤sizeLine;decide),fun t4 h4=> ?_⟩
  obtain⟨y6,f6⟩:=jw 0 (0 - ji) h4
  generalize upd G5 t4 (HO.tup [V.int 0,V.int (0 - ji)])=G6 at y6 f6
  refine⟨_,rfl,(by show 2≤sizeLine;decide),fun t5 h5=> ?_⟩
  obtain⟨y7,f7⟩:=jw wd 0 h5
  generalize upd G6 t5 (HO.tup [V.int wd,V.int 0])=G7 at y7 f7
  refine⟨(by show 5≤sizeLine;decide),fun A1 Ks=>Zr ?_⟩
  dsimp only[List.set]
  have zJ:t1≠p:=by
   obtain⟨u,v,e,_⟩:=id yG
   exact Z7 f1 e (by intro z;cases z)
  have KO:=z3 _ _ (z2 _ _ f1 zJ) zJ
  have xW:=y4.trans (y5.trans (y6.trans y7))
  have yl:∀v∈[V.ref t1,V.ref t2,V.ref t3,V.ref t4,V.ref t5],jn G7 v:=fun v hv=>by
   simp only[List.mem_cons,List.not_mem_nil,or_false]at hv
   rcases hv with rfl |rfl |rfl |rfl |rfl
   ·exact⟨t1,_,_,rfl,xW _ _ KO⟩
   ·exact⟨t2,_,_,rfl,(y5.trans (y6.trans y7)) _ _ f4⟩
   ·exact⟨t3,_,_,rfl,(y6.trans y7) _ _ f5⟩
   ·exact⟨t4,_,_,rfl,y7 _ _ f6⟩
   ·exact⟨t5,_,_,rfl,f7⟩
  generalize wg:[V.ref t1,V.ref t2,V.ref t3,V.ref t4,V.ref t5]=gs at yl ⊢
  have zZ:gs.length=5:=by rw[←wg];rfl
  have y8:=Zf (o:=.lst gs) Ks
  have f8:upd G7 A1 (.lst gs) A1=some (.lst gs):=Zc
  generalize upd G7 A1 (HO.lst gs)=G8 at y8 f8
  refine Zq (ZH ⟨_,rfl,_,rfl,_,_,rfl,rfl,(by show 2≤sizeLine;decide),fun t6 h6=> ?_⟩)
  obtain⟨y9,f9⟩:=jw (0 - ji) 0 h6
  generalize upd G8 t6 (HO.tup [V.int (0 - ji),V.int 0])=G9 at y9 f9
  refine⟨_,rfl,(by show 2≤sizeLine;decide),fun t7 h7=> ?_⟩
  obtain⟨tI,Bx⟩:=jw 0 ji h7
  generalize upd G9 t7 (HO.tup [V.int 0,V.int ji])=C6 at tI Bx
  refine⟨(by show 2≤sizeLine;decide),fun A2 Kr=> ?_⟩
  have qg:=Zf (o:=.lst [V.ref t6,V.ref t7]) Kr
  have Bw:upd C6 A2 (.lst [V.ref t6,V.ref t7]) A2=some (.lst [V.ref t6,V.ref t7]):=Zc
  generalize upd C6 A2 (HO.lst [V.ref t6,V.ref t7])=C5 at qg Bw
  have tE:=y9.trans (tI.trans qg)
  refine⟨A1,A2,gs,_,rfl,rfl,tE _ _ f8,Bw,(by rw[zZ,sizeLine_eq];show 5+2≤16777216;decide),fun A3 Kq=>Zr ?_⟩
  dsimp only[List.set]
  have nS:=Zf (o:=.lst (gs++[V.ref t6,V.ref t7])) Kq
  have wV:upd C5 A3 (.lst (gs++[V.ref t6,V.ref t7])) A3=some (.lst (gs++[V.ref t6,V.ref t7])):=Zc
  generalize upd C5 A3 (HO.lst (gs++[V.ref t6,V.ref t7]))=C4 at nS wV
  have yk:∀v∈gs++[V.ref t6,V.ref t7],jn C4 v:=fun v hv=>by
   rcases List.mem_append.mp hv with h |h
   ·exact(yl v h).same (y8.trans (tE.trans nS))
   ·simp only[List.mem_cons,List.not_mem_nil,or_false]at h
    rcases h with rfl |rfl
    ·exact⟨t6,_,_,rfl,(tI.trans (qg.trans nS)) _ _ f9⟩
    ·exact⟨t7,_,_,rfl,(qg.trans nS) _ _ Bx⟩
  have vw:(gs++[V.ref t6,V.ref t7]).length=7:=by rw[List.length_append,zZ];rfl
  generalize gs++[V.ref t6,V.ref t7]=j8 at wV yk vw
  refine Zq ⟨_,rfl,_,rfl,_,_,rfl,rfl,(by show 2≤sizeLine;decide),fun t8 h8=> ?_⟩
  obtain⟨qf,Bv⟩:=jw 0 (0 - hg) h8
  generalize upd C4 t8 (HO.tup [V.int 0,V.int (0 - hg)])=C3 at qf Bv
  refine⟨(by show 1≤sizeLine;decide),fun A4 Kp=> ?_⟩
  have nR:=Zf (o:=.lst [V.ref t8]) Kp
  have Bu:upd C3 A4 (.lst [V.ref t8]) A4=some (.lst [V.ref t8]):=Zc
  generalize upd C3 A4 (HO.lst [V.ref t8])=C2 at nR Bu
  refine⟨A3,A4,j8,_,rfl,rfl,(qf.trans nR) _ _ wV,Bu,(by rw[vw,sizeLine_eq];show 7+1≤16777216;decide),fun A5 Ko=> ?_⟩
  have qe:=Zf (o:=.lst (j8++[V.ref t8])) Ko
  have wU:upd C2 A5 (.lst (j8++[V.ref t8])) A5=some (.lst (j8++[V.ref t8])):=Zc
  generalize upd C2 A5 (HO.lst (j8++[V.ref t8]))=pV at qe wU
  have yh:∀v∈j8++[V.ref t8],jn pV v:=fun v hv=>by
   rcases List.mem_append.mp hv with h |h
   ·exact(yk v h).same (qf.trans (nR.trans qe))
   ·simp only[List.mem_cons,List.not_mem_nil,or_false]at h
    subst h
    exact⟨t8,_,_,rfl,(nR.trans qe) _ _ Bv⟩
  have Aa:(j8++[V.ref t8]).length=8:=by rw[List.length_append,vw];rfl
  generalize j8++[V.ref t8]=lI at wU yh Aa
  have yT:aq p H4 G3:=fun b u h n=>z3 _ _ (z2 _ _ (y1 _ _ h) n) n
  have qc:ae G3 pV:=xW.trans (y8.trans (tE.trans (nS.trans (qf.trans (nR.trans qe)))))
  have Fh:Paired (bU pV) rs (gk wd hg xs xs):=Paired.cu gL fun v k h=>by
   obtain⟨t,e,g⟩:=h
   obtain⟨u,v',ep,_⟩:=id cm
   exact⟨t,e,qc _ _ (yT _ _ g (Z7 g ep (by intro z;cases z)))⟩
  have K3:=qc _ _ (yT _ _ pI rp)
  refine⟨_,rfl,_,rfl,M,rs,rfl,ah.of K3,fun A6 Kn=> ⟨A6,rfl,⟨_,ah.of Zc⟩,?_⟩⟩
  have tH:=Zf (o:=.lst (cM rs none (some 9))) Kn
  have Bt:upd pV A6 (.lst (cM rs none (some 9))) A6=some (.lst (cM rs none (some 9))):=Zc
  generalize upd pV A6 (HO.lst (cM rs none (some 9)))=PM at tH Bt
  refine YV (xs:=cM rs none (some 9)) (fun k ys σ H'=> ∃v,σ=[v]∧ae PM H'∧(∀v∈ys,jn H' v)∧ys.length≤k) ⟨_,rfl,ae.refl _,(fun v hv=>absurd hv List.not_mem_nil),Nat.zero_le _⟩ (fun i ys σ H' _ ⟨_,_,s,_⟩=>ah.of (s _ _ Bt)) ?_ ?_
  ·rintro k v ys σ H' hv ⟨Dn,rfl,s',tw,lk⟩
   refine Zr ?_
   dsimp only[List.set]
   obtain⟨kk,Ic,t,rfl,ht⟩:=Yg Fh (OI hv)
   obtain⟨a,b',n,rfl⟩:=UI Ic
   have Gg:(cM rs none (some 9)).length≤1000:=by
    unfold cM
    rw[List.length_take,List.length_drop];omega
   have fF:=(List.getElem?_eq_some_iff.mp hv).1
   refine⟨_,rfl,_,rfl,t,_,rfl,(tH.trans s') _ _ ht,fun c jt eE hc=> ⟨by rw[sizeLine_eq];omega,?_⟩⟩
   refine⟨_,rfl,s'.trans eE,fun v hv=> ?_,by rw[List.length_append];exact Nat.succ_le_succ lk⟩
   rcases List.mem_append.mp hv with h |h
   ·exact(tw v h).same eE
   ·simp only[List.mem_cons,List.not_mem_nil,or_false]at h
    subst h
    exact⟨c,a,b',rfl,hc⟩
  rintro ys σ C1 ⟨Dn,rfl,dc,tw,lk⟩ A7 Km
  have Gg:(cM rs none (some 9)).length≤1000:=by
   unfold cM
   rw[List.length_take,List.length_drop];omega
  have tF:=Zf (o:=.lst ys) Km
  have Bs:upd C1 A7 (.lst ys) A7=some (.lst ys):=Zc
  generalize upd C1 A7 (HO.lst ys)=C0 at tF Bs
  have qd:=tH.trans (dc.trans tF)
  refine⟨A5,A7,lI,ys,rfl,rfl,qd _ _ wU,Bs,(by rw[Aa,sizeLine_eq];omega),fun A8 Kl=> ⟨A8,rfl,⟨_,ah.of Zc⟩,?_⟩⟩
  have nQ:=Zf (o:=.lst (lI++ys)) Kl
  have wR:upd C0 A8 (.lst (lI++ys)) A8=some (.lst (lI++ys)):=Zc
  generalize upd C0 A8 (HO.lst (lI++ys))=nI at nQ wR
  have yg:∀v∈lI++ys,jn nI v:=fun v hv=>by
   rcases List.mem_append.mp hv with h |h
   ·exact(yh v h).same (qd.trans nQ)
   ·exact(tw v h).same (tF.trans nQ)
  generalize lI++ys=Kv at wR yg
  have Dg:aq p H4 nI:=fun b u h n=> (qc.trans (qd.trans nQ)) _ _ (yT _ _ h n)
  have nT:aq p H nI:=fun b u h n=>Dg _ _ (x4 _ _ (qQ _ _ h) n) n
  have Ep:br nI p:=yE.same (qc.trans (qd.trans nQ))
  have Gp:cP nI (.ref b) (.ref l) wd hg xs:=⟨⟨Zx (nT _ _ hb zR),la.1.2⟩,Zx (nT _ _ hl rn),la.2.2⟩
  refine YN (xs:=Kv) (fun i σ H'=> ∃v6 v7,σ=[some (.ref p),some (.ref b),some (.ref l),some (.int wd),some (.int hg),some (.ref M),v6,v7,v8,v9,v10,some (.int ji),some (.ref A3)]∧ae nI H') ⟨_,_,rfl,ae.refl _⟩ (fun i σ H' _ ⟨_,_,_,s⟩=>ah.of (s _ _ wR)) ?_ ?_
  ·rintro i v σ H' hv ⟨Dm,Dk,rfl,s'⟩
   obtain⟨t,a,b',rfl,ht⟩:=yg v (List.mem_of_getElem? hv)
   refine⟨t,_,rfl,ai.of (s' _ _ ht),rfl,_,_,rfl,_,_,rfl,rfl,?_⟩
   dsimp only[List.set]
   refine⟨_,rfl,_,rfl,_,rfl,_,rfl,.ref b,.ref l,wd,hg,xs,a,b',rfl,vA Gp s',fun Rb uU=> ?_⟩
   refine⟨_,rfl,_,rfl,_,rfl,_,rfl,l,l,xs,xs,a,b',rfl,(s'.trans uU) _ _ (nT _ _ hl rn),(s'.trans uU) _ _ (nT _ _ hl rn),ok,ok,by omega,?_⟩
   refine⟨_,_,rfl,.inl ⟨_,rfl,rfl⟩,fun H5 s5=> ⟨true,rfl,aM (YB ?_)⟩⟩
   exact⟨_,_,rfl,s'.trans (uU.trans s5)⟩
  ·rintro σ H' ⟨Dm,Dk,rfl,s'⟩
   exact q H' (fun b u h n=>s' _ _ (nT _ _ h n)) (Ep.same s')
end
end U
namespace L2
open PySem PySem.Spec PyProof.Rows SeqAt
section
variable {X:Cx}
def iS (H:Hp) (v:V) (k:List Int):Prop:=∃l:Addr,v=.ref l∧H l=some (.lst (k.map V.int))
theorem iS.same {H H':Hp}{v:V}{k:List Int}(h:iS H v k) (s:ae H H'):iS H' v k:=let ⟨l,e,h1⟩:=h;⟨l,e,s _ _ h1⟩
theorem Mx {pins:List (Addr×Obj)}{σ:St}{H:Hp}{s:Shared}{x y:V}{u v:Value}{k:List Int}(A:Around) (hu:A.units<cLine) (I:Inv X pins σ H s) (hx:iS H x k) (hy:iS H y k) (ru:RelV x u) (rv:RelV y v):EqAt A s u v true:=by
 obtain⟨a,rfl,ha⟩:=hx
 obtain⟨b,rfl,hb⟩:=hy
 cases ru
 cases rv
 by_cases o8:a=b
 ·subst o8
  exact EqAt.same _
 ·obtain⟨us,r1,p1,_⟩:=I.list (ah.of ha)
  obtain⟨vs,r2,p2,_⟩:=I.list (ah.of hb)
  have l1:=r1.length
  have l2:=r2.length
  have z:=RcAt.lists (A:=A) (s:=s) (e:=fun j=>k.getD j 0==k.getD j 0) p1.isList p2.isList (by simp;omega) hu (fun j h1 h2=>by
   obtain⟨t1,e1⟩:=YW r1 j (by simpa using h1)
   obtain⟨t2,e2⟩:=YW r2 j (by simpa using h2)
   rw[show us.toArray[j]=us[j]'(by simpa using h1) by simp,show vs.toArray[j]=vs[j]'(by simpa using h2) by simp,e1,e2]
   exact EqAt.int_int _ _ _ _)
  have e:(List.range us.toArray.size).all (fun j=>k.getD j 0==k.getD j 0)=true:=by simp
  rw[e]at z
  exact EqAt.of_refs o8 z
def EY (K:PySem.W.Frag) (r:Bool):R2:=fun x y H Q=> ∃(a b:Addr) (xs ys:List V) (ks:List (List Int)),x=.ref a∧y=.ref b∧ah K H a xs∧ah K H b ys∧Paired (iS H) xs ks∧Paired (iS H) ys ks∧Q (.bl r) H
theorem L0 {pins:List (Addr×Obj)}{σ:St}{H:Hp}{s:Shared}{xs ys:List V}{ks:List (List Int)}{us vs:List Value}(A:Around) (hu:A.units<cLine) (I:Inv X pins σ H s) (p1:Paired (iS H) xs ks) (p2:Paired (iS H) ys ks) (r1:Vals xs us) (r2:Vals ys vs):∀j (h1:j<us.toArray.size) (h2:j<vs.toArray.size),EqAt A s us.toArray[j] vs.toArray[j] true:=fun j h1 h2=>by
 have l1:=r1.length
 have l2:=r2.length
 have k1:j<xs.length:=by simp at h1;omega
 have k2:j<ys.length:=by simp at h2;omega
 obtain⟨k,hk,e⟩:=Y2 p1 (List.getElem?_eq_getElem k1)
 obtain⟨k',cI,e'⟩:=Y2 p2 (List.getElem?_eq_getElem k2)
 rw[hk]at cI
 cases cI
 obtain⟨u,oD,ru⟩:=r1.get (List.getElem?_eq_getElem k1)
 obtain⟨v,vJ,rv⟩:=r2.get (List.getElem?_eq_getElem k2)
 have e1:us.toArray[j]=u:=by simpa using (List.getElem?_eq_some_iff.mp oD).2
 have e2:vs.toArray[j]=v:=by simpa using (List.getElem?_eq_some_iff.mp vJ).2
 rw[e1,e2]
 exact Mx A hu I e e' ru rv
theorem MY (hu:X.A.units+1<cLine):ba X (compareOp .NotEq) (EY X.K false):=by
 intro pins s σ H x y u v Q I rx ry h
 obtain⟨a,b,xs,ys,ks,rfl,rfl,ha,hb,p1,p2,q⟩:=h
 cases rx
 cases ry
 obtain⟨us,r1,l1,_⟩:=I.list ha
 obtain⟨vs,r2,l2,_⟩:=I.list hb
 have hsz:us.toArray.size=vs.toArray.size:=by have:=r1.length;have:=r2.length;have:=Paired.length p1;have:=Paired.length p2;simp at *;omega
 refine RcNeAt.lists (e:=fun _=>true) l1.isList l2.isList hsz (Nat.lt_of_succ_lt hu) (L0 X.A.in1 hu I p1 p2 r1 r2) _ _ _ _ ?_
 have e:(List.range us.toArray.size).all (fun _=>true)=true:=by simp
 rw[e]
 exact⟨.bl false,H,I,rfl,q⟩
end
end L2
namespace U
open PySem L2 PyProof.Rows PyProof.Rows.fK
theorem i0.x {p:Addr}{H H':Hp}{y:V}(h:i0 H y) (s:aq p H H') (st:br H p):i0 H' y:=by
 obtain⟨u,v,e,_⟩:=st
 rcases h with h |⟨b,z,rfl,h |h,hz⟩
 ·exact .inl h
 ·exact .inr ⟨b,z,rfl,.inl (s _ _ h fun q=>by rw[q,e]at h;cases h),hz⟩
 ·exact .inr ⟨b,z,rfl,.inr (s _ _ h fun q=>by rw[q,e]at h;cases h),hz⟩
theorem kg.x {p:Addr}{H H':Hp}{v:V}(h:kg p H v) (s:aq p H H') (st:br H p):kg p H' v:=by
 have aa:=id st
 obtain⟨u,w,e,_⟩:=st
 rcases h with h |⟨a,xs,rfl,hl,h |⟨n,h⟩,hy⟩ |⟨a,rfl,h⟩
 ·exact .inl h
 ·exact .inr (.inl ⟨a,xs,rfl,hl,.inl (s _ _ h fun q=>by rw[q,e]at h;cases h),fun y m=> (hy y m).x s aa⟩)
 ·exact .inr (.inl ⟨a,xs,rfl,hl,.inr ⟨n,s _ _ h n⟩,fun y m=> (hy y m).x s aa⟩)
 ·exact .inr (.inr ⟨a,rfl,s _ _ h fun q=>by rw[q,e]at h;cases h⟩)
section
variable {K:PySem.W.Frag}
def Th (K:PySem.W.Frag) (p:Addr) (H:Hp) (v:V):Prop:=fe K H v∧kg p H v
theorem Th.x {p:Addr}{H H':Hp}{v:V}(t:Th K p H v) (s:aq p H H') (st:br H p):Th K p H' v:=by
 have h2:=t.2.x s st
 obtain⟨u,w,e,_⟩:=id st
 refine⟨xu t.1 s ⟨fun z=> ?_,fun xs ex y hy z=> ?_⟩,h2⟩
 ·subst z
  rcases t.2 with h |⟨a,xs,z,_,h |⟨n,_⟩,_⟩ |⟨a,z,h⟩
  ·cases h
  ·cases z;rw[e]at h;cases h
  ·cases z;exact n rfl
  ·cases z;rw[e]at h;cases h
 ·subst z
  rcases t.2 with h |⟨a,ys,rfl,_,h,fW⟩ |⟨a,rfl,h⟩
  ·cases v with
   |ref a=>cases h
   |_=>cases ex
  ·rcases h with h |⟨_,h⟩
   ·rw[Zx h]at ex
    cases ex
    rcases fW _ hy with h' |⟨b,z,hz,h' |h',_⟩
    ·cases h'
    ·cases hz;rw[e]at h';cases h'
    ·cases hz;rw[e]at h';cases h'
   ·have e0:aY H (.ref a)=none:=by rw[Zw,h];rfl
    rw[e0]at ex;cases ex
  ·have e0:aY H (.ref a)=none:=by rw[Zw,h];rfl
   rw[e0]at ex;cases ex
theorem bt.x {p:Addr}{wd hg:Int}{H H':Hp}{v:V}(b:bt K p wd hg H v) (s:aq p H H') (st:br H p):bt K p wd hg H' v:=by
 have t:Th K p H v:=⟨b.1.1,b.2⟩
 have t':=t.x s st
 obtain⟨u,w,e,_⟩:=id st
 refine⟨⟨t'.1,?_⟩,t'.2⟩
 rw[Ja b.1.1.1 s fun z=> ?_]
 ·exact b.1.2
 ·subst z
  rcases b.2 with h |⟨a,xs,z,_,h |⟨n,_⟩,_⟩ |⟨a,z,h⟩
  ·cases h
  ·cases z;rw[e]at h;cases h
  ·cases z;exact n rfl
  ·cases z;rw[e]at h;cases h
theorem UG {p:Addr}{H H':Hp}{v:V}(b:gD K H v∧iR p H v) (s:aq p H H'):gD K H' v∧iR p H' v:=⟨Cn b.1 s b.2,NG b.1.1.1 s b.2.1 b.2⟩
end
theorem UP {p L:Addr}{H H1:Hp}{o:HO}(x:aq p H H1) (n:H L=none):aq p H (upd H1 L o):=fun b u h nb=>by
 rw[Zg (Ze h n)]
 exact x b u h nb
section
variable {Y:Cx}{cS fR:Addr}{kf:Nat}
theorem N5 {pins:List (Addr×Obj)}{σ:L2.St}{H:Hp}{s:Shared}{f C:Addr}{iC:Nat}{q:Str}{params:Arguments}{bd:Expr}{scope:Scope}{cl:List (Str×Addr)}{Q:VK}{N:List Str}{ws:List V}{Pre:Hp→Prop}
  (hR:∀b',Def Y.prog Y.w Y.K Y.mg b' (kf+2) "_law_refused" ["_law_call"] (l9 Y.prog Y.w Y.K Y.mg b' cS (kf+1))) (room:bL (kf+2) Y.A) (mR:Y.mg "_law_refused" =some (.ref fR))
  (LS:xG params bd scope N) (I:Inv Y pins σ H s) (hl:jr H f q params bd scope cl) (hlen:ws.length=N.length) (lF:∀(i:Nat) x v,N[i]? =some x→ws[i]? =some v→tD Y cl x v H s) (mH:∀z c,cl.lookup z=some c→(z,NameKind.free)∈scope.names)
  (Ih:∀a b c,cl.lookup a=some c→cl.lookup b=some c→a=b) (hi:iC=0∨iC=1∨iC=2) (M:lW Y.K Y.mg cS C iC) (bad:nK Y kf C f q bd scope cl N ws Pre) (pre:Pre H) (hq:∀l H',ae H H'→H l=none→H' l=some (.lst [.int (iC:Int)])→Q (.ref l) H'):
  wpAny (model Y.prog Y.w) Y.A (call (.ref fR) [.ref f]) (EP Y pins σ Q) Y.xe s:=by
 obtain⟨bZ,st,e0,bR⟩:=I.rebase
 obtain⟨pm,cc,ct,hf,hc⟩:=hl
 have T:Cells bZ scope cl N ws:=⟨hlen,fun u hu=>by
   rcases hu with hu |hu
   ·exact absurd rfl (LS.i9 _ (PySem.mem_of_lookup hu))
   ·exact LS.only _ (PySem.mem_of_lookup hu) rfl,fun i a v h1 h2=>by
   obtain⟨ax,ux,lx,⟨ox,gx,dx⟩,rx,nx,fx⟩:=lF i a v h1 h2
   exact⟨LS.free a (List.mem_of_getElem? h1),ax,ux,lx,⟨ox,bR _ _ gx nx fx,dx⟩,rx⟩,fun u c h=>LS.only _ (mH u c h) rfl,Ih⟩
 have FL:aA Y.prog Y.w Y.K Y.mg bZ (bB Y.prog Y.w) (kf+1) f (PySem.W.kla_fn "<lambda>" q params bd scope cl pm (.ref cc) ct) []
   (fun vs H2 Q2 E2=> (vs=[]∧H2 f=some (mz f q params bd scope cl pm cc ct)∧H2 cc=some (gA cc q))∧Pre H2∧∀e H',ae H2 H'→E2 (.ref e) (some C) H'):=by
  refine Nv (k:=kf) T LS.kind LS.co LS.gen LS.i9 (fun vs H2 Q2 E2 h=>h.1) fun A outer s2 H2 Q2 E2 fB h=> ?_
  exact bad bZ cc A outer s2 H2 Q2 E2 fB h.2.1 h.2.2
 obtain⟨QV,KN,FR,dA,hk,hb⟩:=hR bZ
 rw[mR]at dA
 cases dA
 refine wpAny_call (codeAny_mono (FR.run Y.A Y.stack s H ⟨[.ref f],[]⟩ [.ref f] [.ref f] Q E0 room e0 (hb s [.ref f] I.bO rfl) (.cons rfl .nil)
  ⟨f,_,_,C,iC,rfl,hi,M,fun h ag=> ?_,FL,fun s2=> .of_eq (LS.bind q cl pm cc ct),fun Q' E' hE=> ⟨⟨rfl,hf,hc⟩,pre,hE⟩,hq⟩) fun r s' h=> ?_)
 ·have z:h.get? f=some _:=(ag f _ hf).1
  exact⟨_,_,_,_,z⟩
 ·cases r with
  |error e=>exact h.elim
  |ok fl=>
   cases fl with
   |ret u=>exact I.after h
   |next=>exact False.elim h
   |brk=>exact False.elim h
   |cont=>exact False.elim h
end
section
variable {X:Cx}{cS c P fR:Addr}{kf:Nat}
theorem OE {pins:List (Addr×Obj)}{σ:L2.St}{H:Hp}{s:Shared}{N':List Str}{scope zc:Scope}{C:Addr}{s0:Shared}{H0:Hp}{fp:List Addr}{x:Str}{v:V}{p0:List (Addr×Obj)}{jv:L2.St}(I0:Inv X p0 jv H0 s0) (hf:∀b∈fp,cb X p0 H0 b) (c0:tD X (cF zc X.env) x v H0 s0) (hk:X.env.scope.names.lookup x=some .cell)
  (J:Inv (aV X N' scope C s0 H0 fp) pins σ H s):tD (aV X N' scope C s0 H0 fp) (cF zc X.env) x v H s:=by
 obtain⟨c,u,h1,⟨o,h2,h3⟩,h4,h5,h6⟩:=c0
 have u0:Un (aQ X.stack) fp H0 H s0.heap s.heap:=J.base
 have zO:c∉fp:=fun hm=>by
  obtain⟨a,ha⟩:=I0.ok.has x (.inl hk)
  have e1:=(Yt h1).1
  rw[ha]at e1
  have z:c=a:=e1
  subst z
  obtain⟨_,_,_,_,f4,_⟩:=hf c hm
  exact f4 x c ha rfl
 exact⟨c,u,h1,⟨o,u0.keep c o h2 h5 h6 zO,h3⟩,h4,u0.free c o h2 h5 zO,h6⟩
structure Dd (X:Cx) (cS:Addr) (kf:Nat) (jv:L2.St) (H:Hp) (f:Addr) (iC:Nat) (params:Arguments) (bd:Expr) (scope:Scope) (N:List Str) (idx:List Nat) (ws:List V) (C:Addr) (Pre:Hp→Prop):Prop where
 ls:xG params bd scope N
 hN:idx.length=N.length
 ln:∀(k:Nat) x i,N[k]? =some x→idx[k]? =some i→LN X x i
 GS:ws.length=idx.length
 kS:∀(k i:Nat) v,idx[k]? =some i→ws[k]? =some v→jv[i]? =some (some v)
 fr:∀z∈scope.names,z.2=.free→X.env.kindOf z.1=some .cell∨X.env.kindOf z.1=some .free
 lam:jr H f (lq X) params bd scope (cF scope X.env)
 hi:iC=0∨iC=1∨iC=2
 mr:lW X.K X.mg cS C iC
 body:nK X kf C f (lq X) bd scope (cF scope X.env) N ws Pre
 pre:Pre H
def DM (X:Cx) (cS:Addr) (kf:Nat) (jv:L2.St):TE:=fun σ H Q=> ∃f iC,σ[0]? =some (some (.ref f))∧(∃params bd scope N idx ws C Pre,Dd X cS kf jv H f iC params bd scope N idx ws C Pre)∧∀l H',ae H H'→H l=none→H' l=some (.lst [.int (iC:Int)])→Q (.ref l) H'
theorem M4 {N':List Str}{bs:Scope}{B:Addr}{s0:Shared}{H0:Hp}{fp:List Addr}{p0:List (Addr×Obj)}{jv:L2.St}{p p' pos:Pos}{cn:Str}
  (hR:∀b',Def X.prog X.w X.K X.mg b' (kf+2) "_law_refused" ["_law_call"] (l9 X.prog X.w X.K X.mg b' cS (kf+1))) (room:bL (kf+2) X.A) (mR:X.mg "_law_refused" =some (.ref fR)) (kR:PySem.W.keepIn X.K (.ref fR)=true) (I0:Inv X p0 jv H0 s0) (hf:∀b∈fp,cb X p0 H0 b)
  (hg:Gl (aV X N' bs B s0 H0 fp) "_law_refused") (hv:PE (aV X N' bs B s0 H0 fp) (.Name cn p') (jz 0)):
  PE (aV X N' bs B s0 H0 fp) (.Call (.Name "_law_refused" p) [.Name cn p'] [] pos) (DM X cS kf jv):=by
 intro pins s σ H Q J h
 obtain⟨f,iC,kS,⟨params,bd,scope,N,idx,ws,C,Pre,ask⟩,q⟩:=h
 refine wpAny_Call_Name_kw (Jj J hg mR ?_ (by decide))
 have ha:PA (aV X N' bs B s0 H0 fp) [.Name cn p'] _:=Za hv Zb
 refine PySem.W.callWith_K (h₀:=X.base) J.ok.mod.mC kR (ar (ha pos pins s σ H (fun vs H1=>vs=[.ref f]∧H1=H) J ⟨_,kS,rfl,rfl⟩) fun us s3 ⟨vs,H1,J1,r,ev,eh⟩=> ⟨J1.bO,?_⟩) rfl rfl
 subst ev eh
 obtain⟨u,rfl,ru⟩:=vals1 r
 cases ru
 refine N5 (Y:=aV X N' bs B s0 H0 fp) (kf:=kf) hR room mR ask.ls J1 ask.lam (by rw[ask.GS,ask.hN]) (fun i x v h1 h2=> ?_) (fun z c h=>MK h) (fun a b c h1 h2=> ?_) ask.hi ask.mr ask.body ask.pre q
 ·have hi:i<idx.length:=by
   have:=(List.getElem?_eq_some_iff.mp h1).1
   rw[ask.hN]
   exact this
  have ei:=List.getElem?_eq_getElem hi
  have n:=ask.ln i x _ h1 ei
  exact OE I0 hf (OG I0 n.nx (ask.kS i _ v ei h2) n.kx n.fx (PySem.mem_of_lookup (ask.ls.free x (List.mem_of_getElem? h1)))) n.kx J1
 obtain⟨e1,m1⟩:=Yt h1
 obtain⟨e2,m2⟩:=Yt h2
 obtain⟨c1,g1⟩:=I0.ok.has a (ask.fr _ m1 rfl)
 obtain⟨c2,g2⟩:=I0.ok.has b (ask.fr _ m2 rfl)
 rw[g1]at e1
 rw[g2]at e2
 have z1:c1=c2:=by
  have y1:_=c1:=e1
  have y2:_=c2:=e2
  rw[←y1,←y2]
 subst z1
 exact I0.ok.inj _ _ _ g1 g2
def xg (fn x y:Str) (p1 p2 p3 p4:Pos):Expr:=.Call (.Name fn p1) [.Name x p2,.Name y p3] [] p4
theorem BU {k':Nat}{fn x y:Str}{ps:List Str}{sp:Sp}{scope:Scope}{C f:Addr}{q:Str}{cl:List (Str×Addr)}{vx vy:V}{p1 p2 p3 p4:Pos}(cI:k'≤kf) (hU:∀b',bV X.prog X.w X.K X.mg b' k' fn ps sp) (gl:scope.names.lookup fn=some .globalImplicit)
  (kx:scope.names.lookup x=some .free) (ky:scope.names.lookup y=some .free) (dx:(x==("__debug__" :Str))=false) (dy:(y==("__debug__" :Str))=false)
  (ex:(x==("__classdict__" :Str))=false) (ey:(y==("__classdict__" :Str))=false) (lE:(fn==("__debug__" :Str))=false):
  nK X kf C f q (xg fn x y p1 p2 p3 p4) scope cl [x,y] [vx,vy] (sP sp [vx,vy] C):=by
 intro bZ cc A outer s2 H2 Q2 E2 hr pre hE
 obtain⟨g,fd,F,hg,hk,hb⟩:=hU bZ
 refine⟨_,YT (X:=ik X.prog X.w X.K X.mg bZ [x,y] q scope f (.ref cc) cl A outer s2 H2 E2) F (hr.mono cI) gl hg hk hb .nil (E:=E2) (qW (X:=ik X.prog X.w X.K X.mg bZ [x,y] q scope f (.ref cc) cl A outer s2 H2 E2) (fun e s' z=>z) rfl rfl rfl)
  (Za (Yc (i:=0) rfl (.inr (.inr kx)) dx ex) (Za (Yc (i:=1) rfl (.inr (.inr ky)) dy ey) Zb)) lE,?_⟩
 exact⟨vx,rfl,vy,rfl,pre Q2 E2 hE⟩
def xf (fn x y z:Str) (p1 p2 p3 p4 p5 p6:Pos):Expr:=.Call (.Name fn p1) [.Name x p2,.Name y p3,.Name z p4,.Name z p5] [] p6
theorem BS {k':Nat}{fn x y z:Str}{ps:List Str}{sp:Sp}{scope:Scope}{C f:Addr}{q:Str}{cl:List (Str×Addr)}{vx vy vz:V}{p1 p2 p3 p4 p5 p6:Pos}(cI:k'≤kf) (hU:∀b',bV X.prog X.w X.K X.mg b' k' fn ps sp) (gl:scope.names.lookup fn=some .globalImplicit)
  (kx:scope.names.lookup x=some .free) (dx:(x==("__debug__" :Str))=false) (ex:(x==("__classdict__" :Str))=false) (ky:scope.names.lookup y=some .free) (dy:(y==("__debug__" :Str))=false) (ey:(y==("__classdict__" :Str))=false) (kz:scope.names.lookup z=some .free) (dz:(z==("__debug__" :Str))=false) (ez:(z==("__classdict__" :Str))=false) (lE:(fn==("__debug__" :Str))=false):
  nK X kf C f q (xf fn x y z p1 p2 p3 p4 p5 p6) scope cl [x,y,z] [vx,vy,vz] (sP sp [vx,vy,vz,vz] C):=by
 intro bZ cc A outer s2 H2 Q2 E2 hr pre hE
 obtain⟨g,fd,F,hg,hk,hb⟩:=hU bZ
 refine⟨_,YT (X:=ik X.prog X.w X.K X.mg bZ [x,y,z] q scope f (.ref cc) cl A outer s2 H2 E2) F (hr.mono cI) gl hg hk hb .nil (E:=E2) (qW (X:=ik X.prog X.w X.K X.mg bZ [x,y,z] q scope f (.ref cc) cl A outer s2 H2 E2) (fun e s' z=>z) rfl rfl rfl)
  (Za (Yc (i:=0) rfl (.inr (.inr kx)) dx ex) (Za (Yc (i:=1) rfl (.inr (.inr ky)) dy ey) (Za (Yc (i:=2) rfl (.inr (.inr kz)) dz ez) (Za (Yc (i:=2) rfl (.inr (.inr kz)) dz ez) Zb)))) lE,?_⟩
 exact⟨vx,rfl,vy,rfl,vz,rfl,vz,rfl,pre Q2 E2 hE⟩
def BQ (fn x y z:Str) (p1 p2 p3 p4 p5 p6:Pos):Expr:=.Call (.Name fn p1) [.Name x p2,.Name y p3,.Name z p4,.Constant (.int 0) 0 p5] [] p6
theorem Lu {k':Nat}{fn x y z:Str}{ps:List Str}{sp:Sp}{scope:Scope}{C f:Addr}{q:Str}{cl:List (Str×Addr)}{vx vy vz:V}{p1 p2 p3 p4 p5 p6:Pos}(cI:k'≤kf) (hU:∀b',bV X.prog X.w X.K X.mg b' k' fn ps sp) (gl:scope.names.lookup fn=some .globalImplicit)
  (kx:scope.names.lookup x=some .free) (dx:(x==("__debug__" :Str))=false) (ex:(x==("__classdict__" :Str))=false) (ky:scope.names.lookup y=some .free) (dy:(y==("__debug__" :Str))=false) (ey:(y==("__classdict__" :Str))=false) (kz:scope.names.lookup z=some .free) (dz:(z==("__debug__" :Str))=false) (ez:(z==("__classdict__" :Str))=false) (lE:(fn==("__debug__" :Str))=false):
  nK X kf C f q (BQ fn x y z p1 p2 p3 p4 p5 p6) scope cl [x,y,z] [vx,vy,vz] (sP sp [vx,vy,vz,.int 0] C):=by
 intro bZ cc A outer s2 H2 Q2 E2 hr pre hE
 obtain⟨g,fd,F,hg,hk,hb⟩:=hU bZ
 refine⟨_,YT (X:=ik X.prog X.w X.K X.mg bZ [x,y,z] q scope f (.ref cc) cl A outer s2 H2 E2) F (hr.mono cI) gl hg hk hb .nil (E:=E2) (qW (X:=ik X.prog X.w X.K X.mg bZ [x,y,z] q scope f (.ref cc) cl A outer s2 H2 E2) (fun e s' z=>z) rfl rfl rfl)
  (Za (Yc (i:=0) rfl (.inr (.inr kx)) dx ex) (Za (Yc (i:=1) rfl (.inr (.inr ky)) dy ey) (Za (Yc (i:=2) rfl (.inr (.inr kz)) dz ez) (Za Zi Zb)))) lE,?_⟩
 exact⟨vx,rfl,vy,rfl,vz,rfl,pre Q2 E2 hE⟩
def BR (fn x y z:Str) (p1 p2 p3 p4 p5 p6:Pos):Expr:=.Call (.Name fn p1) [.Name x p2,.Name y p3,.Constant (.int 0) 0 p4,.Name z p5] [] p6
theorem Lv {k':Nat}{fn x y z:Str}{ps:List Str}{sp:Sp}{scope:Scope}{C f:Addr}{q:Str}{cl:List (Str×Addr)}{vx vy vz:V}{p1 p2 p3 p4 p5 p6:Pos}(cI:k'≤kf) (hU:∀b',bV X.prog X.w X.K X.mg b' k' fn ps sp) (gl:scope.names.lookup fn=some .globalImplicit)
  (kx:scope.names.lookup x=some .free) (dx:(x==("__debug__" :Str))=false) (ex:(x==("__classdict__" :Str))=false) (ky:scope.names.lookup y=some .free) (dy:(y==("__debug__" :Str))=false) (ey:(y==("__classdict__" :Str))=false) (kz:scope.names.lookup z=some .free) (dz:(z==("__debug__" :Str))=false) (ez:(z==("__classdict__" :Str))=false) (lE:(fn==("__debug__" :Str))=false):
  nK X kf C f q (BR fn x y z p1 p2 p3 p4 p5 p6) scope cl [x,y,z] [vx,vy,vz] (sP sp [vx,vy,.int 0,vz] C):=by
 intro bZ cc A outer s2 H2 Q2 E2 hr pre hE
 obtain⟨g,fd,F,hg,hk,hb⟩:=hU bZ
 refine⟨_,YT (X:=ik X.prog X.w X.K X.mg bZ [x,y,z] q scope f (.ref cc) cl A outer s2 H2 E2) F (hr.mono cI) gl hg hk hb .nil (E:=E2) (qW (X:=ik X.prog X.w X.K X.mg bZ [x,y,z] q scope f (.ref cc) cl A outer s2 H2 E2) (fun e s' z=>z) rfl rfl rfl)
  (Za (Yc (i:=0) rfl (.inr (.inr kx)) dx ex) (Za (Yc (i:=1) rfl (.inr (.inr ky)) dy ey) (Za Zi (Za (Yc (i:=2) rfl (.inr (.inr kz)) dz ez) Zb)))) lE,?_⟩
 exact⟨vx,rfl,vy,rfl,vz,rfl,pre Q2 E2 hE⟩
def jq (X:Cx) (H:Hp) (v:V) (b:Expr×Scope):Prop:=∃f:Addr,v=.ref f∧jr H f (lq X) cw b.1 b.2 (cF b.2 X.env)
theorem jq.same {H H':Hp}{v:V}{b:Expr×Scope}(h:jq X H v b) (s:ae H H'):jq X H' v b:=by
 obtain⟨f,e,l⟩:=h
 exact⟨f,e,l.same s⟩
theorem jq.x {H H':Hp}{v:V}{b:Expr×Scope}{p:Addr}{o:HO}(h:jq X H v b) (s:aq p H H') (hp:H p=some o) (ho:∀F,o≠.ext F):jq X H' v b:=by
 obtain⟨f,e,pm,c,ct,h1,h2⟩:=h
 exact⟨f,e,pm,c,ct,s _ _ h1 (fun z=>by rw[z,hp]at h1;cases h1;exact ho _ rfl),s _ _ h2 (fun z=>by rw[z,hp]at h2;cases h2;exact ho _ rfl)⟩
structure ki (X:Cx) (P L:Addr) (H0 H:Hp) (bs:List (Expr×Scope)):Prop where
 sx:aq P H0 H
 fr:H0 L=none
 tb:TabAt H P (lq X)
 ls:∃vs,H L=some (.lst vs)∧Paired (jq X H) vs bs
theorem ki.lst {L:Addr}{H0 H:Hp}{bs:List (Expr×Scope)}(h:ki X P L H0 H bs):∃vs,H L=some (.lst vs)∧vs.length=bs.length:=by
 obtain⟨vs,hL,pr⟩:=h.ls
 exact⟨vs,hL,Paired.length pr⟩
theorem ki.cO {L:Addr}{H0 H H1:Hp}{bs:List (Expr×Scope)}{vs:List V}(h:ki X P L H0 H bs) (hv:H L=some (.lst vs)) (s1:aq P H H1):H1 L=some (.lst vs):=by
 obtain⟨tp,wX,_⟩:=h.tb
 exact s1 _ _ hv fun z=>by rw[z,wX]at hv;cases hv
theorem ki.app {L f:Addr}{H0 H H1:Hp}{bs:List (Expr×Scope)}{bd:Expr}{sc:Scope}{vs:List V}(h:ki X P L H0 H bs) (hv:H L=some (.lst vs)) (s1:aq P H H1) (t1:TabAt H1 P (lq X)) (l1:jr H1 f (lq X) cw bd sc (cF sc X.env)):ki X P L H0 (upd H1 L (.lst (vs++[.ref f]))) (bs++[(bd,sc)]):=by
 have jg:=h.cO hv s1
 obtain⟨sx,fr,tb,kB,hL,pr⟩:=h
 rw[hv]at hL
 cases hL
 obtain⟨tp,wX,_⟩:=id tb
 have x2:aq L H1 (upd H1 L (.lst (vs++[.ref f]))):=aq.upd
 have p1:Paired (jq X (upd H1 L (.lst (vs++[.ref f])))) vs bs:=Paired.cu pr fun v b h=> (h.x s1 wX (fun _ z=>by cases z)).x x2 jg (fun _ z=>by cases z)
 exact⟨UP (sx.trans s1) fr,fr,Ca t1 x2 jg (fun _ z=>by cases z) (fun _ z=>by cases z),_,Zc,Paired.snoc p1 (jq.x (b:=(bd,sc)) ⟨f,rfl,l1⟩ x2 jg (fun _ z=>by cases z))⟩
theorem Ny {H0 H1:Hp}{L f:Addr}{bd:Expr}{sc:Scope}(tb:TabAt H0 P (lq X)) (s1:aq P H0 H1) (t1:TabAt H1 P (lq X)) (l1:jr H1 f (lq X) cw bd sc (cF sc X.env)) (hL:H1 L=none):ki X P L H0 (upd H1 L (.lst [.ref f])) [(bd,sc)]:=by
 obtain⟨Qf,KQ,_⟩:=id t1
 have s2:=Zf (o:=.lst [V.ref f]) hL
 have FW:L≠P:=fun z=>by rw[z,KQ]at hL;cases hL
 have fr:H0 L=none:=by
  cases h:H0 L with
  |none=>rfl
  |some u=>rw[s1 _ _ h FW]at hL;cases hL
 exact⟨s1.trans s2.x,fr,YJ t1 s2,_,Zc,.cons ⟨f,rfl,l1.same s2⟩ .nil⟩
end
theorem lsN {bd:Expr}{N:List Str}{scope:Scope}(h:(decide (scope.kind=.function)&& !scope.isCoroutine&& !scope.isGenerator&&scope.names.all (fun z=>z.2 !=.cell)&&scope.names.all (fun u=>u.2 !=.free||N.contains u.1)&&N.all (fun x=>scope.names.lookup x==some .free))=true):xG cw bd scope N:=by
 simp only[Bool.and_eq_true,Bool.not_eq_true',decide_eq_true_eq,beq_iff_eq,List.all_eq_true,bne_iff_ne,ne_eq,Bool.or_eq_true,List.contains_iff_mem]at h
 obtain⟨⟨⟨⟨⟨h1,h2⟩,h3⟩,h4⟩,h5⟩,h6⟩:=h
 exact⟨h1,h2,h3,h4,fun u hu e=> (h5 u hu).resolve_left fun z=>z e,h6,fun _ _ _ _ _=>rfl⟩
theorem qV {σ:L2.St}{i j l:Nat}{a b c:V}(h1:σ[i]? =some (some a)) (h2:σ[j]? =some (some b)) (h3:σ[l]? =some (some c)):∀(k i':Nat) v,[i,j,l][k]? =some i'→[a,b,c][k]? =some v→σ[i']? =some (some v):=fun k i' v e1 e2=>by
 match k,e1,e2 with
 |0,e1,e2=>cases e1;cases e2;exact h1
 |1,e1,e2=>cases e1;cases e2;exact h2
 |2,e1,e2=>cases e1;cases e2;exact h3
 |k+3,e1,e2=>simp at e1
theorem rB {X:Cx}{x y z:Str}{i j l:Nat}(h1:LN X x i) (h2:LN X y j) (h3:LN X z l):∀(k:Nat) u m,[x,y,z][k]? =some u→[i,j,l][k]? =some m→LN X u m:=fun k u m e1 e2=>by
 match k,e1,e2 with
 |0,e1,e2=>cases e1;cases e2;exact h1
 |1,e1,e2=>cases e1;cases e2;exact h2
 |2,e1,e2=>cases e1;cases e2;exact h3
 |k+3,e1,e2=>simp at e1
theorem zY {X:Cx}{x y:Str}{i j:Nat}(a:LN X x i) (b:LN X y j):∀(k:Nat) u m,([x,y]:List Str)[k]? =some u→([i,j]:List Nat)[k]? =some m→LN X u m
 |0,_,_,h1,h2=>by cases h1;cases h2;exact a
 |1,_,_,h1,h2=>by cases h1;cases h2;exact b
 |k+2,_,_,h1,h2=>by simp at h1
theorem at2 {σ:L2.St}{x y:V}{i j:Nat}(a:σ[i]? =some (some x)) (b:σ[j]? =some (some y)):∀(k m:Nat) (v:V),([i,j]:List Nat)[k]? =some m→([x,y]:List V)[k]? =some v→σ[m]? =some (some v)
 |0,_,_,h1,h2=>by cases h1;cases h2;exact a
 |1,_,_,h1,h2=>by cases h1;cases h2;exact b
 |k+2,_,_,h1,h2=>by simp at h1
theorem M8 {K:PySem.W.Frag}{H:Hp}{P:Addr}{ps:Array Value}{y:V}(t:ck K H y) (h:H P=some (.cg ps)):y≠.ref P:=fun z=>by
 obtain⟨T,ty⟩:=t
 subst z
 cases ty with
 |lst e=>rw[h]at e;cases e
 |aT e=>rw[h]at e;cases e
 |tup e=>rw[h]at e;cases e
 |dK e=>rw[h]at e;cases e
 |dT e=>rw[h]at e;cases e
def tJ:List (List Int):=[[0],[0],[1],[1],[2],[2]]
abbrev pG (ns:List (Str×NameKind)):Scope:= {kind:=.function,names:=ns,isGenerator:=false,isCoroutine:=false}
abbrev sA:Scope:=pG [("_law_bad",.free),("_law_none",.free),("_law_odd",.free),("hits",.globalImplicit)]
abbrev sB:Scope:=pG [("_law_bad",.free),("_law_none",.free),("all_hits",.globalImplicit)]
abbrev sC:Scope:=pG [("_law_bad",.free),("_law_board_here",.free),("_law_odd",.free),("hits",.globalImplicit)]
abbrev sD:Scope:=pG [("_law_bad",.free),("_law_board_here",.free),("all_hits",.globalImplicit)]
abbrev sE:Scope:=pG [("_law_board_here",.free),("_law_lay_here",.free),("_law_odd",.free),("hits",.globalImplicit)]
section
variable {P:Program}{w:World}{K:PySem.W.Frag}{mg:Str→Option Value}{base:Heap}
abbrev bW:Stmt:=top 49
def uc (K:PySem.W.Frag) (Pt:Addr):Sp:=fun vs H Q _=> ∃(a:Addr) (ns:List Int),vs=[.ref a]∧fc K H a ns∧ns.length≤63∧H Pt=some (.cg #[])∧∀H',Q (.bl true) H'
abbrev fq:List Str:=["_law_script", "_law_k", "_law_state_here", "_law_none", "_law_odd", "_law_board_here", "_law_lay_here", "_law_grown_here", "_law_bad", "_law_some", "_law_calls"]
theorem gI:bu fq ["_law_script"] (ay bW):=⟨rfl,rfl,rfl,by decide+kernel,rfl,by decide+kernel,by decide+kernel⟩
structure sV (K:PySem.W.Frag) (H:Hp) (vn vo vb:V) (b l:Addr) (wd hg:Int) (xs:List V):Prop where
 bn:gD K H vn
 po:ck K H vo
 bl:iT K wd hg H vb
 hb:H b=some (.tup [.int wd,.int hg])
 el:H l=some (.tup xs)
theorem sV.xt {H H':Hp}{vn vo vb:V}{b l Pt:Addr}{wd hg:Int}{xs:List V}{tp:Array Value}(h:sV K H vn vo vb b l wd hg xs) (s:aq Pt H H') (hp:H Pt=some (.cg tp)):sV K H' vn vo vb b l wd hg xs:=
 ⟨Cn h.bn s (WD h.bn.1 hp),Je h.po s (M8 h.po hp),MI h.bl s (WD h.bl.1 hp),s _ _ h.hb (fun z=>by have e:=h.hb;rw[z,hp]at e;cases e),s _ _ h.el (fun z=>by have e:=h.el;rw[z,hp]at e;cases e)⟩
theorem Mq:gk 2 2 [V.int 1,.af] [V.int 1,.af]=[[0,0,1]]:=by decide+kernel
theorem LL:gk 1 1 [V.af] [V.af]=[]:=by decide+kernel
theorem LZ:eP 2 2 [V.int 1,.af]:=⟨rfl,by decide+kernel,by decide+kernel⟩
theorem Mw:eP 1 1 [V.af]:=⟨rfl,by decide+kernel,by decide+kernel⟩
theorem Me {f c Pt fR cS cB cL cN:Addr}{oc:Value}{od an:Option Addr}{kV doc pm ct:Value}{eU:Array (Option Value)}
  (lk:K.lookup f=some ⟨oc,od,.func (PySem.W.fnOf "law" "law" (eK bW) (bI bW) (ay bW) .none kV doc pm an (.ref c) ct),eU⟩) (cE:PySem.W.codeIn K (.ref c) "law" =true) (G:Gs mg)
  (PV:Def P w K mg base 2 "_law_state" ["_law_script", "_law_k"] (tS K)) (P0:Def P w K mg base 2 "_law_no_board" ["_law_state_here"] (tX K)) (PY:Def P w K mg base 2 "_law_no_whole" ["_law_state_here"] (tV K)) (P4:Def P w K mg base 2 "_law_board" ["_law_state_here", "_law_upto"] uk)
  (Dl:Def P w K mg base 2 "_law_lay" ["_law_state_here", "_law_board_here"] (uj K)) (P2:Def P w K mg base 3 "_law_grown" ["_law_state_here", "_law_board_here"] (ui K)) (PZ:Def P w K mg base 2 "_law_no_lay" ["_law_state_here", "_law_board_here", "_law_lay_here"] (tW K))
  (PX:Def P w K mg base 11 "_law_right" ["_law_state_here", "_law_board_here", "_law_lay_here"] tU) (tm:Def P w K mg base 9 "all_hits" ["board", "lay"] og)
  (hR:∀b',Def P w K mg b' 12 "_law_refused" ["_law_call"] (l9 P w K mg b' cS 11)) (hH:∀b',bV P w K mg b' 10 "hits" ["board", "lay", "right", "up"] (qx K cB cL cN)) (hA:∀b',bV P w K mg b' 9 "all_hits" ["board", "lay"] (iA K cB cL))
  (mR:mg "_law_refused" =some (.ref fR)) (kR:PySem.W.keepIn K (.ref fR)=true)
  (M0:lW K mg cS cB 0) (M1:lW K mg cS cL 1) (M2:lW K mg cS cN 2) (hC:PySem.W.CodeHd base c Pt)
  (wx:∃bm ob,mg "__builtins__" =some (.ref bm)∧bm≠builtinsNs∧base.get? bm=some ob∧ob.cls=.type "module" ∧ob.dict=some builtinsNs∧ob.data=.plain):
  aA P w K mg base aG 13 f (PySem.W.fnOf "law" "law" (eK bW) (bI bW) (ay bW) .none kV doc pm an (.ref c) ct) ["_law_script"] (uc K Pt):=by
 refine xx lk cE gI (fun vs H Q E h=> ?_) (fun A outer s H vs Q E hr h=> ?_)
 ·obtain⟨a,ns,rfl,_⟩:=h
  rfl
 ·obtain⟨a,ns,rfl,yS,oJ,Hg,q⟩:=h
  have C:LCtx (bJ aG P w K mg base fq "law" (ay bW) f (.ref c) A outer s H E).dJ cS c Pt fR 10:=⟨⟨rfl,hC,wx⟩,hR,hr,mR,kR⟩
  have n3:LN (bJ aG P w K mg base fq "law" (ay bW) f (.ref c) A outer s H E).dJ "_law_none" 3:=⟨rfl,rfl,rfl⟩
  have n4:LN (bJ aG P w K mg base fq "law" (ay bW) f (.ref c) A outer s H E).dJ "_law_odd" 4:=⟨rfl,rfl,rfl⟩
  have n5:LN (bJ aG P w K mg base fq "law" (ay bW) f (.ref c) A outer s H E).dJ "_law_board_here" 5:=⟨rfl,rfl,rfl⟩
  have n6:LN (bJ aG P w K mg base fq "law" (ay bW) f (.ref c) A outer s H E).dJ "_law_lay_here" 6:=⟨rfl,rfl,rfl⟩
  have n8:LN (bJ aG P w K mg base fq "law" (ay bW) f (.ref c) A outer s H E).dJ "_law_bad" 8:=⟨rfl,rfl,rfl⟩
  have vL:=sJ hr
  have G0:=Nat.lt_of_succ_lt vL
  have main:∃t,eO (bJ aG P w K mg base fq "law" (ay bW) f (.ref c) A outer s H E).dJ (bI bW) t∧t {nx:=fun _ H'=>Q .af H',rt:=Q} (start fq [.ref a]) H:=by
   refine⟨_,(Zd (Yb PassesOwn.never rfl (Z1 rfl G.range (Za (Zk (WH rfl) rfl G.max boot_max (Za Zi (Za (Zk (Pc rfl) rfl G.min boot_min (Za (Zk Zp rfl G.len boot_len (Za (pv 0) Zb)) (Za Zi Zb))) Zb))) Zb)) (ZB (i:=1) gI.nd rfl (Or.inl rfl)) (Zd (Zo (i:=2) gI.nd rfl (Or.inl rfl) (Zj PV (hr.mono (by decide)) (Za (pv 0) (Za (pv 1) Zb))))
   (Zd (Jv (Zz (Za (Zj P0 (hr.mono (by decide)) (Za (pv 2) Zb)) (Za (Zj PY (hr.mono (by decide)) (Za (pv 2) Zb)) Zb))) (Yf rfl (Zt (ZB (i:=3) gI.nd rfl (Or.inr rfl)) (Zt (ZB (i:=4) gI.nd rfl (Or.inr rfl)) Z2))))
   (Zd (Zo (i:=5) gI.nd rfl (Or.inr rfl) (Zj P4 (hr.mono (by decide)) (Za (pv 2) (Za Zi Zb))))
   (Zd (Zo (i:=6) gI.nd rfl (Or.inr rfl) (Zj Dl (hr.mono (by decide)) (Za (pv 2) (Za (pv 5) Zb))))
   (Zd (Zo (i:=7) gI.nd rfl (Or.inl rfl) (Zj P2 (hr.mono (by decide)) (Za (pv 2) (Za (pv 5) Zb))))
   (Zd (Zo (i:=8) gI.nd rfl (Or.inr rfl) (Zj PZ (hr.mono (by decide)) (Za (pv 2) (Za (pv 5) (Za (pv 6) Zb)))))
   (Zd (Yb PassesOwn.never rfl (Yl (ZA (Za (pv 6) (Za (pv 7) Zb)))) (ZB (i:=9) gI.nd rfl (Or.inl rfl)) (Zl (ZS (Yk (ZY (Zj PX (hr.mono (by decide)) (Za (pv 2) (Za (pv 5) (Za (pv 9) Zb)))))) Zy ZD)))
   (Zd (Zo (i:=10) gI.nd rfl (Or.inl rfl) (ZA (Za (Jw (params:=cw) (body:=xf "hits" "_law_none" "_law_bad" "_law_odd" _ _ _ _ _ _) (scope:=sA) C.lam rfl (YI (by kernel_rfl))) Zb)))
   (Zd (ZK (YH PySem.F.plainAttrs_list PySem.F.slot_list_append PySem.F.type_list_append ZW (pv 10) (Za (Jw (params:=cw) (body:=xg "all_hits" "_law_none" "_law_bad" _ _ _ _) (scope:=sB) C.lam rfl (YI (by kernel_rfl))) Zb)))
   (Zd (ZK (YH PySem.F.plainAttrs_list PySem.F.slot_list_append PySem.F.type_list_append ZW (pv 10) (Za (Jw (params:=cw) (body:=xf "hits" "_law_board_here" "_law_bad" "_law_odd" _ _ _ _ _ _) (scope:=sC) C.lam rfl (YI (by kernel_rfl))) Zb)))
   (Zd (ZK (YH PySem.F.plainAttrs_list PySem.F.slot_list_append PySem.F.type_list_append ZW (pv 10) (Za (Jw (params:=cw) (body:=xg "all_hits" "_law_board_here" "_law_bad" _ _ _ _) (scope:=sD) C.lam rfl (YI (by kernel_rfl))) Zb)))
   (Zd (ZK (YH PySem.F.plainAttrs_list PySem.F.slot_list_append PySem.F.type_list_append ZW (pv 10) (Za (Jw (params:=cw) (body:=BQ "hits" "_law_board_here" "_law_lay_here" "_law_odd" _ _ _ _ _ _) (scope:=sE) C.lam rfl (YI (by kernel_rfl))) Zb)))
   (Zd (ZK (YH PySem.F.plainAttrs_list PySem.F.slot_list_append PySem.F.type_list_append ZW (pv 10) (Za (Jw (params:=cw) (body:=BR "hits" "_law_board_here" "_law_lay_here" "_law_odd" _ _ _ _ _ _) (scope:=sE) C.lam rfl (YI (by kernel_rfl))) Zb)))
   (Zl (ZS (ZR (MY vL) (NU ["_law_call"] 1 [] (Yl (pv 10)) (fun C s H fp=>pb 0) (fun C s H fp=>YC) (fun pins σ B s H fp D I0 hf=>ZT rfl (M4 (kf:=10) C.hR C.room C.mR C.kR I0 hf rfl (pv 0)))) (ZA (Za (ZA (Za Zi Zb)) (Za (ZA (Za Zi Zb)) (Za (ZA (Za Zi Zb)) (Za (ZA (Za Zi Zb)) (Za (ZA (Za Zi Zb)) (Za (ZA (Za Zi Zb)) Zb))))))) (cq _)) Zy ZD))))))))))))))))
   (Zl (ZC (Yx (Ym (MX vL) (Zj tm (hr.mono (by decide)) (Za (Zz (Za Zi (Za Zi Zb))) (Za (Zz (Za Zi (Za Yw Zb))) Zb))) (ZA (Za (Zz (Za Zi (Za Zi (Za Zi Zb)))) Zb)) (cq _)) (Yv (Ym (Cb G0) (Zj tm (hr.mono (by decide)) (Za (Zz (Za Zi (Za Zi Zb))) (Za (Zz (Za Yw Zb)) Zb))) (ZA Zb) (cq _))))))),?_⟩
   have DB:TabAt H Pt (lq (bJ aG P w K mg base fq "law" (ay bW) f (.ref c) A outer s H E).dJ):=⟨#[],Hg,trivial,fun pos cv z=>by cases z⟩
   refine Zq ?_
   refine⟨_,rfl,a,_,rfl,.inl yS.sq,_,_,rfl,_,_,rfl,_,rfl,(by rw[List.length_map];split<;>split<;>omega),(by rw[List.length_map];split<;>split<;>omega),?_⟩
   refine Z3 (fun i σ H'=> ∃s1 s2 s3 s4 s5 s6 s7 s8 s9 dm,σ=[some (.ref a),s1,s2,s3,s4,s5,s6,s7,s8,s9,dm]∧fc K H' a ns∧TabAt H' Pt (lq (bJ aG P w K mg base fq "law" (ay bW) f (.ref c) A outer s H E).dJ)) ⟨_,_,_,_,_,_,_,_,_,_,rfl,yS,DB⟩ ?_ ?_
   ·rintro i σ H0 hi ⟨q1,q2,q3,q4,q5,q6,q7,q8,q9,zA,rfl,yR,DA⟩
    rw[Int.zero_add]
    refine Zr ?_
    dsimp only[List.set]
    refine Zq (ZH ⟨_,rfl,_,rfl,a,ns,i,rfl,yR.sq,fun p H1 np k1 aw=>Zr ?_⟩)
    dsimp only[List.set]
    have yQ:=yR.same k1
    have yp:=YJ DA k1
    have step:∀{Ha Hb:Hp},aq p Ha Hb→br Ha p→fc K Ha a ns→TabAt Ha Pt (lq (bJ aG P w K mg base fq "law" (ay bW) f (.ref c) A outer s H E).dJ)→fc K Hb a ns∧TabAt Hb Pt (lq (bJ aG P w K mg base fq "law" (ay bW) f (.ref c) A outer s H E).dJ):=fun x st sc tb=>by
     obtain⟨u,v,e,_⟩:=st
     exact⟨sc.x x e (fun _ _ z=>by cases z),Ca tb x e (fun _ z=>by cases z) (fun _ z=>by cases z)⟩
    refine Zq (ZH ⟨_,rfl,p,rfl,aw,fun vn H2 x2 aj bn nn=> ⟨_,rfl,p,rfl,aj,fun vo H3 x3 aF po wo no=> ⟨(by show 2≤sizeLine;decide),fun tq Hf=> ?_⟩⟩⟩)
    obtain⟨EC,Dz⟩:=step x2 aw yQ yp
    obtain⟨EB,Dy⟩:=step x3 aj EC Dz
    have LD:=UG ⟨bn,nn⟩ x3
    have s4:=Zf (o:=.tup [vn,vo]) Hf
    have e4:upd H3 tq (.tup [vn,vo]) tq=some (.tup [vn,vo]):=Zc
    generalize upd H3 tq (HO.tup [vn,vo])=H4 at s4 e4
    refine⟨tq,_,rfl,ai.of e4,rfl,_,_,rfl,_,_,rfl,rfl,?_⟩
    dsimp only[List.set]
    have cm:=aF.same s4
    have LA:=UG LD s4.x
    have Fq:=s4.gN po
    refine Zq (ZH ⟨_,rfl,p,12,rfl,cm,by decide,by decide,fun b H5 wd hg w1 w2 g1 g2 x5 dG AY nb=>Zr ?_⟩)
    dsimp only[List.set]
    obtain⟨EA,Dx⟩:=step x5 cm (EB.same s4) (YJ Dy s4)
    have Lz:=UG LA x5
    have Fp:=Je Fq x5 no
    have lP:∀{H':Hp},H' b=some (.tup [V.int wd,V.int hg])→fg H' (.ref b) wd hg:=fun h=> ⟨Zx h,w1,w2,g1,g2⟩
    refine Zq (ZH ⟨_,rfl,_,rfl,p,b,wd,hg,rfl,dG,lP AY,fun l H6 xs x6 iz el nl ly=>Zr ?_⟩)
    dsimp only[List.set]
    obtain⟨Ez,Dw⟩:=step x6 dG EA Dx
    have Ly:=UG Lz x6
    have Fo:=Je Fp x6 no
    have wB:=x6 _ _ AY nb
    refine Zq (ZH ⟨_,rfl,_,rfl,p,b,wd,hg,rfl,iz,lP wB,fun g H7 gs x7 yJ eg ng F9 _=>Zr ?_⟩)
    dsimp only[List.set]
    obtain⟨Ey,Dv⟩:=step x7 iz Ez Dw
    have Lx:=UG Ly x7
    have Fn:=Je Fo x7 no
    have AX:=x7 _ _ wB nb
    have BF:=x7 _ _ el nl
    refine Zq (ZH ⟨_,rfl,_,rfl,_,rfl,p,b,l,wd,hg,xs,rfl,yJ,lP AX,BF,ly,fun vb H8 x8 yI Lr=>Zr ?_⟩)
    dsimp only[List.set]
    obtain⟨Ex,Du⟩:=step x8 yJ Ey Dv
    have Lw:=UG Lx x8
    have Fm:=Je Fn x8 no
    have AW:=x8 _ _ AX nb
    have BE:=x8 _ _ BF nl
    have KZ:=x8 _ _ eg ng
    refine Zq ⟨_,rfl,_,rfl,(by show 2≤sizeLine;decide),fun M hM=> ⟨M,rfl,⟨_,ah.of Zc⟩,?_⟩⟩
    have s9:=Zf (o:=.lst [V.ref l,V.ref g]) hM
    have e9:upd H8 M (.lst [V.ref l,V.ref g]) M=some (.lst [V.ref l,V.ref g]):=Zc
    generalize upd H8 M (HO.lst [V.ref l,V.ref g])=H9 at s9 e9
    have eC:=yI.same s9
    obtain⟨u9,v9,Q0,_⟩:=id eC
    have rp:M≠p:=by
     obtain⟨u,v,e,_⟩:=id yI
     exact fun z=>by rw[z,e]at hM;cases hM
    have each:∀v∈[V.ref l,V.ref g],∃(y:Addr) (ys:List V),v=.ref y∧H9 y=some (.tup ys)∧y≠p∧eP wd hg ys:=fun v hv=>by
     simp only[List.mem_cons,List.not_mem_nil,or_false]at hv
     rcases hv with rfl |rfl
     ·exact⟨l,xs,rfl,s9 _ _ BE,nl,ly⟩
     ·exact⟨g,gs,rfl,s9 _ _ KZ,ng,F9⟩
    refine YN (xs:=[V.ref l,V.ref g]) (fun j σ H'=> ∃w9,σ=[some (.ref a),some (.int (i:Int)),some (.ref p),some vn,some vo,some (.ref b),some (.ref l),some (.ref g),some vb,w9,zA]∧aq p H9 H'∧br H' p) ⟨_,rfl,fun _ _ h _=>h,eC⟩ (fun j σ H' _ ⟨_,_,x,_⟩=>ah.of (x _ _ e9 rp)) ?_ ?_
    ·rintro j v σ H' hv ⟨w9,rfl,x',aa⟩
     obtain⟨y,ys,rfl,ey,ny,F8⟩:=each v (List.mem_of_getElem? hv)
     refine Zr ?_
     dsimp only[List.set]
     have hJ:=x' _ _ (s9 _ _ AW) nb
     have By:=x' _ _ ey ny
     refine⟨_,rfl,_,rfl,_,rfl,p,b,y,wd,hg,ys,rfl,aa,hJ,By,⟨lP hJ,Zx By,F8⟩,fun jt Dh da=> ⟨true,rfl,aM (YB ?_)⟩⟩
     exact⟨_,rfl,fun b u h n=>Dh _ _ (x' _ _ h n) n,da⟩
    rintro σ tj ⟨w9,rfl,l5,Qg⟩
    try dsimp only
    obtain⟨ED,tP⟩:=step l5 eC (Ex.same s9) (YJ Du s9)
    have LF:=UG (UG Lw s9.x) l5
    have Fs:=Je (s9.gN Fm) l5 no
    have Ls:=(Lr.same s9).x l5 eC
    have IU:=l5 _ _ (s9 _ _ AW) nb
    have KY:=l5 _ _ (s9 _ _ BE) nl
    have HX:sV K tj vn vo vb b l wd hg xs:=⟨LF.1,Fs,Ls.1,IU,KY⟩
    refine Zq (ZH ⟨tP,fun mW PL EM _ DH Gq=> ⟨(by show 1≤sizeLine;decide),fun L hL=>Zr ?_⟩⟩)
    have m1:=Ny tP EM DH Gq hL
    generalize upd PL L (.lst [V.ref mW])=nH at m1
    dsimp only[List.set]
    obtain⟨cR,jg,GD⟩:=m1.lst
    refine Zq ⟨_,rfl,.inl ⟨rfl,_,ah.of jg⟩,m1.tb,fun Bp PK zi _ DG Gn=> ⟨L,cR,.ref Bp,rfl,rfl,m1.cO jg zi,(by rw[GD,sizeLine_eq];decide),?_⟩⟩
    have m2:=m1.app jg zi DG Gn
    generalize upd PK L (.lst (cR++[V.ref Bp]))=nG at m2
    try dsimp only
    obtain⟨cQ,pB,Gx⟩:=m2.lst
    refine Zq ⟨_,rfl,.inl ⟨rfl,_,ah.of pB⟩,m2.tb,fun r0 PJ zh _ DF Gm=> ⟨L,cQ,.ref r0,rfl,rfl,m2.cO pB zh,(by rw[Gx,sizeLine_eq];decide),?_⟩⟩
    have m3:=m2.app pB zh DF Gm
    generalize upd PJ L (.lst (cQ++[V.ref r0]))=nF at m3
    try dsimp only
    obtain⟨ya,pj,Gw⟩:=m3.lst
    refine Zq ⟨_,rfl,.inl ⟨rfl,_,ah.of pj⟩,m3.tb,fun Bo PH zg _ DE Gk=> ⟨L,ya,.ref Bo,rfl,rfl,m3.cO pj zg,(by rw[Gw,sizeLine_eq];decide),?_⟩⟩
    have m4:=m3.app pj zg DE Gk
    generalize upd PH L (.lst (ya++[V.ref Bo]))=Ra at m4
    try dsimp only
    obtain⟨xZ,j7,Gv⟩:=m4.lst
    refine Zq ⟨_,rfl,.inl ⟨rfl,_,ah.of j7⟩,m4.tb,fun Bn PF zf _ DD Gj=> ⟨L,xZ,.ref Bn,rfl,rfl,m4.cO j7 zf,(by rw[Gv,sizeLine_eq];decide),?_⟩⟩
    have m5:=m4.app j7 zf DD Gj
    generalize upd PF L (.lst (xZ++[V.ref Bn]))=Q9 at m5
    try dsimp only
    obtain⟨tK,mQ,Gu⟩:=m5.lst
    refine Zq ⟨_,rfl,.inl ⟨rfl,_,ah.of mQ⟩,m5.tb,fun Bk PD ze _ DC Gi=> ⟨L,tK,.ref Bk,rfl,rfl,m5.cO mQ ze,(by rw[Gu,sizeLine_eq];decide),?_⟩⟩
    have m6:=m5.app mQ ze DC Gi
    generalize upd PD L (.lst (tK++[V.ref Bk]))=PB at m6
    try dsimp only
    obtain⟨yC,QU,yo,nU,Bb,zC⟩:=m6
    have l6:nU.length=6:=Paired.length zC
    obtain⟨Qe,BC,_⟩:=id tP
    have HW:=HX.xt yC BC
    obtain⟨Qd,KP,_⟩:=id yo
    refine⟨_,rfl,L,rfl,⟨nU,ah.of Bb⟩,?_⟩
    refine YV (xs:=nU) (fun j zs σ Hj=> ∃v0,σ=[v0]∧ae PB Hj∧Paired (iS Hj) zs (tJ.take j)) ⟨_,rfl,ae.refl _,.nil⟩ (fun j zs σ Hj _ ⟨_,_,s8,_⟩=>ah.of (s8 _ _ Bb)) ?_ ?_
    ·rintro j v zs σ Hj hv ⟨v0,rfl,sj,ou⟩
     obtain⟨bb,eY,lm⟩:=Y2 zC hv
     obtain⟨g',rfl,mw⟩:=lm.same sj
     have hj:j<nU.length:=(List.getElem?_eq_some_iff.mp hv).1
     have g9:=HW.xt sj.x KP
     have rD:cP Hj (.ref b) (.ref l) wd hg xs:=⟨lP g9.hb,Zx g9.el,ly⟩
     have lz:zs.length≤6:=by rw[Paired.length ou,List.length_take];exact Nat.min_le_right _ _
     suffices h:∃iC,tJ[j]? =some [((iC:Nat):Int)]∧∃params bd scope N idx ws C Pre,Dd (bJ aG P w K mg base fq "law" (ay bW) f (.ref c) A outer s H E).dJ cS 10 [some (.ref a),some (.int (i:Int)),some (.ref p),some vn,some vo,some (.ref b),some (.ref l),some (.ref g),some vb,w9,some (.ref L)] Hj g' iC params bd scope N idx ws C Pre by
      obtain⟨iC,ew,h⟩:=h
      refine⟨g',iC,rfl,h,fun l1 H9 s9 _ e9=> ⟨by rw[sizeLine_eq];omega,_,rfl,sj.trans s9,?_⟩⟩
      rw[List.take_add_one,ew]
      exact Paired.snoc (Paired.cu ou fun v q' h=>h.same s9) ⟨l1,rfl,e9⟩
     match j,eY,hj with
     |0,eY,_=>
      cases eY
      exact⟨0,rfl,cw,_,sA,_,[3,8,4],[vn,vb,vo],cB,_,⟨lsN (by kernel_rfl),rfl,rB n3 n8 n4,rfl,qV rfl rfl rfl,YI (by kernel_rfl),mw,.inl rfl,M0,BS (Nat.le_refl _) hH rfl rfl (by decide) (by decide) rfl (by decide) (by decide) rfl (by decide) (by decide) (by decide),fun Q' E' hE=> ⟨vn,vb,vo,vo,cB,rfl,.inl (.inl (.inl ⟨rfl,g9.bn⟩)),hE⟩⟩⟩
     |1,eY,_=>
      cases eY
      exact⟨0,rfl,cw,_,sB,_,[3,8],[vn,vb],cB,_,⟨lsN (by kernel_rfl),rfl,zY n3 n8,rfl,at2 rfl rfl,YI (by kernel_rfl),mw,.inl rfl,M0,BU (by decide) hA rfl rfl rfl (by decide) (by decide) (by decide) (by decide) (by decide),fun Q' E' hE=> ⟨vn,vb,cB,rfl,.inl ⟨rfl,g9.bn⟩,hE⟩⟩⟩
     |2,eY,_=>
      cases eY
      exact⟨1,rfl,cw,_,sC,_,[5,8,4],[.ref b,vb,vo],cL,_,⟨lsN (by kernel_rfl),rfl,rB n5 n8 n4,rfl,qV rfl rfl rfl,YI (by kernel_rfl),mw,.inr (.inl rfl),M1,BS (Nat.le_refl _) hH rfl rfl (by decide) (by decide) rfl (by decide) (by decide) rfl (by decide) (by decide) (by decide),fun Q' E' hE=> ⟨.ref b,vb,vo,vo,cL,rfl,.inl (.inl (.inr ⟨rfl,wd,hg,lP g9.hb,g9.bl⟩)),hE⟩⟩⟩
     |3,eY,_=>
      cases eY
      exact⟨1,rfl,cw,_,sD,_,[5,8],[.ref b,vb],cL,_,⟨lsN (by kernel_rfl),rfl,zY n5 n8,rfl,at2 rfl rfl,YI (by kernel_rfl),mw,.inr (.inl rfl),M1,BU (by decide) hA rfl rfl rfl (by decide) (by decide) (by decide) (by decide) (by decide),fun Q' E' hE=> ⟨.ref b,vb,cL,rfl,.inr ⟨rfl,wd,hg,lP g9.hb,g9.bl⟩,hE⟩⟩⟩
     |4,eY,_=>
      cases eY
      exact⟨2,rfl,cw,_,sE,_,[5,6,4],[.ref b,.ref l,vo],cN,_,⟨lsN (by kernel_rfl),rfl,rB n5 n6 n4,rfl,qV rfl rfl rfl,YI (by kernel_rfl),mw,.inr (.inr rfl),M2,Lu (Nat.le_refl _) hH rfl rfl (by decide) (by decide) rfl (by decide) (by decide) rfl (by decide) (by decide) (by decide),fun Q' E' hE=> ⟨.ref b,.ref l,vo,.int 0,cN,rfl,.inr ⟨rfl,wd,hg,xs,xs,rD,rD,g9.po,⟨_,.int 0⟩,.inl wo⟩,hE⟩⟩⟩
     |5,eY,_=>
      cases eY
      exact⟨2,rfl,cw,_,sE,_,[5,6,4],[.ref b,.ref l,vo],cN,_,⟨lsN (by kernel_rfl),rfl,rB n5 n6 n4,rfl,qV rfl rfl rfl,YI (by kernel_rfl),mw,.inr (.inr rfl),M2,Lv (Nat.le_refl _) hH rfl rfl (by decide) (by decide) rfl (by decide) (by decide) rfl (by decide) (by decide) (by decide),fun Q' E' hE=> ⟨.ref b,.ref l,.int 0,vo,cN,rfl,.inr ⟨rfl,wd,hg,xs,xs,rD,rD,⟨_,.int 0⟩,g9.po,.inr ⟨rfl,wo⟩⟩,hE⟩⟩⟩
     |j+6,_,h=>omega
    rintro zs σ fN ⟨v0,rfl,kF,ou⟩ Z hZ
    rw[l6]at ou
    have sZ:=Zf (o:=.lst zs) hZ
    have eZ:upd fN Z (.lst zs) Z=some (.lst zs):=Zc
    generalize upd fN Z (HO.lst zs)=ir at sZ eZ
    refine⟨(by show 1≤sizeLine;decide),fun a1 h1=> ?_⟩
    have y1:=Zf (o:=.lst [V.int 0]) h1
    have z1:upd ir a1 (.lst [V.int 0]) a1=some (.lst [V.int 0]):=Zc
    generalize upd ir a1 (HO.lst [V.int 0])=G1 at y1 z1
    refine⟨(by show 1≤sizeLine;decide),fun a2 h2=> ?_⟩
    have y2:=Zf (o:=.lst [V.int 0]) h2
    have z2:upd G1 a2 (.lst [V.int 0]) a2=some (.lst [V.int 0]):=Zc
    generalize upd G1 a2 (HO.lst [V.int 0])=G2 at y2 z2
    refine⟨(by show 1≤sizeLine;decide),fun a3 h3=> ?_⟩
    have y3:=Zf (o:=.lst [V.int 1]) h3
    have z3:upd G2 a3 (.lst [V.int 1]) a3=some (.lst [V.int 1]):=Zc
    generalize upd G2 a3 (HO.lst [V.int 1])=G3 at y3 z3
    refine⟨(by show 1≤sizeLine;decide),fun a4 h4=> ?_⟩
    have y4:=Zf (o:=.lst [V.int 1]) h4
    have z4:upd G3 a4 (.lst [V.int 1]) a4=some (.lst [V.int 1]):=Zc
    generalize upd G3 a4 (HO.lst [V.int 1])=G4 at y4 z4
    refine⟨(by show 1≤sizeLine;decide),fun a5 h5=> ?_⟩
    have y5:=Zf (o:=.lst [V.int 2]) h5
    have z5:upd G4 a5 (.lst [V.int 2]) a5=some (.lst [V.int 2]):=Zc
    generalize upd G4 a5 (HO.lst [V.int 2])=G5 at y5 z5
    refine⟨(by show 1≤sizeLine;decide),fun a6 h6=> ?_⟩
    have y6:=Zf (o:=.lst [V.int 2]) h6
    have z6:upd G5 a6 (.lst [V.int 2]) a6=some (.lst [V.int 2]):=Zc
    generalize upd G5 a6 (HO.lst [V.int 2])=G6 at y6 z6
    refine⟨(by show 6≤sizeLine;decide),fun a7 h7=> ?_⟩
    have y7:=Zf (o:=.lst [V.ref a1,V.ref a2,V.ref a3,V.ref a4,V.ref a5,V.ref a6]) h7
    have z7:upd G6 a7 (.lst [V.ref a1,V.ref a2,V.ref a3,V.ref a4,V.ref a5,V.ref a6]) a7=some (.lst [V.ref a1,V.ref a2,V.ref a3,V.ref a4,V.ref a5,V.ref a6]):=Zc
    generalize upd G6 a7 (HO.lst [V.ref a1,V.ref a2,V.ref a3,V.ref a4,V.ref a5,V.ref a6])=G7 at y7 z7
    have tG:=(y1.trans (y2.trans (y3.trans (y4.trans (y5.trans (y6.trans y7))))))
    refine⟨Z,a7,zs,[V.ref a1,V.ref a2,V.ref a3,V.ref a4,V.ref a5,V.ref a6],tJ,rfl,rfl,ah.of (tG _ _ eZ),ah.of z7,Paired.cu ou fun v q' h=>h.same (sZ.trans tG),.cons ⟨a1,rfl,(y2.trans (y3.trans (y4.trans (y5.trans (y6.trans y7))))) _ _ z1⟩ (.cons ⟨a2,rfl,(y3.trans (y4.trans (y5.trans (y6.trans y7)))) _ _ z2⟩ (.cons ⟨a3,rfl,(y4.trans (y5.trans (y6.trans y7))) _ _ z3⟩ (.cons ⟨a4,rfl,(y5.trans (y6.trans y7)) _ _ z4⟩ (.cons ⟨a5,rfl,(y6.trans y7) _ _ z5⟩ (.cons ⟨a6,rfl,y7 _ _ z6⟩ (.nil)))))),false,rfl,aM (YB ?_)⟩
    try dsimp only
    have cW:=kF.trans (sZ.trans tG)
    have xA:aq Pt tj G7:=yC.trans cW.x
    exact⟨_,_,_,_,_,_,_,_,_,_,rfl,ED.x xA BC (fun _ _ z=>by cases z),YJ yo cW⟩
   ·rintro σ H1 ⟨q1,q2,q3,q4,q5,q6,q7,q8,q9,zA,rfl,yQ,yp⟩
    try dsimp only
    refine⟨(by show 2≤sizeLine;decide),fun t1 h1=> ?_⟩
    have u1:=Zf (o:=.tup [V.int 2,V.int 2]) h1
    have e1:upd H1 t1 (.tup [V.int 2,V.int 2]) t1=some (.tup [V.int 2,V.int 2]):=Zc
    generalize upd H1 t1 (HO.tup [V.int 2,V.int 2])=H2 at u1 e1
    refine⟨(by show 2≤sizeLine;decide),fun t2 h2=> ?_⟩
    have u2:=Zf (o:=.tup [V.int 1,V.af]) h2
    have e2:upd H2 t2 (.tup [V.int 1,V.af]) t2=some (.tup [V.int 1,V.af]):=Zc
    generalize upd H2 t2 (HO.tup [V.int 1,V.af])=H3 at u2 e2
    refine⟨.ref t1,.ref t2,2,2,_,rfl,⟨⟨Zx (u2 _ _ e1),by decide,by decide,by decide,by decide⟩,Zx e2,LZ⟩,fun L3 H4 ts s4 _ e4 gL=> ?_⟩
    rw[Mq]at gL
    refine⟨(by show 3≤sizeLine;decide),fun t5 h5=> ?_⟩
    have u5:=Zf (o:=.tup [V.int 0,V.int 0,V.int 1]) h5
    have e5:upd H4 t5 (.tup [V.int 0,V.int 0,V.int 1]) t5=some (.tup [V.int 0,V.int 0,V.int 1]):=Zc
    generalize upd H4 t5 (HO.tup [V.int 0,V.int 0,V.int 1])=H5 at u5 e5
    refine⟨(by show 1≤sizeLine;decide),fun L6 h6=> ?_⟩
    have u6:=Zf (o:=.lst [V.ref t5]) h6
    have e6:upd H5 L6 (.lst [V.ref t5]) L6=some (.lst [V.ref t5]):=Zc
    generalize upd H5 L6 (HO.lst [V.ref t5])=H6 at u6 e6
    refine⟨L3,L6,ts,[V.ref t5],[[0,0,1]],rfl,rfl,ah.of ((u5.trans u6) _ _ e4),ah.of e6,Paired.cu gL fun v k h=>YA h (u5.trans u6),.cons ⟨t5,rfl,u6 _ _ e5⟩ .nil,true,rfl,aX ?_⟩
    refine⟨(by show 2≤sizeLine;decide),fun t7 h7=> ?_⟩
    have u7:=Zf (o:=.tup [V.int 1,V.int 1]) h7
    have e7:upd H6 t7 (.tup [V.int 1,V.int 1]) t7=some (.tup [V.int 1,V.int 1]):=Zc
    generalize upd H6 t7 (HO.tup [V.int 1,V.int 1])=H7 at u7 e7
    refine⟨(by show 1≤sizeLine;decide),fun t8 h8=> ?_⟩
    have u8:=Zf (o:=.tup [V.af]) h8
    have e8:upd H7 t8 (.tup [V.af]) t8=some (.tup [V.af]):=Zc
    generalize upd H7 t8 (HO.tup [V.af])=H8 at u8 e8
    refine⟨.ref t7,.ref t8,1,1,_,rfl,⟨⟨Zx (u8 _ _ e7),by decide,by decide,by decide,by decide⟩,Zx e8,Mw⟩,fun L9 H9 ts s9 _ e9 zB=> ?_⟩
    rw[LL]at zB
    cases zB
    refine⟨Nat.zero_le _,fun Px Ku=> ?_⟩
    have tM:=Zf (o:=.lst []) Ku
    exact⟨L9,Px,[],rfl,rfl,ah.of (tM _ _ e9),ah.of Zc,q _⟩
  obtain⟨t,ht,hq⟩:=main
  exact⟨t,ht.dJ,hq⟩
end
end U
namespace U
open PySem L2 PyProof.Rows PySem.Spec
abbrev wL:List Str:=["isinstance", "int", "bool", "tuple", "list", "len", "all", "set", "range", "max", "min", "enumerate", "zip", "sorted", "ValueError"]
section
variable {P:Program}{w:World}{K:PySem.W.Frag}{mg:Str→Option Value}{base:Heap}
theorem Mu {h:Heap}{t0:Tok}(KX:K.In h) (G:h.Ns mainGlobals mg) (e:wL.all (rg K)=true) (lo0:PySem.W.nsIn K mainGlobals "LONGEST_SIDE" =some (some (.int 12 t0))):Gs mg∧mg "ValueError" =none:=by
 have k:∀x∈wL,mg x=none:=fun x hx=>OV KX G (List.all_eq_true.mp e x hx)
 exact⟨⟨k _ (by simp),k _ (by simp),k _ (by simp),k _ (by simp),k _ (by simp),k _ (by simp),k _ (by simp),k _ (by simp),k _ (by simp),k _ (by simp),k _ (by simp),k _ (by simp),k _ (by simp),k _ (by simp),⟨t0,PySem.W.mg_of KX G lo0⟩⟩,k _ (by simp)⟩
def rF (K:PySem.W.Frag) (C c:Value) (b:Bool):Bool:=match PySem.W.kitOne K C c with |some d=>d==b |none=>false
theorem Cm {C c:Value}{b:Bool}(h:rF K C c b=true):PySem.W.kitOne K C c=some b:=by
 unfold rF at h
 split at h
 ·rename_i d q
  rw[q,beq_iff_eq.mp h]
 ·cases h
def F2 (K:PySem.W.Frag) (C:Addr) (iC:Nat):Bool:=(List.range 15).all fun i=>match PySem.W.nsIn K mainGlobals (zM.getD i "") with |some (some (.ref c))=>rF K (.ref C) (.ref c) (decide (i=iC)) |_=>false
def mroOk (K:PySem.W.Frag) (C:Addr) (b:Value):Bool:=match PySem.W.mroIn K C b with |some d=>d |none=>false
theorem Uo {C:Addr}{b:Value}(h:mroOk K C b=true):PySem.W.mroIn K C b=some true:=by
 unfold mroOk at h
 split at h
 ·rename_i d q
  rw[q,h]
 ·cases h
def wW (K:PySem.W.Frag) (C c:Value):Bool:=match PySem.W.exmOne K C c with |some d=>d |none=>false
theorem Oh {C c:Value}(h:wW K C c=true):PySem.W.exmOne K C c=some true:=by
 unfold wW at h
 split at h
 ·rename_i d q
  rw[q,h]
 ·cases h
def pH (K:PySem.W.Frag) (cS C:Addr) (iC:Nat):Bool:=mroOk K C (.type "object")&&mroOk K C (.type "BaseException")&&(PySem.W.clsIn K C).isSome&&wW K (.ref C) (.ref cS)&&F2 K C iC&&rF K (.ref C) (.type "ValueError") true&&PySem.W.excIn K C mZ "ValueError.__new__"
theorem WX {h:Heap}{cS C:Addr}{iC:Nat}(KX:K.In h) (G:h.Ns mainGlobals mg) (mv:mg "ValueError" =none) (ms:mg "StepError" =some (.ref cS)) (e:pH K cS C iC=true)
  (ga:PySem.W.findIn K (.ref C) "__getattribute__" =some (some (.builtin "BaseException.__getattribute__"))) (hook:PySem.W.findIn K (.ref C) "__getattr__" =some none) (cl:PySem.W.findIn K (.ref C) "__class__" =some (some (.builtin "object.__class__"))):lW K mg cS C iC∧PySem.W.excIn K C mZ "ValueError.__new__" =true:=by
 unfold pH at e
 simp only[Bool.and_eq_true]at e
 obtain⟨⟨⟨⟨⟨⟨e1,e2⟩,e3⟩,e4⟩,e5⟩,e6⟩,e7⟩:=e
 refine⟨⟨⟨ga,hook,cl,Uo e1,Uo e2,e3⟩,ms,Oh e4,fun i hi=> ?_,mv,Cm e6⟩,e7⟩
 have:=List.all_eq_true.mp e5 i (List.mem_range.mpr hi)
 split at this
 ·rename_i c q
  exact⟨c,PySem.W.mg_of KX G q,Cm this⟩
 ·cases this
structure Exc (K:PySem.W.Frag) (mg:Str→Option Value) (nm:Str) (C:Addr):Prop where
 m:mg nm=some (.ref C)
 x:PySem.W.excIn K C mZ "ValueError.__new__" =true
set_option maxHeartbeats 4000000 in
theorem Gh {h:Heap}{fa c Pt f cS aB aL aN:Addr}{oc:Value}{od an:Option Addr}{kV doc pm ct:Value}{eU:Array (Option Value)}{t0:Tok}(KX:K.In h) (G:h.Ns mainGlobals mg) (hmg:mg "law" =some (.ref fa))
  (d0:bw K "is_whole" uu) (d1:bw K "is_whole_within" ur) (d2:bw K "need_whole" qJ) (d3:bw K "is_tuple_of" uv) (d4:bw K "is_board" uS) (d5:bw K "need_board" qI) (d6:bw K "is_lay" qK) (d7:bw K "need_lay" qH) (d8:bw K "points" qG) (d9:bw K "hits_by_move" qO) (BM:bw K "hits_between" qN) (BL:bw K "hits" qM) (BK:bw K "all_hits" qP) (Lj:bw K "_law_cell_at" uR) (Li:bw K "_law_state" uA) (Lh:bw K "_law_take" uw) (BJ:bw K "_law_refused" uC) (aU:bw K "_law_board" uQ) (Lg:bw K "_law_no_board" kE) (Lf:bw K "_law_lay" uP) (Le:bw K "_law_steps" uE) (Ld:bw K "_law_unlike" uD) (Lc:bw K "_law_grown" uO) (Lb:bw K "_law_no_lay" kD) (La:bw K "_law_hits" uF) (K9:bw K "_law_no_whole" mi) (w6:bw K "_law_same" mh) (K8:bw K "_law_right" uB)
  (l1:PySem.W.nsIn K mainGlobals "law" =some (some (.ref f))) (l2:K.lookup f=some ⟨oc,od,.func (PySem.W.fnOf "law" "law" (eK bW) (bI bW) (ay bW) .none kV doc pm an (.ref c) ct),eU⟩) (l3:PySem.W.codeIn K (.ref c) "law" =true) (l4:PySem.W.codeHdIn K c Pt=true)
  (g1:wL.all (rg K)=true) (lo0:PySem.W.nsIn K mainGlobals "LONGEST_SIDE" =some (some (.int 12 t0)))
  (eB:PySem.W.nsIn K mainGlobals "NoBoard" =some (some (.ref aB))) (eL:PySem.W.nsIn K mainGlobals "NoLay" =some (some (.ref aL))) (eN:PySem.W.nsIn K mainGlobals "NoNumber" =some (some (.ref aN))) (eS:PySem.W.nsIn K mainGlobals "StepError" =some (some (.ref cS)))
  (xB:pH K cS aB 0=true) (xL:pH K cS aL 1=true) (xN:pH K cS aN 2=true)
  (gaB:PySem.W.findIn K (.ref aB) "__getattribute__" =some (some (.builtin "BaseException.__getattribute__"))) (hoB:PySem.W.findIn K (.ref aB) "__getattr__" =some none) (clB:PySem.W.findIn K (.ref aB) "__class__" =some (some (.builtin "object.__class__")))
  (gaL:PySem.W.findIn K (.ref aL) "__getattribute__" =some (some (.builtin "BaseException.__getattribute__"))) (hoL:PySem.W.findIn K (.ref aL) "__getattr__" =some none) (clL:PySem.W.findIn K (.ref aL) "__class__" =some (some (.builtin "object.__class__")))
  (gaN:PySem.W.findIn K (.ref aN) "__getattribute__" =some (some (.builtin "BaseException.__getattribute__"))) (hoN:PySem.W.findIn K (.ref aN) "__getattr__" =some none) (clN:PySem.W.findIn K (.ref aN) "__class__" =some (some (.builtin "object.__class__"))):
  ∃fd:FuncData,(∀(s:Shared) (u:Value),BindsTo s fd ⟨[u],[]⟩ [("_law_script",u)])∧∀base:Heap,K.In base→base.Ns mainGlobals mg→pX mg base→aA P w K mg base aG 13 fa fd ["_law_script"] (uc K Pt):=by
 have e0:=hmg.symm.trans (PySem.W.mg_of KX G l1)
 cases e0
 obtain⟨gs,mv⟩:=Mu KX G g1 lo0
 have ms:=PySem.W.mg_of KX G eS
 obtain⟨MB,yB⟩:=WX KX G mv ms xB gaB hoB clB
 have QY:Exc K mg "NoBoard" aB:=⟨PySem.W.mg_of KX G eB,yB⟩
 obtain⟨ML,yL⟩:=WX KX G mv ms xL gaL hoL clL
 have QX:Exc K mg "NoLay" aL:=⟨PySem.W.mg_of KX G eL,yL⟩
 obtain⟨MN,yN⟩:=WX KX G mv ms xN gaN hoN clN
 have BB:Exc K mg "NoNumber" aN:=⟨PySem.W.mg_of KX G eN,yN⟩
 have Bz:xP K mg aB aL:=⟨PySem.W.mg_of KX G eB,yB,PySem.W.mg_of KX G eL,yL⟩
 refine⟨PySem.W.fnOf "law" "law" (eK bW) (bI bW) (ay bW) .none kV doc pm an (.ref c) ct,fun s u=> .of_eq rfl,fun base kb nb bm=> ?_⟩
 have b0:∀{x:Str}{st:Stmt},(∀(kV doc pm:Value) (an:Option Addr) (ao ct:Value),bindArgs (PySem.W.fnOf x x (eK st) (bI st) (ay st) .none kV doc pm an ao ct) ⟨[],[]⟩=pure [])→kr x st []:=fun h kV doc pm an ao ct us hl=>match us,hl with | [],_=>h kV doc pm an ao ct
 have b1:∀{x a:Str}{st:Stmt},(∀(kV doc pm:Value) (an:Option Addr) (ao ct u:Value),bindArgs (PySem.W.fnOf x x (eK st) (bI st) (ay st) .none kV doc pm an ao ct) ⟨[u],[]⟩=pure [(a,u)])→kr x st [a]:=fun h kV doc pm an ao ct us hl=>match us,hl with | [u],_=>h kV doc pm an ao ct u
 have b2:∀{x a b:Str}{st:Stmt},(∀(kV doc pm:Value) (an:Option Addr) (ao ct u v:Value),bindArgs (PySem.W.fnOf x x (eK st) (bI st) (ay st) .none kV doc pm an ao ct) ⟨[u,v],[]⟩=pure [(a,u),(b,v)])→kr x st [a,b]:=fun h kV doc pm an ao ct us hl=>match us,hl with | [u,v],_=>h kV doc pm an ao ct u v
 have b3:∀{x a b c:Str}{st:Stmt},(∀(kV doc pm:Value) (an:Option Addr) (ao ct u v w:Value),bindArgs (PySem.W.fnOf x x (eK st) (bI st) (ay st) .none kV doc pm an ao ct) ⟨[u,v,w],[]⟩=pure [(a,u),(b,v),(c,w)])→kr x st [a,b,c]:=fun h kV doc pm an ao ct us hl=>match us,hl with | [u,v,w],_=>h kV doc pm an ao ct u v w
 have b4:∀{x a b c d:Str}{st:Stmt},(∀(kV doc pm:Value) (an:Option Addr) (ao ct u v w y:Value),bindArgs (PySem.W.fnOf x x (eK st) (bI st) (ay st) .none kV doc pm an ao ct) ⟨[u,v,w,y],[]⟩=pure [(a,u),(b,v),(c,w),(d,y)])→kr x st [a,b,c,d]:=fun h kV doc pm an ao ct us hl=>match us,hl with | [u,v,w,y],_=>h kV doc pm an ao ct u v w y
 have b5:∀{x a b c d e:Str}{st:Stmt},(∀(kV doc pm:Value) (an:Option Addr) (ao ct u v w y z:Value),bindArgs (PySem.W.fnOf x x (eK st) (bI st) (ay st) .none kV doc pm an ao ct) ⟨[u,v,w,y,z],[]⟩=pure [(a,u),(b,v),(c,w),(d,y),(e,z)])→kr x st [a,b,c,d,e]:=fun h kV doc pm an ao ct us hl=>match us,hl with | [u,v,w,y,z],_=>h kV doc pm an ao ct u v w y z
 have good:∀b':Heap,(Def P w K mg b' 9 "all_hits" ["board", "lay"] og∧Def P w K mg b' 10 "hits" ["board", "lay", "right", "up"] qy)∧bV P w K mg b' 10 "hits" ["board", "lay", "right", "up"] (qx K aB aL aN)∧bV P w K mg b' 9 "all_hits" ["board", "lay"] (iA K aB aL):=fun b'=>by
  have D0:Def P w K mg b' 1 "is_whole" ["thing"] (nZ K):=d0.to KX G (b1 fun _ _ _ _ _ _ _=>rfl) fun f fd F=>OA F gs
  have D1:Def P w K mg b' 2 "is_whole_within" ["thing", "least", "most"] (qr K):=d1.to KX G (b3 fun _ _ _ _ _ _ _ _ _=>rfl) fun f fd F=>O1 F D0
  have D2:Def P w K mg b' 2 "need_whole" ["number"] (qv K):=d2.to KX G (b1 fun _ _ _ _ _ _ _=>rfl) fun f fd F=>ME F D0
  have D3:Def P w K mg b' 1 "is_tuple_of" ["thing", "many"] (qt K):=d3.to KX G (b2 fun _ _ _ _ _ _ _ _=>rfl) fun f fd F=>Oz F gs
  have D4:Def P w K mg b' 3 "is_board" ["thing"] (qA K):=d4.to KX G (b1 fun _ _ _ _ _ _ _=>rfl) fun f fd F=>Ou F gs D3 D1
  have D5:Def P w K mg b' 4 "need_board" ["board"] (tZ K):=d5.to KX G (b1 fun _ _ _ _ _ _ _=>rfl) fun f fd F=>WV F D4
  have D6:Def P w K mg b' 5 "is_lay" ["board", "thing"] (qw K):=d6.to KX G (b2 fun _ _ _ _ _ _ _ _=>rfl) fun f fd F=>Mf F gs D5 D3 D1
  have P5:Def P w K mg b' 6 "need_lay" ["board", "lay"] tY:=d7.to KX G (b2 fun _ _ _ _ _ _ _ _=>rfl) fun f fd F=>UW F D6
  have D7:Def P w K mg b' 7 "points" ["board", "lay"] qu:=d8.to KX G (b2 fun _ _ _ _ _ _ _ _=>rfl) fun f fd F=>OX F gs P5
  have D8:Def P w K mg b' 8 "hits_by_move" ["board", "one", "other"] n9:=d9.to KX G (b3 fun _ _ _ _ _ _ _ _ _=>rfl) fun f fd F=>Mz F D7
  have D9:Def P w K mg b' 9 "hits_between" ["board", "one", "other", "right", "up"] uh:=BM.to KX G (b5 fun _ _ _ _ _ _ _ _ _ _ _=>rfl) fun f fd F=>MC F D8 D2
  have P7:Def P w K mg b' 10 "hits" ["board", "lay", "right", "up"] qy:=BL.to KX G (b4 fun _ _ _ _ _ _ _ _ _ _=>rfl) fun f fd F=>MA F D9
  have P6:Def P w K mg b' 9 "all_hits" ["board", "lay"] og:=BK.to KX G (b2 fun _ _ _ _ _ _ _ _=>rfl) fun f fd F=>My F gs D8
  have R2:bV P w K mg b' 2 "need_whole" ["number"] (t9 K aN):=d2.iW KX G (b1 fun _ _ _ _ _ _ _=>rfl) fun f fd F=>Mj F BB.m BB.x D0
  have R5:bV P w K mg b' 4 "need_board" ["board"] (ua K aB):=d5.iW KX G (b1 fun _ _ _ _ _ _ _=>rfl) fun f fd F=>Wo F gs Bz D4
  have R6:bV P w K mg b' 5 "is_lay" ["board", "thing"] (ub K aB):=d6.iW KX G (b2 fun _ _ _ _ _ _ _ _=>rfl) fun f fd F=>MT F R5
  have Pp:bV P w K mg b' 6 "need_lay" ["board", "lay"] (iA K aB aL):=d7.iW KX G (b2 fun _ _ _ _ _ _ _ _=>rfl) fun f fd F=>Um F Bz R6 D6
  have R7:bV P w K mg b' 7 "points" ["board", "lay"] (iA K aB aL):=d8.iW KX G (b2 fun _ _ _ _ _ _ _ _=>rfl) fun f fd F=>UV F Pp
  have R8:bV P w K mg b' 8 "hits_by_move" ["board", "one", "other"] (qz K aB aL):=d9.iW KX G (b3 fun _ _ _ _ _ _ _ _ _=>rfl) fun f fd F=>Mb F D7 R7
  have R9:bV P w K mg b' 9 "hits_between" ["board", "one", "other", "right", "up"] (ug K aB aL aN):=BM.iW KX G (b5 fun _ _ _ _ _ _ _ _ _ _ _=>rfl) fun f fd F=>Md F D8 R8 D2 R2
  have Pr:bV P w K mg b' 10 "hits" ["board", "lay", "right", "up"] (qx K aB aL aN):=BL.iW KX G (b4 fun _ _ _ _ _ _ _ _ _ _=>rfl) fun f fd F=>Mc F R9
  have Pq:bV P w K mg b' 9 "all_hits" ["board", "lay"] (iA K aB aL):=BK.iW KX G (b2 fun _ _ _ _ _ _ _ _=>rfl) fun f fd F=>Ma F R8
  exact⟨⟨P6,P7⟩,Pr,Pq⟩
 have hR:∀b':Heap,Def P w K mg b' 12 "_law_refused" ["_law_call"] (l9 P w K mg b' cS 11):=fun b'=>BJ.to KX G (b1 fun _ _ _ _ _ _ _=>rfl) fun f fd F=>Ml F gs
 have E1:Def P w K mg base 1 "_law_cell_at" ["_law_script", "_law_k"] (um K):=Lj.to KX G (b2 fun _ _ _ _ _ _ _ _=>rfl) fun f fd F=>MS F gs
 have E2:Def P w K mg base 2 "_law_state" ["_law_script", "_law_k"] (tS K):=Li.to KX G (b2 fun _ _ _ _ _ _ _ _=>rfl) fun f fd F=>Oy F gs E1
 have E3:Def P w K mg base 1 "_law_take" ["_law_state_here", "_law_many"] iY:=Lh.to KX G (b2 fun _ _ _ _ _ _ _ _=>rfl) fun f fd F=>MU F
 have E4:Def P w K mg base 2 "_law_no_board" ["_law_state_here"] (tX K):=Lg.to KX G (b1 fun _ _ _ _ _ _ _=>rfl) fun f fd F=>Mg F E3
 have E5:Def P w K mg base 2 "_law_board" ["_law_state_here", "_law_upto"] uk:=aU.to KX G (b2 fun _ _ _ _ _ _ _ _=>rfl) fun f fd F=>Ov F E3
 have E6:Def P w K mg base 2 "_law_lay" ["_law_state_here", "_law_board_here"] (uj K):=Lf.to KX G (b2 fun _ _ _ _ _ _ _ _=>rfl) fun f fd F=>Ow F gs E3
 have E7:Def P w K mg base 2 "_law_no_lay" ["_law_state_here", "_law_board_here", "_law_lay_here"] (tW K):=Lb.to KX G (b3 fun _ _ _ _ _ _ _ _ _=>rfl) fun f fd F=>Mh F gs E3
 have E8:Def P w K mg base 2 "_law_no_whole" ["_law_state_here"] (tV K):=K9.to KX G (b1 fun _ _ _ _ _ _ _=>rfl) fun f fd F=>Mi F E3
 have E9:Def P w K mg base 1 "_law_steps" ["_law_lay_here"] (ue K):=Le.to KX G (b1 fun _ _ _ _ _ _ _=>rfl) fun f fd F=>OW F gs
 have PU:Def P w K mg base 2 "_law_unlike" ["_law_lay_here"] ud:=Ld.to KX G (b1 fun _ _ _ _ _ _ _=>rfl) fun f fd F=>UX F E9
 have PR:Def P w K mg base 3 "_law_grown" ["_law_state_here", "_law_board_here"] (ui K):=Lc.to KX G (b2 fun _ _ _ _ _ _ _ _=>rfl) fun f fd F=>Ox F gs E3 PU
 have PQ:Def P w K mg base 1 "_law_hits" ["_law_one", "_law_other", "_law_right_here", "_law_up"] uf:=La.to KX G (b4 fun _ _ _ _ _ _ _ _ _ _=>rfl) fun f fd F=>MD F gs
 have S1:Def P w K mg base 1 "_law_same" ["_law_found", "_law_due"] (eQ Rl):=w6.to KX G (b2 fun _ _ _ _ _ _ _ _=>rfl) fun f fd F=>Ul F gs
 have S2:Def P w K mg base 2 "_law_same" ["_law_found", "_law_due"] (eQ (iQ Rl)):=w6.to KX G (b2 fun _ _ _ _ _ _ _ _=>rfl) fun f fd F=>OZ (R:=Rl) (fun r s=>Rl.same r s) F gs S1
 have S3:Def P w K mg base 3 "_law_same" ["_law_found", "_law_due"] (eQ (xE (iQ Rl))):=w6.to KX G (b2 fun _ _ _ _ _ _ _ _=>rfl) fun f fd F=>OY (R:=iQ Rl) (fun r s=>iQ.same (R:=Rl) (fun r s=>Rl.same r s) r s) F gs S2
 have PN:Def P w K mg base 11 "_law_right" ["_law_state_here", "_law_board_here", "_law_lay_here"] tU:=K8.to KX G (b3 fun _ _ _ _ _ _ _ _ _=>rfl) fun f fd F=>MF F gs PQ (good base).1.1 S3 E3 (good base).1.2 S1
 obtain⟨fR,KN,K1,FR⟩:=id BJ
 exact Me l2 l3 gs E2 E4 E8 E5 E6 PR E7 PN (good base).1.1 hR (fun b'=> (good b').2.1) (fun b'=> (good b').2.2) (PySem.W.mg_of KX G K1) FR.kp MB ML MN (PySem.W.codeHd_of_K kb l4) bm
end
end U
theorem PySem.W.Fast.tw295487769826549856:True:=⟨⟩
theorem PySem.W.Fast.tw13127248233297595520:True:=⟨⟩
theorem PySem.W.Fast.tw181371602893385888:True:=⟨⟩
theorem PySem.W.Fast.tw4287043196701930720:True:=⟨⟩
theorem PySem.W.Fast.tw769381379297420544:True:=⟨⟩
theorem PySem.W.Fast.tw2428750160620854752:True:=⟨⟩
theorem PySem.W.Fast.tw14098214622210436608:True:=⟨⟩
theorem PySem.W.Fast.tw1043833185912971776:True:=⟨⟩
theorem PySem.W.Fast.tw14008070384000767584:True:=⟨⟩
theorem PySem.W.Fast.tw17838728505059928704:True:=⟨⟩
theorem PySem.W.Fast.tw2463348370334975648:True:=⟨⟩
theorem PySem.W.Fast.tw6356315761745519328:True:=⟨⟩
theorem PySem.W.Fast.tw11104264555865460576:True:=⟨⟩
theorem PySem.W.Fast.tw10761165838631890848:True:=⟨⟩
theorem PySem.W.Fast.tw14454342199407746016:True:=⟨⟩
theorem PySem.W.Fast.tw13722560481635095649:True:=⟨⟩
theorem PySem.W.Fast.tw18402986775197162689:True:=⟨⟩
theorem PySem.W.Fast.tw13493141997031251137:True:=⟨⟩
theorem PySem.W.Fast.tw18048034234099708161:True:=⟨⟩
theorem PySem.W.Fast.tw15162855254411315489:True:=⟨⟩
theorem PySem.W.Fast.tw1513577125538544961:True:=⟨⟩
theorem PySem.W.Fast.tw11955025152858047841:True:=⟨⟩
theorem PySem.W.Fast.tw8474756933069327713:True:=⟨⟩
theorem PySem.W.Fast.tw14694528485949460865:True:=⟨⟩
theorem PySem.W.Fast.tw3184867700386574753:True:=⟨⟩
theorem PySem.W.Fast.tw8442790447547812257:True:=⟨⟩
theorem PySem.W.Fast.tw8435579977932921441:True:=⟨⟩
theorem PySem.W.Fast.tw15473447367334859457:True:=⟨⟩
theorem PySem.W.Fast.tw9478652741800610561:True:=⟨⟩
theorem PySem.W.Fast.tw13547646520913193793:True:=⟨⟩
theorem PySem.W.Fast.tw7019870682686436193:True:=⟨⟩
theorem PySem.W.Fast.tw17057589986885092257:True:=⟨⟩
theorem PySem.W.Fast.tw7579685567223098337:True:=⟨⟩
theorem PySem.W.Fast.tw3967379234401209378:True:=⟨⟩
theorem PySem.W.Fast.tw128220657141604482:True:=⟨⟩
theorem PySem.W.Fast.tw10208598472576500994:True:=⟨⟩
theorem PySem.W.Fast.tw13605061701681727810:True:=⟨⟩
theorem PySem.W.Fast.tw2125061629230174626:True:=⟨⟩
theorem PySem.W.Fast.tw16332447393233775074:True:=⟨⟩
theorem PySem.W.Fast.tw8582059276245052930:True:=⟨⟩
theorem PySem.W.Fast.tw4137455284153246402:True:=⟨⟩
theorem PySem.W.Fast.tw18071521140354097122:True:=⟨⟩
theorem PySem.W.Fast.tw3582898072286019747:True:=⟨⟩
theorem PySem.W.Fast.tw12873609466389319843:True:=⟨⟩
theorem PySem.W.Fast.tw1502363435435477187:True:=⟨⟩
theorem PySem.W.Fast.tw5887802591118060803:True:=⟨⟩
theorem PySem.W.Fast.tw10705269766691644739:True:=⟨⟩
theorem PySem.W.Fast.tw5113410881613766019:True:=⟨⟩
theorem PySem.W.Fast.tw8187061460644653571:True:=⟨⟩
theorem PySem.W.Fast.tw13762767517966635587:True:=⟨⟩
theorem PySem.W.Fast.tw14950018840878406307:True:=⟨⟩
theorem PySem.W.Fast.tw1472700286141903843:True:=⟨⟩
theorem PySem.W.Fast.tw1928228758044607556:True:=⟨⟩
theorem PySem.W.Fast.tw9044077455868384324:True:=⟨⟩
theorem PySem.W.Fast.tw3845373245703353604:True:=⟨⟩
theorem PySem.W.Fast.tw669994976531809604:True:=⟨⟩
theorem PySem.W.Fast.tw6492379038738572772:True:=⟨⟩
theorem PySem.W.Fast.tw14201008130727348772:True:=⟨⟩
theorem PySem.W.Fast.tw13971269467121509956:True:=⟨⟩
theorem PySem.W.Fast.tw17437224253936822884:True:=⟨⟩
theorem PySem.W.Fast.tw1123660697162389124:True:=⟨⟩
theorem PySem.W.Fast.tw1935169359387520644:True:=⟨⟩
theorem PySem.W.Fast.tw13247144571205723812:True:=⟨⟩
theorem PySem.W.Fast.tw1737404638355974820:True:=⟨⟩
theorem PySem.W.Fast.tw17696704582612804388:True:=⟨⟩
theorem PySem.W.Fast.tw14359072905965154148:True:=⟨⟩
theorem PySem.W.Fast.tw10698914216399292356:True:=⟨⟩
theorem PySem.W.Fast.tw1258863169147027461:True:=⟨⟩
theorem PySem.W.Fast.tw2909507939571375301:True:=⟨⟩
theorem PySem.W.Fast.tw1445184235355323621:True:=⟨⟩
theorem PySem.W.Fast.tw6256012073480144229:True:=⟨⟩
theorem PySem.W.Fast.tw14654638294717951333:True:=⟨⟩
theorem PySem.W.Fast.tw14262880363073854053:True:=⟨⟩
theorem PySem.W.Fast.tw3741837473685005157:True:=⟨⟩
theorem PySem.W.Fast.tw16329150840810266758:True:=⟨⟩
theorem PySem.W.Fast.tw9469952040756572358:True:=⟨⟩
theorem PySem.W.Fast.tw3443219384213063910:True:=⟨⟩
theorem PySem.W.Fast.tw2241120511599938790:True:=⟨⟩
theorem PySem.W.Fast.tw17029589863503238406:True:=⟨⟩
theorem PySem.W.Fast.tw17168380884700580102:True:=⟨⟩
theorem PySem.W.Fast.tw5814808105289380326:True:=⟨⟩
theorem PySem.W.Fast.tw12966062299105540710:True:=⟨⟩
theorem PySem.W.Fast.tw14718683882121768582:True:=⟨⟩
theorem PySem.W.Fast.tw17171231939373286022:True:=⟨⟩
theorem PySem.W.Fast.tw15221491333568720518:True:=⟨⟩
theorem PySem.W.Fast.tw828574394361332454:True:=⟨⟩
theorem PySem.W.Fast.tw1209000376569304838:True:=⟨⟩
theorem PySem.W.Fast.tw4187630850561821510:True:=⟨⟩
theorem PySem.W.Fast.tw12933424711281954694:True:=⟨⟩
theorem PySem.W.Fast.tw14144368874388489383:True:=⟨⟩
theorem PySem.W.Fast.tw2576177383853875495:True:=⟨⟩
theorem PySem.W.Fast.tw10798345585946995239:True:=⟨⟩
theorem PySem.W.Fast.tw3770933031627526727:True:=⟨⟩
theorem PySem.W.Fast.tw10220649169873414855:True:=⟨⟩
theorem PySem.W.Fast.tw4062616096749012743:True:=⟨⟩
theorem PySem.W.Fast.tw856583169778898855:True:=⟨⟩
theorem PySem.W.Fast.tw3300279187026081767:True:=⟨⟩
theorem PySem.W.Fast.tw11985157404426922024:True:=⟨⟩
theorem PySem.W.Fast.tw1038696598423394376:True:=⟨⟩
theorem PySem.W.Fast.tw6340911123586610344:True:=⟨⟩
theorem PySem.W.Fast.tw7314265707474224456:True:=⟨⟩
theorem PySem.W.Fast.tw12626740432352749992:True:=⟨⟩
theorem PySem.W.Fast.tw3214043463183108552:True:=⟨⟩
theorem PySem.W.Fast.tw17018967692961326568:True:=⟨⟩
theorem PySem.W.Fast.tw10079067380750371464:True:=⟨⟩
theorem PySem.W.Fast.tw15581453751537082056:True:=⟨⟩
theorem PySem.W.Fast.tw11385911410320119592:True:=⟨⟩
theorem PySem.W.Fast.tw10406663390647225192:True:=⟨⟩
theorem PySem.W.Fast.tw6280318764201874312:True:=⟨⟩
theorem PySem.W.Fast.tw18419309321261286376:True:=⟨⟩
theorem PySem.W.Fast.tw6117157886472814633:True:=⟨⟩
theorem PySem.W.Fast.tw4759918362646618153:True:=⟨⟩
theorem PySem.W.Fast.tw12933911187646901289:True:=⟨⟩
theorem PySem.W.Fast.tw16563358538272079945:True:=⟨⟩
theorem PySem.W.Fast.tw15762673945953108105:True:=⟨⟩
theorem PySem.W.Fast.tw4647419345729388713:True:=⟨⟩
theorem PySem.W.Fast.tw6731165119666579721:True:=⟨⟩
theorem PySem.W.Fast.tw3943053523598477577:True:=⟨⟩
theorem PySem.W.Fast.tw4481134042925197673:True:=⟨⟩
theorem PySem.W.Fast.tw12868882704296972745:True:=⟨⟩
theorem PySem.W.Fast.tw12289557002768681449:True:=⟨⟩
theorem PySem.W.Fast.tw8332430520551579113:True:=⟨⟩
theorem PySem.W.Fast.tw13079436238462066153:True:=⟨⟩
theorem PySem.W.Fast.tw6921945512953746953:True:=⟨⟩
theorem PySem.W.Fast.tw2573541592650469961:True:=⟨⟩
theorem PySem.W.Fast.tw5495896901691303497:True:=⟨⟩
theorem PySem.W.Fast.tw18410419216731007561:True:=⟨⟩
theorem PySem.W.Fast.tw16041250553905876585:True:=⟨⟩
theorem PySem.W.Fast.tw1650676746539391593:True:=⟨⟩
theorem PySem.W.Fast.tw1425798750400045673:True:=⟨⟩
theorem PySem.W.Fast.tw18190135673367330441:True:=⟨⟩
theorem PySem.W.Fast.tw2365506884397347465:True:=⟨⟩
theorem PySem.W.Fast.tw15508978699178724169:True:=⟨⟩
theorem PySem.W.Fast.tw5288629383498823529:True:=⟨⟩
theorem PySem.W.Fast.tw9901222881227455369:True:=⟨⟩
theorem PySem.W.Fast.tw9662551418163942377:True:=⟨⟩
theorem PySem.W.Fast.tw8339484488675507210:True:=⟨⟩
theorem PySem.W.Fast.tw4334059777087694954:True:=⟨⟩
theorem PySem.W.Fast.tw4434615428191318122:True:=⟨⟩
theorem PySem.W.Fast.tw11771129298098778250:True:=⟨⟩
theorem PySem.W.Fast.tw1245085319612539082:True:=⟨⟩
theorem PySem.W.Fast.tw876776041348807914:True:=⟨⟩
theorem PySem.W.Fast.tw16710035819423012106:True:=⟨⟩
theorem PySem.W.Fast.tw13148020305281588490:True:=⟨⟩
theorem PySem.W.Fast.tw13445057120752925994:True:=⟨⟩
theorem PySem.W.Fast.tw9266422724573869450:True:=⟨⟩
theorem PySem.W.Fast.tw17243577661320309194:True:=⟨⟩
theorem PySem.W.Fast.tw122401805048708618:True:=⟨⟩
theorem PySem.W.Fast.tw8457296424181425770:True:=⟨⟩
theorem PySem.W.Fast.tw5424831046604440202:True:=⟨⟩
theorem PySem.W.Fast.tw5344575858459365290:True:=⟨⟩
theorem PySem.W.Fast.tw1258202175932067915:True:=⟨⟩
theorem PySem.W.Fast.tw7937911436141727883:True:=⟨⟩
theorem PySem.W.Fast.tw17278374518457633995:True:=⟨⟩
theorem PySem.W.Fast.tw2414302634597134603:True:=⟨⟩
theorem PySem.W.Fast.tw16846584388158493035:True:=⟨⟩
theorem PySem.W.Fast.tw13805019914968630699:True:=⟨⟩
theorem PySem.W.Fast.tw14628222001486004651:True:=⟨⟩
theorem PySem.W.Fast.tw8248965061484856107:True:=⟨⟩
theorem PySem.W.Fast.tw11918999334853530443:True:=⟨⟩
theorem PySem.W.Fast.tw16736144694798184299:True:=⟨⟩
theorem PySem.W.Fast.tw2156802712648024011:True:=⟨⟩
theorem PySem.W.Fast.tw7114421640049274827:True:=⟨⟩
theorem PySem.W.Fast.tw3557631274887587819:True:=⟨⟩
theorem PySem.W.Fast.tw2145302624344368107:True:=⟨⟩
theorem PySem.W.Fast.tw2706807127731379212:True:=⟨⟩
theorem PySem.W.Fast.tw15256713769514678348:True:=⟨⟩
theorem PySem.W.Fast.tw6187526907130043532:True:=⟨⟩
theorem PySem.W.Fast.tw3492395853906569388:True:=⟨⟩
theorem PySem.W.Fast.tw8671231090247744940:True:=⟨⟩
theorem PySem.W.Fast.tw2162795563934896620:True:=⟨⟩
theorem PySem.W.Fast.tw5719050758913376844:True:=⟨⟩
theorem PySem.W.Fast.tw5316750798866812556:True:=⟨⟩
theorem PySem.W.Fast.tw7185121417262811884:True:=⟨⟩
theorem PySem.W.Fast.tw1852644978640525132:True:=⟨⟩
theorem PySem.W.Fast.tw2126523407550940173:True:=⟨⟩
theorem PySem.W.Fast.tw12333025236269061133:True:=⟨⟩
theorem PySem.W.Fast.tw12334211178865291341:True:=⟨⟩
theorem PySem.W.Fast.tw3886197313950555437:True:=⟨⟩
theorem PySem.W.Fast.tw17281012735545055629:True:=⟨⟩
theorem PySem.W.Fast.tw7607861956260172237:True:=⟨⟩
theorem PySem.W.Fast.tw5908815452577724109:True:=⟨⟩
theorem PySem.W.Fast.tw16290136417370661677:True:=⟨⟩
theorem PySem.W.Fast.tw7418365275893030701:True:=⟨⟩
theorem PySem.W.Fast.tw11440214632761053198:True:=⟨⟩
theorem PySem.W.Fast.tw5554325514597695662:True:=⟨⟩
theorem PySem.W.Fast.tw6228839740990118062:True:=⟨⟩
theorem PySem.W.Fast.tw16910429527572714830:True:=⟨⟩
theorem PySem.W.Fast.tw7464997726052469102:True:=⟨⟩
theorem PySem.W.Fast.tw6610239192021053870:True:=⟨⟩
theorem PySem.W.Fast.tw17594392437036382798:True:=⟨⟩
theorem PySem.W.Fast.tw16416614815861084782:True:=⟨⟩
theorem PySem.W.Fast.tw6345235876756548238:True:=⟨⟩
theorem PySem.W.Fast.tw10857868254001671886:True:=⟨⟩
theorem PySem.W.Fast.tw2897777889333559278:True:=⟨⟩
theorem PySem.W.Fast.tw1692333622749075471:True:=⟨⟩
theorem PySem.W.Fast.tw1376725861447768143:True:=⟨⟩
theorem PySem.W.Fast.tw17555388774431597679:True:=⟨⟩
theorem PySem.W.Fast.tw10324622684199312591:True:=⟨⟩
theorem PySem.W.Fast.tw1222085301136274703:True:=⟨⟩
theorem PySem.W.Fast.tw10161525680963013967:True:=⟨⟩
theorem PySem.W.Fast.tw13503329415743006063:True:=⟨⟩
theorem PySem.W.Fast.tw9377634389672062319:True:=⟨⟩
theorem PySem.W.Fast.tw10033883193033212303:True:=⟨⟩
theorem PySem.W.Fast.tw1307673328520411599:True:=⟨⟩
theorem PySem.W.Fast.tw6610044484228065743:True:=⟨⟩
theorem PySem.W.Fast.tw9610025790929604079:True:=⟨⟩
theorem PySem.W.Fast.tw11729027408591426063:True:=⟨⟩
theorem PySem.W.Fast.tw11110287767586471503:True:=⟨⟩
theorem PySem.W.Fast.tw6239406002176881295:True:=⟨⟩
theorem PySem.W.Fast.tw12645604194044097199:True:=⟨⟩
theorem PySem.W.Fast.tw8561693296093435631:True:=⟨⟩
theorem PySem.W.Fast.tw4153604069567011599:True:=⟨⟩
theorem PySem.W.Fast.tw13904164904589796175:True:=⟨⟩
theorem PySem.W.Fast.tw5851702372661549967:True:=⟨⟩
theorem PySem.W.Fast.tw13182629590765559695:True:=⟨⟩
theorem PySem.W.Fast.tw2996847401381486543:True:=⟨⟩
theorem PySem.W.Fast.tw4256094461973805072:True:=⟨⟩
theorem PySem.W.Fast.tw375182477059993680:True:=⟨⟩
theorem PySem.W.Fast.tw9882366538674946224:True:=⟨⟩
theorem PySem.W.Fast.tw12229371873409487056:True:=⟨⟩
theorem PySem.W.Fast.tw14180673568283665712:True:=⟨⟩
theorem PySem.W.Fast.tw6944532534439816496:True:=⟨⟩
theorem PySem.W.Fast.tw8955081960168588624:True:=⟨⟩
theorem PySem.W.Fast.tw16854721868879860048:True:=⟨⟩
theorem PySem.W.Fast.tw5806251453897011632:True:=⟨⟩
theorem PySem.W.Fast.tw18171562103784211024:True:=⟨⟩
theorem PySem.W.Fast.tw10341451934004659824:True:=⟨⟩
theorem PySem.W.Fast.tw5618726253047198480:True:=⟨⟩
theorem PySem.W.Fast.tw11474672659741648848:True:=⟨⟩
theorem PySem.W.Fast.tw13566520451208140752:True:=⟨⟩
theorem PySem.W.Fast.tw9648890874512312304:True:=⟨⟩
theorem PySem.W.Fast.tw3889243904297769137:True:=⟨⟩
theorem PySem.W.Fast.tw2017520004566329585:True:=⟨⟩
theorem PySem.W.Fast.tw4315517512652784977:True:=⟨⟩
theorem PySem.W.Fast.tw11989575633589577073:True:=⟨⟩
theorem PySem.W.Fast.tw5586821907326895473:True:=⟨⟩
theorem PySem.W.Fast.tw13346666447868791281:True:=⟨⟩
theorem PySem.W.Fast.tw17832415993241771505:True:=⟨⟩
theorem PySem.W.Fast.tw15333166120753429009:True:=⟨⟩
theorem PySem.W.Fast.tw8525999510378776273:True:=⟨⟩
theorem PySem.W.Fast.tw2208646116255913681:True:=⟨⟩
theorem PySem.W.Fast.tw9219556762447878993:True:=⟨⟩
theorem PySem.W.Fast.tw15232657274321451921:True:=⟨⟩
theorem PySem.W.Fast.tw16942774854626527121:True:=⟨⟩
theorem PySem.W.Fast.tw13724454885977945009:True:=⟨⟩
theorem PySem.W.Fast.tw532468502985468018:True:=⟨⟩
theorem PySem.W.Fast.tw15668553330391083346:True:=⟨⟩
theorem PySem.W.Fast.tw2753437066013653458:True:=⟨⟩
theorem PySem.W.Fast.tw14319586995337031154:True:=⟨⟩
theorem PySem.W.Fast.tw11898244075526447602:True:=⟨⟩
theorem PySem.W.Fast.tw7251415192169861778:True:=⟨⟩
theorem PySem.W.Fast.tw1583943534563470002:True:=⟨⟩
theorem PySem.W.Fast.tw1110011071664275250:True:=⟨⟩
theorem PySem.W.Fast.tw5107077130070044498:True:=⟨⟩
theorem PySem.W.Fast.tw12587366437807336531:True:=⟨⟩
theorem PySem.W.Fast.tw11800871893951742067:True:=⟨⟩
theorem PySem.W.Fast.tw4082863474318128243:True:=⟨⟩
theorem PySem.W.Fast.tw1495911707583880403:True:=⟨⟩
theorem PySem.W.Fast.tw14538570087949187315:True:=⟨⟩
theorem PySem.W.Fast.tw15951472631340291539:True:=⟨⟩
theorem PySem.W.Fast.tw13755870962215257619:True:=⟨⟩
theorem PySem.W.Fast.tw17143699545550212691:True:=⟨⟩
theorem PySem.W.Fast.tw11077926671397602035:True:=⟨⟩
theorem PySem.W.Fast.tw2802596952189008787:True:=⟨⟩
theorem PySem.W.Fast.tw11715928961935726644:True:=⟨⟩
theorem PySem.W.Fast.tw4328845355745400916:True:=⟨⟩
theorem PySem.W.Fast.tw4383351550884097140:True:=⟨⟩
theorem PySem.W.Fast.tw15039139262945358036:True:=⟨⟩
theorem PySem.W.Fast.tw3906804010512031060:True:=⟨⟩
theorem PySem.W.Fast.tw13814644816086738292:True:=⟨⟩
theorem PySem.W.Fast.tw10130260974367166868:True:=⟨⟩
theorem PySem.W.Fast.tw2905015702730195476:True:=⟨⟩
theorem PySem.W.Fast.tw6908589765969678932:True:=⟨⟩
theorem PySem.W.Fast.tw8149807890956427924:True:=⟨⟩
theorem PySem.W.Fast.tw8599296463387560628:True:=⟨⟩
theorem PySem.W.Fast.tw11995540532769105588:True:=⟨⟩
theorem PySem.W.Fast.tw9958335271384921812:True:=⟨⟩
theorem PySem.W.Fast.tw6142989171491297012:True:=⟨⟩
theorem PySem.W.Fast.tw11981992255101574932:True:=⟨⟩
theorem PySem.W.Fast.tw11271149094747552564:True:=⟨⟩
theorem PySem.W.Fast.tw6838253648867166036:True:=⟨⟩
theorem PySem.W.Fast.tw12747745038806546292:True:=⟨⟩
theorem PySem.W.Fast.tw10432203313177617493:True:=⟨⟩
theorem PySem.W.Fast.tw4660243196256733525:True:=⟨⟩
theorem PySem.W.Fast.tw6930581047598152053:True:=⟨⟩
theorem PySem.W.Fast.tw2049638068421979541:True:=⟨⟩
theorem PySem.W.Fast.tw931521051600434613:True:=⟨⟩
theorem PySem.W.Fast.tw8548668145927646709:True:=⟨⟩
theorem PySem.W.Fast.tw15133993881681879637:True:=⟨⟩
theorem PySem.W.Fast.tw13215198837530865237:True:=⟨⟩
theorem PySem.W.Fast.tw3566112665181013589:True:=⟨⟩
theorem PySem.W.Fast.tw6218011196429823605:True:=⟨⟩
theorem PySem.W.Fast.tw4320316729521623829:True:=⟨⟩
theorem PySem.W.Fast.tw18414934457060514581:True:=⟨⟩
theorem PySem.W.Fast.tw3923189292510625621:True:=⟨⟩
theorem PySem.W.Fast.tw11206011721428912053:True:=⟨⟩
theorem PySem.W.Fast.tw4240033961951259573:True:=⟨⟩
theorem PySem.W.Fast.tw13088996864400146389:True:=⟨⟩
theorem PySem.W.Fast.tw17921506104310186965:True:=⟨⟩
theorem PySem.W.Fast.tw8667172709470859221:True:=⟨⟩
theorem PySem.W.Fast.tw4023575371555418390:True:=⟨⟩
theorem PySem.W.Fast.tw4574930419924624726:True:=⟨⟩
theorem PySem.W.Fast.tw598943118627928470:True:=⟨⟩
theorem PySem.W.Fast.tw11556981302681892246:True:=⟨⟩
theorem PySem.W.Fast.tw13932845347875424822:True:=⟨⟩
theorem PySem.W.Fast.tw9973473886045555478:True:=⟨⟩
theorem PySem.W.Fast.tw12126136465720186678:True:=⟨⟩
theorem PySem.W.Fast.tw6332787857149142870:True:=⟨⟩
theorem PySem.W.Fast.tw11775438912836820886:True:=⟨⟩
theorem PySem.W.Fast.tw2013834906543558743:True:=⟨⟩
theorem PySem.W.Fast.tw3308051480121958519:True:=⟨⟩
theorem PySem.W.Fast.tw10105810080511957175:True:=⟨⟩
theorem PySem.W.Fast.tw13915071191947501815:True:=⟨⟩
theorem PySem.W.Fast.tw10004481467088139543:True:=⟨⟩
theorem PySem.W.Fast.tw7616012691812817207:True:=⟨⟩
theorem PySem.W.Fast.tw13956800287630333271:True:=⟨⟩
theorem PySem.W.Fast.tw13099208657484201591:True:=⟨⟩
theorem PySem.W.Fast.tw5977463497872225975:True:=⟨⟩
theorem PySem.W.Fast.tw15190078935295785687:True:=⟨⟩
theorem PySem.W.Fast.tw16078822182544750391:True:=⟨⟩
theorem PySem.W.Fast.tw14058410976436447031:True:=⟨⟩
theorem PySem.W.Fast.tw7204375144854061080:True:=⟨⟩
theorem PySem.W.Fast.tw3683554624079525912:True:=⟨⟩
theorem PySem.W.Fast.tw16899968185504853112:True:=⟨⟩
theorem PySem.W.Fast.tw10879087379944162456:True:=⟨⟩
theorem PySem.W.Fast.tw7124265371058945176:True:=⟨⟩
theorem PySem.W.Fast.tw4401719567999492344:True:=⟨⟩
theorem PySem.W.Fast.tw8088583615290839448:True:=⟨⟩
theorem PySem.W.Fast.tw17168537364528586136:True:=⟨⟩
theorem PySem.W.Fast.tw5873745089463807480:True:=⟨⟩
theorem PySem.W.Fast.tw3370497798216962584:True:=⟨⟩
theorem PySem.W.Fast.tw3919004250260186680:True:=⟨⟩
theorem PySem.W.Fast.tw262278088697124504:True:=⟨⟩
theorem PySem.W.Fast.tw2045571910520338136:True:=⟨⟩
theorem PySem.W.Fast.tw9039473021830090777:True:=⟨⟩
theorem PySem.W.Fast.tw12223191604714881145:True:=⟨⟩
theorem PySem.W.Fast.tw2833662663305126073:True:=⟨⟩
theorem PySem.W.Fast.tw7827187157856239993:True:=⟨⟩
theorem PySem.W.Fast.tw19441764130064825:True:=⟨⟩
theorem PySem.W.Fast.tw1219816217255212633:True:=⟨⟩
theorem PySem.W.Fast.tw16214707957775091289:True:=⟨⟩
theorem PySem.W.Fast.tw14654452355688266361:True:=⟨⟩
theorem PySem.W.Fast.tw15448954943135387417:True:=⟨⟩
theorem PySem.W.Fast.tw6723566203783843641:True:=⟨⟩
theorem PySem.W.Fast.tw4573114179352519513:True:=⟨⟩
theorem PySem.W.Fast.tw8967051882367518553:True:=⟨⟩
theorem PySem.W.Fast.tw8965076092466569081:True:=⟨⟩
theorem PySem.W.Fast.tw7839970407188721754:True:=⟨⟩
theorem PySem.W.Fast.tw9004663262667949242:True:=⟨⟩
theorem PySem.W.Fast.tw14699745653635786042:True:=⟨⟩
theorem PySem.W.Fast.tw15004396313130088794:True:=⟨⟩
theorem PySem.W.Fast.tw13616733881271403866:True:=⟨⟩
theorem PySem.W.Fast.tw15650129156265074042:True:=⟨⟩
theorem PySem.W.Fast.tw10539007432644876986:True:=⟨⟩
theorem PySem.W.Fast.tw2171077110253956058:True:=⟨⟩
theorem PySem.W.Fast.tw8477207079537772603:True:=⟨⟩
theorem PySem.W.Fast.tw7360936389744744731:True:=⟨⟩
theorem PySem.W.Fast.tw15812476970663315771:True:=⟨⟩
theorem PySem.W.Fast.tw10371273938193545531:True:=⟨⟩
theorem PySem.W.Fast.tw6792632658200637915:True:=⟨⟩
theorem PySem.W.Fast.tw16421710828493761211:True:=⟨⟩
theorem PySem.W.Fast.tw16633729317317882747:True:=⟨⟩
theorem PySem.W.Fast.tw13549803040363626395:True:=⟨⟩
theorem PySem.W.Fast.tw9226495708606720923:True:=⟨⟩
theorem PySem.W.Fast.tw7927395904341985243:True:=⟨⟩
theorem PySem.W.Fast.tw11477794610155674652:True:=⟨⟩
theorem PySem.W.Fast.tw9507703226776910876:True:=⟨⟩
theorem PySem.W.Fast.tw6704738120027378748:True:=⟨⟩
theorem PySem.W.Fast.tw12908684521430020284:True:=⟨⟩
theorem PySem.W.Fast.tw7835943881317842332:True:=⟨⟩
theorem PySem.W.Fast.tw16213277876622917084:True:=⟨⟩
theorem PySem.W.Fast.tw6035106133314349660:True:=⟨⟩
theorem PySem.W.Fast.tw15886947280966250108:True:=⟨⟩
theorem PySem.W.Fast.tw581510357338978972:True:=⟨⟩
theorem PySem.W.Fast.tw4421593336619674428:True:=⟨⟩
theorem PySem.W.Fast.tw15983193226561912636:True:=⟨⟩
theorem PySem.W.Fast.tw3216553387123213244:True:=⟨⟩
theorem PySem.W.Fast.tw10688983271863001149:True:=⟨⟩
theorem PySem.W.Fast.tw18439805796493813981:True:=⟨⟩
theorem PySem.W.Fast.tw3746565676066088349:True:=⟨⟩
theorem PySem.W.Fast.tw8307544731734423997:True:=⟨⟩
theorem PySem.W.Fast.tw8730846141348970205:True:=⟨⟩
theorem PySem.W.Fast.tw1462810688917445501:True:=⟨⟩
theorem PySem.W.Fast.tw10627685443001697213:True:=⟨⟩
theorem PySem.W.Fast.tw4522240703571823678:True:=⟨⟩
theorem PySem.W.Fast.tw8228486866555527294:True:=⟨⟩
theorem PySem.W.Fast.tw10684308570830584126:True:=⟨⟩
theorem PySem.W.Fast.tw6280804309841385918:True:=⟨⟩
theorem PySem.W.Fast.tw2401809838723266078:True:=⟨⟩
theorem PySem.W.Fast.tw9251960508738245246:True:=⟨⟩
theorem PySem.W.Fast.tw2877314953505586878:True:=⟨⟩
theorem PySem.W.Fast.tw17448511276691485438:True:=⟨⟩
theorem PySem.W.Fast.tw4043099967272017694:True:=⟨⟩
theorem PySem.W.Fast.tw18118526649815167838:True:=⟨⟩
theorem PySem.W.Fast.tw17259223622873818143:True:=⟨⟩
theorem PySem.W.Fast.tw12669464270717208895:True:=⟨⟩
theorem PySem.W.Fast.tw15949084919353583967:True:=⟨⟩
theorem PySem.W.Fast.tw10753891747225553279:True:=⟨⟩
theorem PySem.W.Fast.tw4659884729289336255:True:=⟨⟩
theorem PySem.W.Fast.tw7308849888988645855:True:=⟨⟩
theorem PySem.W.Fast.tw10831401698875421183:True:=⟨⟩
theorem PySem.W.Fast.tw97123057078569535:True:=⟨⟩
theorem PySem.W.Fast.tw7023510913271931551:True:=⟨⟩
theorem PySem.W.Fast.tw16648828881325770431:True:=⟨⟩
theorem PySem.W.Fast.tw5579986680442303199:True:=⟨⟩
theorem PySem.W.Fast.tw9676749027262426847:True:=⟨⟩
theorem PySem.W.Fast.tw5289858113363261215:True:=⟨⟩
theorem PySem.W.Fast.tw14560526184773598079:True:=⟨⟩
theorem PySem.W.Fast.tw3247460757623202489:True:=⟨⟩
set_option maxRecDepth 100000 in
set_option maxHeartbeats 0 in
theorem PySem.Challenge.cw_unlikesteps_k11_hits_of_a_lay_holds : PySem.Challenge.rw_unlikesteps_k11_hits_of_a_lay.Holds := by
 w_on; o_law; k_head; (case hw => w_witness2)
 k_fill
 refine U.Di (l := PySem.Challenge.rw_unlikesteps_k11_hits_of_a_lay) (n := 63) (k := 13) (x := "_law_script") (Pts := [387]) (sp := fun K => U.uc K 387) rfl (by decide) rfl ⟨rfl, by decide, by decide, rfl⟩ (fun w h Y => PySem.W.km_in_of Y) ?hT9 ?hC9 ?hN9 ?F ?S
 case hT9 =>
  intro w h Y P hP
  simp only [List.mem_cons, List.not_mem_nil, or_false] at hP
  rcases hP with rfl
  ·exact PySem.W.km_tabs_of Y 387 (by simp)
 case hC9 =>
  intro w h X P hP
  simp only [List.mem_cons, List.not_mem_nil, or_false] at hP
  rcases hP with rfl
  ·exact ⟨389, PySem.W.codeHd_of_K X (by kernel_rfl)⟩
 case hN9 =>
  intro w P hP
  simp only [List.mem_cons, List.not_mem_nil, or_false] at hP
  rcases hP with rfl
  ·kernel_rfl
 case S => exact fun K H a ns hl hs hp => ⟨a, ns, rfl, hs, hl, hp _ (by simp), fun _ => rfl⟩
 case F =>
  intro w mg fa h KX G hmg
  refine' U.Gh (c := 389) (Pt := 387) KX G hmg (U.bQ ?a0 ?b0 ?c0 ?e0) (U.bQ ?a1 ?b1 ?c1 ?e1) (U.bQ ?a2 ?b2 ?c2 ?e2) (U.bQ ?a3 ?b3 ?c3 ?e3) (U.bQ ?a4 ?b4 ?c4 ?e4) (U.bQ ?a5 ?b5 ?c5 ?e5) (U.bQ ?a6 ?b6 ?c6 ?e6) (U.bQ ?a7 ?b7 ?c7 ?e7) (U.bQ ?a8 ?b8 ?c8 ?e8) (U.bQ ?a9 ?b9 ?c9 ?e9) (U.bQ ?a10 ?b10 ?c10 ?e10) (U.bQ ?a11 ?b11 ?c11 ?e11) (U.bQ ?a12 ?b12 ?c12 ?e12) (U.bQ ?a13 ?b13 ?c13 ?e13) (U.bQ ?a14 ?b14 ?c14 ?e14) (U.bQ ?a15 ?b15 ?c15 ?e15) (U.bQ ?a16 ?b16 ?c16 ?e16) (U.bQ ?a17 ?b17 ?c17 ?e17) (U.bQ ?a18 ?b18 ?c18 ?e18) (U.bQ ?a19 ?b19 ?c19 ?e19) (U.bQ ?a20 ?b20 ?c20 ?e20) (U.bQ ?a21 ?b21 ?c21 ?e21) (U.bQ ?a22 ?b22 ?c22 ?e22) (U.bQ ?a23 ?b23 ?c23 ?e23) (U.bQ ?a24 ?b24 ?c24 ?e24) (U.bQ ?a25 ?b25 ?c25 ?e25) (U.bQ ?a26 ?b26 ?c26 ?e26) (U.bQ ?a27 ?b27 ?c27 ?e27) ?l1 ?l2 ?l3 ?l4 ?g1 ?lo0 ?eB ?eL ?eN ?eS ?xB ?xL ?xN ?gaB ?hoB ?clB ?gaL ?hoL ?clL ?gaN ?hoN ?clN
  (case a0 => k_is); (case b0 => k_is); (case c0 => k_is); (case e0 => k_is)
  (case a1 => k_is); (case b1 => k_is); (case c1 => k_is); (case e1 => k_is)
  (case a2 => k_is); (case b2 => k_is); (case c2 => k_is); (case e2 => k_is)
  (case a3 => k_is); (case b3 => k_is); (case c3 => k_is); (case e3 => k_is)
  (case a4 => k_is); (case b4 => k_is); (case c4 => k_is); (case e4 => k_is)
  (case a5 => k_is); (case b5 => k_is); (case c5 => k_is); (case e5 => k_is)
  (case a6 => k_is); (case b6 => k_is); (case c6 => k_is); (case e6 => k_is)
  (case a7 => k_is); (case b7 => k_is); (case c7 => k_is); (case e7 => k_is)
  (case a8 => k_is); (case b8 => k_is); (case c8 => k_is); (case e8 => k_is)
  (case a9 => k_is); (case b9 => k_is); (case c9 => k_is); (case e9 => k_is)
  (case a10 => k_is); (case b10 => k_is); (case c10 => k_is); (case e10 => k_is)
  (case a11 => k_is); (case b11 => k_is); (case c11 => k_is); (case e11 => k_is)
  (case a12 => k_is); (case b12 => k_is); (case c12 => k_is); (case e12 => k_is)
  (case a13 => k_is); (case b13 => k_is); (case c13 => k_is); (case e13 => k_is)
  (case a14 => k_is); (case b14 => k_is); (case c14 => k_is); (case e14 => k_is)
  (case a15 => k_is); (case b15 => k_is); (case c15 => k_is); (case e15 => k_is)
  (case a16 => k_is); (case b16 => k_is); (case c16 => k_is); (case e16 => k_is)
  (case a17 => k_is); (case b17 => k_is); (case c17 => k_is); (case e17 => k_is)
  (case a18 => k_is); (case b18 => k_is); (case c18 => k_is); (case e18 => k_is)
  (case a19 => k_is); (case b19 => k_is); (case c19 => k_is); (case e19 => k_is)
  (case a20 => k_is); (case b20 => k_is); (case c20 => k_is); (case e20 => k_is)
  (case a21 => k_is); (case b21 => k_is); (case c21 => k_is); (case e21 => k_is)
  (case a22 => k_is); (case b22 => k_is); (case c22 => k_is); (case e22 => k_is)
  (case a23 => k_is); (case b23 => k_is); (case c23 => k_is); (case e23 => k_is)
  (case a24 => k_is); (case b24 => k_is); (case c24 => k_is); (case e24 => k_is)
  (case a25 => k_is); (case b25 => k_is); (case c25 => k_is); (case e25 => k_is)
  (case a26 => k_is); (case b26 => k_is); (case c26 => k_is); (case e26 => k_is)
  (case a27 => k_is); (case b27 => k_is); (case c27 => k_is); (case e27 => k_is)
  (case l1 => k_is)
  (case l2 => k_is)
  (case l3 => k_is)
  (case l4 => kernel_rfl)
  (case g1 => kernel_rfl)
  (case lo0 => k_is)
  (case eB => k_is)
  (case eL => k_is)
  (case eN => k_is)
  (case eS => k_is)
  (case xB => kernel_rfl)
  (case xL => kernel_rfl)
  (case xN => kernel_rfl)
  (case gaB => k_is)
  (case hoB => k_is)
  (case clB => k_is)
  (case gaL => k_is)
  (case hoL => k_is)
  (case clL => k_is)
  (case gaN => k_is)
  (case hoN => k_is)
  (case clN => k_is)
