import PyProof.Rows.All
import Wide.All
import OpenK.AllK
import Wide.FinOn
import Lean
import PyProof.EqAt
import PyProof.EqKinds
import PyProof.TupleCall
import PyProof.NeKinds
import PyProof.Rows.SortWalk
import PyProof.Rows.SortRuns
import KE.KMinKey
import PyProof.IsRules
import PySem.SetOps
import PyProof.SetScanFacts
import PyProof.TupleKey
import PyProof.SetKind
import PyProof.Rows.SetFrom
import KE.KRevSl
import PyProof.Rows.SumAny
import PyProof.EnumMake
import PyProof.SeqI3
import PyProof.TupleOfGen
import PyProof.ListRange
import PyProof.CollectIter
import PyProof.DictItems
import KE.KDictList
import PySem.Challenge.RW_unlikesteps_k71_corners_put_to
set_option Elab.async false
set_option linter.all false
set_option compiler.extract_closed false
local macro_rules|`(.o)=>`(by omega)
local macro_rules|`(.d)=>`(by decide)
set_option maxRecDepth 100000
set_option maxHeartbeats 0
def Zaa:=@PySem.wpAny_bind
def Zab:=@PySem.Heap.get?_push_of_some
def Zad:=@List.getElem?_eq_some_iff
def Zae:=@Nat.le_refl
def Zaf:=@PySem.wpAny_pure
def Zag:=@List.getElem?_eq_getElem
def Zaj:=@List.size_toArray
def Zan:=@List.mem_cons_of_mem
def Zao:=@List.mem_cons
def Zap:=@List.length_append
def Zaq:=@PySem.Heap.lt_size
def Zar:=@List.length_map
def Zas:=@List.mem_cons_self
def Zat:=@PySem.Heap.get?_push_size
def Zau:=@Array.length_toList
def Zav:=@List.mem_append_right
def Zaw:=@Bool.false_ne_true
def Zax:=@List.mem_singleton
def Zay:=@PyProof.Rows.wpS_bind
def Zaz:=@Nat.lt_of_lt_of_le
def ZaA:=@decide_eq_false
def ZaC:=@List.mem_append
def ZaD:=@PyProof.Rows.wpS_pure
def ZaE:=@Nat.ne_of_lt
def ZaH:=@PySem.sizeLine_eq
def ZaK:=@if_neg
def ZaL:=@Bool.and_eq_true
def ZaP:=@Array.getElem?_toList
def ZaR:=@decide_eq_true
def ZaS:=@List.length_take
def ZaV:=@Nat.zero_le
def ZaW:=@List.mem_append_left
def ZaX:=@List.mem_of_getElem?
def ZaY:=@if_pos
def ZaZ:=@List.all_eq_true
def Za0:=@PySem.F.plainAttrs_list
def Za1:=@Bool.false_eq_true
def Za3:=@List.append_assoc
def Zba:=@Array.getElem?_eq_some_iff
def Zbc:=@List.not_mem_nil
def Zbf:=@List.pairwise_append
def Zbk:=@Option.map_eq_some_iff
def Zbr:=@List.mem_range
def Zbs:=@PySem.wpAny_mono
def Zbu:=@List.take_append_drop
def Zbw:=@PyProof.Rows.boot_isinstance
def Zbx:=@PySem.F.slot_list_append
def Zby:=@PySem.F.type_list_append
def Zbz:=@List.length_cons
def ZbA:=@List.map_append
def ZbB:=@List.length_drop
def ZbC:=@Nat.max_eq_right
def ZbD:=@List.nodup_iff_pairwise_ne
def ZbE:=@Option.some.inj
def ZbF:=@List.mem_map
def ZbG:=@List.getElem?_map
def ZbH:=@List.mem_of_mem_drop
def ZbI:=@Nat.lt_irrefl
def ZbJ:=@List.map_cons
def ZbK:=@Array.toList_push
def ZbL:=@List.getD_eq_getElem?_getD
def ZbM:=@List.mem_filter
def ZbN:=@List.Pairwise.sublist
def ZbO:=@List.take_add_one
def ZbP:=@PySem.Heap.get?_update_other
def ZbQ:=@PySem.wpAny_field
def ZbR:=@PySem.wpAny_newObj_type
def ZbS:=@PySem.wpAny_holding
def ZbT:=@List.append_nil
def ZbU:=@List.pairwise_cons
def ZbV:=@PySem.mem_of_lookup
def ZbW:=@Array.getElem?_eq_getElem
def ZbX:=@List.drop_eq_nil_of_le
def ZbY:=@PyProof.Rows.wpS_forRange
def ZbZ:=@List.take_of_length_le
def Zb0:=@PySem.Around.under_plainId
def Zb1:=@List.forall_mem_cons
def Zb2:=@List.take_length
def Zb3:=@PyProof.Rows.callWith_type1
def Zb4:=@PyProof.Rows.slot_tuple_getitem
def Zb5:=@decide_eq_true_eq
def Zb6:=@Bool.not_eq_true'
def Zb7:=@PySem.wpAny_seqItems
def Zb8:=@PySem.wpAny_callSpecial?_slot
def Zb9:=@Array.toList_append
def Zca:=@Int.toNat_of_nonneg
def Zcb:=@List.length_range
def Zcc:=@Classical.byContradiction
def Zcd:=@Nat.le_trans
def Zce:=@List.mem_of_mem_take
def Zcf:=@PySem.Paired.length
def Zcg:=@List.mem_filterMap
def Zch:=@List.getElem?_take_of_lt
def Zci:=@PySem.W.kia_one
def Zcj:=@List.length_replicate
def Zck:=@PySem.codeAny_builtin
def Zcl:=@List.getElem_of_mem
def Zcm:=@PySem.W.mg_of
def Zcn:=@List.getElem?_append_right
def Zco:=@Array.perm_iff_toList_perm
def Zdc:=@PySem.F.excBase_ValueError
def Zdd:=@List.getElem?_of_mem
def Zde:=@PySem.wpAny_Call_Name_kw
def Zdf:=@List.replicate_succ
def Zdg:=@PySem.Heap.SameBut.update
def Zdh:=@of_decide_eq_true
def Zdi:=@PySem.Heap.get?_update_self
def Zdj:=@List.filterMap_cons_some
def Zdk:=@beq_iff_eq
def Zdl:=@List.pairwise_map
def Zdm:=@List.Pairwise.imp
def Zdn:=@if_false
def Zdo:=@or_false
def Zdp:=@PySem.Heap.size_push
def Zdq:=@PySem.wpAny_call_entry
def Zdr:=@PySem.wpAny_truthy_bool
def Zds:=@List.getElem?_append_left
def Zdt:=@List.drop_eq_getElem_cons
def Zdu:=@List.nodup_cons
def Zdv:=@List.length_nil
def Zdw:=@List.length_singleton
def Zdx:=@List.nil_append
def Zdy:=@Option.isSome_iff_exists
def Zdz:=@PySem.SeqAt.EqAt.int_int
def ZdD:=@List.getElem?_drop
def ZdK:=@Int.emod_lt_of_pos
def ZdS:=@Ne.symm
def ZdV:=@List.getElem?_replicate
def Zd2:=@List.pairwise_singleton
def Zd3:=@List.filter_cons_of_pos
def Zea:=@List.filter_cons_of_neg
def Zeb:=@Nat.le_of_lt
def Zec:=@PySem.codeAny_mono
def Zed:=@PyProof.Rows.F.plain_set_update_loop
def Zee:=@PySem.wpAny_rule
def Zef:=@List.take_sublist
def Zeg:=@Int.toNat_natCast
def Zeh:=@Nat.lt_succ_of_lt
def Zei:=@List.drop_sublist
def Zej:=@List.filterMap_cons
def Zek:=@Bool.eq_iff_iff
def Zel:=@List.mem_map_of_mem
def Zem:=@List.getElem?_set_self
def Zen:=@PySem.F.slot_tuple_iterator_next
def Zeo:=@List.perm_ext_iff_of_nodup
def Zep:=@PySem.call_meets
def Zeq:=@List.nodup_range
def Zer:=@PySem.W.of_hideAll
def Zes:=@List.zip_cons_cons
def Zet:=@Nat.lt_of_le_of_lt
def Zeu:=@PySem.Obj.data_mapFields
def Zev:=@PySem.plainId_quiet
def Zew:=@List.Perm.append_left
def Zex:=@Nat.sub_add_cancel
def Zey:=@List.filter_append
def Zez:=@Bool.false_and
def ZeA:=@Bool.and_false
def ZeB:=@List.getElem?_set_ne
def ZeC:=@List.find?_cons
def ZeD:=@PySem.wpAny_comprehension_free
def ZeE:=@Nat.min_eq_left
def ZeF:=@List.range_succ
def ZeG:=@Nat.not_lt_zero
def ZeH:=@Int.emod_nonneg
def ZeI:=@PySem.wpAny_setState_of
def ZeJ:=@Nat.lt_of_succ_lt
def ZeK:=@PyProof.Rows.boot_tuple
def ZeL:=@PySem.PassesOwn.never
def ZeM:=@congrArg
def ZeN:=@PySem.wpAny_standAt
def ZeO:=@List.pairwise_filterMap
def ZeP:=@Option.getD_some
def ZeQ:=@List.lookup_cons
def ZeR:=@List.getElem_mem
def ZeS:=@Nat.le_add_right
def ZeT:=@List.mem_flatMap
def ZeU:=@PyProof.Rows.joinParts_cons
def ZeV:=@List.drop_zero
def ZeW:=@PyProof.Rows.wpS_modify
def ZeX:=@List.drop_drop
def ZeY:=@PySem.F.slot_tuple_mul
def ZeZ:=@PySem.wpAny_setField_rec
def Ze0:=@PyProof.Rows.wpS_mono
def Ze1:=@of_decide_eq_false
def Ze2:=@if_true
def Ze3:=@List.foldl_cons
def Ze4:=@Option.map_some
def Ze5:=@PySem.W.kia_tup
def Ze7:=@Int.zero_add
def Ze8:=@PySem.wpAny_pyIter_list
def Zfb:=@PySem.boot_len
def Zfd:=@PySem.wpAny_setField
def Zfe:=@PySem.wpAny_tryCatch
def Zfh:=@PySem.wpAny_pyIter_zip
def Zfm:=@PySem.Paired.snoc
def Zfn:=@PyProof.Rows.slot_tupleiter_next
def Zfr:=@PySem.wpAny_typeOf
def Zfx:=@PySem.wpAny_passesOwn
def Zfz:=@PyProof.Rows.boot_list
def ZfH:=@PySem.WalksT.enumerateD
def ZfI:=@PySem.wpAny_pyIter_enum
def ZfO:=@PyProof.Rows.formatField_int_small
def ZfQ:=@PySem.wpAny_forIn_list
def ZfS:=@PyProof.Rows.wpS_get
def ZfU:=@PySem.F.plain_min_loop
def ZfZ:=@PyProof.Rows.FormattedValue_plain
def Zf7:=@PySem.wpAny_letGo
def Zgc:=@PyProof.Rows.vals1
def Zg4:=@PyProof.Rows.pairsOf_size
def Zha:=@PyProof.Rows.wpS_lift
abbrev ZhQ:=PySem.W.Frag
namespace L2
open PySem PySem.Spec PyProof.Rows
theorem CJ:0<=sizeLine:=.d
theorem bO:1<=sizeLine:=.d
theorem aX:2<=sizeLine:=.d
theorem yd:3<=sizeLine:=.d
theorem qJ:4<=sizeLine:=.d
theorem LV:5<=sizeLine:=.d
theorem CI:7<=sizeLine:=.d
theorem LU:8<=sizeLine:=.d
abbrev Key:=Sum Int Str
def pC:Key->Value->Bool
 | .inl k,v=>Value.isInt k v
 | .inr x,v=>Value.isStrOf x v
def OB (w:World):Key->Int
 | .inl k=>hashInt k
 | .inr x=>hashStr w x
theorem ZY:∀{k:Key}{v:Value},pC k v=true->(∃i t,k=Sum.inl i/\v=Value.int i t)∨(∃x t,k=Sum.inr x/\v=Value.str x t)
 | .inl i,v,h=>by
  obtain⟨t,e⟩:=Value.isInt_shape (k:=i) (v:=v) h
  exact .inl ⟨i,t,rfl,e⟩
 | .inr x,v,h=>by
  obtain⟨t,e⟩:=Value.isStrOf_shape (x:=x) (v:=v) h
  exact .inr ⟨x,t,rfl,e⟩
theorem ZcW (i:Int) (t:Tok):pC (.inl i) (.int i t)=true:=by simp[pC,Value.isInt]
theorem ZcV (x:Str) (t:Tok):pC (.inr x) (.str x t)=true:=by simp[pC,Value.isStrOf]
theorem Vv (a b:Int):decide ((Sum.inl a:Key)=Sum.inl b)=(a==b):=by
 by_cases e:a=b
 ·subst e;simp
 ·have h:¬(Sum.inl a:Key)=Sum.inl b:=fun q=>e (Sum.inl.inj q)
  rw[ZaA h]
  exact(beq_eq_false_iff_ne.mpr e).symm
theorem Vy (a b:Str):decide ((Sum.inr a:Key)=Sum.inr b)=decide (a=b):=by
 by_cases e:a=b
 ·subst e;simp
 ·have h:¬(Sum.inr a:Key)=Sum.inr b:=fun q=>e (Sum.inr.inj q)
  rw[ZaA h,ZaA e]
theorem Vw (a:Int) (b:Str):decide ((Sum.inl a:Key)=Sum.inr b)=false:=ZaA (fun q=>nomatch q)
theorem Vx (a:Str) (b:Int):decide ((Sum.inr a:Key)=Sum.inl b)=false:=ZaA (fun q=>nomatch q)
def eR (prog:Program) (w:World):PySem.KeyKind prog w Key where
 is:=pC
 hash:=OB w
 inj:=fun v a b ha hb=>by
  rcases ZY ha with ⟨i,t,rfl,rfl⟩ |⟨x,t,rfl,rfl⟩
  ·rcases ZY hb with ⟨j,u,rfl,e⟩ |⟨y,u,rfl,e⟩
   ·injection e with e1 _;rw[e1]
   ·exact nomatch e
  ·rcases ZY hb with ⟨j,u,rfl,e⟩ |⟨y,u,rfl,e⟩
   ·exact nomatch e
   ·injection e with e1 _;rw[e1]
 byValue:=fun k v h=>by
  rcases ZY h with ⟨i,t,rfl,rfl⟩ |⟨x,t,rfl,rfl⟩<;>rfl
 pyHash:=fun hv h=>by
  rcases ZY hv with ⟨i,t,rfl,rfl⟩ |⟨x,t,rfl,rfl⟩
  ·exact wpAny_pyHash_int h
  ·exact wpAny_pyHash_str h
 eqBool:=fun hu hv h=>by
  rcases ZY hu with ⟨i,t,rfl,rfl⟩ |⟨x,t,rfl,rfl⟩
  ·rcases ZY hv with ⟨j,u,rfl,rfl⟩ |⟨y,u,rfl,rfl⟩
   ·rw[Vv]at h;exact wpAny_eqBool_int h
   ·rw[Vw]at h;exact SeqAt.EqAt.int_str i t y u _ _ _ _ h
  ·rcases ZY hv with ⟨j,u,rfl,rfl⟩ |⟨y,u,rfl,rfl⟩
   ·rw[Vx]at h;exact SeqAt.EqAt.str_int x t j u _ _ _ _ h
   ·rw[Vy]at h;exact wpAny_eqBool_str h
 «strs» :=fun k x t v h=>by
  rcases ZY h with ⟨i,u,rfl,e⟩ |⟨y,u,rfl,e⟩
  ·exact nomatch e
  ·injection e with e1 _
   subst e1
   cases v<;>rfl
theorem ZaG (prog:Program) (w:World) (i:Int) (t:Tok):(eR prog w).is (.inl i) (.int i t)=true:=ZcW i t
theorem ZaF (prog:Program) (w:World) (x:Str) (t:Tok):(eR prog w).is (.inr x) (.str x t)=true:=ZcV x t
inductive V where
 |ah |bl (b:Bool) |int (i:Int) |str (x:Str) |ir (b:Array UInt8) |gH (b:UInt64) |ref (a:Addr) |ty (n:String)
 deriving DecidableEq
def RelV:V->Value->Prop
 | .ah,u=>u=Value.none
 | .bl b,u=>u=Value.bool b
 | .int i,u=> ∃t,u=Value.int i t
 | .str x,u=> ∃t,u=Value.str x t
 | .ir b,u=> ∃t,u=Value.bytes b t
 | .gH b,u=> ∃t,u=Value.float b t
 | .ref a,u=>u=Value.ref a
 | .ty n,u=>u=Value.type n
abbrev Vals:List V->List Value->Prop:=Paired RelV
theorem Vals.length {xs:List V}{us:List Value}(r:Vals xs us):xs.length=us.length:=Zcf r
theorem Vals.get:∀{xs:List V}{us:List Value}{i:Nat}{x:V},Vals xs us->xs[i]? =some x->∃u,us[i]? =some u/\RelV x u
 |_,_,_,_,.nil,e=>by simp at e
 |_,_,0,_,.cons r _,e=>by simp at e;subst e;exact⟨_,rfl,r⟩
 |_,_,i+1,x,.cons _ t,e=>by
  obtain⟨u,h1,h2⟩:=Vals.get (i:=i) (x:=x) t (by simpa using e)
  exact⟨u,by simpa using h1,h2⟩
theorem Vals.set {x:V}{u:Value}(r:RelV x u):∀{xs:List V}{us:List Value}(i:Nat),Vals xs us->Vals (xs.set i x) (us.set i u)
 |_,_,_,.nil=> .nil
 |_,_,0,.cons _ t=> .cons r t
 |_,_,i+1,.cons q t=> .cons q (Vals.set r i t)
theorem Vals.append:∀{xs ys:List V}{us ws:List Value},Vals xs us->Vals ys ws->Vals (xs++ys) (us++ws)
 |_,_,_,_,.nil,s=>s
 |_,_,_,_,.cons r t,s=> .cons r (Vals.append t s)
theorem Vals.take:∀{xs:List V}{us:List Value}(n:Nat),Vals xs us->Vals (xs.take n) (us.take n)
 |_,_,0,_=> .nil
 |_,_,_+1,.nil=> .nil
 |_,_,n+1,.cons r t=> .cons r (Vals.take n t)
theorem Vals.drop:∀{xs:List V}{us:List Value}(n:Nat),Vals xs us->Vals (xs.drop n) (us.drop n)
 |_,_,0,r=>r
 |_,_,_+1,.nil=> .nil
 |_,_,n+1,.cons _ t=>Vals.drop n t
def kE:Option V->Option Value->Prop
 |some v,some u=>RelV v u
 |none,none=>True
 |_,_=>False
def KV {κ:Type} :List (κ×V)->List (κ×Value)->Prop:=Paired fun(p:κ×V) (q:κ×Value)=>p.1=q.1/\RelV p.2 q.2
def kV:Key->V
 | .inl i=> .int i
 | .inr x=> .str x
inductive HO where
  |lst (xs:List V)
  |tup (xs:List V)
  |par (xs:List V)
  |dK (af:List (Key×V)) |dT (af:List (List Key×V))
  |set (S:Int->Bool) (n:Nat)
  |ins (C dx:Addr) (fs:List (Str×V))
  |own (x:Addr)
  |xd (fs:List (Str×V))
  |met (f x:Addr)
  |fj (lo hi:Int)
  |cb (o:Obj) (u:HO)
  |bM (ps:Array Value)
  |ext (φ:Heap->Prop)
abbrev Hp:=Addr->Option HO
def upd (H:Hp) (a:Addr) (o:HO):Hp:=fun b=>if b=a then some o else H b
theorem Ze {H:Hp}{a:Addr}{o:HO} :upd H a o a=some o:=by unfold upd;rw[ZaY rfl]
theorem Zh {H:Hp}{a b:Addr}{o:HO}(h:b≠a):upd H a o b=H b:=by unfold upd;rw[ZaK h]
theorem Ym {H:Hp}{a b:Addr}{o u:HO}(h:H a=some o) (h':H b=some u) (d:o≠u):a≠b:=by
 intro e;subst e;rw[h]at h';exact d (ZbE h')
theorem Zg {H:Hp}{a b:Addr}{o:HO}(h:H a=some o) (h':H b=none):a≠b:=by
 intro e;subst e;rw[h]at h';cases h'
section
variable (P:Program) (w:World)
def bu (H:Hp) (h:Heap) (a:Addr):HO->Prop
 | .lst xs=>xs.length<=sizeLine/\∃(aa:List Value) (n:Nat),Vals xs aa/\h.get? a=some {cls:=.type "list",data:=.seq aa.toArray n}
 | .tup xs=>xs.length<=sizeLine/\∃aa:List Value,Vals xs aa/\IsTup h a aa.toArray/\∃o,h.get? a=some o/\o.dict=none
 | .par xs=>xs.length<=sizeLine/\∃aa:List Value,Vals xs aa/\IsTup h a aa.toArray
 | .dK af=>af.length<=sizeLine/\(a==sysModules)=false/\∃vs,KV af vs/\h.DictOf (eR P w) a vs
 | .dT af=>af.length<=sizeLine/\(a==sysModules)=false/\∃xs:List (List Key×Addr×Value),
   Paired (fun(p:List Key×V) (q:List Key×Addr×Value)=>p.1=q.1/\H q.2.1=some (.tup (p.1.map kV))/\RelV p.2 q.2.2) af xs/\
   ∃o es ep,h.get? a=some o/\o.ExactDict/\o.data=.dict es ep/\es.toList=xs.map (entryOfKey (tupleKind (eR P w)))/\(xs.map (·.1)).Nodup
 | .set S n=>h.SetOf (intKind P w) a S n
 | .ins C dx fs=>H dx=some (.own a)/\fs.length<=1000/\dx≠a/\h.get? a=some (PySem.W.instObj C dx)/\
   ∃mA,h.Ns1 dx mA/\(∀f,kE (fs.lookup f) (mA f))/\PySem.Within mA (fs.map (·.1))
 | .own _=> ∃o,h.get? a=some o
 | .xd fs=> ∃mA,h.Ns1 a mA/\∀f,kE (fs.lookup f) (mA f)
 | .fj lo hi=> ∃t u v,h.get? a=some {cls:=.type "range",data:=.fields #[.int lo t,.int hi u,.int 1 v]}
 | .cb o u=>h.get? a=some o/\bu H h a u
 | .bM ps=>h.get? a=some {cls:=.none,data:=.fields ps}
 | .met f x=>h.get? a=some (PySem.W.methodObj (.ref f) (.ref x))
 | .ext φ=>φ h/\(∃o,h.get? a=some o)/\∀h1 h2:Heap,φ h1->(∀o,h1.get? a=some o->h2.get? a=some o)->φ h2
def bD (H:Hp) (h:Heap):Prop:=∀a o,H a=some o->bu P w H h a o
end
section
variable {P:Program}{w:World}{H H':Hp}{h h':Heap}{a:Addr}{o:HO}
theorem bu.lt (x:bu P w H h a o):a<h.objs.size:=by
 cases o with
 |lst xs=>obtain⟨_,_,_,_,e⟩:=x;exact Zaq e
 |tup xs=>obtain⟨_,_,_,p,_⟩:=x;exact p.lt
 |par xs=>obtain⟨_,_,_,p⟩:=x;exact p.lt
 |dK af=>obtain⟨_,_,_,_,o,_,_,e,_⟩:=x;exact Zaq e
 |dT af=>obtain⟨_,_,_,_,o,_,_,e,_⟩:=x;exact Zaq e
 |set S n=>obtain⟨o,_,_,_,e,_⟩:=x;exact Zaq e
 |ins C dx fs=>obtain⟨_,_,_,e,_⟩:=x;exact Zaq e
 |own y=>obtain⟨_,e⟩:=x;exact Zaq e
 |xd fs=>obtain⟨_,⟨_,_,_,e,_⟩,_⟩:=x;exact Zaq e
 |fj lo hi=>obtain⟨_,_,_,e⟩:=x;exact Zaq e
 |cb ob u=>obtain⟨e,_⟩:=x;exact Zaq e
 |bM ps=>exact Zaq (show h.get? a=some _ from x)
 |met f y=>exact Zaq (show h.get? a=some _ from x)
 |ext φ=>obtain⟨_,⟨_,e⟩,_⟩:=x;exact Zaq e
theorem Paired.dq {α β:Type}{F G:α->β->Prop} :∀{kY:List α}{kX:List β},Paired F kY kX->(∀a b,F a b->G a b)->Paired G kY kX
 |_,_,.nil,_=> .nil
 |_,_,.cons r t,f=> .cons (f _ _ r) (Paired.dq t f)
theorem bu.cE (x:bu P w H h a o) (k:∀b u,(b=a∨H b=some (.own a))->h.get? b=some u->h'.get? b=some u)
  (ho:∀b,H b=some (.own a)->H' b=some (.own a)) (ht:∀b xs,H b=some (.tup xs)->H' b=some (.tup xs)):bu P w H' h' a o:=by
 induction o with
 |lst xs=>obtain⟨z,aa,n,r,e⟩:=x;exact⟨z,aa,n,r,k _ _ (.inl rfl) e⟩
 |tup xs=>obtain⟨z,aa,r,⟨ob,e,c⟩,o2,e2,c2⟩:=x;exact⟨z,aa,r,⟨ob,k _ _ (.inl rfl) e,c⟩,o2,k _ _ (.inl rfl) e2,c2⟩
 |par xs=>obtain⟨z,aa,r,ob,e,c⟩:=x;exact⟨z,aa,r,ob,k _ _ (.inl rfl) e,c⟩
 |dK af=>obtain⟨z,y,vs,r,ob,es,ep,e,c⟩:=x;exact⟨z,y,vs,r,ob,es,ep,k _ _ (.inl rfl) e,c⟩
 |dT af=>
  obtain⟨z,y,xs,r,ob,es,ep,e,c⟩:=x
  exact⟨z,y,xs,Paired.dq r fun p q z=> ⟨z.1,ht _ _ z.2.1,z.2.2⟩,ob,es,ep,k _ _ (.inl rfl) e,c⟩
 |set S n=>obtain⟨ob,es,ep,t,e,c⟩:=x;exact⟨ob,es,ep,t,k _ _ (.inl rfl) e,c⟩
 |ins C dx fs=>
  obtain⟨d,z,ne,e,mA,⟨od,es,ep,e2,c⟩,r⟩:=x
  exact⟨ho _ d,z,ne,k _ _ (.inl rfl) e,mA,⟨od,es,ep,k _ _ (.inr d) e2,c⟩,r⟩
 |own y=>obtain⟨ob,e⟩:=x;exact⟨ob,k _ _ (.inl rfl) e⟩
 |xd fs=>obtain⟨mA,⟨od,es,ep,e,c⟩,r⟩:=x;exact⟨mA,⟨od,es,ep,k _ _ (.inl rfl) e,c⟩,r⟩
 |fj lo hi=>obtain⟨t,u,v,e⟩:=x;exact⟨t,u,v,k _ _ (.inl rfl) e⟩
 |cb ob u ih=>obtain⟨e,q⟩:=x;exact⟨k _ _ (.inl rfl) e,ih q⟩
 |bM ps=>
  have e:h.get? a=some {cls:=.none,data:=.fields ps} :=x
  show h'.get? a=some {cls:=.none,data:=.fields ps}
  exact k a _ (.inl rfl) e
 |met f y=>
  have e:h.get? a=some (PySem.W.methodObj (.ref f) (.ref y)):=x
  show h'.get? a=some (PySem.W.methodObj (.ref f) (.ref y))
  exact k a _ (.inl rfl) e
 |ext φ=>obtain⟨p,⟨o,e⟩,st⟩:=x;exact⟨st _ _ p fun o q=>k _ _ (.inl rfl) q,⟨o,k _ _ (.inl rfl) e⟩,st⟩
theorem bD.lt (x:bD P w H h) (e:H a=some o):a<h.objs.size:=(x a o e).lt
theorem bD.fresh (x:bD P w H h) (e:h.objs.size<=a):H a=none:=by
 cases q:H a with
 |none=>rfl
 |some u=>exact absurd (Zaz (x.lt q) e) (ZbI _)
theorem bD.kept (x:bD P w H h) (k:∀b u,h.get? b=some u->h'.get? b=some u):bD P w H h':=fun a o e=>
 (x a o e).cE (fun b u _ q=>k b u q) (fun _ q=>q) fun _ _ q=>q
theorem bD.laid (x:bD P w H h) (k:∀b u,h.get? b=some u->h'.get? b=some u) (hp:h.objs.size<=a) (new:bu P w (upd H a o) h' a o):bD P w (upd H a o) h':=fun b u e=>by
 have hn:=x.fresh hp
 by_cases hb:b=a
 ·subst hb;rw[Ze]at e;cases e;exact new
 ·rw[Zh hb]at e
  exact(x b u e).cE (fun c v _ q=>k c v q) (fun c q=>by rw[Zh (Zg q hn)];exact q) fun c xs q=>by rw[Zh (Zg q hn)];exact q
end
def Rd (H:Hp) (a:Addr) (u:HO):Prop:=H a=some u∨∃o,H a=some (.cb o u)
theorem Rd.ok {P:Program}{w:World}{H:Hp}{h:Heap}{a:Addr}{u:HO}(r:Rd H a u) (x:bD P w H h):bu P w H h a u:=by
 rcases r with r |⟨o,r⟩
 ·exact x a u r
 ·obtain⟨_,q⟩:=x a _ r
  exact q
def tP:Option HO->Prop
 |some (.lst _)=>True
 |some (.dK _)=>True
 |some (.dT _)=>True
 |some (.set _ _)=>True
 |some (.ins _ _ _)=>True
 |some (.ext _)=>True
 |_=>False
section
variable {P:Program}{w:World}{H:Hp}{h h':Heap}{x e:Addr}{o':HO}
theorem bD.write (ok:bD P w H h) (mu:tP (H x)) (he:e=x∨H e=some (.own x)) (k:∀b u,b≠e->h.get? b=some u->h'.get? b=some u) (pR:∃u,h'.get? e=some u)
  (new:bu P w (upd H x o') h' x o'):bD P w (upd H x o') h':=fun b u q=>by
 have DB:∀c y,H c=some (.own y)->c≠x:=fun c y r z=>by subst z;rw[r]at mu;exact mu
 have ND:∀c xs,H c=some (.tup xs)->c≠x:=fun c xs r z=>by subst z;rw[r]at mu;exact mu
 by_cases hb:b=x
 ·subst hb;rw[Ze]at q;cases q;exact new
 ·rw[Zh hb]at q
  by_cases jt:b=e
  ·have q':H b=some (.own x):=by
    rcases he with z |z
    ·exact absurd (jt.trans z) hb
    ·rw[jt];exact z
   rw[q]at q';cases q'
   obtain⟨v,hv⟩:=pR
   exact⟨v,by rw[jt];exact hv⟩
  ·refine(ok b u q).cE (fun c v hc r=>k c v ?_ r) (fun c r=>by rw[Zh (DB c b r)];exact r) fun c xs r=>by rw[Zh (ND c xs r)];exact r
   rcases hc with rfl |hc
   ·exact jt
   ·rintro rfl
    rcases he with z |z
    ·exact DB c b hc z
    ·rw[hc]at z;cases z;exact hb rfl
end
structure Un (fs ex:List Addr) (H H':Hp) (h h':Heap):Prop where
 keep:∀b o,h.get? b=some o->H b=none->b∉fs->b∉ex->h'.get? b=some o
 slot:∀b o,h.get? b=some o->H b=none->b∈fs->b∉ex->∃sl,h'.get? b=some {o with slots:=sl}
 free:∀b o,h.get? b=some o->H b=none->b∉ex->H' b=none
 there:∀b o,h.get? b=some o->b∉ex->∃o',h'.get? b=some o'
 dM:∀b xs,H b=some (.tup xs)->H' b=some (.tup xs)
 dJ:∀b o u,H b=some (.cb o u)->H' b=some (.cb o u)
 dD:∀b ps,H b=some (.bM ps)->∃more,H' b=some (.bM (ps++more))
section
variable {fs nM ex FX:List Addr}{H H1 H2:Hp}{h h1 h2 h':Heap}{a x e:Addr}{o:HO}
theorem Un.any (u:Un fs ex H H1 h h1) {b:Addr}{ob:Obj}(q:h.get? b=some ob) (n:H b=none) (hx:b∉ex):∃sl,h1.get? b=some {ob with slots:=sl} :=by
 by_cases hb:b∈fs
 ·exact u.slot b ob q n hb hx
 ·exact⟨ob.slots,u.keep b ob q n hb hx⟩
theorem Un.trans (a:Un fs ex H H1 h h1) (b:Un fs ex H1 H2 h1 h2):Un fs ex H H2 h h2 where
 keep:=fun c ob q n hc hx=>b.keep c ob (a.keep c ob q n hc hx) (a.free c ob q n hx) hc hx
 slot:=fun c ob q n hc hx=>by
  obtain⟨sl,e1⟩:=a.slot c ob q n hc hx
  obtain⟨oQ,e2⟩:=b.slot c _ e1 (a.free c ob q n hx) hc hx
  exact⟨oQ,e2⟩
 free:=fun c ob q n hx=>by
  obtain⟨o',e1⟩:=a.there c ob q hx
  exact b.free c o' e1 (a.free c ob q n hx) hx
 there:=fun c ob q hx=>by
  obtain⟨o',e1⟩:=a.there c ob q hx
  exact b.there c o' e1 hx
 dM:=fun c xs q=>b.dM c xs (a.dM c xs q)
 dJ:=fun c ob xs q=>b.dJ c ob xs (a.dJ c ob xs q)
 dD:=fun c ps q=>by
  obtain⟨m1,e1⟩:=a.dD c ps q
  obtain⟨m2,e2⟩:=b.dD c _ e1
  exact⟨m1++m2,by rw[e2,Array.append_assoc]⟩
theorem Un.kept (k:∀b u,h.get? b=some u->h'.get? b=some u):Un fs ex H H h h':=
 ⟨fun b ob q _ _ _=>k b ob q,fun b ob q _ _ _=> ⟨ob.slots,k b ob q⟩,fun _ _ _ n _=>n,fun b ob q _=> ⟨ob,k b ob q⟩,fun _ _ q=>q,fun _ _ _ q=>q,fun _ ps q=> ⟨#[],by rw[q];simp⟩⟩
theorem Un.refl:Un fs ex H H h h:=Un.kept fun _ _ q=>q
theorem Un.laid (k:∀b u,h.get? b=some u->h'.get? b=some u) (hp:h.objs.size<=a) (hn:H a=none):Un fs ex H (upd H a o) h h' where
 keep:=fun b u q _ _ _=>k b u q
 slot:=fun b u q _ _ _=> ⟨u.slots,k b u q⟩
 free:=fun b u q n _=>by rw[Zh (ZaE (Zaz (Zaq q) hp))];exact n
 there:=fun b u q _=> ⟨u,k b u q⟩
 dM:=fun b xs q=>by rw[Zh (Zg q hn)];exact q
 dJ:=fun b u xs q=>by rw[Zh (Zg q hn)];exact q
 dD:=fun b ps q=> ⟨#[],by rw[Zh (Zg q hn),q];simp⟩
theorem Un.write (mu:tP (H x)) (he:e=x∨H e=some (.own x)) (k:∀b u,b≠e->h.get? b=some u->h'.get? b=some u) (pR:∃u,h'.get? e=some u):Un fs ex H (upd H x o) h h':=by
 have hx:∀b,H b=none->b≠x:=fun b n z=>by subst z;rw[n]at mu;exact mu
 have hb:∀b,H b=none->b≠e:=fun b n z=>by
  subst z
  rcases he with r |r
  ·exact hx b n r
  ·rw[n]at r;cases r
 have hm:∀b u,H b=some u->¬tP (some u)->b≠x:=fun b u q nm z=>by subst z;rw[q]at mu;exact nm mu
 refine⟨fun b u q n _ _=>k b u (hb b n) q,fun b u q n _ _=> ⟨u.slots,k b u (hb b n) q⟩,fun b u q n _=>by rw[Zh (hx b n)];exact n,fun b u q _=> ?_,
  fun b xs q=>by rw[Zh (hm b _ q fun z=>z)];exact q,fun b u xs q=>by rw[Zh (hm b _ q fun z=>z)];exact q,fun b ps q=> ⟨#[],by rw[Zh (hm b _ q fun z=>z),q];simp⟩⟩
 by_cases jt:b=e
 ·subst jt;exact pR
 ·exact⟨u,k b u jt q⟩
theorem Un.mono (u:Un fs ex H H1 h h1) (hs:∀b∈fs,b∈nM) (hx:∀b∈ex,b∈FX):Un nM FX H H1 h h1:=
 ⟨fun b ob q n hb he=>u.keep b ob q n (fun z=>hb (hs b z)) fun z=>he (hx b z),fun _ _ q n _ he=>u.any q n fun z=>he (hx _ z),fun b ob q n he=>u.free b ob q n fun z=>he (hx b z),fun b ob q he=>u.there b ob q fun z=>he (hx b z),u.dM,u.dJ,u.dD⟩
end
def uo (h:Heap) (H:Hp):List Addr:=(List.range h.objs.size).filter fun a=> (H a).isSome
def ij (h:Heap) (H:Hp):Heap:=PySem.W.hideAll h (uo h H)
theorem UG (h:Heap) (H:Hp):(ij h H).objs.size=h.objs.size:=PySem.W.hideAll_size _ _
theorem IV {h:Heap}{H:Hp}{b:Addr}{o:Obj}(e:h.get? b=some o) (n:H b=none):(ij h H).get? b=some o:=
 PySem.W.hideAll_get _ e fun hm=>by
  have q:(H b).isSome=true:=(ZbM.mp hm).2
  rw[n]at q;simp at q
theorem HR {h:Heap}{H:Hp}{b:Addr}{o:Obj}(e:(ij h H).get? b=some o):h.get? b=some o/\H b=none:=by
 have e':h.get? b=some o:=Zer (uo h H) e
 refine⟨e',?_⟩
 cases q:H b with
 |none=>rfl
 |some x=>
  have hm:b∈uo h H:=ZbM.mpr ⟨Zbr.mpr (Zaq e'),by simp[q]⟩
  have z:(ij h H).get? b=none:=PySem.W.hideAll_none (uo h H) hm
  rw[z]at e;cases e
def TK (g h:Heap) (L:Addr):List (Addr×Obj):=(List.range h.objs.size).filterMap fun a=>if a=L∨(g.get? a).isSome=true then none else (h.get? a).map fun o=> (a,o)
def rest (g h:Heap) (L d:Addr):List (Addr×Obj):=(TK g h L).filter fun p=>decide (p.1≠d)
structure Mod (K:ZhQ) (mg:Str->Option Value) (base:Heap):Prop where
 mS:K.In base
 glob:base.Ns mainGlobals mg
 blt:∃mb,base.Ns builtinsNs mb/\∀x:Str,x≠ "__name__" ->mb x=bootBuiltins x
 nolimit:base.NoLimit
structure Cx where
 prog:Program
 w:World
 K:ZhQ
 mg:Str->Option Value
 base:Heap
 A:Around
 N:List Str
 cf:Shared
 kI:Hp
 env:Env
 outer:List Env
 stack:List Env
 ex:List Addr
 fn:Str->Bool
 calm:Bool
 pn:List (Addr×Obj)
 xe:Value->Shared->Prop
def aQ (l:List Env):List Addr:=l.filterMap (·.frame)
abbrev Cx.fs (X:Cx):List Addr:=aQ X.outer
def tK (sc:Scope) (x:Str):Prop:=sc.names.lookup x=some .local∨sc.names.lookup x=some .cell∨sc.names.lookup x=some .free
def Loc (sc:Scope) (x:Str):Prop:=sc.names.lookup x=some .local∨sc.names.lookup x=some .cell
def Look (env:Env) (h:Heap) (m:Str->Option Value) (x:Str) (u:Value):Prop:=
 (env.kindOf x=some .local/\m x=some u)∨((env.kindOf x=some .cell∨env.kindOf x=some .free)/\∃c,env.cells.lookup x=some c/\h.IsCell c (some u))
structure Cx.Ok (X:Cx):Prop where
 mod:Mod X.K X.mg X.base
 kind:X.env.scope.kind=.function
 glob:X.env.globals=mainGlobals
 blt:X.env.builtins=builtinsNs
 above:X.cf.heap.objs.size<=X.env.locals
 inj:∀x y c,X.env.cells.lookup x=some c->X.env.cells.lookup y=some c->x=y
 has:∀x,(X.env.kindOf x=some .cell∨X.env.kindOf x=some .free)->∃c,X.env.cells.lookup x=some c
 kB:∀x c,X.fn x=true->X.env.cells.lookup x=some c->X.cf.heap.objs.size<=c
 hd:X.calm=true->X.A.handled=none
 frames:X.A.frames=some X.stack
 mz:X.stack=X.outer∨(X.stack=X.env::X.outer/\X.env.frame=some X.env.locals)
 kA:∀b∈X.ex,b≠X.env.locals/\∀x c,X.env.cells.lookup x=some c->c≠b
 bs:∀b o,X.base.get? b=some o->X.cf.heap.get? b=some o/\X.kI b=none
 i8:X.base.objs.size<=X.cf.heap.objs.size
 kW:∀b o,X.base.get? b=some o->b∉X.ex
 kr:∀b∈X.ex,b∉X.fs
 dI:X.cf.heap.FunFrames X.base X.outer
 fZ:∀b∈X.fs,X.kI b=none
structure Inv (X:Cx) (pins:List (Addr×Obj)) (σ:List (Option V)) (H:Hp) (s:Shared):Prop where
 ok:X.Ok
 os:s.os=X.cf.os
 bare:AllBare s.gens
 base:Un X.fs X.ex X.kI H X.cf.heap s.heap
 loc:∃m,s.heap.Ns X.env.locals m/\∀(i:Nat) (x:Str) (v:V),X.N[i]? =some x->σ[i]? =some (some v)->tK X.env.scope x->∃u,RelV v u/\Look X.env s.heap m x u
 cell:∀x c,X.env.cells.lookup x=some c->∃v,s.heap.IsCell c v
 free:H X.env.locals=none
 fI:∀x c,X.env.cells.lookup x=some c->H c=none
 pin:∀p∈X.pn++pins,s.heap.get? p.1=some p.2/\H p.1=none/\p.1≠X.env.locals/\p.1∉X.fs/\∀v,p.2.data≠.cell v
 ak:bD X.prog X.w H s.heap
 len:σ.length=X.N.length
section
variable {X:Cx}{pins:List (Addr×Obj)}{σ:List (Option V)}{H H':Hp}{s:Shared}{h':Heap}
theorem Cx.Ok.NK (ok:X.Ok) {b:Addr}{o:Obj}(e:X.base.get? b=some o):b∉X.fs:=fun hb=>by
 have:=(ok.dI.mem hb).1
 rw[e]at this;cases this
theorem Inv.bs (I:Inv X pins σ H s):∀b o,X.base.get? b=some o->s.heap.get? b=some o/\H b=none:=fun b o e=>
 ⟨I.base.keep b o (I.ok.bs b o e).1 (I.ok.bs b o e).2 (I.ok.NK e) (I.ok.kW b o e),I.base.free b o (I.ok.bs b o e).1 (I.ok.bs b o e).2 (I.ok.kW b o e)⟩
theorem Inv.bk (I:Inv X pins σ H s):∀b o,X.base.get? b=some o->s.heap.get? b=some o:=fun b o e=> (I.bs b o e).1
theorem Inv.mod (I:Inv X pins σ H s):Mod X.K X.mg X.base:=I.ok.mod
theorem Inv.bX (I:Inv X pins σ H s):X.K.In s.heap:=I.ok.mod.mS.keeps I.bk
theorem Inv.lt (I:Inv X pins σ H s):X.env.locals<s.heap.objs.size:=let ⟨_,hn,_⟩:=I.loc;hn.lt
theorem Inv.sz (I:Inv X pins σ H s):X.cf.heap.objs.size<=s.heap.objs.size:=Zcd I.ok.above (Zeb I.lt)
theorem Inv.NH (I:Inv X pins σ H s) {a:Addr}(h:s.heap.objs.size<=a):a∉X.fs:=fun hb=>by
 obtain⟨_,o,ho,_⟩:=I.ok.dI.mem hb
 exact absurd (Zaz (Zaq ho) (Zcd I.sz h)) (ZbI _)
theorem Inv.iq (I:Inv X pins σ H s):∀x c,X.env.cells.lookup x=some c->c≠X.env.locals:=fun x c e z=>by
 obtain⟨v,o,ho,hd⟩:=I.cell x c e
 obtain⟨m,⟨o',es,ep,cC,iS,_⟩,_⟩:=I.loc
 rw[z,cC]at ho;cases ho;rw[iS]at hd;cases hd
theorem Inv.dI (I:Inv X pins σ H s):s.heap.FunFrames X.base X.outer:=by
 have all:∀(l:List Env),(∀b∈aQ l,b∈X.fs)->X.cf.heap.FunFrames X.base l->s.heap.FunFrames X.base l:=by
  intro l
  induction l with
  |nil=>intro _ _;trivial
  |cons env r ih=>
   intro hs hl
   obtain⟨hk,⟨L,o,hf,hn,ho,hd⟩,hr⟩:=hl
   have hL:L∈X.fs:=hs L (by unfold aQ;rw[Zej,hf];exact Zas)
   obtain⟨sl,e⟩:=I.base.slot L o ho (I.ok.fZ L hL) hL fun z=>I.ok.kr L z hL
   exact⟨hk,⟨L,_,hf,hn,e,hd⟩,ih (fun b hb=>hs b (by unfold aQ;rw[Zej,hf];exact Zan _ hb)) hr⟩
 exact all X.outer (fun _ hb=>hb) I.ok.dI
theorem Inv.stack (I:Inv X pins σ H s):s.heap.FunFrames X.base X.stack:=by
 rcases I.ok.mz with e |⟨e,hf⟩
 ·rw[e];exact I.dI
 ·rw[e]
  obtain⟨m,hn,_⟩:=I.loc
  refine .cons (by rw[I.ok.kind];decide) hf hn ?_ I.dI
  exact PySem.Heap.get?_none_of_le (Zcd I.ok.i8 I.ok.above)
theorem Inv.uA (I:Inv X pins σ H s):∀b∈aQ X.stack,b∈X.env.locals::X.fs:=fun b hb=>by
 rcases I.ok.mz with e |⟨e,hf⟩
 ·rw[e]at hb;exact Zan _ hb
 ·rw[e]at hb
  unfold aQ at hb
  rw[Zej,hf]at hb
  exact hb
theorem Inv.qK (I:Inv X pins σ H s):∀b∈aQ X.stack,H b=none:=fun b hb=>by
 rcases Zao.mp (I.uA b hb) with e |hb
 ·rw[e];exact I.free
 ·obtain⟨_,o,ho,_⟩:=I.ok.dI.mem hb
  exact I.base.free b o ho (I.ok.fZ b hb) fun z=>I.ok.kr b z hb
theorem Inv.step {g':Array GenState}{t':Nat}{d':Drawn}{ch:List Addr}(I:Inv X pins σ H s)
  (jr:∀b∈ch,(b∈X.ex∨X.cf.heap.objs.size<=b)/\b≠X.env.locals/\(∀x c,X.env.cells.lookup x=some c->c≠b)/\∀p∈X.pn++pins,p.1≠b)
  (keep:∀b o,b≠X.env.locals->b∉X.fs->b∉ch->s.heap.get? b=some o->H b=none->h'.get? b=some o)
  (slot:∀b o,b≠X.env.locals->b∈X.fs->b∉ch->s.heap.get? b=some o->H b=none->∃sl,h'.get? b=some {o with slots:=sl}) (free:∀b o,b∉ch->s.heap.get? b=some o->H b=none->H' b=none)
  (there:∀b o,b∉ch->s.heap.get? b=some o->∃o',h'.get? b=some o')
  (dM:∀b xs,H b=some (.tup xs)->H' b=some (.tup xs)) (dJ:∀b o u,H b=some (.cb o u)->H' b=some (.cb o u)) (dD:∀b ps,H b=some (.bM ps)->∃more,H' b=some (.bM (ps++more)))
  (ns:∀m,s.heap.Ns X.env.locals m->h'.Ns X.env.locals m) (ak:bD X.prog X.w H' h') (hg:AllBare g'):
  Inv X pins σ H' {s with heap:=h',gens:=g',drawn:=d',toks:=t'} :=by
 have mM:∀b o,X.cf.heap.get? b=some o->b≠X.env.locals:=fun b o e=>ZaE (Zaz (Zaq e) I.ok.above)
 have eQ:∀b o,X.cf.heap.get? b=some o->b∉X.ex->b∉ch:=fun b o e hx hb=>by
  rcases (jr b hb).1 with z |z
  ·exact hx z
  ·exact absurd (Zaz (Zaq e) z) (ZbI _)
 have cellK:∀x c,X.env.cells.lookup x=some c->∀v,s.heap.IsCell c v->h'.IsCell c v:=fun x c e v ⟨o,ho,hd⟩=>by
  have rF:c∉ch:=fun z=> (jr c z).2.2.1 x c e rfl
  by_cases hc:c∈X.fs
  ·obtain⟨sl,q⟩:=slot c o (I.iq x c e) hc rF ho (I.fI x c e)
   exact⟨_,q,hd⟩
  ·exact⟨o,keep c o (I.iq x c e) hc rF ho (I.fI x c e),hd⟩
 refine⟨I.ok,I.os,hg,⟨fun b o e n hb hx=> ?_,fun b o e n hb hx=> ?_,fun b o e n hx=> ?_,fun b o e hx=> ?_,fun b xs e=>dM b xs (I.base.dM b xs e),fun b o xs e=>dJ b o xs (I.base.dJ b o xs e),fun b ps e=> ?_⟩,?_,fun x c e=> ?_,?_,fun x c e=> ?_,fun p hp=> ?_,ak,I.len⟩
 ·exact keep b o (mM b o e) hb (eQ b o e hx) (I.base.keep b o e n hb hx) (I.base.free b o e n hx)
 ·obtain⟨sl,e1⟩:=I.base.slot b o e n hb hx
  obtain⟨oQ,e2⟩:=slot b _ (mM b o e) hb (eQ b o e hx) e1 (I.base.free b o e n hx)
  exact⟨oQ,e2⟩
 ·obtain⟨o',e1⟩:=I.base.there b o e hx
  exact free b o' (eQ b o e hx) e1 (I.base.free b o e n hx)
 ·obtain⟨o',e1⟩:=I.base.there b o e hx
  exact there b o' (eQ b o e hx) e1
 ·obtain⟨m1,e1⟩:=I.base.dD b ps e
  obtain⟨m2,e2⟩:=dD b _ e1
  exact⟨m1++m2,by rw[e2,Array.append_assoc]⟩
 ·obtain⟨m,hn,hl⟩:=I.loc
  refine⟨m,ns m hn,fun i x v e1 e2 e3=> ?_⟩
  obtain⟨u,r,l⟩:=hl i x v e1 e2 e3
  refine⟨u,r,?_⟩
  rcases l with l |⟨k,c,e,z⟩
  ·exact .inl l
  ·exact .inr ⟨k,c,e,cellK x c e _ z⟩
 ·obtain⟨v,z⟩:=I.cell x c e
  exact⟨v,cellK x c e v z⟩
 ·obtain⟨m,⟨o,_,_,ho,_⟩,_⟩:=I.loc
  exact free _ o (fun z=> (jr _ z).2.1 rfl) ho I.free
 ·obtain⟨v,o,ho,hd⟩:=I.cell x c e
  exact free c o (fun z=> (jr c z).2.2.1 x c e rfl) ho (I.fI x c e)
 ·obtain⟨e,n,ne,nf,d⟩:=I.pin p hp
  have rF:p.1∉ch:=fun z=> (jr p.1 z).2.2.2 p hp rfl
  exact⟨keep p.1 p.2 ne nf rF e n,free p.1 p.2 rF e n,ne,nf,d⟩
theorem Inv.un {t':Nat}(I:Inv X pins σ H s) (u:Un X.fs [] H H' s.heap h') (ak:bD X.prog X.w H' h'):Inv X pins σ H' {s with heap:=h',toks:=t'} :=by
 obtain⟨m,⟨o,es,ep,ho,r⟩,_⟩:=id I.loc
 obtain⟨sl,hL⟩:=u.any ho I.free (by simp)
 exact I.step (g':=s.gens) (d':=s.drawn) (ch:=[]) (fun _ z=>nomatch z) (fun b o _ hb _ e n=>u.keep b o e n hb (by simp)) (fun b o _ hb _ e n=>u.slot b o e n hb (by simp)) (fun b o _ e n=>u.free b o e n (by simp)) (fun b o _ e=>u.there b o e (by simp)) u.dM u.dJ u.dD (fun m' hm=>by
  obtain⟨o',gJ,Bd,cC,r'⟩:=hm
  rw[ho]at cC;cases cC
  exact⟨_,gJ,Bd,hL,r'⟩) ak I.bare
theorem Inv.call {g':Array GenState}{t':Nat}{d':Drawn}{ch:List Addr}(I:Inv X pins σ H s) (u:Un (aQ X.stack) ch H H' s.heap h') (ak:bD X.prog X.w H' h') (hg:AllBare g')
  (jr:∀b∈ch,(b∈X.ex∨X.cf.heap.objs.size<=b)/\b≠X.env.locals/\(∀x c,X.env.cells.lookup x=some c->c≠b)/\∀p∈X.pn++pins,p.1≠b):
  Inv X pins σ H' {s with heap:=h',gens:=g',drawn:=d',toks:=t'} :=by
 obtain⟨m,⟨o,es,ep,ho,r⟩,_⟩:=id I.loc
 obtain⟨sl,hL⟩:=u.any ho I.free fun z=> (jr _ z).2.1 rfl
 exact I.step (ch:=ch) jr (fun b o hL hb hc e n=>u.keep b o e n (fun z=> (Zao.mp (I.uA b z)).elim hL hb) hc) (fun b o _ _ hc e n=>u.any e n hc) (fun b o hc e n=>u.free b o e n hc) (fun b o hc e=>u.there b o e hc) u.dM u.dJ u.dD (fun m' hm=>by
  obtain⟨o',gJ,Bd,cC,r'⟩:=hm
  rw[ho]at cC;cases cC
  exact⟨_,gJ,Bd,hL,r'⟩) ak hg
theorem Inv.turned {t':Nat}{it:Addr}(I:Inv X pins σ H s) (k:∀b o,b≠it->s.heap.get? b=some o->h'.get? b=some o) (hn:H it=none) (hL:it≠X.env.locals)
  (h1:it∈X.ex∨X.cf.heap.objs.size<=it) (h2:∀x c,X.env.cells.lookup x=some c->c≠it) (h3:∀p∈X.pn++pins,p.1≠it):Inv X pins σ H {s with heap:=h',toks:=t'} :=by
 have DK:∀b u,H b=some u->b≠it:=fun b u e z=>by rw[z,hn]at e;cases e
 refine I.step (g':=s.gens) (d':=s.drawn) (ch:=[it]) (fun b hb=> ?_) (fun b o _ _ hc e _=>k b o (fun z=>hc (by simp[z])) e) (fun b o _ _ hc e _=> ⟨o.slots,k b o (fun z=>hc (by simp[z])) e⟩) (fun _ _ _ _ n=>n)
  (fun b o hc e=> ⟨o,k b o (fun z=>hc (by simp[z])) e⟩) (fun _ _ e=>e) (fun _ _ _ e=>e) (fun b ps e=> ⟨#[],by rw[e];simp⟩) (fun m hm=> ?_) (fun b u e=> ?_) I.bare
 ·have e:b=it:=by simpa using hb
  subst e
  exact⟨h1,hL,h2,h3⟩
 ·obtain⟨o,es,ep,ho,r⟩:=hm
  exact⟨o,es,ep,k _ o (ZdS hL) ho,r⟩
 ·refine(I.ak b u e).cE (fun c v hc q=>k c v ?_ q) (fun _ q=>q) fun _ _ q=>q
  rcases hc with z |z
  ·rw[z];exact DK b u e
  ·exact DK c _ z
theorem Inv.tok (I:Inv X pins σ H s) (t:Nat):Inv X pins σ H {s with toks:=t} :=I.un (h':=s.heap) (t':=t) Un.refl I.ak
theorem Inv.kept {t':Nat}(I:Inv X pins σ H s) (k:∀b u,s.heap.get? b=some u->h'.get? b=some u):Inv X pins σ H {s with heap:=h',toks:=t'} :=I.un (Un.kept k) (I.ak.kept k)
theorem Inv.laid {a:Addr}{o:HO}{t':Nat}(I:Inv X pins σ H s) (k:∀b u,s.heap.get? b=some u->h'.get? b=some u) (hp:s.heap.objs.size<=a) (new:bu X.prog X.w (upd H a o) h' a o):
  Inv X pins σ (upd H a o) {s with heap:=h',toks:=t'} :=I.un (Un.laid k hp (I.ak.fresh hp)) (I.ak.laid k hp new)
theorem Inv.write {x e:Addr}{o:HO}{t':Nat}(I:Inv X pins σ H s) (mu:tP (H x)) (he:e=x∨H e=some (.own x)) (k:∀b u,b≠e->s.heap.get? b=some u->h'.get? b=some u) (pR:∃u,h'.get? e=some u)
  (new:bu X.prog X.w (upd H x o) h' x o):Inv X pins σ (upd H x o) {s with heap:=h',toks:=t'} :=I.un (Un.write mu he k pR) (I.ak.write mu he k pR new)
theorem Inv.Dr {Ds:List (Addr×Obj)}(I:Inv X pins σ H s) (h:∀p∈Ds,s.heap.get? p.1=some p.2/\H p.1=none/\p.1≠X.env.locals/\p.1∉X.fs/\∀v,p.2.data≠.cell v):Inv X Ds σ H s:=
 ⟨I.ok,I.os,I.bare,I.base,I.loc,I.cell,I.free,I.fI,fun p hp=> (ZaC.mp hp).elim (fun z=>I.pin p (ZaW _ z)) (h p),I.ak,I.len⟩
theorem WG {N:List Str}(hN:N.Nodup) {i j:Nat}{x:Str}(a:N[i]? =some x) (b:N[j]? =some x):i=j:=by
 obtain⟨h1,e1⟩:=Zad.mp a
 obtain⟨h2,e2⟩:=Zad.mp b
 exact(List.getElem_inj hN).mp (e1.trans e2.symm)
theorem Us {M:Model}{A:Around}{E:Value->Shared->Prop}{i:Nat}{x:Str}{v:V}{u:Value}{Q:Unit->Shared->Prop}(I:Inv X pins σ H s) (hN:X.N.Nodup) (hi:X.N[i]? =some x) (hx:Loc X.env.scope x) (r:RelV v u)
  (h:∀s',Inv X pins (σ.set i (some v)) H s'->(∃a,Heap.SameBut a s.heap s'.heap/\(a=X.env.locals∨X.env.cells.lookup x=some a))->Q () s') (hf:X.fn x=true∨X.env.scope.names.lookup x=some .local:=by first |exact .inl rfl |exact .inr rfl |assumption):wpAny M A (storeName X.env x u) Q E s:=by
 obtain⟨m,hn,hl⟩:=id I.loc
 have AQ:(X.env.scope.kind==.class||(X.env.scope.kind==.module&&X.env.locals !=X.env.globals))=false:=by rw[I.ok.kind];rfl
 have EX:i<σ.length:=by rw[I.len];exact(Zad.mp hi).1
 have iq:=I.iq
 have tracked:∀{a:Addr}{h':Heap},(∃o,s.heap.get? a=some o/\H a=none)->Heap.SameBut a s.heap h'->bD X.prog X.w H h':=fun {a h'} ha hs b ob e=>by
  obtain⟨_,_,Fc⟩:=ha
  refine(I.ak b ob e).cE (fun c w' hc q=> (hs.2 c ?_).trans q) (fun _ q=>q) fun _ _ q=>q
  rintro rfl
  rcases hc with rfl |hc
  ·rw[Fc]at e;cases e
  ·rw[Fc]at hc;cases hc
 rcases hx with hk |hk
 ·refine wpAny_storeName_local hk hn (fun h' rZ hs=> ?_) AQ
  obtain⟨oL,_,_,hoL,_⟩:=id hn
  refine h _ ⟨I.ok,I.os,I.bare,⟨fun b o e n hb hx=> ?_,fun b o e n hb hx=> ?_,I.base.free,fun b o e hx=> ?_,I.base.dM,I.base.dJ,I.base.dD⟩,⟨_,rZ,fun j y v' e1 e2 e3=> ?_⟩,fun y c e=> ?_,I.free,I.fI,fun p hp=> ?_,tracked ⟨oL,hoL,I.free⟩ hs,by simpa using I.len⟩ ⟨_,hs,.inl rfl⟩
  ·exact(hs.2 b (ZaE (Zaz (Zaq e) I.ok.above))).trans (I.base.keep b o e n hb hx)
  ·obtain⟨sl,e1⟩:=I.base.slot b o e n hb hx
   exact⟨sl,(hs.2 b (ZaE (Zaz (Zaq e) I.ok.above))).trans e1⟩
  ·obtain⟨o',e1⟩:=I.base.there b o e hx
   exact⟨o',(hs.2 b (ZaE (Zaz (Zaq e) I.ok.above))).trans e1⟩
  ·by_cases hj:j=i
   ·subst hj
    rw[hi]at e1;cases e1
    rw[Zem EX]at e2
    cases e2
    exact⟨u,r,.inl ⟨hk,by simp⟩⟩
   ·rw[ZeB (ZdS hj)]at e2
    obtain⟨u',r',q⟩:=hl j y v' e1 e2 e3
    refine⟨u',r',?_⟩
    rcases q with ⟨k,e⟩ |⟨k,c,e,z⟩
    ·refine .inl ⟨k,?_⟩
     have:y≠x:=fun e=>hj (WG hN e1 (e▸hi))
     simp[this,e]
    ·exact .inr ⟨k,c,e,z.sameBut hs (iq y c e)⟩
  ·obtain⟨w',z⟩:=I.cell y c e
   exact⟨w',z.sameBut hs (iq y c e)⟩
  ·obtain⟨e,n,ne,nf,d⟩:=I.pin p hp
   exact⟨(hs.2 p.1 ne).trans e,n,ne,nf,d⟩
 ·have eW:X.fn x=true:=by
   rcases hf with z |z
   ·exact z
   ·rw[z]at hk;cases hk
  obtain⟨c,hc⟩:=I.ok.has x (.inl hk)
  obtain⟨w',z⟩:=I.cell x c hc
  refine wpAny_storeName_cell I.ok.kind hk hc z (fun h' cm hs=> ?_)
  obtain⟨oc,EG,PV⟩:=id z
  refine h {s with heap:=h'} ⟨I.ok,I.os,I.bare,⟨fun b o e n hb hx=> ?_,fun b o e n hb hx=> ?_,I.base.free,fun b o e hx=> ?_,I.base.dM,I.base.dJ,I.base.dD⟩,⟨m,hn.sameBut hs (ZdS (iq x c hc)),fun j y v' e1 e2 e3=> ?_⟩,fun y c' e=> ?_,I.free,I.fI,fun p hp=> ?_,tracked ⟨oc,EG,I.fI x c hc⟩ hs,by simpa using I.len⟩ ⟨c,hs,.inr hc⟩
  ·exact(hs.2 b (ZaE (Zaz (Zaq e) (I.ok.kB x c eW hc)))).trans (I.base.keep b o e n hb hx)
  ·obtain⟨sl,e1⟩:=I.base.slot b o e n hb hx
   exact⟨sl,(hs.2 b (ZaE (Zaz (Zaq e) (I.ok.kB x c eW hc)))).trans e1⟩
  ·obtain⟨o',e1⟩:=I.base.there b o e hx
   exact⟨o',(hs.2 b (ZaE (Zaz (Zaq e) (I.ok.kB x c eW hc)))).trans e1⟩
  ·by_cases hj:j=i
   ·subst hj
    rw[hi]at e1;cases e1
    rw[Zem EX]at e2
    cases e2
    exact⟨u,r,.inr ⟨.inl hk,c,hc,cm⟩⟩
   ·rw[ZeB (ZdS hj)]at e2
    obtain⟨u',r',q⟩:=hl j y v' e1 e2 e3
    refine⟨u',r',?_⟩
    rcases q with q |⟨k,c',e,z'⟩
    ·exact .inl q
    ·refine .inr ⟨k,c',e,z'.sameBut hs ?_⟩
     rintro rfl
     exact hj (WG hN e1 (I.ok.inj _ _ _ e hc▸hi))
  ·by_cases js:c'=c
   ·subst js;exact⟨_,cm⟩
   ·obtain⟨w2,z2⟩:=I.cell y c' e
    exact⟨w2,z2.sameBut hs js⟩
  ·obtain⟨e,n,ne,nf,d⟩:=I.pin p hp
   refine⟨(hs.2 p.1 ?_).trans e,n,ne,nf,d⟩
   intro q
   rw[q,EG]at e
   have q':oc=p.2:=ZbE e
   exact d w' (by rw[<-q'];exact PV)
theorem YN {M:Model}{A:Around}{E:Value->Shared->Prop}{i:Nat}{x:Str}{v:V}{u:Value}{Q:Unit->Shared->Prop}(I:Inv X pins σ H s) (hN:X.N.Nodup) (hi:X.N[i]? =some x) (hx:Loc X.env.scope x) (r:RelV v u)
  (h:∀s',Inv X pins (σ.set i (some v)) H s'->Q () s') (hf:X.fn x=true∨X.env.scope.names.lookup x=some .local:=by first |exact .inl rfl |exact .inr rfl |assumption):wpAny M A (storeName X.env x u) Q E s:=
 Us I hN hi hx r (fun s' I' _=>h s' I') hf
theorem Inv.Bn {s':Shared}{ch:List Addr}(I:Inv X pins σ H s) (ho:s'.os=s.os) (u:Un (aQ X.stack) ch H H' s.heap s'.heap) (ak:bD X.prog X.w H' s'.heap) (hg:AllBare s'.gens)
  (jr:∀b∈ch,(b∈X.ex∨X.cf.heap.objs.size<=b)/\b≠X.env.locals/\(∀x c,X.env.cells.lookup x=some c->c≠b)/\∀p∈X.pn++pins,p.1≠b):Inv X pins σ H' s':=by
 obtain⟨h',g',d',t',o'⟩:=s'
 have e:o'=s.os:=ho
 subst e
 exact I.call (g':=g') (t':=t') (d':=d') u ak hg jr
end
abbrev XK:=Value->Option Addr->Hp->Prop
abbrev St:=List (Option V)
abbrev VK:=V->Hp->Prop
abbrev TE:=St->Hp->VK->Prop
abbrev TT:=St->Hp->(Bool->Hp->Prop)->Prop
abbrev TA:=St->Hp->(List V->Hp->Prop)->Prop
structure Ends where
 nx:St->Hp->Prop
 rt:VK
 bk:St->Hp->Prop:=fun _ _=>False
 ct:St->Hp->Prop:=fun _ _=>False
abbrev TS:=Ends->St->Hp->Prop
def EP (X:Cx) (pins:List (Addr×Obj)) (σ:St) (Q:VK) (u:Value) (s':Shared):Prop:=∃v H',Inv X pins σ H' s'/\RelV v u/\Q v H'
def TP (X:Cx) (pins:List (Addr×Obj)) (σ:St) (Q:Bool->Hp->Prop) (b:Bool) (s':Shared):Prop:=∃H',Inv X pins σ H' s'/\Q b H'
def AP (X:Cx) (pins:List (Addr×Obj)) (σ:St) (Q:List V->Hp->Prop) (us:List Value) (s':Shared):Prop:=∃vs H',Inv X pins σ H' s'/\Vals vs us/\Q vs H'
def SP (X:Cx) (pins:List (Addr×Obj)) (D:Ends) (f:Flow) (s':Shared):Prop:=
 match f with
 | .next=> ∃ao H',Inv X pins ao H' s'/\D.nx ao H'
 | .brk=> ∃ao H',Inv X pins ao H' s'/\D.bk ao H'
 | .cont=> ∃ao H',Inv X pins ao H' s'/\D.ct ao H'
 | .ret u=> ∃v ao H',Inv X pins ao H' s'/\RelV v u/\D.rt v H'
def PE (X:Cx) (e:Expr) (t:TE):Prop:=
 ∀(pins:List (Addr×Obj)) (s:Shared) (σ:St) (H:Hp) (Q:VK),Inv X pins σ H s->t σ H Q->wpAny (model X.prog X.w) X.A (eval e X.env) (EP X pins σ Q) X.xe s
def PT (X:Cx) (e:Expr) (t:TT):Prop:=
 ∀(pins:List (Addr×Obj)) (s:Shared) (σ:St) (H:Hp) (Q:Bool->Hp->Prop),Inv X pins σ H s->t σ H Q->wpAny (model X.prog X.w) X.A (isTrue e X.env (eval e X.env)) (TP X pins σ Q) X.xe s
def PW (X:Cx) (e:Expr) (t:TT):Prop:=
 ∀(whole:Sem Value) (pins:List (Addr×Obj)) (s:Shared) (σ:St) (H:Hp) (Q:Bool->Hp->Prop),Inv X pins σ H s->t σ H Q->wpAny (model X.prog X.w) X.A (isTrue e X.env whole) (TP X pins σ Q) X.xe s
theorem PW.pt {X:Cx}{e:Expr}{t:TT}(h:PW X e t):PT X e t:=h _
def PA (X:Cx) (es:List Expr) (t:TA):Prop:=
 ∀(pos:Pos) (pins:List (Addr×Obj)) (s:Shared) (σ:St) (H:Hp) (Q:List V->Hp->Prop),Inv X pins σ H s->t σ H Q->wpAny (model X.prog X.w) X.A (spliced (backTo pos (starEach es X.env))) (AP X pins σ Q) X.xe s
def PS (X:Cx) (st:Stmt) (t:TS):Prop:=
 ∀(pins:List (Addr×Obj)) (s:Shared) (σ:St) (H:Hp) (D:Ends),Inv X pins σ H s->t D σ H->wpAny (model X.prog X.w) X.A (exec st X.env) (SP X pins D) X.xe s
def fc (X:Cx) (st:List Stmt) (t:TS):Prop:=
 ∀(pins:List (Addr×Obj)) (s:Shared) (σ:St) (H:Hp) (D:Ends),Inv X pins σ H s->t D σ H->wpAny (model X.prog X.w) X.A (execs st X.env) (SP X pins D) X.xe s
theorem ar {α:Type}{t:Sem α}{Q Q':α->Shared->Prop}{M:Model}{A:Around}{E:Value->Shared->Prop}{s:Shared}(h:wpAny M A t Q E s) (hQ:∀a s,Q a s->Q' a s):wpAny M A t Q' E s:=Zbs h hQ fun _ _ x=>x
section
variable {X:Cx}
def jN (i:Nat):TE:=fun σ H Q=> ∃v,σ[i]? =some (some v)/\Q v H
def tC (v:V):TE:=fun _ H Q=>Q v H
theorem Yh {i:Nat}{x:Str}{pos:Pos}(hN:X.N[i]? =some x) (hv:tK X.env.scope x) (hd:(x==("__debug__" :Str))=false:=by decide) (cH:(x==("__classdict__" :Str))=false:=by decide):PE X (.Name x pos) (jN i):=by
 intro pins s σ H Q I h
 obtain⟨v,e,h⟩:=h
 obtain⟨m,hn,hl⟩:=I.loc
 obtain⟨u,r,l⟩:=hl i x v hN e hv
 have fin:EP X pins σ Q u s:=⟨v,H,I,r,h⟩
 rcases l with ⟨hk,hm⟩ |⟨hk,c,hc,lT⟩
 ·exact wpAny_Name (wpAny_loadName_local I.ok.kind hk hn hm fin) hd
 ·rcases hk with hk |hk
  ·exact wpAny_Name (wpAny_loadName_cell I.ok.kind hk hc lT fin) hd
  ·exact wpAny_Name (wpAny_loadName_free I.ok.kind hk hc lT fin cH) hd
theorem Zd {i j pos} :PE X (.Constant (.int i) j pos) (tC (.int i)):=fun _ _ _ H _ I h=>wpAny_Constant_int ⟨.int i,H,I.tok _,⟨_,rfl⟩,h⟩
theorem Wf {b j pos} :PE X (.Constant (.bool b) j pos) (tC (.bl b)):=fun _ _ _ H _ I h=>Constant_bool ⟨.bl b,H,I,rfl,h⟩
theorem Yo {j pos} :PE X (.Constant .none j pos) (tC .ah):=fun _ _ _ H _ I h=>Constant_none ⟨.ah,H,I,rfl,h⟩
theorem ZS {x j pos} :PE X (.Constant (.str x) j pos) (tC (.str x)):=fun _ _ _ H _ I h=>Calls.Constant_str ⟨.str x,H,I.tok _,⟨_,rfl⟩,h⟩
def Gl (X:Cx) (x:Str):Prop:=X.env.kindOf x=some .globalImplicit
theorem Jf {E:Value->Shared->Prop}{pins:List (Addr×Obj)}{s:Shared}{σ:St}{H:Hp}{x:Str}{u:Value}{pos:Pos}{Q:Value->Shared->Prop}(I:Inv X pins σ H s) (hg:Gl X x) (hm:X.mg x=some u) (h:Q u s)
  (hd:(x==("__debug__" :Str))=false:=by decide):wpAny (model X.prog X.w) X.A (eval (.Name x pos) X.env) Q E s:=
 PySem.Calls.Name_function_global I.ok.kind hg (Calls.loadGlobal_global (by rw[I.ok.glob];exact I.mod.glob.keeps I.bk) hm h) hd
theorem YD {E:Value->Shared->Prop}{pins:List (Addr×Obj)}{s:Shared}{σ:St}{H:Hp}{x:Str}{u:Value}{pos:Pos}{Q:Value->Shared->Prop}(I:Inv X pins σ H s) (hg:Gl X x) (hm:X.mg x=none) (hv:bootBuiltins x=some u) (h:Q u s)
  (hn:x≠ "__name__" :=by decide) (hd:(x==("__debug__" :Str))=false:=by decide):wpAny (model X.prog X.w) X.A (eval (.Name x pos) X.env) Q E s:=by
 obtain⟨mb,h1,h2⟩:=I.mod.blt
 exact PySem.Calls.Name_function_global I.ok.kind hg (Calls.loadGlobal_builtin (by rw[I.ok.glob];exact I.mod.glob.keeps I.bk) hm (by rw[I.ok.blt];exact h1.keeps I.bk) ((h2 x hn).trans hv) h) hd
theorem Yi {x:Str}{v:V}{u:Value}{pos:Pos}(hg:Gl X x) (hm:X.mg x=some u) (r:RelV v u) (hd:(x==("__debug__" :Str))=false:=by decide):PE X (.Name x pos) (tC v):=
 fun _ _ _ H _ I h=>Jf I hg hm ⟨v,H,I,r,h⟩ hd
theorem ZI {x:Str}{v:V}{u:Value}{pos:Pos}(hg:Gl X x) (hm:X.mg x=none) (hv:bootBuiltins x=some u) (r:RelV v u) (hn:x≠ "__name__" :=by decide) (hd:(x==("__debug__" :Str))=false:=by decide):PE X (.Name x pos) (tC v):=
 fun _ _ _ H _ I h=>YD I hg hm hv ⟨v,H,I,r,h⟩ hn hd
variable {a b:Expr}{ta tb:TE}{pos:Pos}
def PC (X:Cx) (op:CmpOp) (a b:Expr) (t:TE):Prop:=
 ∀(pins:List (Addr×Obj)) (s:Shared) (σ:St) (H:Hp) (Q:VK),Inv X pins σ H s->t σ H Q->
  wpAny (model X.prog X.w) X.A (eval a X.env) (fun v aI=>wpAny (model X.prog X.w) X.A (eval b X.env) (fun u oG=>wpAny (model X.prog X.w) X.A (compareOp op v u) (EP X pins σ Q) X.xe oG) X.xe aI) X.xe s
theorem DF (b:Expr) {op:CmpOp}(h:op≠.In) (h2:op≠.NotIn):behindInMarks op b=false:=by
 have e1:(op==CmpOp.In)=false:=by cases op<;>first |rfl |exact absurd rfl h
 have e2:(op==CmpOp.NotIn)=false:=by cases op<;>first |rfl |exact absurd rfl h2
 cases b<;>simp[behindInMarks,e1,e2]
def Lr (ta:TE):TE:=fun σ H Q=>ta σ H fun x H1=>Q (.bl (decide (x=.ah))) H1
def Lk (ta:TE):TE:=fun σ H Q=>ta σ H fun x H1=>Q (.bl (!decide (x=.ah))) H1
theorem RelV.DD {x:V}{v:Value}(r:RelV x v):(v==Value.none)=decide (x=.ah):=by
 cases x with
 |ah=>cases r;rfl
 |bl _=>cases r;rfl
 |int _=>obtain⟨t,rfl⟩:=r;rfl
 |str _=>obtain⟨t,rfl⟩:=r;rfl
 |ir _=>obtain⟨t,rfl⟩:=r;rfl
 |gH _=>obtain⟨t,rfl⟩:=r;rfl
 |ref _=>cases r;rfl
 |ty _=>cases r;rfl
theorem YL {j pos'} (ha:PE X a ta):PC X .Is a (.Constant .none j pos') (Lr ta):=by
 intro pins s σ H Q I h
 refine ar (ha pins s σ H _ I h) fun v s1 ⟨x,H1,I1,r1,q1⟩=> ?_
 exact Constant_none (is_none_gen ⟨.bl _,H1,I1,by rw[r1.DD];rfl,q1⟩)
theorem Wp {j pos'} (ha:PE X a ta):PC X .IsNot a (.Constant .none j pos') (Lk ta):=by
 intro pins s σ H Q I h
 refine ar (ha pins s σ H _ I h) fun v s1 ⟨x,H1,I1,r1,q1⟩=> ?_
 exact Constant_none (isnot_none_gen ⟨.bl _,H1,I1,by rw[r1.DD];rfl,q1⟩)
def tB (t:TE):TT:=fun σ H Q=>t σ H fun x H1=> ∃c,x=.bl c/\Q c H1
theorem U0 {op:CmpOp}{t:TE}(h:PC X op a b t) (h1:behindInMarks op b=false:=by first |exact DF _ .d .d |rfl):PE X (.Compare a [op] [b] pos) t:=fun pins s σ H Q I hw=>wpAny_Compare1 (h pins s σ H Q I hw) h1
theorem YJ {op:CmpOp}{t:TE}(h:PC X op a b t) (h1:behindInMarks op b=false:=by first |exact DF _ .d .d |rfl):PT X (.Compare a [op] [b] pos) (tB t):=by
 intro pins s σ H Q I hw
 refine wpAny_isTrue_Compare1 (ar (h pins s σ H _ I hw) fun v s1 h1=>ar h1 fun u s2 h2=>ar h2 fun c s3 ⟨x,H1,I1,r1,q1⟩=> ?_) h1
 obtain⟨d,rfl,q⟩:=q1
 cases r1
 exact Zdr ⟨H1,I1,q⟩
theorem ZK {e:Expr}{t:TE}(h:PE X e t) (he:∀whole,isTrue e X.env whole=(do let v <-whole;standAt e.pos;holding [v] (truthy v)):=by intro _;rfl):PT X e (tB t):=by
 intro pins s σ H Q I hw
 refine isTrue_plain (ar (h pins s σ H _ I hw) fun v s1 ⟨x,H1,I1,r1,q1⟩=> ?_) (he _)
 obtain⟨d,rfl,q⟩:=q1
 cases r1
 exact Zdr ⟨H1,I1,q⟩
variable {tA uw:TT}{rest:List Expr}
def LL (t u:TT):TT:=fun σ H Q=>t σ H fun c H1=>if c=true then u σ H1 Q else Q false H1
def Li (t u:TT):TT:=fun σ H Q=>t σ H fun c H1=>if c=true then Q true H1 else u σ H1 Q
def Ll (t:TT):TT:=fun σ H Q=>t σ H fun c H1=>Q (!c) H1
theorem UZ (ha:PT X a tA):PW X (.BoolOp .And [a] pos) tA:=by
 intro wh pins s σ H Q I h
 refine isTrue_and (ar (ha pins s σ H Q I h) fun c s1 e=> ?_)
 cases c with
 |true=>exact isTrue_and_nil e
 |false=>exact e
theorem YI (ha:PT X a tA):PW X (.BoolOp .Or [a] pos) tA:=by
 intro wh pins s σ H Q I h
 refine isTrue_or (ar (ha pins s σ H Q I h) fun c s1 e=> ?_)
 cases c with
 |false=>exact isTrue_or_nil e
 |true=>exact e
theorem BM (ha:PT X a tA) (hb:PW X (.BoolOp .And (b::rest) pos) uw):PW X (.BoolOp .And (a::b::rest) pos) (LL tA uw):=by
 intro wh pins s σ H Q I h
 refine isTrue_and (ar (ha pins s σ H _ I h) fun c s1 ⟨H1,I1,q1⟩=> ?_)
 cases c with
 |true=>exact hb wh pins s1 σ H1 Q I1 q1
 |false=>exact⟨H1,I1,q1⟩
theorem Jm (ha:PT X a tA) (hb:PW X (.BoolOp .Or (b::rest) pos) uw):PW X (.BoolOp .Or (a::b::rest) pos) (Li tA uw):=by
 intro wh pins s σ H Q I h
 refine isTrue_or (ar (ha pins s σ H _ I h) fun c s1 ⟨H1,I1,q1⟩=> ?_)
 cases c with
 |true=>exact⟨H1,I1,q1⟩
 |false=>exact hb wh pins s1 σ H1 Q I1 q1
theorem Z0 (ha:PT X a tA):PT X (.UnaryOp .Not a pos) (Ll tA):=by
 intro pins s σ H Q I h
 exact isTrue_not (ha pins s σ H (fun c H1=>Q (!c) H1) I h)
def LK (ta tb:TE):TE:=fun σ H Q=>ta σ H fun x H1=> ∃c,x=.bl c/\if c=true then tb σ H1 Q else Q (.bl false) H1
def Lj (ta:TE):TE:=fun σ H Q=>ta σ H fun x H1=> ∃c,x=.bl c/\Q (.bl (!c)) H1
theorem Yz {op}{t:TE}(h:PE X a t):PE X (.BoolOp op [a] pos) t:=fun pins s σ H Q I hw=>BoolOp_one (h pins s σ H Q I hw)
theorem YB (ha:PE X a ta) (hb:PE X (.BoolOp .And (b::rest) pos) tb):PE X (.BoolOp .And (a::b::rest) pos) (LK ta tb):=by
 intro pins s σ H Q I h
 refine BoolOp_and (ar (ha pins s σ H _ I h) fun v s1 ⟨x,H1,I1,r1,q1⟩=> ?_)
 obtain⟨c,rfl,q1⟩:=q1
 cases r1
 refine Zdr ?_
 cases c with
 |true=>exact hb pins s1 σ H1 Q I1 q1
 |false=>exact⟨.bl false,H1,I1,rfl,q1⟩
theorem VS (ha:PE X a ta):PE X (.UnaryOp .Not a pos) (Lj ta):=by
 intro pins s σ H Q I h
 refine UnaryOp_ (ar (ha pins s σ H _ I h) fun v s1 ⟨x,H1,I1,r1,q1⟩=> ?_)
 obtain⟨c,rfl,q1⟩:=q1
 cases r1
 exact not_of (Zdr ⟨.bl (!c),H1,I1,rfl,q1⟩)
def CD (t:TT) (ta tb:TE):TE:=fun σ H Q=>t σ H fun c H1=>if c=true then ta σ H1 Q else tb σ H1 Q
theorem Wz {c:Expr}(hc:PT X c tA) (ha:PE X a ta) (hb:PE X b tb):PE X (.IfExp c a b pos) (CD tA ta tb):=by
 intro pins s σ H Q I h
 refine wpAny_IfExp (ar (hc pins s σ H _ I h) fun d s1 ⟨H1,I1,q1⟩=> ?_)
 cases d with
 |true=>exact ha pins s1 σ H1 Q I1 q1
 |false=>exact hb pins s1 σ H1 Q I1 q1
end
def ai (K:ZhQ) (H:Hp) (a:Addr) (xs:List V):Prop:=
 Rd H a (.lst xs)∨
  ∃(o:Obj) (aa:Array Value) (n:Nat),K.lookup a=some o/\o.cls=.type "list" /\o.dict=none/\o.data=.seq aa n/\aa.size<=sizeLine/\Vals xs aa.toList
def aj (K:ZhQ) (H:Hp) (a:Addr) (xs:List V):Prop:=
 Rd H a (.tup xs)∨
  (∃(o:Obj) (aa:Array Value) (n:Nat),K.lookup a=some o/\o.cls=.type "tuple" /\o.data=.seq aa n/\aa.size<=sizeLine/\Vals xs aa.toList)∨H a=some (.par xs)
def TM:Value->Option V
 | .none=>some .ah
 | .bool b=>some (.bl b)
 | .int i _=>some (.int i)
 | .str x _=>some (.str x)
 | .bytes b _=>some (.ir b)
 | .float b _=>some (.gH b)
 | .ref a=>some (.ref a)
 | .type n=>some (.ty n)
 |_=>none
theorem RelV.abs {x:V}{u:Value}(r:RelV x u):TM u=some x:=by
 cases x with
 |ah=>cases r;rfl
 |bl _=>cases r;rfl
 |int _=>obtain⟨t,rfl⟩:=r;rfl
 |str _=>obtain⟨t,rfl⟩:=r;rfl
 |ir _=>obtain⟨t,rfl⟩:=r;rfl
 |gH _=>obtain⟨t,rfl⟩:=r;rfl
 |ref _=>cases r;rfl
 |ty _=>cases r;rfl
theorem RelV.inj {x y:V}{u:Value}(r:RelV x u) (q:RelV y u):x=y:=ZbE (r.abs.symm.trans q.abs)
theorem Vals.inj:∀{xs ys:List V}{us:List Value},Vals xs us->Vals ys us->xs=ys
 |_,_,_,.nil,.nil=>rfl
 |_,_,_,.cons r t,.cons r' t'=>by rw[r.inj r',Vals.inj t t']
section
variable {X:Cx}{pins:List (Addr×Obj)}{σ:St}{H:Hp}{s:Shared}{a:Addr}{xs ys:List V}
theorem ai.of {K:ZhQ}(h:H a=some (.lst xs)):ai K H a xs:=.inl (.inl h)
theorem aj.of {K:ZhQ}(h:H a=some (.tup xs)):aj K H a xs:=.inl (.inl h)
theorem aj.pe {K:ZhQ}(h:H a=some (.par xs)):aj K H a xs:=.inr (.inr h)
theorem Inv.list (I:Inv X pins σ H s) (h:ai X.K H a xs):∃aa:List Value,Vals xs aa/\PlainL s.heap a aa.toArray/\xs.length<=sizeLine:=by
 rcases h with h |⟨o,aa,n,hk,hc,hd,hs,hz,r⟩
 ·obtain⟨z,aa,n,r,e⟩:=h.ok I.ak
  exact⟨aa,r,⟨_,n,e,rfl,rfl,rfl⟩,z⟩
 ·refine⟨aa.toList,r,⟨o,n,I.bX a o hk,hc,hd,by simpa using hs⟩,?_⟩
  have e:=r.length
  simp only[Zau]at e
  omega
theorem Inv.tuple (I:Inv X pins σ H s) (h:aj X.K H a xs):∃aa:List Value,Vals xs aa/\IsTup s.heap a aa.toArray/\xs.length<=sizeLine:=by
 rcases h with h |⟨o,aa,n,hk,hc,hs,hz,r⟩ |h
 ·obtain⟨z,aa,r,p,_⟩:=h.ok I.ak
  exact⟨aa,r,p,z⟩
 rotate_left
 ·obtain⟨z,aa,r,p⟩:=(show bu X.prog X.w H s.heap a (.par xs) from I.ak a _ h)
  exact⟨aa,r,p,z⟩
 ·refine⟨aa.toList,r,⟨o,I.bX a o hk,hc,n,by simpa using hs⟩,?_⟩
  have e:=r.length
  simp only[Zau]at e
  omega
theorem Inv.vN (I:Inv X pins σ H s) (h:ai X.K H a xs) (h':ai X.K H a ys):xs=ys:=by
 obtain⟨aa,r,⟨o,n,e,_,_,d⟩,_⟩:=I.list h
 obtain⟨its',r',⟨o',n',e',_,_,d'⟩,_⟩:=I.list h'
 rw[e]at e';cases e'
 rw[d]at d'
 injection d' with d1 _
 have:aa=its':=by simpa using congrArg Array.toList d1
 subst this
 exact r.inj r'
theorem Inv.um (I:Inv X pins σ H s) (h:aj X.K H a xs) (h':aj X.K H a ys):xs=ys:=by
 obtain⟨aa,r,⟨o,e,_,n,d⟩,_⟩:=I.tuple h
 obtain⟨its',r',⟨o',e',_,n',d'⟩,_⟩:=I.tuple h'
 rw[e]at e';cases e'
 rw[d]at d'
 injection d' with d1 _
 have:aa=its':=by simpa using congrArg Array.toList d1
 subst this
 exact r.inj r'
end
abbrev Cx.gP (X:Cx) (E:Value->Shared->Prop):Cx:= {X with xe:=E}
abbrev Cx.cG (X:Cx):Cx:=X.gP fun _ _=>False
theorem Cx.Ok.gP {X:Cx}(ok:X.Ok) (E:Value->Shared->Prop):(X.gP E).Ok:=
 ⟨ok.mod,ok.kind,ok.glob,ok.blt,ok.above,ok.inj,ok.has,ok.kB,ok.hd,ok.frames,ok.mz,ok.kA,ok.bs,ok.i8,ok.kW,ok.kr,ok.dI,ok.fZ⟩
theorem Cx.Ok.jM {X:Cx}{E:Value->Shared->Prop}(ok:(X.gP E).Ok):X.Ok:=
 ⟨ok.mod,ok.kind,ok.glob,ok.blt,ok.above,ok.inj,ok.has,ok.kB,ok.hd,ok.frames,ok.mz,ok.kA,ok.bs,ok.i8,ok.kW,ok.kr,ok.dI,ok.fZ⟩
section
variable {X:Cx}{pins:List (Addr×Obj)}{σ:St}{H:Hp}{s:Shared}{E:Value->Shared->Prop}
theorem Inv.gP (I:Inv X pins σ H s) (E:Value->Shared->Prop):Inv (X.gP E) pins σ H s:=⟨I.ok.gP E,I.os,I.bare,I.base,I.loc,I.cell,I.free,I.fI,I.pin,I.ak,I.len⟩
theorem Inv.jM (I:Inv (X.gP E) pins σ H s):Inv X pins σ H s:=⟨I.ok.jM,I.os,I.bare,I.base,I.loc,I.cell,I.free,I.fI,I.pin,I.ak,I.len⟩
theorem SP.jM {D:Ends}{f:Flow}{s':Shared}(h:SP (X.gP E) pins D f s'):SP X pins D f s':=by
 cases f with
 |next=>obtain⟨ao,H',I,q⟩:=h;exact⟨ao,H',I.jM,q⟩
 |brk=>obtain⟨ao,H',I,q⟩:=h;exact⟨ao,H',I.jM,q⟩
 |cont=>obtain⟨ao,H',I,q⟩:=h;exact⟨ao,H',I.jM,q⟩
 |ret u=>obtain⟨v,ao,H',I,r,q⟩:=h;exact⟨v,ao,H',I.jM,r,q⟩
theorem fc.cG {st:List Stmt}{t:TS}(h:fc X.cG st t):fc X st t:=fun pins s σ H D I hw=>
 Zbs (h pins s σ H D (I.gP _) hw) (fun _ _ q=>q.jM) fun _ _ z=>False.elim z
end
section
variable {X:Cx}{st:Stmt}{rest:List Stmt}{t u:TS}{e:Expr}{te:TE}{pos:Pos}
def CC:TS:=fun D σ H=>D.nx σ H
def gQ (t u:TS):TS:=fun D σ H=>t {D with nx:=u D} σ H
theorem Zv:fc X [] CC:=fun _ _ σ H _ I h=>PySem.wpAny_execs_nil ⟨σ,H,I,h⟩
theorem Zc (h1:PS X st t) (h2:fc X rest u):fc X (st::rest) (gQ t u):=by
 intro pins s σ H D I h
 refine PySem.wpAny_execs_cons (ar (h1 pins s σ H {D with nx:=u D} I h) fun f s1 q=> ?_)
 cases f with
 |next=>
  obtain⟨ao,H',I',q⟩:=q
  exact h2 pins s1 ao H' D I' q
 |ret v=>exact q
 |brk=>exact q
 |cont=>exact q
theorem Zi (h1:PS X st t):fc X [st] t:=by
 intro pins s σ H D I h
 refine PySem.wpAny_execs_cons (ar (h1 pins s σ H D I h) fun f s1 q=> ?_)
 cases f with
 |next=>exact PySem.wpAny_execs_nil q
 |ret v=>exact q
 |brk=>exact q
 |cont=>exact q
theorem Inv.quiet {pins:List (Addr×Obj)}{σ:St}{H:Hp}{s:Shared}(I:Inv X pins σ H s):interactive X.env=false:=by simp[interactive,I.ok.kind]
def Ly (te:TE):TS:=fun D σ H=>te σ H fun _ H1=>D.nx σ H1
theorem Zy (he:PE X e te) (hs:swapsWith e none pos.line X.env=pure false:=by rfl):PS X (.Expr e pos) (Ly te):=by
 intro pins s σ H D I h
 exact wpAny_Expr_any (ar (he pins s σ H _ I h) fun v s1 ⟨x,H1,I1,r1,q1⟩=> ⟨σ,H1,I1,q1⟩) I.quiet hs
def xY (te:TE):TS:=fun D σ H=>te σ H D.rt
theorem Zw (he:PE X e te):PS X (.Return (some e) pos) (xY te):=by
 intro pins s σ H D I h
 exact wpAny_Return_some (ar (he pins s σ H _ I h) fun v s1 ⟨x,H1,I1,r1,q1⟩=> ⟨x,σ,H1,I1,r1,q1⟩)
def Ls (c:TT) (t u:TS):TS:=fun D σ H=>c σ H fun b H1=>if b=true then t D σ H1 else u D σ H1
theorem ZO {c:Expr}{a b:List Stmt}{tc:TT}(hc:PT X c tc) (ha:fc X a t) (hb:fc X b u):PS X (.If c a b pos) (Ls tc t u):=by
 intro pins s σ H D I h
 refine wpAny_If (ar (hc pins s σ H _ I h) fun d s1 ⟨H1,I1,q1⟩=> ?_)
 cases d with
 |true=>exact ha pins s1 σ H1 D I1 q1
 |false=>exact hb pins s1 σ H1 D I1 q1
def Lm:TS:=fun _ _ _=>False
theorem Zr {LW:List Stmt} :fc X LW Lm:=fun _ _ _ _ _ _ h=>h.elim
end
abbrev TG:=V->St->Hp->(St->Hp->Prop)->Prop
abbrev nY:=List V->St->Hp->(St->Hp->Prop)->Prop
def PG (X:Cx) (target:Expr) (t:TG):Prop:=
 ∀(pins:List (Addr×Obj)) (s:Shared) (σ:St) (H:Hp) (v:V) (u:Value) (Q:St->Hp->Prop),Inv X pins σ H s->RelV v u->t v σ H Q->
  wpAny (model X.prog X.w) X.A (assign target X.env u) (fun _ s'=> ∃ao H',Inv X pins ao H' s'/\Q ao H') X.xe s
def xu (X:Cx) (ts:List Expr) (t:nY):Prop:=
 ∀(pins:List (Addr×Obj)) (s:Shared) (σ:St) (H:Hp) (vs:List V) (us:List Value) (Q:St->Hp->Prop),Inv X pins σ H s->Vals vs us->t vs σ H Q->
  wpAny (model X.prog X.w) X.A (assignInOrder ((assignEach ts X.env).map (·.2)) us) (fun _ s'=> ∃ao H',Inv X pins ao H' s'/\Q ao H') X.xe s
abbrev BY:=V->V->V->Hp->(Hp->Prop)->Prop
def Kk (X:Cx) (t:BY):Prop:=
 ∀(pins:List (Addr×Obj)) (s:Shared) (σ:St) (H:Hp) (o i v:V) (ov iv u:Value) (Q:Hp->Prop),Inv X pins σ H s->RelV o ov->RelV i iv->RelV v u->t o i v H Q->
  wpAny (model X.prog X.w) X.A (setItem ov iv u) (fun _ s'=> ∃H',Inv X pins σ H' s'/\Q H') X.xe s
section
variable {X:Cx}{pos:Pos}
def bP (i:Nat):TG:=fun v σ H Q=>Q (σ.set i (some v)) H
theorem ZD {i:Nat}{x:Str}(hN:X.N.Nodup) (hi:X.N[i]? =some x) (hx:Loc X.env.scope x) (hf:X.fn x=true∨X.env.scope.names.lookup x=some .local:=by first |exact .inl rfl |exact .inr rfl |assumption):PG X (.Name x pos) (bP i):=by
 intro pins s σ H v u Q I r h
 exact wpAny_assign_Name (YN I hN hi hx r (fun s' I'=> ⟨_,H,I',h⟩) hf)
def iZ:nY:=fun vs σ H Q=>vs=[]/\Q σ H
def cz (t:TG) (u:nY):nY:=fun vs σ H Q=> ∃v r,vs=v::r/\t v σ H fun ao H'=>u r ao H' Q
theorem ZP:xu X [] iZ:=by
 intro pins s σ H vs us Q I r h
 obtain⟨e,h⟩:=h
 subst e
 cases r
 exact assignInOrder_nil ⟨σ,H,I,h⟩
theorem Zk {e:Expr}{es:List Expr}{t:TG}{u:nY}(h1:PG X e t) (h2:xu X es u)
  (hs:(assignEach (e::es) X.env).map (·.2)=assign e X.env::(assignEach es X.env).map (·.2):=by rfl):xu X (e::es) (cz t u):=by
 intro pins s σ H vs us Q I r h
 obtain⟨v,vr,e1,h⟩:=h
 subst e1
 cases r with
 |cons r rr=>
  rw[hs]
  refine PyProof.Rows.assignInOrder_cons (ar (h1 pins s σ H _ _ _ I r h) fun _ s1 ⟨Cs,H1,I1,q1⟩=> ?_)
  exact h2 pins s1 Cs H1 _ _ Q I1 rr q1
def iY (K:ZhQ) (n:Nat) (t:nY):TG:=fun v σ H Q=> ∃a xs,v=.ref a/\aj K H a xs/\xs.length=n/\t xs σ H Q
theorem Z3 {es:List Expr}{k:Nat}{t:nY}{n:Nat}(hc:X.calm=true) (h:xu X es t)
  (hn:(assignEach es X.env).length=n:=by rfl) (ka:(assignEach es X.env).findIdx? (·.1)=none:=by rfl):PG X (.Tuple es k pos) (iY X.K n t):=by
 intro pins s σ H v u Q I r hw
 obtain⟨a,xs,e1,hq,hl,hw⟩:=hw
 subst e1
 cases r
 obtain⟨aa,rv,ht,hz⟩:=I.tuple hq
 refine assign_Tuple_tuple (I.ok.hd hc) ht (by simp[hn,<-hl,rv.length]) ka fun h' hx=> ?_
 have I1:Inv X pins σ H {s with heap:=h'} :=I.kept (t':=s.toks) fun b o e=>hx b o (ZaE (Zaq e)) e
 exact h pins _ σ H xs _ Q I1 (by simpa using rv) hw
def Ru (to ti:TE) (t:BY):TG:=fun v σ H Q=>to σ H fun o H1=>ti σ H1 fun i H2=>t o i v H2 fun H3=>Q σ H3
theorem Ht {o i:Expr}{to ti:TE}{t:BY}(ho:PE X o to) (hi:PE X i ti) (hs:Kk X t)
    (ha:∀v,assign (.Subscript o i pos) X.env v=(do
      let ov <-holding [v] (eval o X.env)
      let iv <-holding [v,ov] (eval i X.env)
      standAt pos
      holding [v,ov,iv] (setItem ov iv v)
      release [v,ov,iv] []):=by intro _;rfl):PG X (.Subscript o i pos) (Ru to ti t):=by
  intro pins s σ H v u Q I r h
  rw[ha]
  refine Zaa (ZbS (ar (ho pins s σ H _ I h) fun ov s1 ⟨x,H1,I1,r1,q1⟩=> ?_))
  refine Zaa (ZbS (ar (hi pins s1 σ H1 _ I1 q1) fun iv s2 ⟨y,H2,I2,r2,q2⟩=> ?_))
  refine Zaa (ZeN (Zaa (ZbS (ar (hs pins s2 σ H2 x y v ov iv u _ I2 r1 r2 r q2) fun _ s3 ⟨H3,I3,q3⟩=> ?_))))
  exact wpAny_release ⟨σ,H3,I3,q3⟩
def uy (te:TE) (g:TG):TS:=fun D σ H=>te σ H fun x H1=>g x σ H1 D.nx
theorem YK {tg e:Expr}{te:TE}{g:TG}(he:PE X e te) (hg:PG X tg g) (hs:swapsWithSole [tg] e pos.line X.env=pure false:=by rfl) (hw:swappedStores [tg] e X.env=pure none:=by rfl)
  (h1:(assignEach [tg] X.env).map (·.2)=[assign tg X.env]:=by rfl):PS X (.Assign [tg] e pos) (uy te g):=by
 intro pins s σ H D I h
 refine wpAny_Assign_stores (ar (he pins s σ H _ I h) fun v s1 ⟨x,H1,I1,r1,q1⟩=> ?_) hs hw
 rw[h1]
 exact ar (hg pins s1 σ H1 x v _ I1 r1 q1) fun _ s2 q=>q
theorem Zx {i:Nat}{x:Str}{e:Expr}{te:TE}{pos':Pos}(hN:X.N.Nodup) (hi:X.N[i]? =some x) (hx:Loc X.env.scope x) (he:PE X e te) (hs:swapsWith e (some (.Name x pos')) pos.line X.env=pure false:=by rfl) (hf:X.fn x=true∨X.env.scope.names.lookup x=some .local:=by first |exact .inl rfl |exact .inr rfl |assumption):
  PS X (.Assign [.Name x pos'] e pos) (uy te (bP i)):=by
 intro pins s σ H D I h
 refine wpAny_Assign_Name (ar (he pins s σ H _ I h) fun v s1 ⟨y,H1,I1,r1,q1⟩=> ?_) hs
 exact YN I1 hN hi hx r1 (fun s2 I2=> ⟨_,H1,I2,q1⟩) hf
def Lh (i j:Nat) (ta:TA):TS:=fun D σ H=>ta σ H fun vs H1=> ∃v w,vs=[v,w]/\D.nx ((σ.set i (some v)).set j (some w)) H1
theorem BL {i j:Nat}{x y:Str}{a b:Expr}{ta:TA}{px py pt:Pos}{kt k2 zq} (hc:X.calm=true) (hN:X.N.Nodup) (hi:X.N[i]? =some x) (hj:X.N[j]? =some y) (dr:i≠j)
  (hx:X.env.scope.names.lookup x=some .local) (hy:X.env.scope.names.lookup y=some .local) (ha:PA X [a,b] ta)
  (hw:swappedStores [.Tuple [.Name x px,.Name y py] kt pt] (.Tuple [a,b] k2 zq) X.env=pure (some [x,y]))
  (hs:swapsWithSole [.Tuple [.Name x px,.Name y py] kt pt] (.Tuple [a,b] k2 zq) pos.line X.env=pure false:=by rfl):
  PS X (.Assign [.Tuple [.Name x px,.Name y py] kt pt] (.Tuple [a,b] k2 zq) pos) (Lh i j ta):=by
 intro pins s σ H D I h
 rw[exec_Assign_arm]
 refine Zaa (ZeN ?_)
 rw[hs]
 refine Zaa (Zaf ?_)
 rw[ZaK .d]
 refine Zaa (Tuple_ (ar (ha _ pins s σ H _ I h) fun us s1 ⟨vs,H1,I1,r1,q1⟩=> ?_))
 obtain⟨v,w,e1,q1⟩:=q1
 subst e1
 obtain⟨u1,u2,rfl,rv,iH⟩:∃u1 u2,us=[u1,u2]/\RelV v u1/\RelV w u2:=by
  cases r1 with
  |cons p q=>
   cases q with
   |cons p' q'=>
    cases q'
    exact⟨_,_,rfl,p,p'⟩
 refine ZbR ?_ aX
 have I2:Inv X pins σ H1 {s1 with heap:=s1.heap.push {cls:=.type "tuple",data:=.seq [u1,u2].toArray} } :=I1.kept (t':=s1.toks) fun b o e=>Zab _ e
 rw[hw]
 refine Zaa (Zaf ?_)
 show wpAny (model X.prog X.w) X.A (do rule "assign.swapped-stores";let items <-unpackItems (.ref s1.heap.objs.size) 2 none;assignInOrder [fun v=>bindName X.env y v,fun v=>bindName X.env x v] items.reverse;pure Flow.next) _ _ _
 refine Zaa (Zee (Zaa (unpackItems_tuple (items:= #[u1,u2]) (I.ok.hd hc) (IsTup.new s1.heap _) fun h' jn=> ?_)))
 have I3:=I2.kept (h':=h') (t':=s1.toks) fun b o e=>jn b o (ZaE (Zaq e)) e
 show wpAny _ _ (assignInOrder [fun v=>bindName X.env y v,fun v=>bindName X.env x v] [u2,u1] >>=fun _=>pure Flow.next) _ _ _
 refine Zaa (PyProof.Rows.assignInOrder_cons (wpAny_bindName (YN I3 hN hj (.inl hy) iH (fun s2 I4=> ?_) (.inr hy))))
 refine PyProof.Rows.assignInOrder_cons (wpAny_bindName (YN I4 hN hi (.inl hx) rv (fun s3 I5=>assignInOrder_nil (Zaf ?_)) (.inr hx)))
 rw[List.set_comm _ _ (ZdS dr)]at I5
 exact⟨_,H1,I5,q1⟩
end
structure It where
 go:Nat->Hp->Prop
 mq:Nat->Hp->V->Hp->Prop
 stop:Nat->Hp->Prop
def bE (X:Cx) (pins:List (Addr×Obj)) (H:Hp) (b:Addr):Prop:=
 H b=none/\b≠X.env.locals/\b∉X.fs/\(b∈X.ex∨X.cf.heap.objs.size<=b)/\(∀x c,X.env.cells.lookup x=some c->c≠b)/\∀p∈X.pn++pins,p.1≠b
theorem Inv.lU {X:Cx}{pins:List (Addr×Obj)}{σ:St}{H H':Hp}{s:Shared}{b:Addr}(I:Inv X pins σ H s) (hb:s.heap.objs.size<=b) (hn:H' b=none):bE X pins H' b:=by
 refine⟨hn,Nat.ne_of_gt (Zaz I.lt hb),I.NH hb,.inr (Zcd I.sz hb),fun x c e z=> ?_,fun p hp z=> ?_⟩
 ·obtain⟨v,q⟩:=I.cell x c e
  exact absurd (Zaz q.lt (by rw[z];exact hb)) (ZbI _)
 ·exact absurd (Zaz (Zaq (I.pin p hp).1) (by rw[z];exact hb)) (ZbI _)
structure Turn (P:Program) (w:World) (K:ZhQ) (tg:Expr) (J:It) (fp:List Addr) (it:Addr) (tn:Nat->Heap->Prop):Prop where
 mem:it∈fp
 obj:∀i h,tn i h->∀b∈fp,∃o,h.get? b=some o/\∀v,o.data≠.cell v
 keep:∀i h h',tn i h->(∀b∈fp,∀o,h.get? b=some o->h'.get? b=some o)->tn i h'
 item:∀(X:Cx),X.prog=P->X.w=w->X.K=K->X.calm=true->∀(i:Nat) (pins:List (Addr×Obj)) (s:Shared) (σ:St) (H:Hp) (E:Value->Shared->Prop),Inv X pins σ H s->(∀b∈fp,bE X pins H b)->tn i s.heap->J.go i H->
  wpAny (model P w) X.A (pyNext (.ref it)) (fun r s1=> ∃u,r=some u/\
   wpAny (model P w) X.A (letOwnedTupleGo tg (.ref it) u) (fun _ s2=> ∃x H',Inv X pins σ H' s2/\RelV x u/\J.mq i H x H'/\tn (i+1) s2.heap/\∀b∈fp,H' b=none) E s1) E s
 done:∀(X:Cx),X.prog=P->X.w=w->X.K=K->X.calm=true->∀(i:Nat) (pins:List (Addr×Obj)) (s:Shared) (σ:St) (H:Hp) (E:Value->Shared->Prop),Inv X pins σ H s->(∀b∈fp,bE X pins H b)->tn i s.heap->J.stop i H->
  wpAny (model P w) X.A (pyNext (.ref it)) (fun r s1=>r=none/\Inv X pins σ H s1) E s
 self:∀(A:Around) (i:Nat) (s:Shared) (Q:Value->Shared->Prop) (E:Value->Shared->Prop),tn i s.heap->Q (.ref it) s->wpAny (model P w) A (pyIter (.ref it)) Q E s
abbrev TI:=St->Hp->(It->Hp->Prop)->Prop
def Kl (X:Cx) (pins:List (Addr×Obj)) (σ:St) (tg:Expr) (R:It->Hp->Prop) (iK:Value) (s2:Shared):Prop:=
 ∃(it:Addr) (fp:List Addr) (tn:Nat->Heap->Prop) (J:It) (H':Hp),iK=.ref it/\Inv X pins σ H' s2/\Turn X.prog X.w X.K tg J fp it tn/\tn 0 s2.heap/\(∀b∈fp,bE X pins H' b)/\R J H'
def PI (X:Cx) (tg iter:Expr) (wi:TI):Prop:=
 ∀(pins:List (Addr×Obj)) (s:Shared) (σ:St) (H:Hp) (R:It->Hp->Prop),Inv X pins σ H s->wi σ H R->
  wpAny (model X.prog X.w) X.A (eval iter X.env) (fun v s1=>wpAny (model X.prog X.w) X.A (pyIter v) (Kl X pins σ tg R) X.xe s1) X.xe s
theorem BC {M:Model}{A:Around}{E:Value->Shared->Prop}{s:Shared}{tg:Expr}{it:Addr}{u:Value}{o:Obj}{n:String}{vs:Array Value}{Q:Unit->Shared->Prop}(ho:s.heap.get? it=some o) (hc:o.cls=.type n) (hd:o.data=.fields vs)
    (hn:["enumerate", "zip", "dict_itemiterator", "dict_reverseitemiterator", "odict_iterator", "itertools.zip_longest", "itertools.pairwise"].contains n=false) (hQ:Q () s):wpAny M A (letOwnedTupleGo tg (.ref it) u) Q E s:=by
  unfold letOwnedTupleGo
  cases tg<;>first
    |exact Zaf hQ
    |(cases u<;>first
        |exact Zaf hQ
        |(refine Zaa (wpAny_load ho ?_)
          rw[hc,hd]
          show wpAny M A (if (["enumerate", "zip", "dict_itemiterator", "dict_reverseitemiterator", "odict_iterator", "itertools.zip_longest", "itertools.pairwise"].contains n&&vs[0]? ==some (rawInt _))=true then _ else _) Q E s
          rw[ZaK (by intro h;rw[hn,Zez]at h;cases h)]
          exact Zaf hQ))
def Ca (K:ZhQ) (a:Addr):It:=
 ⟨fun i H=> ∃xs x,ai K H a xs/\xs[i]? =some x,fun i H x H'=>H'=H/\∀xs,ai K H a xs->xs[i]? =some x,fun i H=> ∃xs,ai K H a xs/\xs.length<=i⟩
def B8 (K:ZhQ) (a:Addr):It:=
 ⟨fun i H=> ∃xs x,aj K H a xs/\xs[i]? =some x,fun i H x H'=>H'=H/\∀xs,aj K H a xs->xs[i]? =some x,fun i H=> ∃xs,aj K H a xs/\xs.length<=i⟩
def oq (lo:Int) (n:Nat):It:=⟨fun i _=>i<n,fun i H x H'=>H'=H/\x=.int (lo+i),fun i _=>n<=i⟩
theorem Zct {P:Program}{w:World}{K:ZhQ}{tg:Expr}(a it:Addr):Turn P w K tg (Ca K a) [it] it (fun i h=>h.IsListIter it a i) where
 mem:=by simp
 obj:=fun i h st b hb=>by
  have e:b=it:=by simpa using hb
  subst e
  obtain⟨o,e,c,d⟩:=st
  exact⟨o,e,fun v z=>by rw[d]at z;cases z⟩
 keep:=fun i h h' st k=>st.at fun o e=>k it (by simp) o e
 item:=by
  intro X hP hw hK hc i pins s σ H E I hf st hg
  subst hP hw hK
  obtain⟨xs,x,hq,hx⟩:=hg
  obtain⟨aa,rv,p,hz⟩:=I.list hq
  obtain⟨u,hu,ru⟩:=rv.get hx
  obtain⟨f0,f1,f2,f3,f4,f5⟩:=hf it (by simp)
  refine wpAny_pyNext_list_item st p.isList (x:=u) (by simpa using hu) fun h' ae sb=> ?_
  have I1:Inv X pins σ H {s with heap:=h'} :=I.turned (t':=s.toks) (fun b o hb e=> (sb.2 b hb).trans e) f0 f1 f3 f4 f5
  obtain⟨o,e,c,d⟩:=id ae
  exact⟨u,rfl,BC (s:= {s with heap:=h'}) e c d .d ⟨x,H,I1,ru,⟨rfl,fun ys hy=>by rw[I.vN hy hq];exact hx⟩,ae,fun b hb=> (hf b hb).1⟩⟩
 done:=by
  intro X hP hw hK hc i pins s σ H E I hf st hg
  subst hP hw hK
  obtain⟨xs,hq,hx⟩:=hg
  obtain⟨aa,rv,p,hz⟩:=I.list hq
  obtain⟨f0,f1,f2,f3,f4,f5⟩:=hf it (by simp)
  have hl:=rv.length
  exact wpAny_pyNext_list_end (I.ok.hd hc) st p.isList (by simp;omega) fun h' eb=> ⟨rfl,I.turned (t':=s.toks) (fun b o hb e=>eb b o hb e) f0 f1 f3 f4 f5⟩
 self:=fun _ _ _ _ _ st h=>wpAny_pyIter_listiter st h
theorem Za5 {P:Program}{w:World}{K:ZhQ}{tg:Expr}(a it:Addr):Turn P w K tg (B8 K a) [it] it (fun i h=>h.IsTupleIter it a i) where
 mem:=by simp
 obj:=fun i h st b hb=>by
  have e:b=it:=by simpa using hb
  subst e
  obtain⟨o,e,c,d⟩:=st
  exact⟨o,e,fun v z=>by rw[d]at z;cases z⟩
 keep:=fun i h h' st k=>st.at fun o e=>k it (by simp) o e
 item:=by
  intro X hP hw hK hc i pins s σ H E I hf st hg
  subst hP hw hK
  obtain⟨xs,x,hq,hx⟩:=hg
  obtain⟨aa,rv,p,hz⟩:=I.tuple hq
  obtain⟨u,hu,ru⟩:=rv.get hx
  obtain⟨f0,f1,f2,f3,f4,f5⟩:=hf it (by simp)
  refine wpAny_pyNext_tuple_item st (show s.heap.IsTuple a aa.toArray from p) (x:=u) (by simpa using hu) fun h' ae sb=> ?_
  have I1:Inv X pins σ H {s with heap:=h'} :=I.turned (t':=s.toks) (fun b o hb e=> (sb.2 b hb).trans e) f0 f1 f3 f4 f5
  obtain⟨o,e,c,d⟩:=id ae
  exact⟨u,rfl,BC (s:= {s with heap:=h'}) e c d .d ⟨x,H,I1,ru,⟨rfl,fun ys hy=>by rw[I.um hy hq];exact hx⟩,ae,fun b hb=> (hf b hb).1⟩⟩
 done:=by
  intro X hP hw hK hc i pins s σ H E I hf st hg
  subst hP hw hK
  obtain⟨xs,hq,hx⟩:=hg
  obtain⟨aa,rv,p,hz⟩:=I.tuple hq
  obtain⟨f0,f1,f2,f3,f4,f5⟩:=hf it (by simp)
  have hl:=rv.length
  exact wpAny_pyNext_tuple_end (I.ok.hd hc) st (show s.heap.IsTuple a aa.toArray from p) (by simp;omega) fun h' eb=> ⟨rfl,I.turned (t':=s.toks) (fun b o hb e=>eb b o hb e) f0 f1 f3 f4 f5⟩
 self:=fun _ _ _ _ _ st h=>wpAny_pyIter_tupleiter st h
theorem Za6 {P:Program}{w:World}{K:ZhQ}{tg:Expr}(it:Addr) (lo:Int) (n:Nat):Turn P w K tg (oq lo n) [it] it (fun i h=>IsRangeIter h it (lo+(i:Nat)*1) ((n:Int) - (i:Nat)) 1) where
 mem:=by simp
 obj:=fun i h st b hb=>by
  have e:b=it:=by simpa using hb
  subst e
  exact⟨_,st,fun v z=>by
   have z':Data.fields _=Data.cell v:=z
   cases z'⟩
 keep:=fun i h h' st k=>k it (by simp) _ st
 item:=by
  intro X hP hw hK hc i pins s σ H E I hf st hg
  subst hP hw hK
  obtain⟨f0,f1,f2,f3,f4,f5⟩:=hf it (by simp)
  have W:=Walks.range (prog:=X.prog) (w:=X.w) (I.ok.hd hc) it lo 1 n
  refine W.item i s _ _ hg st fun v h' tk hv ae kk=> ?_
  obtain⟨t,rfl⟩:=hv
  have I1:Inv X pins σ H {s with heap:=h',toks:=tk} :=I.turned (fun b o hb e=>kk b o (by simpa using hb) e) f0 f1 f3 f4 f5
  refine⟨_,rfl,BC (s:= {s with heap:=h',toks:=tk}) (n:= "range_iterator") ae rfl rfl .d ⟨.int (lo+i),H,I1,⟨t,?_⟩,⟨rfl,rfl⟩,ae,fun b hb=> (hf b hb).1⟩⟩
  rw[Int.mul_one]
 done:=by
  intro X hP hw hK hc i pins s σ H E I hf st hg
  subst hP hw hK
  obtain⟨f0,f1,f2,f3,f4,f5⟩:=hf it (by simp)
  exact wpAny_pyNext_range_end (I.ok.hd hc) st (by have:n<=i:=hg;omega) fun h' eb=> ⟨rfl,I.turned (t':=s.toks) (fun b o hb e=>eb b o hb e) f0 f1 f3 f4 f5⟩
 self:=fun _ _ _ _ _ st h=>wpAny_pyIter_rangeiter st h
section
variable {X:Cx}{tg:Expr}
def Eg (K:ZhQ) (tl:TE):TI:=fun σ H R=>tl σ H fun x H1=> ∃a,x=.ref a/\(∃xs,ai K H1 a xs)/\R (Ca K a) H1
def OP (K:ZhQ) (tl:TE):TI:=fun σ H R=>tl σ H fun x H1=> ∃a,x=.ref a/\(∃xs,aj K H1 a xs)/\R (B8 K a) H1
theorem Ys {l:Expr}{tl:TE}(hl:PE X l tl):PI X tg l (Eg X.K tl):=by
 intro pins s σ H R I h
 refine ar (hl pins s σ H _ I h) fun v s1 ⟨x,H1,I1,r1,q1⟩=> ?_
 obtain⟨a,e,⟨xs,hq⟩,q⟩:=q1
 subst e
 cases r1
 obtain⟨aa,rv,p,hz⟩:=I1.list hq
 refine Ze8 p.isList ?_
 refine⟨s1.heap.objs.size,[s1.heap.objs.size],_,_,H1,rfl,I1.kept (t':=s1.toks) fun b o e=>Zab _ e,Zct a _,⟨_,Zat _ rfl,rfl,rfl⟩,fun b hb=> ?_,q⟩
 have e:b=s1.heap.objs.size:=by simpa using hb
 subst e
 exact I1.lU (Zae _) (I1.ak.fresh (Zae _))
theorem BK {l:Expr}{tl:TE}(hl:PE X l tl):PI X tg l (OP X.K tl):=by
 intro pins s σ H R I h
 refine ar (hl pins s σ H _ I h) fun v s1 ⟨x,H1,I1,r1,q1⟩=> ?_
 obtain⟨a,e,⟨xs,hq⟩,q⟩:=q1
 subst e
 cases r1
 obtain⟨aa,rv,p,hz⟩:=I1.tuple hq
 refine PySem.wpAny_pyIter_tuple (show s1.heap.IsTuple a aa.toArray from p) ?_
 refine⟨s1.heap.objs.size,[s1.heap.objs.size],_,_,H1,rfl,I1.kept (t':=s1.toks) fun b o e=>Zab _ e,Za5 a _,⟨_,Zat _ rfl,rfl,rfl⟩,fun b hb=> ?_,q⟩
 have e:b=s1.heap.objs.size:=by simpa using hb
 subst e
 exact I1.lU (Zae _) (I1.ak.fresh (Zae _))
theorem XY {pins:List (Addr×Obj)}{σ:St}{H:Hp}{s:Shared}{R:It->Hp->Prop}{E:Value->Shared->Prop}{lo hi:Int}{t u v:Tok}{tk:Nat}(I:Inv X pins σ H s) (h1: -(2^62)<=lo) (h2:lo<2^62) (h3: -(2^62)<=hi) (h4:hi<2^62)
  (q:R (oq lo (hi - lo).toNat) H):wpAny (model X.prog X.w) X.A (pyIter (.ref s.heap.objs.size)) (Kl X pins σ tg R) E {s with heap:=s.heap.push {cls:=.type "range",data:=.fields #[.int lo t,.int hi u,.int 1 v]},toks:=tk} :=by
 refine wpAny_pyIter_range (IsRange.new ..) (small_one h1 h2 h3 h4) ?_
 have I1:Inv X pins σ H {s with heap:=s.heap.push {cls:=.type "range",data:=.fields #[.int lo t,.int hi u,.int 1 v]},toks:=tk} :=I.kept fun b o e=>Zab _ e
 refine⟨(s.heap.push {cls:=.type "range",data:=.fields #[.int lo t,.int hi u,.int 1 v]}).objs.size,[(s.heap.push {cls:=.type "range",data:=.fields #[.int lo t,.int hi u,.int 1 v]}).objs.size],_,_,H,rfl,
  I1.kept (t':=tk) fun b o e=>Zab _ e,Za6 _ lo (hi - lo).toNat,?_,fun b hb=> ?_,q⟩
 ·have e1:lo+((0:Nat):Int)*1=lo:=by simp
  have e2:(((hi - lo).toNat:Nat):Int) - ((0:Nat):Int)=Builtin.Range.rangeSize lo hi 1:=by rw[PySem.rangeSize_one];split<;>omega
  show IsRangeIter _ _ (lo+((0:Nat):Int)*1) ((((hi - lo).toNat:Nat):Int) - ((0:Nat):Int)) 1
  rw[e1,e2]
  exact Zat _ rfl
 ·have e:b=(s.heap.push {cls:=.type "range",data:=.fields #[.int lo t,.int hi u,.int 1 v]}).objs.size:=by simpa using hb
  subst e
  exact I1.lU (Zae _) (I1.ak.fresh (Zae _))
def OQ (ta:TA):TI:=fun σ H R=>ta σ H fun vs H1=> ∃j:Int,vs=[.int j]/\ -(2^62)<=j/\j<2^62/\R (oq 0 j.toNat) H1
theorem Z2 {a:Expr}{ta:TA}{p pos:Pos}(hg:Gl X "range") (hm:X.mg "range" =none) (ha:PA X [a] ta) (hs:starEach [a] X.env=[(false,eval a X.env)]:=by rfl):PI X tg (.Call (.Name "range" p) [a] [] pos) (OQ ta):=by
 intro pins s σ H R I h
 refine Call_ (YD I hg hm boot_range (Zb3 (ar (ha pos pins s σ H _ I h) fun us s1 ⟨vs,H1,I1,r1,q1⟩=> ?_) hs rfl))
 obtain⟨j,e,q1,q2,q⟩:=q1
 subst e
 cases r1 with
 |cons r rr=>
  cases rr
  obtain⟨t,rfl⟩:=r
  exact call_range_1 (XY I1 .o .o q1 q2 (by simpa using q))
def Lx (wi:TI) (g:TG) (tb:TS):TS:=fun D σ H=>wi σ H fun J H1=> ∃W:Nat->Nat->St->Hp->Prop,(∃m,W 0 m σ H1)/\∀i m σ H,W i m σ H->
 (J.stop i H/\D.nx σ H)∨(J.go i H/\∃N:St->Hp->Prop,(∀ao H',N ao H'->∃m',m'<m/\W (i+1) m' ao H')/\∀x H',J.mq i H x H'->g x σ H' fun aT H2=>tb {D with nx:=N,ct:=N,bk:=D.nx} aT H2)
def jT (fp:List Addr) (h:Heap):List (Addr×Obj):=fp.filterMap fun b=> (h.get? b).map fun o=> (b,o)
theorem Z5 {fp:List Addr}{h:Heap}{b:Addr}{o:Obj}(hb:b∈fp) (e:h.get? b=some o):(b,o)∈jT fp h:=Zcg.mpr ⟨b,hb,by rw[e];rfl⟩
theorem J7 {fp:List Addr}{h:Heap}{p:Addr×Obj}(hp:p∈jT fp h):p.1∈fp/\h.get? p.1=some p.2:=by
 obtain⟨b,hb,e⟩:=Zcg.mp hp
 cases q:h.get? b with
 |none=>rw[q]at e;cases e
 |some o=>
  rw[q]at e
  have e':(b,o)=p:=ZbE e
  subst e'
  exact⟨hb,q⟩
theorem Inv.pinned {pins:List (Addr×Obj)}{σ:St}{H:Hp}{s:Shared}{fp:List Addr}(I:Inv X pins σ H s) (hf:∀b∈fp,bE X pins H b) (ho:∀b∈fp,∃o,s.heap.get? b=some o/\∀v,o.data≠.cell v):Inv X (pins++jT fp s.heap) σ H s:=
 I.Dr fun p hp=> (ZaC.mp hp).elim (fun z=>I.pin p (Zav _ z)) fun z=>by
  obtain⟨hb,e⟩:=J7 z
  obtain⟨f0,f1,f2,_⟩:=hf p.1 hb
  obtain⟨o,e',d⟩:=ho p.1 hb
  rw[e]at e';cases e'
  exact⟨e,f0,f1,f2,d⟩
theorem Inv.jf {pins pl:List (Addr×Obj)}{σ:St}{H:Hp}{s:Shared}(I:Inv X (pins++pl) σ H s):Inv X pins σ H s:=I.Dr fun p hp=>I.pin p (Zav _ (ZaW _ hp))
theorem Ju {iter:Expr}{body:List Stmt}{wi:TI}{g:TG}{tb:TS}{pos:Pos}(hp:PassesOwn (model X.prog X.w) X.A X.env X.xe) (hc:X.calm=true) (hi:PI X tg iter wi) (hg:PG X tg g) (hb:fc X body tb)
  (hs:∀x,foldedSetIterable iter X.env x=pure x:=by intro _;rfl):PS X (.For tg iter body [] pos) (Lx wi g tb):=by
 intro pins s σ H D I h
 refine wpAny_For (ar (hi pins s σ H _ I h) fun v s1 h1=>ar h1 fun iK s2 h2=> ?_) hs
 obtain⟨it,fp,tn,J,H2,e,I2,T,au,f2,W,⟨m0,w0⟩,turn⟩:=h2
 subst e
 have stat:∀{H':Hp},(∀b∈fp,H' b=none)->∀b∈fp,bE X pins H' b:=fun hn b hb=> ⟨hn b hb,(f2 b hb).2⟩
 refine codeAny_forLoop_any (fun n s'=> ∃i ao H',Inv X pins ao H' s'/\tn i s'.heap/\(∀b∈fp,H' b=none)/\W i n ao H') ?_ m0 ⟨0,σ,H2,I2,au,fun b hb=> (f2 b hb).1,w0⟩
 rintro n s3 ⟨i,iE,H3,I3,cK,wN,w3⟩
 rcases turn i n iE H3 w3 with ⟨stop,qn⟩ |⟨go,N,hN,step⟩
 ·refine Zfx hp (ar (T.done X rfl rfl rfl hc i pins s3 iE H3 X.xe I3 (stat wN) cK stop) fun r s4 ⟨hr,I4⟩=> ?_)
  subst hr
  exact PySem.wpAny_execs_nil ⟨iE,H3,I4,qn⟩
 ·refine Zfx hp (ar (T.item X rfl rfl rfl hc i pins s3 iE H3 X.xe I3 (stat wN) cK go) fun r s4 ⟨u,hr,h4⟩=> ?_)
  subst hr
  refine Zfx hp (ar h4 fun _ s5 ⟨x,H5,I5,r5,y5,cT,wM⟩=> ?_)
  have Cd:=I5.pinned (stat wM) (T.obj _ _ cT)
  refine Zfx hp (ar (hg _ s5 iE H5 x u _ Cd r5 (step x H5 y5)) fun _ s6 ⟨mj,H6,I6,q6⟩=> ?_)
  refine Zfx hp (ar (hb _ s6 mj H6 _ I6 q6) fun f s7 q7=> ?_)
  have again:∀{eE:St}{H7:Hp},Inv X (pins++jT fp s5.heap) eE H7 s7->N eE H7->∃m,m<n/\∃i ao H',Inv X pins ao H' s7/\tn i s7.heap/\(∀b∈fp,H' b=none)/\W i m ao H':=fun {eE H7} I7 n7=>by
   obtain⟨m',hm,w7⟩:=hN eE H7 n7
   refine⟨m',hm,i+1,eE,H7,I7.jf,T.keep _ _ _ cT fun b hb o e=> (I7.pin (b,o) (Zav _ (Zav _ (Z5 hb e)))).1,fun b hb=> ?_,w7⟩
   obtain⟨o,e,d⟩:=T.obj _ _ cT b hb
   exact(I7.pin (b,o) (Zav _ (Zav _ (Z5 hb e)))).2.1
  cases f with
  |next=>obtain⟨eE,H7,I7,n7⟩:=q7;exact again I7 n7
  |cont=>obtain⟨eE,H7,I7,n7⟩:=q7;exact again I7 n7
  |brk=>obtain⟨eE,H7,I7,q7⟩:=q7;exact⟨eE,H7,I7.jf,q7⟩
  |ret v=>obtain⟨x7,eE,H7,I7,r7,q7⟩:=q7;exact⟨x7,eE,H7,I7.jf,r7,q7⟩
end
theorem YU {lo:Int}{n:Nat}{g:TG}{tb:TS}{D:Ends}{σ:St}{H:Hp}(Pv:Nat->St->Hp->Prop) (h0:Pv 0 σ H)
  (hs:∀i σ H,i<n->Pv i σ H->g (.int (lo+i)) σ H fun aT H2=>tb {D with nx:=Pv (i+1),ct:=Pv (i+1),bk:=D.nx} aT H2) (hd:∀σ H,Pv n σ H->D.nx σ H):
  ∃W:Nat->Nat->St->Hp->Prop,(∃m,W 0 m σ H)/\∀i m σ H,W i m σ H->
   ((oq lo n).stop i H/\D.nx σ H)∨((oq lo n).go i H/\∃N:St->Hp->Prop,(∀ao H',N ao H'->∃m',m'<m/\W (i+1) m' ao H')/\∀x H',(oq lo n).mq i H x H'->g x σ H' fun aT H2=>tb {D with nx:=N,ct:=N,bk:=D.nx} aT H2):=by
 refine⟨fun i m σ H=>m=n - i/\i<=n/\Pv i σ H,⟨n,by simp,ZaV _,h0⟩,?_⟩
 rintro i m σ H ⟨rfl,hi,p⟩
 by_cases az:i<n
 ·refine .inr ⟨az,Pv (i+1),fun ao H' p'=> ⟨n - (i+1),.o,rfl,az,p'⟩,fun x H' y=> ?_⟩
  obtain⟨e,y⟩:=y
  subst e y
  exact hs i σ _ az p
 ·have e:i=n:=.o
  subst e
  exact .inl ⟨Zae _,hd σ H p⟩
abbrev R2:=V->V->Hp->VK->Prop
def bg (X:Cx) (f:Value->Value->Sem Value) (r:R2):Prop:=
 ∀(pins:List (Addr×Obj)) (s:Shared) (σ:St) (H:Hp) (x y:V) (v u:Value) (Q:VK),Inv X pins σ H s->RelV x v->RelV y u->r x y H Q->
  wpAny (model X.prog X.w) X.A (f v u) (EP X pins σ Q) X.xe s
def BX (X:Cx) (f:Value->Sem Value) (r:V->Hp->VK->Prop):Prop:=
 ∀(pins:List (Addr×Obj)) (s:Shared) (σ:St) (H:Hp) (x:V) (v:Value) (Q:VK),Inv X pins σ H s->RelV x v->r x H Q->
  wpAny (model X.prog X.w) X.A (f v) (EP X pins σ Q) X.xe s
def dA (X:Cx) (f:Value) (r:List V->Hp->VK->Prop):Prop:=
 ∀(pins:List (Addr×Obj)) (s:Shared) (σ:St) (H:Hp) (xs:List V) (us:List Value) (Q:VK),Inv X pins σ H s->Vals xs us->r xs H Q->
  wpAny (model X.prog X.w) X.A (call f us) (EP X pins σ Q) X.xe s
def kL (r:R2) (ta tb:TE):TE:=fun σ H Q=>ta σ H fun x H1=>tb σ H1 fun y H2=>r x y H2 Q
def Lc (r:V->Hp->VK->Prop) (ta:TE):TE:=fun σ H Q=>ta σ H fun x H1=>r x H1 Q
def rI (C:Int->Int->Prop) (g:Int->Int->V):R2:=fun x y H Q=> ∃i j,x=.int i/\y=.int j/\C i j/\Q (g i j) H
def jR (g:Int->Int->V):R2:=fun x y H Q=> ∃i j,x=.int i/\y=.int j/\Q (g i j) H
def rU (g:Int->V):V->Hp->VK->Prop:=fun x H Q=> ∃i,x=.int i/\Q (g i) H
section
variable {X:Cx}{a b c:Expr}{ta tb tc:TE}{pos:Pos}
theorem Bo (ha:PE X a ta) (hb:PE X b tb) {pins:List (Addr×Obj)}{s:Shared}{σ:St}{H:Hp}{R:V->V->Hp->Prop}(I:Inv X pins σ H s)
  (h:ta σ H fun x H1=>tb σ H1 fun y H2=>R x y H2) {Q:Value->Shared->Prop}{f:Value->Value->Sem Value}
  (hf:∀v u s2 x y H2,Inv X pins σ H2 s2->RelV x v->RelV y u->R x y H2->wpAny (model X.prog X.w) X.A (f v u) Q X.xe s2):
  wpAny (model X.prog X.w) X.A (eval a X.env) (fun v aI=>wpAny (model X.prog X.w) X.A (eval b X.env) (fun u oG=>wpAny (model X.prog X.w) X.A (f v u) Q X.xe oG) X.xe aI) X.xe s:=by
 refine ar (ha pins s σ H _ I h) fun v s1 ⟨x,H1,I1,r1,q1⟩=> ?_
 refine ar (hb pins s1 σ H1 _ I1 q1) fun u s2 ⟨y,H2,I2,r2,q2⟩=> ?_
 exact hf v u s2 x y H2 I2 r1 r2 q2
theorem Zm {op:Operator}{r:R2}(ho:bg X (binaryOp op) r) (ha:PE X a ta) (hb:PE X b tb):PE X (.BinOp a op b pos) (kL r ta tb):=by
 intro pins s σ H Q I h
 exact wpAny_BinOp (Bo ha hb I h fun v u s2 x y H2 I2 rx ry q=>ho pins s2 σ H2 x y v u Q I2 rx ry q)
theorem GR {op:UnaryOp}{r:V->Hp->VK->Prop}(ho:BX X (unaryOp op) r) (ha:PE X a ta):PE X (.UnaryOp op a pos) (Lc r ta):=by
 intro pins s σ H Q I h
 exact UnaryOp_ (ar (ha pins s σ H _ I h) fun v s1 ⟨x,H1,I1,r1,q1⟩=>ho pins s1 σ H1 x v Q I1 r1 q1)
theorem vw {f:Value->Value->Sem Value}{C:Int->Int->Prop}{g:Int->Int->Int}
  (rule:∀(i j:Int) (t u:Tok) (s:Shared) (Q:Value->Shared->Prop) (E:Value->Shared->Prop),C i j->Q (.int (g i j) s.toks) {s with toks:=s.toks+1}->wpAny (model X.prog X.w) X.A (f (.int i t) (.int j u)) Q E s):
  bg X f (rI C fun i j=> .int (g i j)):=by
 intro pins s σ H x y v u Q I rx ry h
 obtain⟨i,j,rfl,rfl,hc,q⟩:=h
 obtain⟨t,rfl⟩:=rx
 obtain⟨t',rfl⟩:=ry
 exact rule i j t t' s _ _ hc ⟨.int (g i j),H,I.tok _,⟨_,rfl⟩,q⟩
theorem Dx {f:Value->Value->Sem Value}{g:Int->Int->Int}
  (rule:∀(i j:Int) (t u:Tok) (s:Shared) (Q:Value->Shared->Prop) (E:Value->Shared->Prop),Q (.int (g i j) s.toks) {s with toks:=s.toks+1}->wpAny (model X.prog X.w) X.A (f (.int i t) (.int j u)) Q E s):
  bg X f (jR fun i j=> .int (g i j)):=by
 intro pins s σ H x y v u Q I rx ry h
 obtain⟨i,j,rfl,rfl,q⟩:=h
 obtain⟨t,rfl⟩:=rx
 obtain⟨t',rfl⟩:=ry
 exact rule i j t t' s _ _ ⟨.int (g i j),H,I.tok _,⟨_,rfl⟩,q⟩
theorem vA {f:Value->Value->Sem Value}{g:Int->Int->Bool}
  (rule:∀(i j:Int) (t u:Tok) (s:Shared) (Q:Value->Shared->Prop) (E:Value->Shared->Prop),Q (.bool (g i j)) s->wpAny (model X.prog X.w) X.A (f (.int i t) (.int j u)) Q E s):
  bg X f (jR fun i j=> .bl (g i j)):=by
 intro pins s σ H x y v u Q I rx ry h
 obtain⟨i,j,rfl,rfl,q⟩:=h
 obtain⟨t,rfl⟩:=rx
 obtain⟨t',rfl⟩:=ry
 exact rule i j t t' s _ _ ⟨.bl (g i j),H,I,rfl,q⟩
def aan (i j:Int):Prop:=0<j/\j<1073741824
def aam (i j:Int):Prop:=0<=j/\j<=1000000/\i.natAbs<2^64
def Cp (i j:Int):Prop:=(-(2^64)<i/\i<2^64)∨(-(2^64)<j/\j<2^64)
theorem Cp.ok {i j:Int}(h:Cp i j):IntMulOk i j:=by
 rcases h with ⟨h1,h2⟩ |⟨h1,h2⟩
 ·exact .of_left (intBits_le_64 h1 h2)
 ·exact .of_right (intBits_le_64 h1 h2)
theorem ZT:bg X (binaryOp .Add) (jR fun i j=> .int (i+j)):=Dx fun _ _ _ _ _ _ _ q=>add_int q
theorem ZU:bg X (binaryOp .Sub) (jR fun i j=> .int (i - j)):=Dx fun _ _ _ _ _ _ _ q=>sub_int q
theorem WE:bg X (binaryOp .Mult) (rI Cp fun i j=> .int (i*j)):=vw fun _ _ _ _ _ _ _ hc q=>mul_int q hc.ok
theorem HW:bg X (binaryOp .FloorDiv) (rI aan fun i j=> .int (i/j)):=vw fun i j _ _ _ _ _ hc q=>by
 have h1:(0:Int)<j:=hc.1
 have h2:j<1073741824:=hc.2
 exact floordiv_int .o (by rw[Int.fdiv_eq_ediv_of_nonneg i .o];exact q) (.inl (PyProof.noPylong_small .o))
theorem Jv:bg X (binaryOp .Mod) (rI (fun _ j=>0<j) fun i j=> .int (i%j)):=vw fun i j _ _ _ _ _ hc q=>by
 have h1:(0:Int)<j:=hc
 exact mod_int' .o (by rw[Int.fmod_eq_emod_of_nonneg i .o];exact q)
theorem WD:bg X (binaryOp .Pow) (rI aam fun i j=> .int (i^j.toNat)):=vw fun _ _ _ _ _ _ _ hc q=>pow_int_small hc.1 hc.2.1 hc.2.2 q
theorem KW {f:Value->Sem Value}{g:Int->Int}
  (rule:∀(i:Int) (t:Tok) (s:Shared) (Q:Value->Shared->Prop) (E:Value->Shared->Prop),Q (.int (g i) s.toks) {s with toks:=s.toks+1}->wpAny (model X.prog X.w) X.A (f (.int i t)) Q E s):
  BX X f (rU fun i=> .int (g i)):=by
 intro pins s σ H x v Q I rx h
 obtain⟨i,rfl,q⟩:=h
 obtain⟨t,rfl⟩:=rx
 exact rule i t s _ _ ⟨.int (g i),H,I.tok _,⟨_,rfl⟩,q⟩
theorem Hk:BX X (unaryOp .USub) (rU fun i=> .int (-i)):=KW fun _ _ _ _ _ q=>neg_int q
end
def mD:V->V->Bool
 | .ah,.ah=>true | .ah,.int _=>true | .int _,.ah=>true | .ah,.bl _=>true | .bl _,.ah=>true | .ah,.str _=>true | .str _,.ah=>true
 | .int _,.int _=>true | .bl _,.bl _=>true | .str _,.str _=>true | .ir _,.ir _=>true
 | .int _,.str _=>true | .str _,.int _=>true | .bl _,.str _=>true | .str _,.bl _=>true
 |_,_=>false
def MO:R2:=fun x y H Q=>mD x y=true/\Q (.bl (decide (x=y))) H
def MG:R2:=fun x y H Q=>mD x y=true/\Q (.bl (!decide (x=y))) H
theorem HC {i j:Int} :decide (V.int i=V.int j)=(i==j):=by
 rw[Zek]
 simp
theorem GY {i j:Bool} :decide (V.bl i=V.bl j)=(i==j):=by
 rw[Zek]
 simp
theorem HD {i j:Str} :decide (V.str i=V.str j)=(i==j):=by
 rw[Zek]
 simp
theorem HB {i j:Array UInt8} :decide (V.ir i=V.ir j)=(i.toList==j.toList):=by
 rw[Zek]
 cases i
 cases j
 simp
section
variable {X:Cx}{a b c:Expr}{ta tb tc:TE}{pos:Pos}
theorem ZJ {pins:List (Addr×Obj)}{σ:St}{H:Hp}{s:Shared}{Q:VK}{k k':Bool}(I:Inv X pins σ H s) (q:Q (.bl k) H) (e:k=k'):EP X pins σ Q (.bool k') s:=by
 subst e
 exact⟨.bl k,H,I,rfl,q⟩
theorem Y3:bg X (compareOp .Eq) MO:=by
 intro pins s σ H x y v u Q I rx ry h
 obtain⟨hs,q⟩:=h
 cases x with
 |ah=>
  cases rx
  cases y with
  |ah=>cases ry;exact PySem.EqNone.eq_none_none (ZJ I q (by simp))
  |bl j=>cases ry;exact PySem.EqNone.eq_none_bool (ZJ I q (by simp))
  |int j=>obtain⟨t',rfl⟩:=ry;exact PySem.EqNone.eq_none_int (ZJ I q (by simp))
  |str j=>obtain⟨t',rfl⟩:=ry;exact PySem.EqNone.eq_none_str (ZJ I q (by simp))
  |_=>exact absurd (show false=true from hs) Zaw
 |bl i=>
  cases rx
  cases y with
  |ah=>cases ry;exact PySem.EqNone.eq_bool_none (ZJ I q (by simp))
  |bl j=>cases ry;exact eq_bool (ZJ I q GY)
  |str j=>obtain⟨t',rfl⟩:=ry;exact PySem.EqMixed.eq_bool_str (ZJ I q (by simp))
  |_=>exact absurd (show false=true from hs) Zaw
 |int i=>
  obtain⟨t,rfl⟩:=rx
  cases y with
  |ah=>cases ry;exact PySem.EqNone.eq_int_none (ZJ I q (by simp))
  |int j=>obtain⟨t',rfl⟩:=ry;exact eq_int (ZJ I q HC)
  |str j=>obtain⟨t',rfl⟩:=ry;exact PySem.EqMixed.eq_int_str (ZJ I q (by simp))
  |_=>exact absurd (show false=true from hs) Zaw
 |str i=>
  obtain⟨t,rfl⟩:=rx
  cases y with
  |ah=>cases ry;exact PySem.EqNone.eq_str_none (ZJ I q (by simp))
  |bl j=>cases ry;exact PySem.EqMixed.eq_str_bool (ZJ I q (by simp))
  |int j=>obtain⟨t',rfl⟩:=ry;exact PySem.EqMixed.eq_str_int (ZJ I q (by simp))
  |str j=>obtain⟨t',rfl⟩:=ry;exact eq_str (ZJ I q HD)
  |_=>exact absurd (show false=true from hs) Zaw
 |ir i=>
  obtain⟨t,rfl⟩:=rx
  cases y with
  |ir j=>obtain⟨t',rfl⟩:=ry;exact PySem.W.eq_bytes (ZJ I q HB)
  |_=>exact absurd (show false=true from hs) Zaw
 |_=>cases y<;>exact absurd (show false=true from hs) Zaw
theorem Ux:bg X (compareOp .NotEq) MG:=by
 intro pins s σ H x y v u Q I rx ry h
 obtain⟨hs,q⟩:=h
 cases x with
 |ah=>
  cases rx
  cases y with
  |ah=>cases ry;exact PySem.EqNone.ne_none_none (ZJ I q (by simp))
  |bl j=>cases ry;exact PySem.EqNone.ne_none_bool (ZJ I q (by simp))
  |int j=>obtain⟨t',rfl⟩:=ry;exact PySem.EqNone.ne_none_int (ZJ I q (by simp))
  |str j=>obtain⟨t',rfl⟩:=ry;exact PySem.EqNone.ne_none_str (ZJ I q (by simp))
  |_=>exact absurd (show false=true from hs) Zaw
 |bl i=>
  cases rx
  cases y with
  |ah=>cases ry;exact PySem.EqNone.ne_bool_none (ZJ I q (by simp))
  |bl j=>cases ry;exact ne_bool (ZJ I q (ZeM not GY))
  |str j=>obtain⟨t',rfl⟩:=ry;exact PySem.EqMixed.ne_bool_str (ZJ I q (by simp))
  |_=>exact absurd (show false=true from hs) Zaw
 |int i=>
  obtain⟨t,rfl⟩:=rx
  cases y with
  |ah=>cases ry;exact PySem.EqNone.ne_int_none (ZJ I q (by simp))
  |int j=>obtain⟨t',rfl⟩:=ry;exact ne_int (ZJ I q (ZeM not HC))
  |str j=>obtain⟨t',rfl⟩:=ry;exact PySem.EqMixed.ne_int_str (ZJ I q (by simp))
  |_=>exact absurd (show false=true from hs) Zaw
 |str i=>
  obtain⟨t,rfl⟩:=rx
  cases y with
  |ah=>cases ry;exact PySem.EqNone.ne_str_none (ZJ I q (by simp))
  |bl j=>cases ry;exact PySem.EqMixed.ne_str_bool (ZJ I q (by simp))
  |int j=>obtain⟨t',rfl⟩:=ry;exact PySem.EqMixed.ne_str_int (ZJ I q (by simp))
  |str j=>obtain⟨t',rfl⟩:=ry;exact ne_str (ZJ I q (ZeM not HD))
  |_=>exact absurd (show false=true from hs) Zaw
 |ir i=>
  obtain⟨t,rfl⟩:=rx
  cases y with
  |ir j=>obtain⟨t',rfl⟩:=ry;exact PySem.W.ne_bytes (ZJ I q (ZeM not HB))
  |_=>exact absurd (show false=true from hs) Zaw
 |_=>cases y<;>exact absurd (show false=true from hs) Zaw
theorem xm:bg X (compareOp .Lt) (jR fun i j=> .bl (decide (i<j))):=vA fun _ _ _ _ _ _ _ q=>lt_int q
theorem GP:bg X (compareOp .LtE) (jR fun i j=> .bl (decide (i<=j))):=vA fun _ _ _ _ _ _ _ q=>le_int q
theorem Uy:bg X (compareOp .Gt) (jR fun i j=> .bl (decide (j<i))):=vA fun _ _ _ _ _ _ _ q=>gt_int q
theorem VV:bg X (compareOp .GtE) (jR fun i j=> .bl (decide (j<=i))):=vA fun _ _ _ _ _ _ _ q=>ge_int q
theorem bg.or {f:Value->Value->Sem Value}{r r':R2}(h:bg X f r) (h':bg X f r'):bg X f (fun x y H Q=>r x y H Q∨r' x y H Q):=by
 intro pins s σ H x y v u Q I rx ry q
 rcases q with q |q
 ·exact h pins s σ H x y v u Q I rx ry q
 ·exact h' pins s σ H x y v u Q I rx ry q
theorem bF (b:Expr) {op:CmpOp}(h:op≠.In:=by decide) (h2:op≠.NotIn:=by decide):behindInMarks op b=false:=by
 have e1:(op==CmpOp.In)=false:=by cases op<;>first |rfl |exact absurd rfl h
 have e2:(op==CmpOp.NotIn)=false:=by cases op<;>first |rfl |exact absurd rfl h2
 cases b<;>simp[behindInMarks,e1,e2]
theorem Z7 {op:CmpOp}{r:R2}(ho:bg X (compareOp op) r) (ha:PE X a ta) (hb:PE X b tb) (hm:behindInMarks op b=false):PE X (.Compare a [op] [b] pos) (kL r ta tb):=by
 intro pins s σ H Q I h
 exact wpAny_Compare1 (Bo ha hb I h fun v u s2 x y H2 I2 rx ry q=>ho pins s2 σ H2 x y v u Q I2 rx ry q) hm
def Lf (t:TE):TT:=fun σ H Q=>t σ H fun x H'=> ∃k,x=.bl k/\Q k H'
theorem ZM {op:CmpOp}{r:R2}(ho:bg X (compareOp op) r) (ha:PE X a ta) (hb:PE X b tb) (hm:behindInMarks op b=false):PT X (.Compare a [op] [b] pos) (Lf (kL r ta tb)):=by
 intro pins s σ H Q I h
 refine wpAny_isTrue_Compare1 (ar (ha pins s σ H _ I h) fun v s1 ⟨x,H1,I1,r1,q1⟩=>ar (hb pins s1 σ H1 _ I1 q1) fun u s2 ⟨y,H2,I2,r2,q2⟩=>
  ar (ho pins s2 σ H2 x y v u _ I2 r1 r2 q2) fun c s3 ⟨z,H3,I3,r3,k,e,q3⟩=> ?_) hm
 subst e
 cases r3
 exact Zdr ⟨H3,I3,q3⟩
def LG (r r':R2) (ta tb tc:TE):TE:=fun σ H Q=>ta σ H fun x H1=>tb σ H1 fun y H2=>r x y H2 fun z H3=> ∃k,z=.bl k/\
 (if k=true then tc σ H3 fun w' H4=>r' y w' H4 Q else Q (.bl false) H3)
theorem ZdH {op zy:CmpOp}{r r':R2}(ho:bg X (compareOp op) r) (cC:bg X (compareOp zy) r') (ha:PE X a ta) (hb:PE X b tb) (hc:PE X c tc)
  (hm:lastMarks [op,zy] [b,c]=false:=by with_unfolding_all rfl):PE X (.Compare a [op,zy] [b,c] pos) (LG r r' ta tb tc):=by
 intro pins s σ H Q I h
 refine Compare_chain (ar (ha pins s σ H _ I h) fun v s1 ⟨x,H1,I1,r1,q1⟩=>chain_link (ar (hb pins s1 σ H1 _ I1 q1) fun u s2 ⟨y,H2,I2,r2,q2⟩=>
  ar (ho pins s2 σ H2 x y v u _ I2 r1 r2 q2) fun d s3 ⟨z,H3,I3,r3,k,e,q3⟩=> ?_)) hm
 subst e
 cases r3
 refine Zdr ?_
 cases k with
 |false=>exact ite_ff ⟨.bl false,H3,I3,rfl,q3⟩
 |true=>exact ite_tt (chain_last (ar (hc pins s3 σ H3 _ I3 q3) fun w' s4 ⟨z',H4,I4,r4,q4⟩=>cC pins s4 σ H4 y z' u w' Q I4 r2 r4 q4))
theorem vO:(sizeLine:Nat)<2^63:=by rw[ZaH];decide
theorem Zgc {x:V}{us:List Value}(r:Vals [x] us):∃u,us=[u]/\RelV x u:=by
 cases r with
 |cons r1 r2=>cases r2;exact⟨_,rfl,r1⟩
theorem vals2 {x y:V}{us:List Value}(r:Vals [x,y] us):∃u w',us=[u,w']/\RelV x u/\RelV y w':=by
 cases r with
 |cons r1 r2=>
  cases r2 with
  |cons r3 r4=>cases r4;exact⟨_,_,rfl,r1,r3⟩
theorem UO (hc:X.calm=true):dA X (.builtin "max") (fun xs H Q=> ∃i j,xs=[.int i,.int j]/\Q (.int (if j>i then j else i)) H):=by
 intro pins s σ H xs us Q I r h
 obtain⟨i,j,rfl,q⟩:=h
 obtain⟨u,w',rfl,⟨t,rfl⟩,⟨t',rfl⟩⟩:=vals2 r
 refine max_two_ints (I.ok.hd hc) fun h' tk k=> ⟨_,H,I.kept k,?_,q⟩
 by_cases hj:j>i
 ·rw[ZaY hj,ZaY hj];exact⟨_,rfl⟩
 ·rw[ZaK hj,ZaK hj];exact⟨_,rfl⟩
theorem Zda (hc:X.calm=true):dA X (.builtin "min") (fun xs H Q=> ∃i j,xs=[.int i,.int j]/\Q (.int (if j<i then j else i)) H):=by
 intro pins s σ H xs us Q I r h
 obtain⟨i,j,rfl,q⟩:=h
 obtain⟨u,w',rfl,⟨t,rfl⟩,⟨t',rfl⟩⟩:=vals2 r
 refine min_two_ints (I.ok.hd hc) fun h' tk k=> ⟨_,H,I.kept k,?_,q⟩
 by_cases hj:j<i
 ·rw[ZaY hj,ZaY hj];exact⟨_,rfl⟩
 ·rw[ZaK hj,ZaK hj];exact⟨_,rfl⟩
theorem UP:dA X (.type "int") (fun xs H Q=> (∃i,xs=[.int i]/\Q (.int i) H)∨∃k,xs=[.bl k]/\Q (.int (if k then 1 else 0)) H):=by
 intro pins s σ H xs us Q I r h
 rcases h with ⟨i,rfl,q⟩ |⟨k,rfl,q⟩
 ·obtain⟨u,rfl,t,rfl⟩:=Zgc r
  exact call_int_int ⟨.int i,H,I,⟨_,rfl⟩,q⟩
 ·obtain⟨u,rfl,r1⟩:=Zgc r
  cases r1
  exact call_int_bool ⟨.int (if k then 1 else 0),H,I.tok _,⟨_,rfl⟩,q⟩
end
structure B6 (h:Heap) (x dx C:Addr) (mA:Str->Option Value):Prop where
 obj:h.get? x=some (PySem.W.instObj C dx)
 ns:h.Ns1 dx mA
 ne:dx≠x
theorem ZcR {h:Heap}{dx:Addr}{mA:Str->Option Value}(n:h.Ns1 dx mA):∃od,h.get? dx=some od/\∀name,PySem.W.lookIn name od=some (mA name):=by
 obtain⟨o,es,ep,ho,hd,hk,_,hm⟩:=n
 refine⟨o,ho,fun name=> ?_⟩
 have e:=hm name
 unfold nsFind findBy at e
 rw[<-Array.find?_toList]at e
 unfold PySem.W.lookIn
 rw[hd]
 dsimp only
 split
 ·rename_i y q
  rw[q]at e
  exact ZeM some e
 ·rename_i q
  rw[q]at e
  have a:es.toList.any (·.refKey)=false:=by
   rw[List.any_eq_false]
   intro y hy
   obtain⟨z,t,Qh⟩:=hk y (Array.mem_toList_iff.mp hy)
   simp[DictEntry.refKey,Qh]
  have a':¬es.toList.any (·.refKey)=true:=by rw[a];exact Zaw
  rw[ZaK a']
  exact ZeM some e
theorem B6.look {h:Heap}{x dx C:Addr}{mA:Str->Option Value}(I:B6 h x dx C mA):∃od,PySem.W.InstAt h x (PySem.W.instObj C dx) C (some od)/\∀name,PySem.W.lookIn name od=some (mA name):=
 let ⟨od,ho,hl⟩:=ZcR I.ns
 ⟨od,⟨I.obj,rfl,rfl,ho⟩,hl⟩
section
variable {P:Program}{w:World}{H H':Hp}{h h':Heap}{a C dx:Addr}{fs nM:List (Str×V)}
theorem Vr (ak:bD P w H h) (e:H a=some (.ins C dx fs)):∃mA,B6 h a dx C mA/\(∀f,kE (fs.lookup f) (mA f))/\PySem.Within mA (fs.map (·.1))/\fs.length<=1000/\H dx=some (.own a):=by
 obtain⟨d,z,ne,ob,mA,n,r,q⟩:=(show bu P w H h a (.ins C dx fs) from ak a _ e)
 exact⟨mA,⟨ob,n,ne⟩,r,q,z,d⟩
end
structure Co (K:ZhQ) (C:Addr):Prop where
 pg:PySem.W.plainGet K C Str.empty=true
 hd:PySem.W.hasDictIn K C=true
 po:PySem.W.plainOver K C=true
 sa:PySem.W.findIn K (.ref C) "__setattr__" =some (some (.builtin "object.__setattr__"))
theorem Co.get {K:ZhQ}{C:Addr}(c:Co K C) (f:Str):PySem.W.plainGet K C f=true:=c.pg
structure Con (K:ZhQ) (C:Addr) (f:Str) (v:V) (u:Value):Prop where
 at_:PySem.W.findIn K (.ref C) f=some (some u)
 rel:RelV v u
 get:PySem.W.specialIn K u "__get__" =some none
 cp:PySem.W.copiedNames.contains f=false
structure Meth (K:ZhQ) (C:Addr) (m:Str) (f:Addr):Prop where
 at_:PySem.W.findIn K (.ref C) m=some (some (.ref f))
 fn:PySem.W.isFn K (.ref f)=true
 kp:PySem.W.keepIn K (.ref f)=true
section
variable {X:Cx}{pins:List (Addr×Obj)}{σ:St}{H:Hp}{s:Shared}{A:Around}{E:Value->Shared->Prop}{Q:Value->Shared->Prop}{c:Value}{b:Bool}
inductive fb (K:ZhQ) (H:Hp):V->Value->Prop where
 |ah:fb K H .ah (.type "NoneType")
 |bl (x:Bool):fb K H (.bl x) (.type "bool")
 |int (i:Int):fb K H (.int i) (.type "int")
 |str (x:Str):fb K H (.str x) (.type "str")
 |gH (x:UInt64):fb K H (.gH x) (.type "float")
 |lst {a:Addr}{xs:List V} (e:H a=some (.lst xs)):fb K H (.ref a) (.type "list")
 |cb {a:Addr}{o:Obj}{xs:List V} (e:H a=some (.cb o (.lst xs))):fb K H (.ref a) (.type "list")
 |tup {a:Addr}{xs:List V} (e:H a=some (.tup xs)):fb K H (.ref a) (.type "tuple")
 |dK {a:Addr}{af:List (Key×V)} (e:H a=some (.dK af)):fb K H (.ref a) (.type "dict")
 |dT {a:Addr}{af:List (List Key×V)} (e:H a=some (.dT af)):fb K H (.ref a) (.type "dict")
 |ins {a C dx:Addr}{fs:List (Str×V)} (e:H a=some (.ins C dx fs)) (cl:Co K C) (ha:PySem.W.findIn K (.ref C) "__class__" =some (some (.builtin "object.__class__")))
  (hn:PySem.W.specialIn K (.builtin "object.__class__") "__get__" =some (some (.builtin "getset_descriptor.__get__"))) (Er:PySem.W.takesIn K (.builtin "object.__class__")=some true)
  (hm:PySem.W.mroIn K C (.type "object")=some true):fb K H (.ref a) (.ref C)
theorem ZcX {x:V}{u t:Value}(I:Inv X pins σ H s) (rx:RelV x u) (ty:fb X.K H x t) (e:PySem.W.kitOne X.K t c=some b) (h:∀tk,Q (.bool b) {s with toks:=tk}):
  wpAny (model X.prog X.w) A (call (.builtin "isinstance") [u,c]) Q E s:=by
 cases ty with
 |ah=>cases (show u=Value.none from rx);exact Zci PySem.W.kitx_none I.bX True.intro e (fun z=>nomatch z) h
 |bl y=>cases (show u=Value.bool y from rx);exact Zci PySem.W.kitx_bool I.bX True.intro e (fun z=>nomatch z) h
 |int i=>obtain⟨t,q⟩:=(show ∃t,u=Value.int i t from rx);cases q;exact Zci PySem.W.kitx_int I.bX True.intro e (fun z=>nomatch z) h
 |str y=>obtain⟨t,q⟩:=(show ∃t,u=Value.str y t from rx);cases q;exact Zci PySem.W.kitx_str I.bX True.intro e (fun z=>nomatch z) h
 |gH y=>obtain⟨t,q⟩:=(show ∃t,u=Value.float y t from rx);cases q;exact Zci PySem.W.kitx_float I.bX True.intro e (fun z=>nomatch z) h
 | @lst a xs ea=>
  cases (show u=Value.ref a from rx)
  obtain⟨_,_,n,_,h1⟩:=(show bu X.prog X.w H s.heap a (.lst xs) from I.ak a _ ea)
  exact Zci PySem.W.kitx_list I.bX ⟨_,h1,rfl⟩ e (fun z=>nomatch z) h
 | @cb a ob xs ea=>
  cases (show u=Value.ref a from rx)
  obtain⟨_,_,_,n,_,h1⟩:=(show bu X.prog X.w H s.heap a (.cb ob (.lst xs)) from I.ak a _ ea)
  exact Zci PySem.W.kitx_list I.bX ⟨_,h1,rfl⟩ e (fun z=>nomatch z) h
 | @tup a xs ea=>
  cases (show u=Value.ref a from rx)
  obtain⟨_,_,_,p,_⟩:=(show bu X.prog X.w H s.heap a (.tup xs) from I.ak a _ ea)
  obtain⟨o,h1,h2,_⟩:=p
  exact Zci PySem.W.kitx_tuple I.bX ⟨o,h1,h2⟩ e (fun z=>nomatch z) h
 | @dK a af ea=>
  cases (show u=Value.ref a from rx)
  obtain⟨_,_,vs,_,p⟩:=(show bu X.prog X.w H s.heap a (.dK af) from I.ak a _ ea)
  obtain⟨o,es,ep,h1,h2,_⟩:=p
  exact Zci PySem.W.kitx_dict I.bX ⟨o,h1,h2.1⟩ e (fun z=>nomatch z) h
 | @dT a af ea=>
  cases (show u=Value.ref a from rx)
  obtain⟨_,_,xs,_,o,es,ep,h1,h2,_⟩:=(show bu X.prog X.w H s.heap a (.dT af) from I.ak a _ ea)
  exact Zci PySem.W.kitx_dict I.bX ⟨o,h1,h2.1⟩ e (fun z=>nomatch z) h
 | @ins a C dx fs ea cl ha hn Er hm=>
  cases (show u=Value.ref a from rx)
  obtain⟨mA,O,_⟩:=Vr I.ak ea
  obtain⟨od,J,_⟩:=O.look
  exact Zci (PySem.W.kitx_own (cl.get _) cl.hd ha hn Er hm) I.bX J e (fun z=>nomatch z) h
end
structure bK (k:Nat) (A:Around):Prop where
 hd:A.handled=none
 dp:A.depth+3*k+5<recursionLimit
 un:A.units+16*k+200<cLine
 gd:A.guards=some []
theorem bK.mono {j k:Nat}{A:Around}(r:bK k A) (h:j<=k):bK j A:=⟨r.hd,by have:=r.dp;omega,by have:=r.un;omega,r.gd⟩
theorem bK.deeper {k:Nat}{A:Around}(r:bK (k+1) A) (env:Env):bK k (A.deeper env):=
 ⟨r.hd,by have:=r.dp;show A.depth+1+3*k+5<_;omega,by have:=r.un;show A.units+3+16*k+200<_;omega,r.gd⟩
theorem bK.depth {k:Nat}{A:Around}(r:bK k A):A.depth<recursionLimit:=by have:=r.dp;omega
theorem bK.units {k:Nat}{A:Around}(r:bK k A):A.units+64<cLine:=by have:=r.un;omega
theorem bK.xP {k:Nat}{A:Around}(r:bK k A):A.units<cLine:=by have:=r.un;omega
def qI:TA:=fun _ H Q=>Q [] H
def oF (ta:TE) (tr:TA):TA:=fun σ H Q=>ta σ H fun x H1=>tr σ H1 fun xs H2=>Q (x::xs) H2
section
variable {X:Cx}{e:Expr}{es:List Expr}{te:TE}{t:TA}{pos:Pos}
theorem Zb:PA X [] qI:=fun _ _ _ _ H Q I h=>PySem.Calls.spliced_nil ⟨[],H,I,.nil,h⟩
theorem Za (ha:PE X e te) (hr:PA X es t) (hs:starEach (e::es) X.env=(false,eval e X.env)::starEach es X.env:=by rfl):PA X (e::es) (oF te t):=by
 intro pos pins s σ H Q I h
 rw[hs]
 show wpAny _ _ (spliced ((false,eval e X.env)::backTo pos (starEach es X.env))) _ _ s
 refine PySem.Calls.spliced_cons (ar (ha pins s σ H _ I h) fun u s1 ⟨x,H1,I1,r1,q1⟩=> ?_)
 exact ar (hr pos pins s1 σ H1 _ I1 q1) fun us s2 ⟨xs,H2,I2,r2,q2⟩=> ⟨x::xs,H2,I2,.cons r1 r2,q2⟩
def Ld (t:TA):TE:=fun σ H Q=>t σ H fun xs H1=>xs.length<=sizeLine/\∀p,H1 p=none->Q (.ref p) (upd H1 p (.tup xs))
def yc (t:TA):TE:=fun σ H Q=>t σ H fun xs H1=>xs.length<=sizeLine/\∀p,H1 p=none->Q (.ref p) (upd H1 p (.lst xs))
theorem Zs {x1} (h:PA X es t):PE X (.Tuple es x1 pos) (Ld t):=by
 intro pins s σ H Q I hq
 refine wpAny_Tuple_spliced (ar (h pos pins s σ H _ I hq) fun us s1 ⟨xs,H1,I1,r,z,q⟩=> ⟨by rw[<-r.length];exact z,?_⟩)
 have hf:H1 s1.heap.objs.size=none:=I1.ak.fresh (Zae _)
 refine⟨.ref s1.heap.objs.size,upd H1 s1.heap.objs.size (.tup xs),I1.laid (t':=s1.toks) (fun b u e=>Zab _ e) (Zae _) ?_,rfl,q _ hf⟩
 exact⟨z,us,r,⟨_,Zat _ rfl,rfl,_,rfl⟩,_,Zat _ rfl,rfl⟩
theorem ZG (h:PA X es t):PE X (.List es pos) (yc t):=by
 intro pins s σ H Q I hq
 refine wpAny_List_spliced (ar (h pos pins s σ H _ I hq) fun us s1 ⟨xs,H1,I1,r,z,q⟩=> ⟨by rw[<-r.length];exact z,?_⟩)
 have hf:H1 s1.heap.objs.size=none:=I1.ak.fresh (Zae _)
 refine⟨.ref s1.heap.objs.size,upd H1 s1.heap.objs.size (.lst xs),I1.laid (t':=s1.toks) (fun b u e=>Zab _ e) (Zae _) ?_,rfl,q _ hf⟩
 exact⟨z,us,0,r,Zat _ rfl⟩
end
abbrev Sp:=List V->Hp->VK->XK->Prop
abbrev jJ:=List Env->Hp->Shared->XK->Value->Shared->Prop
structure tT (P:Program) (w:World) (K:ZhQ) (mg:Str->Option Value) (base:Heap) (A:Around) (outer:List Env) (s:Shared) (H:Hp):Prop where
 frames:A.frames=some outer
 mod:Mod K mg base
 bs:∀b o,base.get? b=some o->s.heap.get? b=some o/\H b=none
 i8:base.objs.size<=s.heap.objs.size
 dI:s.heap.FunFrames base outer
 fZ:∀b∈aQ outer,H b=none
 ak:bD P w H s.heap
 bare:AllBare s.gens
def CE (outer:List Env) (P:Program) (w:World) (H:Hp) (s:Shared) (Q:VK) (u:Value) (s':Shared):Prop:=
 ∃v H',s'.os=s.os/\AllBare s'.gens/\Un (aQ outer) [] H H' s.heap s'.heap/\bD P w H' s'.heap/\RelV v u/\Q v H'
def CR (CX:jJ) (outer:List Env) (P:Program) (w:World) (H:Hp) (s:Shared) (Q:VK) (E:XK) (r:Result) (s':Shared):Prop:=
 match r with
 | .ok (.ret u)=>CE outer P w H s Q u s'
 | .ok _=>False
 | .error e=>CX outer H s E e s'
structure aA (P:Program) (w:World) (K:ZhQ) (mg:Str->Option Value) (base:Heap) (CX:jJ) (k:Nat) (f:Addr) (fd:FuncData) (ps:List Str) (sp:Sp):Prop where
 len:∀vs H Q E,sp vs H Q E->vs.length=ps.length
 run:∀(A:Around) (outer:List Env) (s:Shared) (H:Hp) (args:Args) (us:List Value) (vs:List V) (Q:VK) (E:XK),bK k A->tT P w K mg base A outer s H->BindsTo s fd args (ps.zip us)->Vals vs us->sp vs H Q E->
  codeAny (model P w) A (.call (.ref f) args) (CR CX outer P w H s Q E) s
section
variable {X:Cx}{pins:List (Addr×Obj)}{σ:St}{H:Hp}{s s':Shared}
theorem Inv.FZ (I:Inv X pins σ H s):tT X.prog X.w X.K X.mg X.base X.A X.stack s H:=
 ⟨I.ok.frames,I.ok.mod,I.bs,Zcd I.ok.i8 I.sz,I.stack,I.qK,I.ak,I.bare⟩
theorem Inv.after {Q:VK}{u:Value}(I:Inv X pins σ H s) (h:CE X.stack X.prog X.w H s Q u s'):EP X pins σ Q u s':=by
 obtain⟨v,H',os,bare,un,ak,r,q⟩:=h
 obtain⟨hh,g,d,t,zx⟩:=s'
 obtain rfl:zx=s.os:=os
 exact⟨v,H',I.call (h':=hh) (g':=g) (d':=d) (t':=t) (ch:=[]) un ak bare (fun b z=>absurd z (by simp)),r,q⟩
end
def uv (sp:Sp) (l7:List V) (E:XK) (t:TA):TE:=fun σ H Q=>t σ H fun vs H1=>sp (vs++l7) H1 Q E
def Binds (K:ZhQ) (fd:FuncData) (ps:List Str) (ds:List Value):Prop:=
 ∀(s:Shared) (us:List Value),K.In s.heap->(us++ds).length=ps.length->BindsTo s fd ⟨us,[]⟩ (ps.zip (us++ds))
theorem Binds.all {K:ZhQ}{fd:FuncData}{ps:List Str}(h:∀us:List Value,us.length=ps.length->bindArgs fd ⟨us,[]⟩=pure (ps.zip us)):Binds K fd ps []:=fun s us _ hl=>by
 rw[ZbT]at hl |-
 exact .of_eq (h us hl)
def Passes (CX:jJ) (X:Cx) (E:XK):Prop:=∀(pins:List (Addr×Obj)) (σ:St) (H:Hp) (s:Shared) (e:Value) (s':Shared),Inv X pins σ H s->CX X.stack H s E e s'->X.xe e s'
section
variable {X:Cx}{CX:jJ}{k:Nat}{f C:Addr}{fd:FuncData}{ps:List Str}{sp:Sp}{l7:List V}{ds:List Value}{E:XK}{x m:Str}{p pos apos:Pos}{e o:Expr}{es:List Expr}{ta:TE}{t:TA}
theorem Vc {pins:List (Addr×Obj)}{σ:St}{H:Hp}{s:Shared}{Q:VK}{us:List Value}{vs:List V}(F:aA X.prog X.w X.K X.mg X.base CX k f fd ps sp) (hr:bK k X.A) (hb:Binds X.K fd ps ds) (hd:Vals l7 ds) (hx:Passes CX X E)
  (I:Inv X pins σ H s) (r:Vals vs us) (h:sp (vs++l7) H Q E):wpAny (model X.prog X.w) X.A (call (.ref f) us) (EP X pins σ Q) X.xe s:=by
 have r2:Vals (vs++l7) (us++ds):=r.append hd
 have hl:(us++ds).length=ps.length:=by rw[<-r2.length];exact F.len _ _ _ _ h
 refine PySem.wpAny_call (Zec (F.run X.A X.stack s H ⟨us,[]⟩ (us++ds) (vs++l7) Q E hr I.FZ (hb s us I.bX hl) r2 h) fun r s' hq=> ?_)
 cases r with
 |error e=>exact hx pins σ H s e s' I hq
 |ok fl=>
  cases fl with
  |ret u=>exact I.after hq
  |next=>exact False.elim hq
  |brk=>exact False.elim hq
  |cont=>exact False.elim hq
theorem Yt (F:aA X.prog X.w X.K X.mg X.base CX k f fd ps sp) (hr:bK k X.A) (hg:Gl X x) (hm:X.mg x=some (.ref f)) (hk:PySem.W.keepIn X.K (.ref f)=true) (hb:Binds X.K fd ps ds) (hd:Vals l7 ds) (hx:Passes CX X E)
  (ha:PA X (e::es) t) (gG:(x==("__debug__" :Str))=false:=by decide) (he:starEach (e::es) X.env=(false,eval e X.env)::starEach es X.env:=by rfl) (dX:(backTo pos (starEach es X.env)).any (·.1)=false:=by rfl):
  PE X (.Call (.Name x p) (e::es) [] pos) (uv sp l7 E t):=by
 intro pins s σ H Q I h
 refine Zde (Jf I hg hm ?_ gG)
 refine PySem.W.callWith_K (h₀:=X.base) I.ok.mod.mS hk (ar (ha pos pins s σ H _ I h) fun us s1 ⟨vs,H1,I1,r,q⟩=> ⟨I1.bX,?_⟩) he dX
 exact Vc F hr hb hd hx I1 r q
structure Mk (K:ZhQ) (C f:Addr):Prop where
 makes:PySem.W.makesIn K C=true
 init:PySem.W.findIn K (.ref C) "__init__" =some (some (.ref f))
 fn:PySem.W.isFn K (.ref f)=true
 kp:PySem.W.keepIn K (.ref C)=true
end
def PK (X:Cx) (rJ:List Keyword) (t:TA):Prop:=
 ∀(pos:Pos) (pins:List (Addr×Obj)) (s:Shared) (σ:St) (H:Hp) (Q:List V->Hp->Prop),Inv X pins σ H s->t σ H Q->wpAny (model X.prog X.w) X.A (evalAll ((backToKw pos (keywordEach rJ X.env)).map (·.2))) (AP X pins σ Q) X.xe s
section
variable {X:Cx}{CX:jJ}{k:Nat}{f C:Addr}{fd:FuncData}{ps ks:List Str}{sp:Sp}{E:XK}{x m:Str}{p pos apos rL:Pos}{e o:Expr}{es:List Expr}{rJ:List Keyword}{te ta:TE}{t tk:TA}{nm:Option Str}
theorem T9:PK X [] qI:=fun _ _ _ _ H Q I h=>wpAny_evalAll_nil ⟨[],H,I,.nil,h⟩
theorem Xs (ha:PE X e te) (hr:PK X rJ t):PK X (⟨nm,e,rL⟩::rJ) (oF te t):=by
 intro pos pins s σ H Q I h
 show wpAny _ _ (evalAll ((do let v <-eval e X.env;standAt pos;pure v)::(backToKw pos (keywordEach rJ X.env)).map (·.2))) _ _ s
 refine wpAny_evalAll_cons (Zaa (ar (ha pins s σ H _ I h) fun u s1 ⟨x,H1,I1,r1,q1⟩=>Zaa (ZeN (Zaf ?_))))
 exact ar (hr pos pins s1 σ H1 _ I1 q1) fun us s2 ⟨xs,H2,I2,r2,q2⟩=> ⟨x::xs,H2,I2,.cons r1 r2,q2⟩
structure aaH (K:ZhQ) (fd:FuncData) (ps ks:List Str) (g:List Value->List Value->List Value) (gV:List V->List V->List V):Prop where
 to:∀(s:Shared) (us ws:List Value),K.In s.heap->(g us ws).length=ps.length->BindsTo s fd ⟨us,ks.zip ws⟩ (ps.zip (g us ws))
 rel:∀{vs:List V}{us:List Value}{zs:List V}{ws:List Value},Vals vs us->Vals zs ws->Vals (gV vs zs) (g us ws)
variable {g:List Value->List Value->List Value}{gV:List V->List V->List V}
end
structure aZ (N P:List Str) (sc:Scope):Prop where
 kind:sc.kind=.function
 co:sc.isCoroutine=false
 gen:sc.isGenerator=false
 nd:N.Nodup
 pre:N.take P.length=P
 par:∀x∈P,sc.names.lookup x=some .local∨sc.names.lookup x=some .cell
 NJ:∀y∈sc.names,y.2≠.free
def Mh (N P:List Str) (sc:Scope):Bool:=decide (sc.kind=.function/\sc.isCoroutine=false/\sc.isGenerator=false/\N.Nodup/\N.take P.length=P/\(∀x∈P,sc.names.lookup x=some .local∨sc.names.lookup x=some .cell)/\∀y∈sc.names,y.2≠.free)
theorem ZL {N P:List Str}{sc:Scope}(h:Mh N P sc=true):aZ N P sc:=let ⟨a,b,c,d,e,f,g⟩:=Zdh h;⟨a,b,c,d,e,f,g⟩
theorem UQ {kindOf:Str->Option NameKind}{x:Str} :∀{binds:List (Str×Value)}{m:Str->Option Value},(∀v,(x,v)∉binds)->bindL kindOf binds m x=m x
 | [],_,_=>rfl
 |(n,v)::r,m,h=>by
  unfold bindL
  rw[UQ fun w hw=>h w (Zan _ hw)]
  split
  ·have:x≠n:=by rintro rfl;exact h v Zas
   simp[this]
  ·rfl
theorem US {kindOf:Str->Option NameKind}{x:Str} :∀{binds:List (Str×Value)}{m:Str->Option Value},(∀v,(x,v)∉binds)->bindC kindOf binds m x=m x
 | [],_,_=>rfl
 |(n,v)::r,m,h=>by
  unfold bindC
  rw[US fun w hw=>h w (Zan _ hw)]
  split
  ·rfl
  ·have:x≠n:=by rintro rfl;exact h v Zas
   simp[this]
theorem UR {kindOf:Str->Option NameKind}{x:Str}{v:Value} :∀{P:List Str}{vs:List Value}{i:Nat}{m:Str->Option Value},P.Nodup->P[i]? =some x->vs[i]? =some v->kindOf x=some .local->
  bindL kindOf (P.zip vs) m x=some v
 | [],_,_,_,_,h,_,_=>by simp at h
 |_::_,[],_,_,_,_,h,_=>by simp at h
 |p::P,w::vs,0,m,nd,h1,h2,hk=>by
  simp at h1 h2;subst h1;subst h2
  show bindL kindOf ((p,w)::P.zip vs) m p=_
  unfold bindL
  rw[UQ fun v hv=> (Zdu.mp nd).1 (List.of_mem_zip hv).1,ZaY hk]
  simp
 |p::P,w::vs,i+1,m,nd,h1,h2,hk=>by
  show bindL kindOf ((p,w)::P.zip vs) m x=_
  unfold bindL
  exact UR (i:=i) (Zdu.mp nd).2 (by simpa using h1) (by simpa using h2) hk
theorem UT {kindOf:Str->Option NameKind}{x:Str}{v:Value} :∀{P:List Str}{vs:List Value}{i:Nat}{m:Str->Option Value},P.Nodup->P[i]? =some x->vs[i]? =some v->kindOf x≠some .local->
  bindC kindOf (P.zip vs) m x=some v
 | [],_,_,_,_,h,_,_=>by simp at h
 |_::_,[],_,_,_,_,h,_=>by simp at h
 |p::P,w::vs,0,m,nd,h1,h2,hk=>by
  simp at h1 h2;subst h1;subst h2
  show bindC kindOf ((p,w)::P.zip vs) m p=_
  unfold bindC
  rw[US fun v hv=> (Zdu.mp nd).1 (List.of_mem_zip hv).1,ZaK hk]
  simp
 |p::P,w::vs,i+1,m,nd,h1,h2,hk=>by
  show bindC kindOf ((p,w)::P.zip vs) m x=_
  unfold bindC
  exact UT (i:=i) (Zdu.mp nd).2 (by simpa using h1) (by simpa using h2) hk
def start (N:List Str) (vs:List V):St:=vs.map some++List.replicate (N.length - vs.length) none
def aF (CX:jJ) (P:Program) (w:World) (K:ZhQ) (mg:Str->Option Value) (base:Heap) (N:List Str) (qual:Str) (scope:Scope) (f:Addr) (cd:Value) (A:Around) (outer:List Env) (s:Shared) (H:Hp) (E:XK):Cx where
 prog:=P
 w:=w
 K:=K
 mg:=mg
 base:=base
 A:=A.deeper (envOfC qual scope s.heap.objs.size f cd)
 N:=N
 cf:=s
 kI:=H
 env:=envOfC qual scope s.heap.objs.size f cd
 outer:=outer
 stack:=envOfC qual scope s.heap.objs.size f cd::outer
 ex:=[]
 calm:=true
 fn:=fun _=>true
 pn:=[]
 xe:=fun e s'=>wpAny (model P w) (A.deeper (envOfC qual scope s.heap.objs.size f cd)) (leaving (envOfC qual scope s.heap.objs.size f cd) e) (fun _ fh=>CX outer H s E e fh) (fun e' fh=>CX outer H s E e' fh) s'
theorem Kg {sc:Scope}{n:Nat}{x:Str}(h:sc.names.lookup x=some .cell):∃c,(cellsFrom n sc.names []).lookup x=some c:=by
 have q:=PySem.W.cellsFrom_some sc.names n [] (.inl h)
 exact Zdy.mp q
theorem ZcY {CX:jJ}{P:Program}{w:World}{K:ZhQ}{mg:Str->Option Value}{base:Heap}{N ps:List Str}{qual:Str}{scope:Scope}{f:Addr}{cd:Value}{A:Around}{outer:List Env}{s s1:Shared}{H:Hp}{E:XK}{us:List Value}{vs:List V}
  (S:aZ N ps scope) (hd:A.handled=none) (e0:tT P w K mg base A outer s H) (hl:vs.length=ps.length) (r:Vals vs us)
  (x:InCallC s s.heap.objs.size (bindL (envOfC qual scope s.heap.objs.size f cd).kindOf (ps.zip us) fun _=>none) (cellsFrom (s.heap.objs.size+1) scope.names []) (bindC (envOfC qual scope s.heap.objs.size f cd).kindOf (ps.zip us) fun _=>none) s1):
  Inv (aF CX P w K mg base N qual scope f cd A outer s H E) [] (start N vs) H s1:=by
 have dX:ps.length<=N.length:=by have:=ZeM List.length S.pre;rw[ZaS]at this;omega
 obtain⟨h1,tk,rfl,hk⟩:=x.done
 have bz:∀b:Addr,b∉(aF CX P w K mg base N qual scope f cd A outer s H E).ex:=fun b z=>absurd (show b∈([]:List Addr) from z) (by simp)
 refine⟨⟨e0.mod,S.kind,rfl,rfl,Zae _,fun y z c h1 h2=> ?_,fun y hy=> ?_,fun y c _ h=> ?_,fun _=>hd,Around.frames_deeper e0.frames,.inr ⟨rfl,rfl⟩,fun b z=>absurd z (bz b),e0.bs,e0.i8,fun b _ _=>bz b,fun b z=>absurd z (bz b),e0.dI,e0.fZ⟩,
  rfl,e0.bare,Un.kept hk,⟨_,x.toInCall.ns,fun i y v h1 h2 h3=> ?_⟩,fun y c h=> ⟨_,x.cell y c h⟩,e0.ak.fresh (Zae _),fun y c h=> ?_,fun p hp=>absurd (show p∈([]:List (Addr×Obj)) from hp) (by simp),e0.ak.kept hk,?_⟩
 ·exact name_of_addr x.apart (ZbV h1) (ZbV h2)
 ·have hy:scope.names.lookup y=some .cell∨scope.names.lookup y=some .free:=hy
  rcases hy with hy |hy
  ·exact Kg hy
  ·exact absurd rfl (S.NJ _ (ZbV hy))
 ·exact Zeb (x.above y c (ZbV h))
 ·have hi:i<vs.length:=by
   unfold start at h2
   by_cases hi:i<vs.length
   ·exact hi
   ·rw[Zcn (by simpa using hi)]at h2
    rw[ZdV]at h2
    split at h2<;>cases h2
  have ha:vs[i]? =some v:=by
   unfold start at h2
   rw[Zds (by simpa using hi),ZbG]at h2
   cases e:vs[i]? with
   |none=>rw[e]at h2;cases h2
   |some a=>rw[e]at h2;cases h2;rfl
  obtain⟨u,hu,rv⟩:=r.get ha
  have hp:ps[i]? =some y:=by
   rw[<-S.pre,Zch .o];exact h1
  have DM:ps.Nodup:=by rw[<-S.pre];exact S.nd.sublist (Zef _ _)
  refine⟨u,rv,?_⟩
  rcases S.par y (ZaX hp) with k |k
  ·exact .inl ⟨k,UR DM hp hu k⟩
  ·obtain⟨c,e⟩:=Kg (n:=s.heap.objs.size+1) k
   refine .inr ⟨.inl k,c,e,?_⟩
   have q:=x.cell y c e
   rw[UT DM hp hu (by show scope.names.lookup y≠_;rw[k];decide)]at q
   exact q
 ·exact e0.ak.fresh (Zeb (x.above y c (ZbV h)))
 ·unfold start
  show _=N.length
  rw[Zap,Zar,Zcj]
  omega
theorem xh {CX:jJ}{P:Program}{w:World}{K:ZhQ}{mg:Str->Option Value}{base:Heap}{k:Nat}{f:Addr}{name qual:Str}{params:Arguments}{body:List Stmt}{scope:Scope}{dV kV doc pm aq ct oc:Value}{an od:Option Addr}
    {eO:Array (Option Value)}{N ps:List Str}{sp:Sp} (lk:K.lookup f=some ⟨oc,od,.func (PySem.W.fnOf name qual params body scope dV kV doc pm an aq ct),eO⟩) (cH:PySem.W.codeIn K aq qual=true) (S:aZ N ps scope)
    (len:∀vs H Q E,sp vs H Q E->vs.length=ps.length)
    (AR:∀(A:Around) (outer:List Env) (s:Shared) (H:Hp) (vs:List V) (Q:VK) (E:XK),bK k (A.deeper (envOfC qual scope s.heap.objs.size f aq))->sp vs H Q E->
      ∃t,fc (aF CX P w K mg base N qual scope f aq A outer s H E) body t/\t {nx:=fun _ H'=>Q .ah H',rt:=Q} (start N vs) H):
    aA P w K mg base CX (k+1) f (PySem.W.fnOf name qual params body scope dV kV doc pm an aq ct) ps sp:=by
  refine⟨len,fun A outer s H args us vs Q E hr e0 hb r dG=> ?_⟩
  have hl:=len _ _ _ _ dG
  have KX:K.In s.heap:=e0.mod.mS.keeps fun b o e=> (e0.bs b o e).1
  have lim:s.heap.NoLimit:=e0.mod.nolimit.keeps fun b o e=> (e0.bs b o e).1
  have Qg:∀y∈ps.zip us,scope.names.lookup y.1=some .local∨(scope.names.lookup y.1=some .cell/\((cellsFrom (s.heap.objs.size+1) scope.names []).lookup y.1).isSome=true):=fun⟨n,v⟩ hy=>by
    rcases S.par n (List.of_mem_zip hy).1 with q |q
    · exact .inl q
    · exact .inr ⟨q,PySem.W.cellsFrom_some _ _ _ (.inl q)⟩
  refine codeAny_call_function hr.depth (KX _ _ lk) rfl S.co S.gen rfl (PySem.W.codeRec_of KX cH) (hb _ _ _ _ ?_)
  refine wpAny_newFunctionEnv_cells S.kind Qg fun env he s1 x=> ?_
  subst he
  refine⟨lim.keeps x.toInCall.keep,codeAny_func ?_⟩
  obtain⟨t,ht,hq⟩:=AR A outer s H vs Q E (hr.deeper _) dG
  have I:Inv (aF CX P w K mg base N qual scope f aq A outer s H E) [] (start N vs) H s1:=ZcY S hr.hd e0 hl r x
  refine Zbs (ht [] s1 (start N vs) H _ I hq) (fun fl s' hs=> ?_) fun e s' hs=>hs
  have fin:∀{ao:St}{H':Hp}{v:V}{u:Value},Inv (aF CX P w K mg base N qual scope f aq A outer s H E) [] ao H' s'->RelV v u->Q v H'->CE outer P w H s Q u s':=
    fun {ao H' v u} J rv q=> ⟨v,H',J.os,J.bare,J.base,J.ak,rv,q⟩
  cases fl with
  |ret u=>
   obtain⟨v,ao,H',J,rv,q⟩:=hs
   exact fin J rv q
  |next=>
   obtain⟨ao,H',J,q⟩:=hs
   exact fin (v:=V.ah) (u:=Value.none) J rfl q
  |brk=>
   obtain⟨_,_,_,q⟩:=hs
   exact False.elim q
  |cont=>
   obtain⟨_,_,_,q⟩:=hs
   exact False.elim q
section
variable {X:Cx}{x:Str}{p pos:Pos}{e:Expr}{es:List Expr}{t:TA}{id T:String}{r:List V->Hp->VK->Prop}
def CH (r:List V->Hp->VK->Prop) (t:TA):TE:=fun σ H Q=>t σ H fun vs H1=>r vs H1 Q
theorem Zn (hc:dA X (.builtin id) r) (hg:Gl X x) (hm:X.mg x=none) (hv:bootBuiltins x=some (.builtin id)) (ha:PA X (e::es) t) (hn:x≠ "__name__" :=by decide) (gG:(x==("__debug__" :Str))=false:=by decide)
  (he:starEach (e::es) X.env=(false,eval e X.env)::starEach es X.env:=by rfl) (dX:(backTo pos (starEach es X.env)).any (·.1)=false:=by rfl):PE X (.Call (.Name x p) (e::es) [] pos) (CH r t):=by
 intro pins s σ H Q I h
 refine Zde (YD I hg hm hv ?_ hn gG)
 exact PyProof.Rows.callWith_builtin1 (ar (ha pos pins s σ H _ I h) fun us s1 ⟨vs,H1,I1,r1,q1⟩=>hc pins s1 σ H1 vs us Q I1 r1 q1) he dX
theorem Z4 (hc:dA X (.type T) r) (hg:Gl X x) (hm:X.mg x=none) (hv:bootBuiltins x=some (.type T)) (ha:PA X (e::es) t) (hn:x≠ "__name__" :=by decide) (gG:(x==("__debug__" :Str))=false:=by decide)
  (he:starEach (e::es) X.env=(false,eval e X.env)::starEach es X.env:=by rfl) (dX:(backTo pos (starEach es X.env)).any (·.1)=false:=by rfl):PE X (.Call (.Name x p) (e::es) [] pos) (CH r t):=by
 intro pins s σ H Q I h
 refine Zde (YD I hg hm hv ?_ hn gG)
 exact Zb3 (ar (ha pos pins s σ H _ I h) fun us s1 ⟨vs,H1,I1,r1,q1⟩=>hc pins s1 σ H1 vs us Q I1 r1 q1) he dX
end
end L2
namespace HT
open PySem PyProof.Rows
def lexLt:List Int->List Int->Bool
 | [],[]=>false
 | [],_::_=>true
 |_::_,[]=>false
 |x::xs,y::ys=>if x=y then lexLt xs ys else decide (x<y)
theorem DY (x y:Int) (xs ys:List Int):lexLt (x::xs) (y::ys)=if x=y then lexLt xs ys else decide (x<y):=rfl
theorem Ug:lexLt [] []=false:=rfl
theorem WN (y:Int) (ys:List Int):lexLt [] (y::ys)=true:=rfl
theorem WP (x:Int) (xs:List Int):lexLt (x::xs) []=false:=rfl
theorem V6 (A:Around) (s:Shared) (a:Int) (t:Tok) (c:Int) (u:Tok):∃e,SeqAt.EqAt A s (.int a t) (.int c u) e/\(e=true↔a=c):=
 ⟨(a==c),Zdz a t c u,by simp⟩
theorem XZ (A:Around) (s:Shared) (a:Int) (t:Tok) (c:Int) (u:Tok) (prog:Program) (w:World) (E:Value->Shared->Prop) (Q:Value->Shared->Prop) (h:Q (.bool (decide (a<c))) s):
  wpAny (model prog w) A (richCompare .Lt (.int a t) (.int c u)) Q E s:=
 (PyProof.Rows.lt_int h:wpAny (model prog w) A (compareOp .Lt (.int a t) (.int c u)) Q E s)
section
open PySem.SeqAt
open PySem.AutoSeq1 (wpAny_loadPart')
open PySem.MeetsSeq PySem.MeetsSeq2 PySem.MeetsSeq3
theorem Ub (l b:Addr) (items items2:Array Value) (n n2:Nat) (dd l9:Option Addr) (sl gW:Array (Option Value)) (ns ms:List Int) (hi:IntsAre items.toList ns) (hj:IntsAre items2.toList ms):
  Meets (Builtin.«tuple.__lt__» ⟨[.ref l,.ref b],[]⟩)
   (fun _ R s=>s.heap.get? l=some {cls:=.type "tuple",dict:=dd,data:=.seq items n,slots:=sl}/\s.heap.get? b=some {cls:=.type "tuple",dict:=l9,data:=.seq items2 n2,slots:=gW}/\
    R (.ok (.ret (.bool (lexLt ns ms)))) s):=
 .of_wp fun prog w A R s h=>by
  obtain⟨hp,g,d,tk,os⟩:=s;obtain⟨hl,hb,h⟩:=h
  have f2:=AutoSeq1.sub_tuple_tuple
  have z1:items.size=ns.length:=by rw[<-hi.length];simp
  have z2:items2.size=ms.length:=by rw[<-hj.length];simp
  wp_walk using wpAny_loadPart' hl,PySem.wpAny_loadPart' hb,ZfQ _ (fun rest b s'=>b.1=none/\s'=⟨hp,g,d,tk,os⟩/\∃(vs ws:List Value) (pf pj:List Int),rest=vs.zip ws/\
   IntsAre vs pf/\IntsAre ws pj/\pf.length+items2.size=pj.length+items.size/\R (.ok (.ret (.bool (lexLt pf pj)))) ⟨hp,g,d,tk,os⟩) _
  case turn=>
   rintro⟨y,x⟩ rest b s' ⟨cw,rfl,vs,ws,pf,pj,hz,Aa,vV,hlen,hR⟩
   cases Aa with
   |nil=>rw[List.zip_nil_left]at hz;cases hz
   |cons a t OZ=>
    cases vV with
    |nil=>rw[List.zip_nil_right]at hz;cases hz
    |cons c u OY=>
     rw[Zes]at hz
     injection hz with OW Pz
     injection OW with hy hx
     subst hy hx
     rw[DY]at hR
     simp only[Zbz]at hlen
     obtain⟨e,he,EY⟩:=V6 A.in1 ⟨hp,g,d,tk,os⟩ a t c u
     refine Zaa (he prog w _ _ ?_)
     cases e with
     |true=>
      rw[ZaY (EY.mp rfl)]at hR
      wp_walk
      exact⟨rfl,rfl,_,_,_,_,Pz,OZ,OY,.o,hR⟩
     |false=>
      rw[ZaK (fun q=>absurd (EY.mpr q) Zaw)]at hR
      have Pu:=XZ A.in1 ⟨hp,g,d,tk,os⟩ a t c u prog w
      wp_walk using Pu
      exact⟨_,rfl,by simpa using hR⟩
  case fin=>
   rintro⟨b1,b2⟩ s' ⟨cw,rfl,vs,ws,pf,pj,hz,Aa,vV,hlen,hR⟩
   simp only at cw
   subst cw
   have hv:lexLt pf pj=decide (items.size<items2.size):=by
    cases Aa with
    |nil=>
     cases vV with
     |nil=>
      simp only[Zdv]at hlen
      rw[Ug]
      exact(ZaA .o).symm
     |cons c u hw=>
      simp only[Zdv,Zbz]at hlen
      rw[WN]
      exact(ZaR .o).symm
    |cons a t hv=>
     cases vV with
     |nil=>
      simp only[Zdv,Zbz]at hlen
      rw[WP]
      exact(ZaA .o).symm
     |cons c u hw=>
      rw[Zes]at hz
      cases hz
   rw[hv]at hR
   wp_walk
   exact⟨_,rfl,by simpa[Builtin.Tuple.tupleCompareSizes] using hR⟩
  case h=>
   exact⟨rfl,rfl,items.toList,items2.toList,ns,ms,rfl,hi,hj,.o,h⟩
end
section
variable {prog:Program}{w:World}{A:Around}{E:Value->Shared->Prop}{s:Shared}
theorem DU {l b:Addr}{items items2:Array Value}{ns ms:List Int}{Q:Value->Shared->Prop}(hl:IsTup s.heap l items) (hb:IsTup s.heap b items2) (hi:IntsAre items.toList ns) (hj:IntsAre items2.toList ms)
  (hu:A.units<cLine) (h:Q (.bool (lexLt ns ms)) s):wpAny (model prog w) A (compareOp .Lt (.ref l) (.ref b)) Q E s:=by
 obtain⟨⟨cls,dd,data,sl⟩,ho,hc,n,hd⟩:=id hl
 obtain⟨⟨Gz,l9,data2,gW⟩,gE,iT,n2,hd2⟩:=id hb
 simp only at hc hd iT hd2
 subst hc hd iT hd2
 exact richCompare_meets_room (op:=.Lt) ⟨_,ho,rfl⟩ ⟨_,gE,rfl⟩ PySem.F.slot_tuple_lt PySem.F.entry_tuple_lt (PySem.F.args_tuple_lt_2 _ _) (Ub l b items items2 n n2 dd l9 sl gW ns ms hi hj)
  ⟨ho,gE,show Value.bool (lexLt ns ms)≠Value.notImplemented/\Q (.bool (lexLt ns ms)) s from ⟨(fun x=>nomatch x),h⟩⟩ hu
theorem Tn {t b:Addr}{vs ws:List Value}{Q:Value->Shared->Prop}(ht:IsTup s.heap t vs.toArray) (hb:IsTup s.heap b ws.toArray) (hv:vs≠[])
  (h1:ws=[]->Q (.ref t) s) (h2:ws≠[]->Q (.ref s.heap.objs.size) {s with heap:=s.heap.push {cls:=.type "tuple",data:=.seq (vs++ws).toArray} })
  (hsz:vs.length+ws.length<=sizeLine):wpAny (model prog w) A (binaryOp .Add (.ref t) (.ref b)) Q E s:=by
 obtain⟨⟨cls,dd,data,sl⟩,ho,hc,n,hd⟩:=id ht
 obtain⟨⟨Gz,l9,data2,gW⟩,gE,iT,n2,hd2⟩:=id hb
 simp only at hc hd iT hd2
 subst hc hd iT hd2
 have e:vs.toArray++ws.toArray=(vs++ws).toArray:=by simp
 by_cases hw:ws=[]
 ·exact concat_meets ⟨_,ho,rfl⟩ ⟨_,gE,rfl⟩ PySem.noFill_tuple_add PySem.seq_tuple_add PySem.F.slot_tuple_add PySem.F.entry_tuple_add (PySem.F.args_tuple_add_2 _ _)
   (tuple_addW1 t b vs.toArray ws.toArray n n2 dd l9 sl gW (by simpa using hv) (by simp[hw])) ⟨ho,gE,h1 hw⟩
 ·refine concat_meets ⟨_,ho,rfl⟩ ⟨_,gE,rfl⟩ PySem.noFill_tuple_add PySem.seq_tuple_add PySem.F.slot_tuple_add PySem.F.entry_tuple_add (PySem.F.args_tuple_add_2 _ _)
   (tuple_addW2 t b vs.toArray ws.toArray n n2 dd l9 sl gW (by simpa using hv) (by simpa using hw) (by rw[Zaj,Zaj];exact hsz)) ⟨ho,gE,?_⟩
  rw[e]
  exact h2 hw
def aJ (n d:Nat):Option Int->Nat
 |none=>d
 |some v=>if v<0 then (v+(n:Int)).toNat else min v.toNat n
theorem vg (n d:Nat):aJ n d none=d:=rfl
theorem vh (n d k:Nat):aJ n d (some (k:Int))=min k n:=by
 show(if (k:Int)<0 then ((k:Int)+(n:Int)).toNat else min (k:Int).toNat n)=min k n
 rw[ZaK .o,Zeg]
theorem Ve (n d:Nat) (hd:d<=n) (o:Option Int):aJ n d o<=n:=by
 cases o with
 |none=>exact hd
 |some v=>
  show(if v<0 then (v+(n:Int)).toNat else min v.toNat n)<=n
  by_cases hv:v<0
  ·rw[ZaY hv];omega
  ·rw[ZaK hv];exact Nat.min_le_right _ _
theorem Hx (v:Int) (n d:Nat):(if v<0 then max (v+(n:Int)) 0 else min v (n:Int))=((aJ n d (some v):Nat):Int):=by
 show(if v<0 then max (v+(n:Int)) 0 else min v (n:Int))=(((if v<0 then (v+(n:Int)).toNat else min v.toNat n):Nat):Int)
 by_cases hv:v<0
 ·simp only[ZaY hv];omega
 ·simp only[ZaK hv];omega
theorem Zbv (lo hi:Option Int) (n:Nat):Builtin.Slice.sliceAdjust lo hi 1 (n:Int)=(((aJ n 0 lo:Nat):Int),((aJ n n hi:Nat):Int)):=by
 have h1:¬((1:Int)<0):=.o
 unfold Builtin.Slice.sliceAdjust
 simp only[h1,Zdn]
 refine Prod.ext ?_ ?_
 ·cases lo with
  |none=>rfl
  |some v=>exact Hx v n 0
 ·cases hi with
  |none=>rfl
  |some v=>exact Hx v n n
theorem Zbe (i j:Nat):Builtin.Slice.slicePlaces (i:Int) (j:Int) 1=j - i:=by
 unfold Builtin.Slice.slicePlaces
 have h1:(1:Int)>0:=.o
 simp only[h1,Ze2,Int.ediv_one]
 split<;>omega
theorem Wv {v:Value}{o:Option Int}{Q:Option Int->Shared->Prop}(p:IsPart v o) (h:Q o s):wpAny (model prog w) A (Builtin.Slice.slicePartIndex v) Q E s:=by
 cases p with
 |none=>exact slicePart_none h
 |int i t=>exact slicePart_int h
theorem CU {sl:Addr}{vl vu:Value}{lo hi:Option Int}{n:Nat}{Q:Int×Int×Nat->Shared->Prop}(hs:s.heap.IsSliceOf sl vl vu .none) (pl:IsPart vl lo) (pu:IsPart vu hi)
  (h:Q (((aJ n 0 lo:Nat):Int),1,aJ n n hi - aJ n 0 lo) s):wpAny (model prog w) A (Builtin.Slice.sliceApplied (.ref sl) (pure (n:Int))) Q E s:=by
 obtain⟨os,nh,wG,sI⟩:=id hs
 unfold Builtin.Slice.sliceApplied Builtin.Slice.sliceFields
 refine Zaa (Zaa (ZbQ nh sI (x:=vl) rfl (Zaa (ZbQ nh sI (x:=vu) rfl (Zaa (ZbQ nh sI (x:=.none) rfl (Zaf ?_)))))))
 refine Zaa (slicePart_none ?_)
 show wpAny _ _ (if ((1:Int)==0)=true then _ else _) _ _ s
 rw[ZaK .d]
 refine Zaa (Wv pl (Zaa (Wv pu (Zaa (Zaf ?_)))))
 show wpAny _ _ (match Builtin.Slice.sliceAdjust lo hi 1 (n:Int) with |(lo,hi)=>pure (lo,(1:Int),Builtin.Slice.slicePlaces lo hi 1)) _ _ s
 rw[Zbv lo hi n]
 show wpAny _ _ (pure (((aJ n 0 lo:Nat):Int),(1:Int),Builtin.Slice.slicePlaces ((aJ n 0 lo:Nat):Int) ((aJ n n hi:Nat):Int) 1)) _ _ s
 rw[Zbe]
 exact Zaf h
theorem ZdB (xs:Array Value) (i k:Nat):((List.range k).filterMap fun(m:Nat)=>xs[((i:Int)+(m:Int)*1).toNat]?).toArray=((xs.toList.drop i).take k).toArray:=by
 have e:(fun(m:Nat)=>xs[((i:Int)+(m:Int)*1).toNat]?)=fun m=>xs[i+m]? :=by
  funext m
  have:((i:Int)+(m:Int)*1).toNat=i+m:=.o
  rw[this]
 rw[e]
 have:=pick_run xs i k
 rw[List.filterMap_map]at this
 have e2:((fun x=>xs[x]?)∘fun x=>i+x)=fun m=>xs[i+m]? :=rfl
 rw[e2]at this
 rw[this]
theorem Rk {t sl:Addr}{items:Array Value}{vl vu:Value}{lo hi:Option Int}{Q:Value->Shared->Prop}(ht:IsTup s.heap t items) (hs:s.heap.IsSliceOf sl vl vu .none) (pl:IsPart vl lo) (pu:IsPart vu hi)
  (hw:¬(aJ items.size 0 lo=0/\aJ items.size items.size hi=items.size))
  (h:Q (.ref s.heap.objs.size) {s with heap:=s.heap.push {cls:=.type "tuple",data:=.seq ((items.toList.drop (aJ items.size 0 lo)).take (aJ items.size items.size hi - aJ items.size 0 lo)).toArray} })
  (hsz:items.size<=sizeLine):wpAny (model prog w) A (getItem (.ref t) (.ref sl)) Q E s:=by
 have vW:sizeOk (.seq ((items.toList.drop (aJ items.size 0 lo)).take (aJ items.size items.size hi - aJ items.size 0 lo)).toArray):=by
  show((items.toList.drop (aJ items.size 0 lo)).take (aJ items.size items.size hi - aJ items.size 0 lo)).toArray.size<=sizeLine
  rw[Zaj,ZaS,ZbB,Zau]
  omega
 have hj:aJ items.size items.size hi<=items.size:=Ve _ _ (Zae _) hi
 obtain⟨os,nh,wG,sI⟩:=id hs
 have cW:s.TypeIs (.ref sl) "slice" :=⟨os,nh,wG⟩
 unfold getItem
 try with_reducible refine ZbS ?_
 first |refine Zaa (Zaf ?_) |skip
 refine Zaa (wpAny_sequenceKey ht.typeIs .d ?_)
 refine Zaa (Zb8 (name:=Str.ofString "__getitem__") ht.typeIs Zb4
  (Zdq Zb4 ht.typeIs entry_tuple_getitem ?_ (args_tuple_getitem _ _)))
 show wpAny _ _ (Builtin.Tuple.tupleItemsOf (.ref t) >>=_) _ _ s
 refine Zaa (tupleItemsOf_ ht ?_)
 refine Zaa (Zfr cW ?_)
 rw[ZaY .d]
 refine Zaa (CU hs pl pu ?_)
 have Ao:¬((((aJ items.size 0 lo:Nat):Int)==0&&(1:Int)==1&&(aJ items.size items.size hi - aJ items.size 0 lo)==items.size)=true):=by
  intro q
  rw[ZaL,ZaL]at q
  have q1:((aJ items.size 0 lo:Nat):Int)=0:=eq_of_beq q.1.1
  have q2:aJ items.size items.size hi - aJ items.size 0 lo=items.size:=eq_of_beq q.2
  exact hw ⟨.o,.o⟩
 show wpAny _ _ (if (((aJ items.size 0 lo:Nat):Int)==0&&(1:Int)==1&&(aJ items.size items.size hi - aJ items.size 0 lo)==items.size)=true then _ else _) _ _ s
 rw[ZaK Ao,ZdB]
 first
  |exact Zaa (m:=Builtin.Tuple.tupleExact _) (ZbR (Zaf ⟨_,rfl,Zaf h⟩) vW)
  |exact Zaa (m:=Builtin.Tuple.tupleExact _) (ZbR (Zaa (Zaf (Zaf ⟨_,rfl,Zaf h⟩))) vW)
  |exact Zaa (Zaa (m:=Builtin.Tuple.tupleExact _) (ZbR (Zaf (Zaf ⟨_,rfl,Zaf h⟩)) vW))
  |exact Zaa (Zaa (m:=Builtin.Tuple.tupleExact _) (ZbR (Zaf ⟨_,rfl,Zaf h⟩) vW))
end
end HT
namespace L2
open PySem PySem.Spec PyProof.Rows
abbrev TO:=St->Hp->(Option Int->Hp->Prop)->Prop
def PO (X:Cx) (e:Option Expr) (t:TO):Prop:=
 ∀(pins:List (Addr×Obj)) (s:Shared) (σ:St) (H:Hp) (Q:Option Int->Hp->Prop),Inv X pins σ H s->t σ H Q->
  wpAny (model X.prog X.w) X.A (evalPart e X.env) (fun u s'=> ∃o H',Inv X pins σ H' s'/\IsPart u o/\Q o H') X.xe s
def ya:TO:=fun _ H Q=>Q none H
def xZ (t:TE):TO:=fun σ H Q=>t σ H fun x H1=> ∃i,x=.int i/\Q (some i) H1
theorem Jx {ns:List Int} :∀{us:List Value},Vals (ns.map V.int) us->IntsAre us ns:=by
 induction ns with
 |nil=>intro us r;rw[List.map_nil]at r;cases r;exact .nil
 |cons n ns ih=>
  intro us r
  rw[ZbJ]at r
  cases r with
  |cons r1 r2=>
   obtain⟨t,e⟩:=r1
   subst e
   exact .cons n t (ih r2)
section
variable {X:Cx}{e:Expr}{te:TE}{lo hi:Option Expr}{tl th:TO}{pos p2:Pos}
theorem YW:PO X none ya:=by
 intro pins s σ H Q I h
 rw[evalPart_none]
 exact Zaf ⟨none,H,I,.none,h⟩
theorem YV (h:PE X e te):PO X (some e) (xZ te):=by
 intro pins s σ H Q I hw
 rw[evalPart_some]
 refine ar (h pins s σ H _ I hw) fun u s1 ⟨x,H1,I1,r1,q1⟩=> ?_
 obtain⟨i,rfl,q⟩:=q1
 obtain⟨t,rfl⟩:=r1
 exact⟨some i,H1,I1,.int i t,q⟩
def xr (X:Cx) (r:V->Option Int->Option Int->Hp->VK->Prop):Prop:=
 ∀(pins:List (Addr×Obj)) (s:Shared) (σ:St) (H:Hp) (x:V) (v vl vu:Value) (lo hi:Option Int) (sl:Addr) (Q:VK),Inv X pins σ H s->RelV x v->s.heap.IsSliceOf sl vl vu .none->IsPart vl lo->IsPart vu hi->r x lo hi H Q->
  ∃T id,typeLookup (.type T) "__getitem__" =pure (some (.builtin id))/\s.TypeIs v T/\wpAny (model X.prog X.w) X.A (getItem v (.ref sl)) (EP X pins σ Q) X.xe s
def xX (r:V->Option Int->Option Int->Hp->VK->Prop) (te:TE) (tl th:TO):TE:=fun σ H Q=>te σ H fun x H1=>tl σ H1 fun l H2=>th σ H2 fun u H3=>r x l u H3 Q
theorem Yy {r:V->Option Int->Option Int->Hp->VK->Prop}(hr:xr X r) (he:PE X e te) (hl:PO X lo tl) (hu:PO X hi th):PE X (.Subscript e (.Slice lo hi none p2) pos) (xX r te tl th):=by
 intro pins s σ H Q I h
 refine Subscript_ (ar (he pins s σ H _ I h) fun v s1 ⟨x,H1,I1,r1,q1⟩=> ?_)
 refine wpAny_Slice (ar (hl pins s1 σ H1 _ I1 q1) fun vl s2 ⟨l,H2,I2,pl,q2⟩=>ar (hu pins s2 σ H2 _ I2 q2) fun vu s3 ⟨u,H3,I3,pu,q3⟩=> ?_)
 rw[evalPart_none]
 refine Zaf ?_
 have I4:Inv X pins σ H3 {s3 with heap:=s3.heap.push {cls:=.type "slice",data:=.fields #[vl,vu,.none]} } :=I3.kept (t':=s3.toks) fun b ob q=>Zab _ q
 obtain⟨T,id,hT,ht,hg⟩:=hr pins {s3 with heap:=s3.heap.push {cls:=.type "slice",data:=.fields #[vl,vu,.none]} } σ H3 x v vl vu l u s3.heap.objs.size Q I4 r1 (Heap.IsSliceOf.new ..) pl pu q3
 show wpAny (model X.prog X.w) X.A (subscriptTail e (.Slice lo hi none p2) v (.ref s3.heap.objs.size)) (EP X pins σ Q) X.xe {s3 with heap:=s3.heap.push {cls:=.type "slice",data:=.fields #[vl,vu,.none]} }
 exact tail_any (ops:=[.ref s3.heap.objs.size,v]) ht hT hg (by with_unfolding_all rfl)
def cI (xs:List V) (lo hi:Option Int):List V:=(xs.drop (HT.aJ xs.length 0 lo)).take (HT.aJ xs.length xs.length hi - HT.aJ xs.length 0 lo)
theorem YH (xs:List V) (lo hi:Option Int):(cI xs lo hi).length<=xs.length:=by
 unfold cI
 rw[ZaS,ZbB]
 omega
def My (K:ZhQ):V->Option Int->Option Int->Hp->VK->Prop:=fun x lo hi H Q=> ∃a xs,x=.ref a/\aj K H a xs/\
 ¬(HT.aJ xs.length 0 lo=0/\HT.aJ xs.length xs.length hi=xs.length)/\∀p,H p=none->Q (.ref p) (upd H p (.tup (cI xs lo hi)))
theorem Vf:xr X (My X.K):=by
 intro pins s σ H x v vl vu lo hi sl Q I rx hs pl pu h
 obtain⟨a,xs,rfl,hx,hw,q⟩:=h
 cases rx
 obtain⟨aa,r,ht,hz⟩:=I.tuple hx
 have hlen:aa.toArray.size=xs.length:=by rw[Zaj];exact r.length.symm
 refine⟨"tuple",_,Zb4.lookup,ht.typeIs,?_⟩
 refine HT.Rk ht hs pl pu (by rw[hlen];exact hw) ?_ (by rw[hlen];exact hz)
 rw[hlen]
 refine⟨.ref s.heap.objs.size,_,I.laid (t':=s.toks) (o:=.tup (cI xs lo hi)) (fun b ob q=>Zab _ q) (Zae _) ?_,rfl,q _ (I.ak.fresh (Zae _))⟩
 exact⟨Zcd (YH xs lo hi) hz,_,(r.drop (HT.aJ xs.length 0 lo)).take (HT.aJ xs.length xs.length hi - HT.aJ xs.length 0 lo),IsTup.new _ _,_,Zat _ rfl,rfl⟩
def zp (K:ZhQ):R2:=fun x y H Q=> ∃a b xs ys,x=.ref a/\y=.ref b/\aj K H a xs/\aj K H b ys/\xs≠[]/\xs.length+ys.length<=sizeLine/\
 (ys=[]->Q (.ref a) H)/\(ys≠[]->∀p,H p=none->Q (.ref p) (upd H p (.tup (xs++ys))))
theorem Vals.zG {xs:List V}{us:List Value}(r:Vals xs us):us=[]↔xs=[]:=by
 cases r with
 |nil=>simp
 |cons _ _=>simp
theorem HU:bg X (binaryOp .Add) (zp X.K):=by
 intro pins s σ H x y v u Q I rx ry h
 obtain⟨a,b,xs,ys,rfl,rfl,ha,hb,hx,hz,q1,q2⟩:=h
 cases rx
 cases ry
 obtain⟨aa,r1,p1,_⟩:=I.tuple ha
 obtain⟨hV,r2,p2,_⟩:=I.tuple hb
 refine HT.Tn p1 p2 (fun z=>hx (r1.zG.mp z)) (fun z=> ⟨.ref a,H,I,rfl,q1 (r2.zG.mp z)⟩) (fun z=> ?_) (by rw[<-r1.length,<-r2.length];exact hz)
 refine⟨.ref s.heap.objs.size,_,I.laid (t':=s.toks) (o:=.tup (xs++ys)) (fun b ob q=>Zab _ q) (Zae _) ?_,rfl,q2 (fun w=>z (r2.zG.mpr w)) _ (I.ak.fresh (Zae _))⟩
 exact⟨by rw[Zap];exact hz,_,r1.append r2,IsTup.new _ _,_,Zat _ rfl,rfl⟩
end
def mU (n:Nat) (i:Int):Option Nat:=if 0<=i then (if i<n then some i.toNat else none) else if -(n:Int)<=i then some (i+n).toNat else none
def fN {α:Type} (xs:List α) (i:Int):Option α:=(mU xs.length i).bind fun j=>xs[j]?
theorem Ir {n:Nat}{i:Int}{j:Nat}(h:mU n i=some j):seqIndex? i n=some j/\j<n/\ -(n:Int)<=i/\i<n:=by
 unfold mU at h
 by_cases h0:0<=i
 ·rw[ZaY h0]at h
  by_cases h1:i<n
  ·rw[ZaY h1]at h
   have e:i.toNat=j:=ZbE h
   exact⟨by rw[PySem.seqIndex_of h0 h1,e],.o,.o,h1⟩
  ·rw[ZaK h1]at h;cases h
 ·rw[ZaK h0]at h
  by_cases h1: -(n:Int)<=i
  ·rw[ZaY h1]at h
   have e:(i+n).toNat=j:=ZbE h
   exact⟨by rw[seqIndex_neg .o h1,e],.o,h1,.o⟩
  ·rw[ZaK h1]at h;cases h
theorem Hv {α:Type}{xs:List α}{i:Int}{v:α}(h:fN xs i=some v):∃j,seqIndex? i xs.length=some j/\xs[j]? =some v/\j<xs.length/\ -(xs.length:Int)<=i/\i<xs.length:=by
 unfold fN at h
 cases e:mU xs.length i with
 |none=>rw[e]at h;cases h
 |some j=>
  rw[e]at h
  obtain⟨h1,h2,h3,h4⟩:=Ir e
  exact⟨j,h1,h,h2,h3,h4⟩
theorem Yv {α:Type}{xs:List α}{j:Nat}{v:α}(h:xs[j]? =some v):fN xs (j:Int)=some v:=by
 have hj:j<xs.length:=(Zad.mp h).1
 have e:mU xs.length (j:Int)=some j:=by
  unfold mU
  rw[ZaY .o,ZaY .o];simp
 unfold fN;rw[e];exact h
def aaf (b:Expr):Prop:=∀o i,subscripted b false o i=operate [o,i] (getItem o i)
def oo (X:Cx) (r:R2):Prop:=
 ∀(value slice:Expr) (pins:List (Addr×Obj)) (s:Shared) (σ:St) (H:Hp) (x y:V) (v u:Value) (Q:VK),Inv X pins σ H s->RelV x v->RelV y u->r x y H Q->
  subscripted slice false v u=operate [v,u] (getItem v u)->wpAny (model X.prog X.w) X.A (subscriptTail value slice v u) (EP X pins σ Q) X.xe s
def xw (X:Cx) (id:String) (r:V->List V->Hp->VK->Prop):Prop:=
 ∀(pins:List (Addr×Obj)) (s:Shared) (σ:St) (H:Hp) (x:V) (xs:List V) (v:Value) (us:List Value) (Q:VK),Inv X pins σ H s->RelV x v->Vals xs us->r x xs H Q->
  wpAny (model X.prog X.w) X.A (call (.builtin id) (v::us)) (EP X pins σ Q) X.xe s
section
variable {X:Cx}{a b:Expr}{ta tb:TE}{pos:Pos}
theorem ZE {r:R2}(hr:oo X r) (ha:PE X a ta) (hb:PE X b tb) (hs:aaf b):PE X (.Subscript a b pos) (kL r ta tb):=by
 intro pins s σ H Q I h
 exact Subscript_ (Bo ha hb I h fun v u s2 x y H2 I2 rx ry q=>hr a b pins s2 σ H2 x y v u Q I2 rx ry q (hs _ _))
def MJ (K:ZhQ):R2:=fun x y H Q=> ∃p xs i v,x=.ref p/\y=.int i/\ai K H p xs/\fN xs i=some v/\Q v H
def rq (K:ZhQ):R2:=fun x y H Q=> ∃p xs i v,x=.ref p/\y=.int i/\aj K H p xs/\fN xs i=some v/\Q v H
theorem ZZ:oo X (MJ X.K):=by
 intro value slice pins s σ H x y v u Q I rx ry h hs
 obtain⟨p,xs,i,z,rfl,rfl,hq,he,q⟩:=h
 cases rx
 obtain⟨t,rfl⟩:=ry
 obtain⟨aa,r,pl,hz⟩:=I.list hq
 obtain⟨j,h1,h2,h3,h4,h5⟩:=Hv he
 obtain⟨w,ew,iH⟩:=r.get h2
 have hl:=r.length
 have hn:=vO
 have fin:EP X pins σ Q w s:=⟨z,H,I,iH,q⟩
 by_cases h0:0<=i
 ·have hj:i.toNat=j:=by
   rw[PySem.seqIndex_of h0 h5]at h1
   exact ZbE h1
  exact item_listR pl.isList h0 .o (by rw[hj];simpa using ew) fin hs
 ·have hj:(i+(aa.toArray.size:Int)).toNat=j:=by
   rw[seqIndex_neg .o h4]at h1
   rw[Zaj,<-hl]
   exact ZbE h1
  exact subscriptTail_builtinR (x:=w) pl.isList.typeIs slot_list_getitem.lookup
   (wpAny_getItem_list_neg (Q:=fun r s'=>r=w/\EP X pins σ Q r s') pl.isList .o (by rw[Zaj]<;>omega) .o (by rw[hj];simpa using ew) ⟨rfl,fin⟩) hs
theorem ZN:oo X (rq X.K):=by
 intro value slice pins s σ H x y v u Q I rx ry h hs
 obtain⟨p,xs,i,z,rfl,rfl,hq,he,q⟩:=h
 cases rx
 obtain⟨t,rfl⟩:=ry
 obtain⟨aa,r,pl,hz⟩:=I.tuple hq
 obtain⟨j,h1,h2,h3,h4,h5⟩:=Hv he
 obtain⟨w,ew,iH⟩:=r.get h2
 have hl:=r.length
 have hn:=vO
 have fin:EP X pins σ Q w s:=⟨z,H,I,iH,q⟩
 exact subscriptTail_builtinR (x:=w) pl.typeIs slot_tuple_getitem.lookup
  (getItem_tuple (j:=j) (Q:=fun r s'=>r=w/\EP X pins σ Q r s') pl .o .o (by rw[Zaj,<-hl];exact h1) (by simpa using ew) ⟨rfl,fin⟩) hs
theorem Zbi (aa:List Value) (n j:Nat) (u:Value):Obj.mapSeq (·.setIfInBounds j u) {cls:=.type "list",data:=.seq aa.toArray n} = {cls:=.type "list",data:=.seq (aa.set j u).toArray n} :=by
 simp[Obj.mapSeq]
theorem Inv.lst {pins:List (Addr×Obj)}{σ:St}{H:Hp}{s:Shared}{p:Addr}{xs:List V}(I:Inv X pins σ H s) (h:H p=some (.lst xs)):
  ∃(aa:List Value) (n:Nat),Vals xs aa/\s.heap.get? p=some {cls:=.type "list",data:=.seq aa.toArray n}/\xs.length<=sizeLine:=by
 obtain⟨z,aa,n,r,e⟩:=I.ak p _ h
 exact⟨aa,n,r,e,z⟩
theorem Inv.Oj {pins:List (Addr×Obj)}{σ:St}{H:Hp}{s:Shared}{p:Addr}{xs ys:List V}{aa its':List Value}{n n':Nat}{f:Obj->Obj}(I:Inv X pins σ H s) (h:H p=some (.lst xs))
  (ho:s.heap.get? p=some {cls:=.type "list",data:=.seq aa.toArray n}) (hf:f {cls:=.type "list",data:=.seq aa.toArray n} = {cls:=.type "list",data:=.seq its'.toArray n'}) (r:Vals ys its') (hz:ys.length<=sizeLine) (t:Nat):
  Inv X pins σ (upd H p (.lst ys)) {s with heap:=s.heap.update p f,toks:=t} :=by
 have e:(s.heap.update p f).get? p=some {cls:=.type "list",data:=.seq its'.toArray n'} :=by
  rw[Zdi f ho (by rw[hf]<;>rfl),hf]
 refine I.write (x:=p) (e:=p) (by rw[h];trivial) (.inl rfl) (fun b u hb q=> (ZbP _ _ (ZdS hb)).trans q) ⟨_,e⟩ ?_
 exact⟨hz,its',n',r,e⟩
def MA:V->V->V->Hp->(Hp->Prop)->Prop:=fun o i v H Q=> ∃p xs k j,o=.ref p/\i=.int k/\H p=some (.lst xs)/\mU xs.length k=some j/\Q (upd H p (.lst (xs.set j v)))
theorem IJ:Kk X MA:=by
 intro pins s σ H o i v ov iv u Q I ro ri rv h
 obtain⟨p,xs,k,j,rfl,rfl,hp,hj,q⟩:=h
 cases ro
 obtain⟨t,rfl⟩:=ri
 obtain⟨aa,n,r,ho,hz⟩:=I.lst hp
 obtain⟨h1,h2,h3,h4⟩:=Ir hj
 have hl:=r.length
 have hn:=vO
 have I':Inv X pins σ (upd H p (.lst (xs.set j v))) {s with heap:=s.heap.update p (Obj.mapSeq (·.setIfInBounds j u))} :=
  I.Oj hp ho (Zbi aa n j u) (r.set rv j) (by rw[List.length_set];exact hz) s.toks
 by_cases h0:0<=k
 ·have hk:k.toNat=j:=by
   rw[PySem.seqIndex_of h0 h4]at h1
   exact ZbE h1
  exact PySem.W.ki_setAt ho h0 .o (by rw[Zaj,<-hl];exact h4) (by rw[hk];exact⟨_,I',q⟩)
 ·have hk:(k+(aa.toArray.size:Int)).toNat=j:=by
   rw[seqIndex_neg .o h3]at h1
   rw[Zaj,<-hl]
   exact ZbE h1
  exact PySem.W.ki_setBack ho .o (by rw[Zaj,<-hl];exact h3) .o (by rw[hk];exact⟨_,I',q⟩)
theorem UW (lo hi:Option Int) (n:Nat):(sliceBounds lo hi none n).1=((HT.aJ n 0 lo:Nat):Int)/\(sliceBounds lo hi none n).2.1=((HT.aJ n n hi:Nat):Int)/\(sliceBounds lo hi none n).2.2=1:=by
 refine⟨?_,?_,rfl⟩
 ·cases lo with
  |none=>simp[sliceBounds,HT.aJ]
  |some i=>
   simp only[sliceBounds,HT.aJ,Option.getD_none,show(1:Int)>0 by decide,Ze2]
   by_cases h:i<0
   ·simp only[h,Ze2]<;>omega
   ·simp only[h,Zdn]<;>omega
 ·cases hi with
  |none=>simp[sliceBounds,HT.aJ]
  |some i=>
   simp only[sliceBounds,HT.aJ,Option.getD_none,show(1:Int)>0 by decide,Ze2]
   by_cases h:i<0
   ·simp only[h,Ze2]<;>omega
   ·simp only[h,Zdn]<;>omega
theorem Uc (aa:List Value) (lo hi:Option Int):slicePick aa.toArray lo hi none=((aa.drop (HT.aJ aa.length 0 lo)).take (HT.aJ aa.length aa.length hi - HT.aJ aa.length 0 lo)).toArray:=by
 obtain⟨h1,h2,h3⟩:=UW lo hi aa.toArray.size
 unfold slicePick
 rw[h1,h2,h3]
 simp only[sliceRange_one,pick_run,Zaj]<;>rfl
def Mz (K:ZhQ):V->Option Int->Option Int->Hp->VK->Prop:=fun x lo hi H Q=> ∃a xs,x=.ref a/\ai K H a xs/\∀p,H p=none->Q (.ref p) (upd H p (.lst (cI xs lo hi)))
theorem Io:xr X (Mz X.K):=by
 intro pins s σ H x v vl vu lo hi sl Q I rx hs pl pu h
 obtain⟨a,xs,rfl,hx,q⟩:=h
 cases rx
 obtain⟨aa,r,ht,hz⟩:=I.list hx
 have hlen:=r.length
 refine⟨"list",_,slot_list_getitem.lookup,ht.isList.typeIs,?_⟩
 refine wpAny_getItem_list_slice ht.isList hs pl pu .none (by simp) ?_ (by rw[Zaj]<;>omega)
 rw[Uc,<-hlen]
 refine⟨.ref s.heap.objs.size,_,I.laid (t':=s.toks) (o:=.lst (cI xs lo hi)) (fun b ob q=>Zab _ q) (Zae _) ?_,rfl,q _ (I.ak.fresh (Zae _))⟩
 exact⟨Zcd (YH xs lo hi) hz,_,0,(r.drop (HT.aJ xs.length 0 lo)).take (HT.aJ xs.length xs.length hi - HT.aJ xs.length 0 lo),Zat _ rfl⟩
def fK:V->Bool
 | .ah=>true
 | .bl _=>true
 | .int _=>true
 | .str _=>true
 |_=>false
def dZ:V->V->Bool
 | .ah,.ah=>true
 | .bl a,.bl b=>a==b
 | .bl a,.int b=> (if a then 1 else 0)==b
 | .int a,.bl b=>a==(if b then 1 else 0)
 | .int a,.int b=>a==b
 | .str a,.str b=>a==b
 |_,_=>false
theorem V2 {A:Around}{s:Shared}{y x:V}{u v:Value}(ry:RelV y u) (rx:RelV x v) (fy:fK y=true) (fx:fK x=true):SeqAt.EqAt A s u v (dZ y x):=by
 cases y with
 |ah=>
  cases ry
  cases x with
  |ah=>cases rx;exact SeqAt.EqAt.same _
  |bl b=>cases rx;exact SeqAt.EqAt.none_bool b
  |int b=>obtain⟨t,rfl⟩:=rx;exact SeqAt.EqAt.none_int b t
  |str b=>obtain⟨t,rfl⟩:=rx;exact SeqAt.EqAt.none_str b t
  |_=>exact absurd (show false=true from fx) Zaw
 |bl a=>
  cases ry
  cases x with
  |ah=>cases rx;exact SeqAt.EqAt.bool_none a
  |bl b=>cases rx;exact SeqAt.EqAt.bool_bool a b
  |int b=>obtain⟨t,rfl⟩:=rx;exact SeqAt.EqAt.bool_int a b t
  |str b=>obtain⟨t,rfl⟩:=rx;exact SeqAt.EqAt.bool_str a b t
  |_=>exact absurd (show false=true from fx) Zaw
 |int a=>
  obtain⟨t',rfl⟩:=ry
  cases x with
  |ah=>cases rx;exact SeqAt.EqAt.int_none a t'
  |bl b=>cases rx;exact SeqAt.EqAt.int_bool a t' b
  |int b=>obtain⟨t,rfl⟩:=rx;exact Zdz a t' b t
  |str b=>obtain⟨t,rfl⟩:=rx;exact SeqAt.EqAt.int_str a t' b t
  |_=>exact absurd (show false=true from fx) Zaw
 |str a=>
  obtain⟨t',rfl⟩:=ry
  cases x with
  |ah=>cases rx;exact SeqAt.EqAt.str_none a t'
  |bl b=>cases rx;exact SeqAt.EqAt.str_bool a t' b
  |int b=>obtain⟨t,rfl⟩:=rx;exact SeqAt.EqAt.str_int a t' b t
  |str b=>obtain⟨t,rfl⟩:=rx;exact SeqAt.EqAt.str_str a t' b t
  |_=>exact absurd (show false=true from fx) Zaw
 |_=>exact absurd (show false=true from fy) Zaw
def gK (x:V) (u:Value):Bool:=match u with
 | .none=>dZ .ah x
 | .bool b=>dZ (.bl b) x
 | .int i _=>dZ (.int i) x
 | .str z _=>dZ (.str z) x
 |_=>false
theorem xp {x y:V}{u:Value}(r:RelV y u) (f:fK y=true):gK x u=dZ y x:=by
 cases y with
 |ah=>cases r;rfl
 |bl b=>cases r;rfl
 |int i=>obtain⟨t,rfl⟩:=r;rfl
 |str z=>obtain⟨t,rfl⟩:=r;rfl
 |_=>exact absurd (show false=true from f) Zaw
theorem BN {x:V} :∀{xs:List V}{us:List Value},Vals xs us->xs.all fK=true->us.any (gK x)=xs.any fun y=>dZ y x
 |_,_,.nil,_=>rfl
 |y::xs,u::us,.cons r t,f=>by
  rw[List.all_cons,ZaL]at f
  rw[List.any_cons,List.any_cons,xp r f.1,BN t f.2]
theorem Y4 {A:Around}{s:Shared}{x:V}{v:Value}(rx:RelV x v) (fx:fK x=true):∀{xs:List V}{us:List Value},Vals xs us->xs.all fK=true->∀u∈us,SeqAt.EqAt A s u v (gK x u)
 |_,_,.nil,_=>fun u hu=>by cases hu
 |y::xs,u::us,.cons r t,f=>fun u' hu=>by
  rw[List.all_cons,ZaL]at f
  rcases Zao.mp hu with rfl |hu
  ·rw[xp r f.1];exact V2 r rx f.1 fx
  ·exact Y4 rx fx t f.2 u' hu
def hW (x:V) (xs:List V):Bool:=xs.any fun y=>dZ y x
def Dk (K:ZhQ) (neg:Bool):R2:=fun x y H Q=> ∃p xs,y=.ref p/\(ai K H p xs∨aj K H p xs)/\fK x=true/\xs.all fK=true/\Q (.bl (if neg then !hW x xs else hW x xs)) H
theorem U6:bg X (compareOp .NotIn) (Dk X.K true):=by
 intro pins s σ H x y v u Q I rx ry h
 obtain⟨p,xs,rfl,hq,fx,fs,q⟩:=h
 cases ry
 rcases hq with hq |hq
 ·obtain⟨aa,r,pl,hz⟩:=I.list hq
  refine SeqAt.notIn_listAt (gK x) pl.isList (fun w hw=>Y4 rx fx r fs w (by simpa using hw)) ⟨.bl _,H,I,rfl,?_⟩
  rw[show aa.toArray.any (gK x)=aa.any (gK x) by simp,BN r fs]
  exact q
 ·obtain⟨aa,r,pl,hz⟩:=I.tuple hq
  refine SeqAt.notIn_tupleAt (gK x) pl (fun w hw=>Y4 rx fx r fs w (by simpa using hw)) ⟨.bl _,H,I,rfl,?_⟩
  rw[show aa.toArray.any (gK x)=aa.any (gK x) by simp,BN r fs]
  exact q
theorem ZF:dA X (.builtin "len") (fun xs H Q=> ∃p ys,xs=[.ref p]/\(ai X.K H p ys∨aj X.K H p ys)/\Q (.int ys.length) H):=by
 intro pins s σ H xs us Q I r h
 obtain⟨p,ys,rfl,hq,q⟩:=h
 obtain⟨u,rfl,rx⟩:=Zgc r
 cases rx
 have hn:=vO
 rcases hq with hq |hq
 ·obtain⟨aa,r',pl,hz⟩:=I.list hq
  have hlen:=r'.length
  exact Calls.call_len_list pl.isList (by simp only[Zaj]<;>omega) ⟨.int ys.length,H,I.tok _,⟨s.toks+1,by rw[Zaj,hlen]⟩,q⟩
 ·obtain⟨aa,r',pl,hz⟩:=I.tuple hq
  have hlen:=r'.length
  exact len_tuple pl (by simp only[Zaj]<;>omega) ⟨.int ys.length,H,I.tok _,⟨s.toks+1,by rw[Zaj,hlen]⟩,q⟩
theorem Zah:dA X (.type "list") (fun xs H Q=> ∃p ys,xs=[.ref p]/\(ai X.K H p ys∨aj X.K H p ys)/\∀l,H l=none->Q (.ref l) (upd H l (.lst ys))):=by
 intro pins s σ H xs us Q I r h
 obtain⟨p,ys,rfl,hq,q⟩:=h
 obtain⟨u,rfl,rx⟩:=Zgc r
 cases rx
 have fin:∀(aa:List Value),Vals ys aa->ys.length<=sizeLine->∀(h':Heap) (c':Nat),(∀b o',s.heap.get? b=some o'->h'.get? b=some o')->
   h'.get? s.heap.objs.size=some {cls:=.type "list",dict:=none,data:=.seq aa.toArray c',slots:= #[]}->EP X pins σ Q (.ref s.heap.objs.size) {s with heap:=h'} :=fun aa r' hz h' c' kp e=>
  ⟨.ref s.heap.objs.size,_,I.laid (t':=s.toks) kp (Zae _) (show bu X.prog X.w _ h' _ (.lst ys) from ⟨hz,aa,c',r',e⟩),rfl,q _ (I.ak.fresh (Zae _))⟩
 rcases hq with hq |hq
 ·obtain⟨aa,r',pl,hz⟩:=I.list hq
  have hlen:=r'.length
  obtain⟨o,ho,hc,n,hd⟩:=pl.isList
  exact call_list_seq p (.inl rfl) ho hc hd (fun h' c' kp e=>fin aa r' hz h' c' kp e) (by simp only[Zaj]<;>omega)
 ·obtain⟨aa,r',pl,hz⟩:=I.tuple hq
  have hlen:=r'.length
  obtain⟨o,ho,hc,n,hd⟩:=pl
  exact call_list_seq p (.inr rfl) ho hc hd (fun h' c' kp e=>fin aa r' hz h' c' kp e) (by simp only[Zaj]<;>omega)
theorem Jq:dA X (.type "tuple") (fun xs H Q=> ∃p ys,xs=[.ref p]/\((ai X.K H p ys/\∀l,H l=none->Q (.ref l) (upd H l (.tup ys)))∨(aj X.K H p ys/\Q (.ref p) H))):=by
 intro pins s σ H xs us Q I r h
 obtain⟨p,ys,rfl,h⟩:=h
 obtain⟨u,rfl,rx⟩:=Zgc r
 cases rx
 rcases h with ⟨hq,q⟩ |⟨hq,q⟩
 ·obtain⟨aa,r',pl,hz⟩:=I.list hq
  have hlen:=r'.length
  refine call_tuple_list pl.isList (fun h' kp=> ?_) (by simp only[Zaj]<;>omega)
  have I1:Inv X pins σ H {s with heap:=h'} :=I.kept (t':=s.toks) kp
  have I2:Inv X pins σ (upd H h'.objs.size (.tup ys)) {s with heap:=h'.push {cls:=.type "tuple",data:=.seq aa.toArray} } :=
   I1.laid (t':=s.toks) (fun b o e=>Zab _ e) (Zae _) (show bu X.prog X.w _ _ _ (.tup ys) from ⟨hz,aa,r',IsTup.new _ _,_,Zat _ rfl,rfl⟩)
  exact⟨.ref h'.objs.size,_,I2,rfl,q _ (I1.ak.fresh (Zae _))⟩
 ·obtain⟨aa,r',pl,hz⟩:=I.tuple hq
  exact call_tuple_same pl ⟨.ref p,H,I,rfl,q⟩
def xQ (K:ZhQ) (T:String) (x:V) (H:Hp):Prop:=match x with
 | .str _=>T= "str"
 | .int _=>T= "int"
 | .ref p=> (T= "list" /\∃xs,ai K H p xs)∨(T= "tuple" /\((∃o,K.lookup p=some o/\o.cls=.type "tuple" /\o.dict=none)∨∃xs,H p=some (.tup xs)))∨
   (T= "dict" /\((∃af,H p=some (.dK af))∨∃af,H p=some (.dT af)))∨(T= "set" /\∃S n,H p=some (.set S n))
 |_=>False
theorem Hj {pins:List (Addr×Obj)}{σ:St}{H:Hp}{s:Shared}{T:String}{x:V}{v:Value}(I:Inv X pins σ H s) (r:RelV x v) (ty:xQ X.K T x H):
  s.TypeIs v T/\∀a,v=.ref a->∃ob,s.heap.get? a=some ob/\ob.dict=none:=by
 cases x with
 |str z=>
  obtain⟨t,rfl⟩:=r
  cases (show T= "str" from ty)
  exact⟨typeIs_str s z t,fun _ e=>nomatch e⟩
 |int i=>
  obtain⟨t,rfl⟩:=r
  cases (show T= "int" from ty)
  exact⟨PySem.typeIs_int s i t,fun _ e=>nomatch e⟩
 |ref p=>
  cases r
  rcases ty with ⟨rfl,xs,hq⟩ |⟨rfl,⟨o,hk,hc,hd⟩ |⟨xs,hx⟩⟩ |⟨rfl,hk⟩ |⟨rfl,S,n,hk⟩
  ·obtain⟨aa,_,pl,_⟩:=I.list hq
   refine⟨pl.isList.typeIs,fun a e=> ?_⟩
   cases e
   obtain⟨o,n,e,c,hd,_⟩:=pl
   exact⟨o,e,hd⟩
  ·refine⟨⟨o,I.bX p o hk,hc⟩,fun a e=> ?_⟩
   cases e
   exact⟨o,I.bX _ o hk,hd⟩
  ·obtain⟨_,_,_,⟨o,e,c,_⟩,o2,e2,hd⟩:=(show bu X.prog X.w H s.heap p (.tup xs) from I.ak p _ hx)
   refine⟨⟨o,e,c⟩,fun a e3=> ?_⟩
   cases e3
   exact⟨o2,e2,hd⟩
  ·have z:∃o,s.heap.get? p=some o/\o.ExactDict:=by
    rcases hk with ⟨af,hk⟩ |⟨af,hk⟩
    ·obtain⟨_,_,_,_,o,_,_,e,ex,_⟩:=I.ak p _ hk
     exact⟨o,e,ex⟩
    ·obtain⟨_,_,_,_,o,_,_,e,ex,_⟩:=I.ak p _ hk
     exact⟨o,e,ex⟩
   obtain⟨o,e,ex⟩:=z
   refine⟨⟨o,e,ex.1⟩,fun a e2=> ?_⟩
   cases e2
   exact⟨o,e,ex.2.1⟩
  ·obtain⟨o,_,_,_,e,ex,_⟩:=I.ak p _ hk
   refine⟨⟨o,e,ex.1⟩,fun a e2=> ?_⟩
   cases e2
   exact⟨o,e,ex.2.1⟩
 |_=>exact False.elim ty
def LH (K:ZhQ) (T:String) (r:V->List V->Hp->VK->Prop) (to:TE):TE:=fun σ H Q=>to σ H fun x H1=>xQ K T x H1/\r x [] H1 Q
def LJ (K:ZhQ) (T:String) (r:V->List V->Hp->VK->Prop) (to:TE) (t:TA):TE:=fun σ H Q=>to σ H fun x H1=>xQ K T x H1/\t σ H1 fun xs H2=>r x xs H2 Q
variable {o e:Expr}{es:List Expr}{to:TE}{t:TA}{name:Str}{apos bU:Pos}{T id:String}{r:V->List V->Hp->VK->Prop}
theorem VQ (pa:PlainAttrs T) (slot:Slot T name id) (Ab:typeOf (.builtin id)=pure (.type "method_descriptor")) (hm:xw X id r) (ho:PE X o to)
  (AU:attributeBase o name X.env (eval o X.env)=eval o X.env:=by rfl) (Au:(apos.endLine==bU.line)=true:=by rfl):PE X (.Call (.Attribute o name apos) [] [] bU) (LH X.K T r to):=by
 intro pins s σ H Q I h
 refine wpAny_Call_method0_late AU Au (ar (ho pins s σ H _ I h) fun v s1 ⟨x,H1,I1,r1,ty,q1⟩=> ?_)
 obtain⟨h1,h2⟩:=Hj I1 r1 ty
 exact⟨T,id,pa,slot,Ab,h1,h2,PySem.Calls.callWith_builtin rfl (PySem.evalArgs_none (hm pins s1 σ H1 x [] v [] Q I1 r1 .nil q1))⟩
theorem Yq (pa:PlainAttrs T) (slot:Slot T name id) (Ab:typeOf (.builtin id)=pure (.type "method_descriptor")) (hm:xw X id r) (ho:PE X o to) (ha:PA X (e::es) t)
    (AU:attributeBase o name X.env (eval o X.env)=eval o X.env:=by rfl)
    (Qr:((backTo bU (starEach (e::es) X.env)).all (fun x=> !x.1)&&(backToKw bU (keywordEach [] X.env)).all (fun x=>x.1.isSome)
      &&decide ((e::es).length+([]:List Keyword).length+(if ([]:List Keyword).isEmpty then 0 else 1)<30))=true:=by rfl)
    (Au:(apos.endLine==bU.line)=true:=by rfl) (hs:starEach (e::es) X.env=(false,eval e X.env)::starEach es X.env:=by rfl) (PJ:(backTo bU (starEach es X.env)).any (·.1)=false:=by rfl):
    PE X (.Call (.Attribute o name apos) (e::es) [] bU) (LJ X.K T r to t):=by
  intro pins s σ H Q I h
  refine wpAny_Call_method_late AU Qr Au rfl (ar (ho pins s σ H _ I h) fun v s1 ⟨x,H1,I1,r1,ty,q1⟩=> ?_)
  obtain⟨h1,h2⟩:=Hj I1 r1 ty
  refine⟨T,id,pa,slot,Ab,h1,h2,?_⟩
  have hA:=ha bU pins s1 σ H1 _ I1 q1
  rw[hs]at hA |-
  refine PySem.Calls.callWith_builtin (by show(false||(backTo bU (starEach es X.env)).any (·.1))=false;rw[PJ]<;>rfl) (PySem.Calls.evalArgs_plain ?_)
  exact ar hA fun us s2 ⟨vs,H2,I2,r2,q2⟩=>hm pins s2 σ H2 x vs v us Q I2 r1 r2 q2
end
def xx (X:Cx) (id:String) (r:V->List V->Hp->VK->Prop):Prop:=
 ∀(pins:List (Addr×Obj)) (s:Shared) (σ:St) (H:Hp) (x:V) (xs:List V) (v:Value) (us:List Value) (Q:VK),Inv X pins σ H s->RelV x v->Vals xs us->r x xs H Q->
  wpAny (model X.prog X.w) X.A (call (.builtin id) (v::us)) (EP X pins σ Q) X.xe s
theorem Vals.one:∀{x:V}{us:List Value},Vals [x] us->∃u,us=[u]/\RelV x u
 |_,_,.cons r .nil=> ⟨_,rfl,r⟩
theorem Vals.zero:∀{us:List Value},Vals [] us->us=[]
 |_,.nil=>rfl
theorem Vals.eraseIdx:∀{xs:List V}{us:List Value}(i:Nat),Vals xs us->Vals (xs.eraseIdx i) (us.eraseIdx i)
 |_,_,_,.nil=> .nil
 |_,_,0,.cons _ t=>t
 |_,_,i+1,.cons r t=> .cons r (Vals.eraseIdx i t)
theorem Vals.reverse {xs:List V}{us:List Value}(h:Vals xs us):Vals xs.reverse us.reverse:=by
 induction h with
 |nil=>exact .nil
 |cons r t ih=>rw[List.reverse_cons,List.reverse_cons];exact Vals.append ih (.cons r .nil)
theorem Vals.rep {xs:List V}{us:List Value}(h:Vals xs us):∀k:Nat,Vals (List.replicate k xs).flatten (List.replicate k us).flatten
 |0=> .nil
 |k+1=>by
  rw[Zdf,Zdf,List.flatten_cons,List.flatten_cons]
  exact Vals.append h (Vals.rep h k)
theorem UE {α:Type} :∀(l:List α) (i:Nat),(l.eraseIdx i).length<=l.length
 | [],_=>Zae _
 |_::_,0=>Nat.le_succ _
 |_::r,i+1=>Nat.succ_le_succ (UE r i)
theorem Wa (aa:List Value):∀(k:Nat) (acc:List Value),
  List.foldl (fun x1 x2=>x1++x2) acc.toArray (List.replicate k aa.toArray)=(acc++(List.replicate k aa).flatten).toArray
 |0,acc=>by simp
 |k+1,acc=>by
  have e:acc.toArray++aa.toArray=(acc++aa).toArray:=by simp
  have e2:(acc++aa)++(List.replicate k aa).flatten=acc++(List.replicate (k+1) aa).flatten:=by
   rw[Zdf,List.flatten_cons,Za3]
  rw[<-e2,<-Wa aa k (acc++aa),<-e,Zdf,Ze3]
section
variable {X:Cx}{pins:List (Addr×Obj)}{σ:St}{H:Hp}{s:Shared}{l b:Addr}{xs ys zs:List V}
theorem Inv.vI {aa its':List Value}{n:Nat}{f:Array Value->Array Value}{t':Nat}(I:Inv X pins σ H s) (hH:H l=some (.lst xs))
  (e:s.heap.get? l=some {cls:=.type "list",data:=.seq aa.toArray n}) (hf:f aa.toArray=its'.toArray) (hv:Vals ys its') (hz:ys.length<=sizeLine):
  Inv X pins σ (upd H l (.lst ys)) {s with heap:=s.heap.update l (Obj.mapSeq f),toks:=t'} :=by
 have q:=PySem.IsL.update e f
 rw[hf]at q
 refine I.write (x:=l) (e:=l) (by rw[hH];exact trivial) (.inl rfl) (fun b' u hb hu=> (ZbP s.heap (Obj.mapSeq f) (ZdS hb)).trans hu) ⟨_,q⟩ ?_
 exact⟨hz,its',_,hv,q⟩
theorem Inv.DV {aa:List Value}{t':Nat}(I:Inv X pins σ H s) (hv:Vals ys aa) (hz:ys.length<=sizeLine):
  Inv X pins σ (upd H s.heap.objs.size (.lst ys)) {s with heap:=s.heap.push {cls:=.type "list",data:=.seq aa.toArray},toks:=t'} :=
 I.laid (fun _ _ q=>Zab _ q) (Zae _) ⟨hz,aa,0,hv,Zat _ rfl⟩
theorem Inv.fresh (I:Inv X pins σ H s):H s.heap.objs.size=none:=I.ak.fresh (Zae _)
theorem Inv.kZ (I:Inv X pins σ H s) (hH:H l=some (.lst xs)):xs.length<=sizeLine/\∃(aa:List Value) (n:Nat),Vals xs aa/\xs.length=aa.length/\s.heap.get? l=some {cls:=.type "list",data:=.seq aa.toArray n} :=by
 obtain⟨z,aa,n,r,e⟩:=I.ak l _ hH
 exact⟨z,aa,n,r,r.length,e⟩
theorem DC {n:Nat}(h:n<=sizeLine):Builtin.List.listTooLong n=false:=by
 unfold Builtin.List.listTooLong
 exact ZaA .o
end
section
variable {X:Cx}
def MR:V->List V->Hp->VK->Prop:=fun x vs H Q=> ∃l xs y,x=.ref l/\vs=[y]/\H l=some (.lst xs)/\xs.length<sizeLine/\Q .ah (upd H l (.lst (xs++[y])))
theorem ZW:xx X "list.append" MR:=by
 intro pins s σ H x vs v us Q I rx rv h
 obtain⟨l,xs,y,rfl,rfl,hH,hz,q⟩:=h
 cases rx
 obtain⟨u,rfl,ru⟩:=rv.one
 obtain⟨z,aa,n,r,hl,e⟩:=I.kZ hH
 refine Zep F.slot_list_append ⟨_,e,rfl⟩ F.entry_list_append (F.args_list_append_2 _ _) (PySem.list_append l aa.toArray n u (by rw[Zaj];omega)) ⟨e,?_⟩
 refine⟨.ah,_,I.vI (its':=aa++[u]) hH e (by simp) (r.append (.cons ru .nil)) ?_,rfl,q⟩
 rw[Zap,Zdw]
 omega
def MK:V->List V->Hp->VK->Prop:=fun x vs H Q=> ∃l b xs zs,x=.ref l/\vs=[.ref b]/\H l=some (.lst xs)/\H b=some (.lst zs)/\xs.length+zs.length<=sizeLine/\Q .ah (upd H l (.lst (xs++zs)))
theorem ZcO:xx X "list.extend" MK:=by
 intro pins s σ H x vs v us Q I rx rv h
 obtain⟨l,b,xs,zs,rfl,rfl,hH,hB,hz,q⟩:=h
 cases rx
 obtain⟨u,rfl,ru⟩:=rv.one
 cases ru
 obtain⟨z,aa,n,r,hl,e⟩:=I.kZ hH
 obtain⟨z2,hV,n2,r2,gF,e2⟩:=I.kZ hB
 have hsz:aa.toArray.size+hV.toArray.size<=sizeLine:=by rw[Zaj,Zaj];omega
 have Ar:¬(!aa.toArray.isEmpty&&Builtin.List.listTooLong (aa.toArray.size+hV.toArray.size))=true:=by
  rw[DC hsz,ZeA]
  exact Zaw
 refine Zep F.slot_list_extend ⟨_,e,rfl⟩ F.entry_list_extend (F.args_list_extend_2 _ _)
  (AutoSeq1.list_extend_list_list_0 l aa.toArray n b hV.toArray n2 Ar (by rw[Zaj];omega) .o) ⟨e,e2,?_⟩
 refine⟨.ah,_,I.vI (its':=aa++hV) hH e (by simp) (r.append r2) ?_,rfl,q⟩
 rw[Zap]
 omega
def MF:V->List V->Hp->VK->Prop:=fun x vs H Q=> ∃l xs i k y,x=.ref l/\vs=[.int i]/\H l=some (.lst xs)/\ -(2^63)<=i/\i<2^63/\seqIndex? i xs.length=some k/\xs[k]? =some y/\Q y (upd H l (.lst (xs.eraseIdx k)))
theorem ZdW:xx X "list.pop" MF:=by
 intro pins s σ H x vs v us Q I rx rv h
 obtain⟨l,xs,i,k,y,rfl,rfl,hH,h1,h2,hk,hy,q⟩:=h
 cases rx
 obtain⟨u,rfl,ru⟩:=rv.one
 obtain⟨t,rfl⟩:=ru
 obtain⟨z,aa,n,r,hl,e⟩:=I.kZ hH
 obtain⟨w,hw,iH⟩:=r.get hy
 refine Zep F.slot_list_pop ⟨_,e,rfl⟩ F.entry_list_pop (F.args_list_pop_2 _ _)
  (MeetsSeq.list_pop_at l aa.toArray n i t k w (fitsIndex_both h1 h2) (by rw[Zaj,<-hl];exact hk) (by rw[<-ZaP];exact hw) (by rw[Zaj];omega)) ⟨e,?_⟩
 refine⟨y,_,I.vI (its':=aa.eraseIdx k) hH e ?_ (r.eraseIdx k) ?_,iH,q⟩
 ·show aa.toArray.eraseIdxIfInBounds k=(aa.eraseIdx k).toArray
  rw[List.eraseIdxIfInBounds_toArray]
 ·have:=UE xs k
  omega
def MC:V->List V->Hp->VK->Prop:=fun x vs H Q=> ∃l xs,x=.ref l/\vs=[]/\H l=some (.lst xs)/\Q .ah (upd H l (.lst xs.reverse))
theorem Zbh:xx X "list.reverse" MC:=by
 intro pins s σ H x vs v us Q I rx rv h
 obtain⟨l,xs,rfl,rfl,hH,q⟩:=h
 cases rx
 have O5:=rv.zero
 subst O5
 obtain⟨z,aa,n,r,hl,e⟩:=I.kZ hH
 refine Zep F.slot_list_reverse ⟨_,e,rfl⟩ F.entry_list_reverse (F.args_list_reverse_1 _) (AutoSeq1.list_reverse_list_0 l aa.toArray n (by rw[Zaj];omega)) ⟨e,?_⟩
 refine⟨.ah,_,I.vI (its':=aa.reverse) hH e (by simp) r.reverse ?_,rfl,q⟩
 rw[List.length_reverse]
 omega
def MQ:R2:=fun x y H Q=> ∃l b xs zs,x=.ref l/\y=.ref b/\H l=some (.lst xs)/\H b=some (.lst zs)/\xs.length+zs.length<=sizeLine/\∀p,H p=none->Q (.ref p) (upd H p (.lst (xs++zs)))
theorem YZ:bg X (binaryOp .Add) MQ:=by
 intro pins s σ H x y v u Q I rx ry h
 obtain⟨l,b,xs,zs,rfl,rfl,hH,hB,hz,q⟩:=h
 cases rx
 cases ry
 obtain⟨z,aa,n,r,hl,e⟩:=I.kZ hH
 obtain⟨z2,hV,n2,r2,gF,e2⟩:=I.kZ hB
 refine PySem.P.add_list e e2 ?_ (by rw[Zaj,Zaj];omega)
 have ea:aa.toArray++hV.toArray=(aa++hV).toArray:=by simp
 rw[ea]
 exact⟨.ref _,_,I.DV (t':=s.toks) (r.append r2) (by rw[Zap];omega),rfl,q _ I.fresh⟩
def ME:R2:=fun x y H Q=> ∃l k xs,x=.ref l/\y=.int k/\H l=some (.lst xs)/\ -(2^63)<=k/\k<2^63/\xs.length*k.toNat<=sizeLine/\
 ∀p,H p=none->Q (.ref p) (upd H p (.lst (List.replicate k.toNat xs).flatten))
theorem BQ {α:Type}(xs:List α) (k:Nat):(List.replicate k xs).flatten.length=k*xs.length:=by
 induction k with
 |zero=>simp
 |succ k ih=>rw[Zdf,List.flatten_cons,Zap,ih,Nat.succ_mul,Nat.add_comm]
theorem Hs:bg X (binaryOp .Mult) ME:=by
  intro pins s σ H x y v u Q I rx ry h
  obtain⟨l,k,xs,rfl,rfl,hH,h1,h2,hz,q⟩:=h
  cases rx
  obtain⟨t,rfl⟩:=ry
  obtain⟨z,aa,n,r,hl,e⟩:=I.kZ hH
  have hlen:aa.toArray.size*k.toNat<=sizeLine:=by rw[Zaj,<-hl];exact hz
  have QF:¬aa.toArray.size*k.toNat> (2^63 - 1)/8:=by
    have:(sizeLine:Nat)<=(2^63 - 1)/8:=.d
    omega
  have lP:¬(!Builtin.List.listFitsIndex k)=true:=by
    rw[fitsIndex_both h1 h2]
    exact Zaw
  have Ar:¬Builtin.List.listTooLong (aa.toArray.size*k.toNat)=true:=by
    rw[DC hlen]
    exact Zaw
  have pN:List.foldl (fun x1 x2=>x1++x2) #[] (List.replicate (if aa.toArray.isEmpty=true then 0 else k.toNat) aa.toArray)=(List.replicate k.toNat aa).flatten.toArray:=by
    have f0:∀m:Nat,List.foldl (fun x1 x2=>x1++x2) #[] (List.replicate m aa.toArray)=(List.replicate m aa).flatten.toArray:=fun m=>by
      have:=Wa aa m []
      rw[Zdx]at this
      exact this
    rw[f0]
    cases aa with
    |nil=>simp
    |cons a r'=>rw[ZaK (by simp)]
  refine PySem.wpAny_binaryOp_repeat_ref (T:= "list") (U:= "int") .d ⟨_,e,rfl⟩ (fun s'=>PySem.typeIs_int s' k t) noFill_list_mul F.fills_int_mul F.slot_int_rmul repeat_list F.slot_int_index.lookup
    (Zep F.slot_int_rmul (PySem.typeIs_int s k t) F.entry_int_rmul (F.args_int_rmul_2 _ _) (int___rmul___int_list k t l aa.toArray n)
      ⟨e,rfl,⟨_,e,rfl⟩,Zep F.slot_list_mul ⟨_,e,rfl⟩ F.entry_list_mul (F.args_list_mul_2 _ _) (AutoListH.list___mul___list_int_3 l aa.toArray n k t lP QF Ar) ⟨e,?_⟩⟩)
  rw[pN]
  exact⟨.ref _,_,I.DV (t':=s.toks) (r.rep k.toNat) (by rw[BQ,Nat.mul_comm];exact hz),rfl,q _ I.fresh⟩
end
end L2
namespace KJ
open PySem PySem.W PySem.Calls PyProof.Rows
theorem Wn {P:Params}{h:Heap} :∀(ns:List Int) (vs:List Value),WellAll P h vs (ns.map WData.int)->IntsAre vs ns:=by
 intro ns
 induction ns with
 |nil=>
  intro vs w
  rw[List.map_nil]at w
  cases w
  exact .nil
 |cons n ns ih=>
  intro vs w
  rw[ZbJ]at w
  cases w with
  |cons a b=>
   cases a
   exact .cons _ _ (ih _ b)
theorem Zcx {l:OpenLaw}{n:Nat}(hn:l.most=some n) {P:Params}{h:Heap}{args:List WData}{vals:List Value}
  (wb:l.row.toRowW.claim.pre args=true) (z4:WellAll P h vals args):
  ∃a vs ns,vals=[Value.ref a]/\args=[WData.list (ns.map WData.int)]/\h.get? a=some {cls:=.type "list",data:=.seq vs.toArray}/\IntsAre vs ns/\ns.length<=n:=by
 have Pp:WShape.hasAll [] args [.list .int]=true:=(pre_splitW wb).1
 have hc:l.pre.holds [] {args:=args} =true:=(pre_splitW wb).2
 obtain⟨d,r,rfl,h1,h2⟩:=hasAllW_cons Pp
 obtain rfl:=hasAllW_nil h2
 obtain⟨xs,rfl,h3⟩:=hasW_list h1
 obtain⟨ns,rfl⟩:=items_int h3
 have hlen:ns.length<=n:=by
  unfold OpenLaw.pre at hc
  have h4:(WTm.not (.lt (.lit (.int (n:Int))) (.len (.arg 0)))).holds [] {args:=[.list (ns.map .int)]} =true:=by
   have h4:=(holds_andW hc).1
   rw[hn]at h4
   exact h4
  have h5:=condW_of h4 (w_not (w_lt w_lit (w_len_list (w_arg rfl))))
  rw[Zar]at h5
  refine Nat.le_of_not_lt fun q=> ?_
  have q':(n:Int)< ((ns.length:Nat):Int):=.o
  first
   |(rw[ZaR q']at h5;exact absurd h5 .d)
   |(simp at h5;omega)
 cases z4 with
 |cons w1 w2=>
  cases w2
  cases w1 with
  |list ho da=>exact⟨_,_,ns,rfl,rfl,ho,Wn ns _ da,hlen⟩
theorem ZcB (l:OpenLaw) (args:List WData):l.row.toRowW.claim.post args (.bool true) args=true:=
 postW_of (r:=l.row.toRowW) (X:=(true==true))
  (show WShape.has [] (.bool true) .bool=true by first |rfl |decide |simp[WShape.has,WShape.arms,WShape.armsAll])
  (show(WTm.eq .res (.lit (.bool true))).value [] {args:=args,res:=some (.bool true),after:=args} =some (.bool (true==true)) from w_eq_bool (w_res rfl) w_lit) rfl
theorem TB {l:OpenLaw}{n:Nat}{q:Program}{loose:List Str}{XP:(Str->Option Value)->Heap->Prop}{YP:World->Heap->Prop}{d:DefRec}
    (hn:l.most=some n) (AL:d.params.defaults=[])
    (call:∀(w:World) (cf aI:Shared) (mg mb:Str->Option Value) (fa:Addr) (o:Obj) (pm cd doc:Value) (a:Addr) (vs:List Value) (ns:List Int),
      Ground q loose [] XP w cf mg mb aI.heap->YP w aI.heap->
      aI.heap.get? fa=some o->o.data=.func (docDef d.name d.params d.body d.scope pm cd doc)->aI.heap.CodeRec cd d.name->mg d.name=some (.ref fa)->
      aI.heap.get? a=some {cls:=.type "list",data:=.seq vs.toArray}->IntsAre vs ns->ns.length<=n->aI.gens= #[]->
      codeAny (model l.prog w) callerA (.call (.ref fa) ⟨[.ref a],[]⟩) (fun r s'=>r=.ok (.ret (.bool true))/\OldK aI.heap s'.heap/\s'.os=aI.os/\AllBare s'.gens) aI):
    WalkO q loose XP YP l.row.toRowW d [] (fun f vs=>PySem.call f vs):=by
  intro w cf aI mg mb G Y fa o pm cd doc dV kV ho hd cH hD hmg hg args vals as wb aaE hrd z4 As
  obtain rfl:dV=.none:=Dflts.none hD AL
  obtain rfl:kV=.none:=Dflts.noKw hD
  obtain⟨a,vs,ns,rfl,rfl,An,hints,hlen⟩:=Zcx hn wb z4
  refine enter_call (Zec (call w cf aI mg mb fa o pm cd doc a vs ns G Y ho (fd_plain hd) cH hmg An hints hlen hg) fun r s' hq=> ?_)
  obtain⟨rfl,h2,h3,h4⟩:=hq
  exact⟨.inl ⟨.bool true,.bool true,[],rfl,fun _=>rfl,.bool true,ZcB l _,fun _=> ⟨List.Pairwise.nil,fun _ hm=> (nomatch hm)⟩⟩,h2,h3,h4⟩
end KJ
namespace L2
open PySem PySem.Spec PyProof.Rows
theorem Up:∀{vs:List Value}{ns:List Int},IntsAre vs ns->Vals (ns.map V.int) vs
 |_,_,.nil=> .nil
 |_,_,.cons n t h=> .cons ⟨t,rfl⟩ (Up h)
def fo (s:Stmt):Arguments:=match s with
 | .FunctionDef _ a _ _ _ _ _ _ _ _=>a
 |_=> {posonlyargs:=[],args:=[],vararg:=none,kwonlyargs:=[],kw_defaults:=[],kwarg:=none,defaults:=[]}
def cX (s:Stmt):List Stmt:=match s with
 | .FunctionDef _ _ b _ _ _ _ _ _ _=>b
 |_=> []
def ay (s:Stmt):Scope:=match s with
 | .FunctionDef _ _ _ _ _ _ sc _ _ _=>sc
 |_=> {kind:=.function,names:=[],isGenerator:=false,isCoroutine:=false}
abbrev aE:jJ:=fun _ _ _ _ _ _=>False
abbrev E0:XK:=fun _ _ _=>False
theorem Na {X:Cx} :Passes aE X E0:=fun _ _ _ _ _ _ _ h=>h.elim
structure aG (K:ZhQ) (x qual:Str) (st:Stmt) (f:Addr) (fd:FuncData):Prop where
 ex:∃(oc:Value) (od:Option Addr) (kV doc pm:Value) (an:Option Addr) (aq ct:Value) (eO:Array (Option Value)),
  fd=PySem.W.fnOf x qual (fo st) (cX st) (ay st) .none kV doc pm an aq ct/\K.lookup f=some ⟨oc,od,.func fd,eO⟩/\PySem.W.codeIn K aq qual=true
 kp:PySem.W.keepIn K (.ref f)=true
section
variable {P:Program}{w:World}{K:ZhQ}{mg:Str->Option Value}{base:Heap}
theorem aG.ok {x qual:Str}{st:Stmt}{f:Addr}{fd:FuncData}{N ps:List Str}{k:Nat}{sp:Sp}(F:aG K x qual st f fd) (S:aZ N ps (ay st)) (len:∀vs H Q E,sp vs H Q E->vs.length=ps.length)
    (AR:∀(aq:Value) (A:Around) (outer:List Env) (s:Shared) (H:Hp) (vs:List V) (Q:VK) (E:XK),bK k (A.deeper (envOfC qual (ay st) s.heap.objs.size f aq))->sp vs H Q E->
      ∃t,fc (aF aE P w K mg base N qual (ay st) f aq A outer s H E).cG (cX st) t/\t {nx:=fun _ H'=>Q .ah H',rt:=Q} (start N vs) H):aA P w K mg base aE (k+1) f fd ps sp:=by
  obtain⟨oc,od,kV,doc,pm,an,aq,ct,eO,rfl,lk,cH⟩:=F.ex
  refine xh lk cH S len fun A outer s H vs Q E hr dG=> ?_
  obtain⟨t,h,q⟩:=AR aq A outer s H vs Q E hr dG
  exact⟨t,h.cG,q⟩
theorem aG.binds {x qual:Str}{st:Stmt}{f:Addr}{fd:FuncData}{ps:List Str}(F:aG K x qual st f fd)
  (h:∀(kV doc pm:Value) (an:Option Addr) (aq ct:Value) (us:List Value),us.length=ps.length->bindArgs (PySem.W.fnOf x qual (fo st) (cX st) (ay st) .none kV doc pm an aq ct) ⟨us,[]⟩=pure (ps.zip us)):Binds K fd ps []:=by
 obtain⟨oc,od,kV,doc,pm,an,aq,ct,eO,rfl,lk,cH⟩:=F.ex
 exact .all (h kV doc pm an aq ct)
theorem G0 {x qual:Str}{st:Stmt}{f:Addr}{oc:Value}{od an:Option Addr}{eO:Array (Option Value)}{kV doc pm aq ct:Value}(l:K.lookup f=some ⟨oc,od,.func (PySem.W.fnOf x qual (fo st) (cX st) (ay st) .none kV doc pm an aq ct),eO⟩)
  (c:PySem.W.codeIn K aq qual=true) (k:PySem.W.keepIn K (.ref f)=true):aG K x qual st f (PySem.W.fnOf x qual (fo st) (cX st) (ay st) .none kV doc pm an aq ct):=⟨⟨oc,od,kV,doc,pm,an,aq,ct,eO,rfl,l,c⟩,k⟩
end
theorem xn {A:Around}{k:Nat}(hr:bK k A):A.units+1<cLine:=Zet (Nat.add_le_add_left (by decide:1<=64) _) hr.units
theorem CT {n:Nat}(h:n<=1000):n<sizeLine:=Zet h .d
section
variable {X:Cx}
theorem pv (i:Nat) {x:Str}{pos:Pos}(hN:X.N[i]? =some x:=by rfl) (hv:tK X.env.scope x:=by first |exact Or.inl rfl |exact Or.inr (Or.inl rfl) |exact Or.inr (Or.inr rfl)) (hd:(x==("__debug__" :Str))=false:=by decide)
  (cH:(x==("__classdict__" :Str))=false:=by decide):PE X (.Name x pos) (jN i):=Yh hN hv hd cH
end
theorem aO {A B:Prop}(h:B):if false=true then A else B:=by
 rw[ZaK Zaw]
 exact h
theorem aV {A B:Prop}(h:A):if true=true then A else B:=by
 rw[ZaY rfl]
 exact h
def ag (H H':Hp):Prop:=∀b o,H b=some o->H' b=some o
theorem ag.refl (H:Hp):ag H H:=fun _ _ h=>h
theorem ag.trans {H H1 H2:Hp}(a:ag H H1) (b:ag H1 H2):ag H H2:=fun c o h=>b c o (a c o h)
theorem ag.free {H H':Hp}(e:ag H H') {l:Addr}(h:H' l=Option.none):H l=Option.none:=by
 cases q:H l with
 |none=>rfl
 |some o=>
  rw[e l o q]at h
  cases h
section
variable {κ:Type} [DecidableEq κ]
def cQ (af:List (κ×V)) (k:κ):Option V:=(af.find? fun kv=>decide (kv.1=k)).map (·.2)
def putK (af:List (κ×V)) (k:κ) (v:V):List (κ×V):=
 if (af.any fun kv=>decide (kv.1=k))=true then af.map (fun kv=>if kv.1=k then (kv.1,v) else kv) else af++[(k,v)]
theorem Z6 {p:κ×V}{r:List (κ×V)}{k:κ}(e:p.1=k):cQ (p::r) k=some p.2:=by simp[cQ,ZeC,e]
theorem Z8 {p:κ×V}{r:List (κ×V)}{k:κ}(e:¬p.1=k):cQ (p::r) k=cQ r k:=by simp[cQ,ZeC,e]
theorem JD (k:κ):∀af:List (κ×V),(af.any fun kv=>decide (kv.1=k))=(cQ af k).isSome
 | []=>rfl
 |p::r=>by
  rw[List.any_cons]
  by_cases e:p.1=k
  ·simp only[Z6 e,ZaR e,Bool.true_or,Option.isSome_some]
  ·rw[Z8 e,ZaA e,Bool.false_or];exact JD k r
theorem IM (k j:κ) (y:V):∀af:List (κ×V),cQ (af.map fun kv=>if kv.1=k then (kv.1,y) else kv) j=(cQ af j).map fun x=>if j=k then y else x
 | []=>rfl
 |p::r=>by
  have ih:=IM k j y r
  rw[ZbJ]
  by_cases h:p.1=k
  ·rw[ZaY h]
   by_cases e:p.1=j
   ·rw[Z6 (p:=(p.1,y)) e,Z6 e,Ze4,ZaY (e.symm.trans h)]
   ·rw[Z8 (p:=(p.1,y)) e,Z8 e,ih]
  ·rw[ZaK h]
   by_cases e:p.1=j
   ·rw[Z6 (p:=p) e,Z6 e,Ze4,ZaK (fun z=>h (e.trans z))]
   ·rw[Z8 (p:=p) e,Z8 e,ih]
theorem Uq (k j:κ) (y:V):∀af:List (κ×V),cQ af k=none->cQ (af++[(k,y)]) j=if j=k then some y else cQ af j
 | [],_=>by
  by_cases e:k=j
  ·rw[ZaY e.symm];exact Z6 (p:=(k,y)) e
  ·rw[ZaK (fun z=>e z.symm)];exact Z8 (p:=(k,y)) e
 |p::r,hn=>by
  rw[List.cons_append]
  have hk:¬p.1=k:=fun z=>by rw[Z6 z]at hn;cases hn
  rw[Z8 hk]at hn
  have ih:=Uq k j y r hn
  by_cases e:p.1=j
  ·rw[Z6 e,Z6 e,ZaK (fun z=>hk (e.trans z))]
  ·rw[Z8 e,Z8 e,ih]
theorem X8 (af:List (κ×V)) (k j:κ) (y:V):cQ (putK af k y) j=if j=k then some y else cQ af j:=by
 unfold putK
 by_cases a:(af.any fun kv=>decide (kv.1=k))=true
 ·rw[ZaY a,IM]
  rw[JD]at a
  by_cases e:j=k
  ·obtain⟨x,hx⟩:=Zdy.mp a
   rw[ZaY e,e,hx,Ze4,ZaY rfl]
  ·rw[ZaK e]
   cases cQ af j with
   |none=>rfl
   |some x=>rw[Ze4,ZaK e]
 ·rw[ZaK a]
  refine Uq k j y af ?_
  rw[JD]at a
  cases q:cQ af k with
  |none=>rfl
  |some x=>rw[q]at a;exact(a rfl).elim
theorem YF (af:List (κ×V)) (k:κ) (v:V):(putK af k v).length<=af.length+1:=by
 unfold putK
 split
 ·rw[Zar];omega
 ·rw[Zap,Zbz,Zdv];omega
theorem kE.OJ {o:Option V}{u:Option Value}(r:kE o u):o.isSome=u.isSome:=by
 cases o with
 |none=>cases u with
  |none=>rfl
  |some _=>exact(show False from r).elim
 |some _=>cases u with
  |none=>exact(show False from r).elim
  |some _=>rfl
theorem kE.getD {o:Option V}{u:Option Value}{d:V}{d':Value}(r:kE o u) (rd:RelV d d'):RelV (o.getD d) (u.getD d'):=by
 cases o with
 |none=>cases u with
  |none=>exact rd
  |some _=>exact(show False from r).elim
 |some _=>cases u with
  |none=>exact(show False from r).elim
  |some _=>exact r
theorem KV.val {af:List (κ×V)}{vs:List (κ×Value)}(r:KV af vs) (k:κ):kE (cQ af k) (valueAt vs k):=by
 unfold KV at r
 induction r with
 |nil=>exact True.intro
 | @cons p q ps qs h t ih=>
  obtain⟨h1,h2⟩:=h
  by_cases e:p.1=k
  ·have e':q.1=k:=h1.symm.trans e
   have b:valueAt (q::qs) k=some q.2:=by simp[valueAt,ZeC,e']
   rw[Z6 e,b];exact h2
  ·have e':¬q.1=k:=fun z=>e (h1.trans z)
   have b:valueAt (q::qs) k=valueAt qs k:=by simp[valueAt,ZeC,e']
   rw[Z8 e,b];exact ih
theorem KV.any {af:List (κ×V)}{vs:List (κ×Value)}(r:KV af vs) (k:κ):(af.any fun kv=>decide (kv.1=k))=vs.any fun kv=>decide (kv.1=k):=by
 unfold KV at r
 induction r with
 |nil=>rfl
 |cons h t ih=>rw[List.any_cons,List.any_cons,ih,h.1]
theorem KV.zm {af:List (κ×V)}{vs:List (κ×Value)}(r:KV af vs) (k:κ) {y:V}{u:Value}(ry:RelV y u):
  KV (af.map fun kv=>if kv.1=k then (kv.1,y) else kv) (vs.map fun kv=>if kv.1=k then (kv.1,u) else kv):=by
 unfold KV at r |-
 induction r with
 |nil=>exact .nil
 | @cons p q ps qs h t ih=>
  rw[ZbJ,ZbJ]
  refine .cons ?_ ih
  obtain⟨h1,h2⟩:=h
  by_cases e:p.1=k
  ·rw[ZaY e,ZaY (h1.symm.trans e)];exact⟨h1,ry⟩
  ·rw[ZaK e,ZaK (fun z=>e (h1.trans z))];exact⟨h1,h2⟩
theorem KV.put {af:List (κ×V)}{vs:List (κ×Value)}(r:KV af vs) (k:κ) {y:V}{u:Value}(ry:RelV y u):KV (putK af k y) (stored vs k u):=by
 unfold putK stored
 rw[r.any k]
 by_cases e:(vs.any fun kv=>decide (kv.1=k))=true
 ·rw[ZaY e,ZaY e];exact r.zm k ry
 ·rw[ZaK e,ZaK e];exact Zfm r ⟨rfl,ry⟩
theorem KV.length {af:List (κ×V)}{vs:List (κ×Value)}(r:KV af vs):af.length=vs.length:=Zcf r
end
theorem xo {P:Program}{w:World}{k:Key}{u:Value}(r:RelV (kV k) u):(eR P w).is k u=true:=by
 cases k with
 |inl i=>obtain⟨t,e⟩:=(show ∃t,u=Value.int i t from r);subst e;exact ZaG P w i t
 |inr x=>obtain⟨t,e⟩:=(show ∃t,u=Value.str x t from r);subst e;exact ZaF P w x t
theorem UF {P:Program}{w:World} :∀{ks:List Key}{us:List Value},Vals (ks.map kV) us->ItemsAre (eR P w) ks us
 | [],_,r=>by rw[List.map_nil]at r;cases r;exact .nil
 |k::ks,_,r=>by
  rw[ZbJ]at r
  cases r with
  |cons h t=>exact .cons (xo h) (UF t)
abbrev KT (H:Hp):List (List Key×V)->List (List Key×Addr×Value)->Prop:=Paired fun p q=>p.1=q.1/\H q.2.1=some (.tup (p.1.map kV))/\RelV p.2 q.2.2
theorem KT.val {H:Hp}{af:List (List Key×V)}{xs:List (List Key×Addr×Value)}(r:KT H af xs) (k:List Key):kE (cQ af k) ((atKey xs k).map (·.2)):=by
 induction r with
 |nil=>exact True.intro
 | @cons p q ps qs h t ih=>
  obtain⟨h1,_,h2⟩:=h
  by_cases e:p.1=k
  ·have e':q.1=k:=h1.symm.trans e
   have b:atKey (q::qs) k=some q.2:=by simp[atKey,ZeC,e']
   rw[Z6 e,b];exact h2
  ·have e':¬q.1=k:=fun z=>e (h1.trans z)
   have b:atKey (q::qs) k=atKey qs k:=by simp[atKey,ZeC,e']
   rw[Z8 e,b];exact ih
theorem KT.zm {H:Hp}{af:List (List Key×V)}{xs:List (List Key×Addr×Value)}(r:KT H af xs) (k:List Key) {y:V}{u:Value}(ry:RelV y u):
  KT H (af.map fun kv=>if kv.1=k then (kv.1,y) else kv) (xs.map (putAt k u)):=by
 induction r with
 |nil=>exact .nil
 | @cons p q ps qs h t ih=>
  rw[ZbJ,ZbJ]
  refine .cons ?_ ih
  obtain⟨h1,h2,h3⟩:=h
  unfold putAt
  by_cases e:p.1=k
  ·rw[ZaY e,ZaY (h1.symm.trans e)];exact⟨h1,h2,ry⟩
  ·rw[ZaK e,ZaK (fun z=>e (h1.trans z))];exact⟨h1,h2,h3⟩
theorem KT.put {H:Hp}{af:List (List Key×V)}{xs:List (List Key×Addr×Value)}(r:KT H af xs) (k:List Key) {b:Addr}{y:V}{u:Value}(hb:H b=some (.tup (k.map kV))) (ry:RelV y u):
  KT H (putK af k y) (storedH xs k b u):=by
 have e:(af.any fun kv=>decide (kv.1=k))=(atKey xs k).isSome:=by
  rw[JD,(r.val k).OJ,Option.isSome_map]
 unfold putK storedH
 rw[e]
 by_cases q:(atKey xs k).isSome=true
 ·rw[ZaY q,ZaY q];exact r.zm k ry
 ·rw[ZaK q,ZaK q];exact Zfm r ⟨rfl,hb,ry⟩
theorem KT.keeps {H H':Hp}{af:List (List Key×V)}{xs:List (List Key×Addr×Value)}(r:KT H af xs) (ht:∀b ys,H b=some (.tup ys)->H' b=some (.tup ys)):KT H' af xs:=
 Paired.dq r fun _ _ z=> ⟨z.1,ht _ _ z.2.1,z.2.2⟩
section
variable {P:Program}{w:World}{H:Hp}{h:Heap}{a:Addr}
theorem GV {u:HO}(ok:bD P w H h) (e:Rd H a u):bu P w H h a u:=e.ok ok
theorem Bz {af:List (Key×V)}(ok:bD P w H h) (e:Rd H a (.dK af)):af.length<=sizeLine/\(a==sysModules)=false/\∃vs,KV af vs/\h.DictOf (eR P w) a vs:=
 show bu P w H h a (.dK af) from GV ok e
theorem TQ {af:List (Key×V)}(ok:bD P w H h) (e:H a=some (.dK af)):af.length<=sizeLine/\(a==sysModules)=false/\∃vs,KV af vs/\h.DictOf (eR P w) a vs:=Bz ok (.inl e)
theorem BJ {ks:List Key}(ok:bD P w H h) (e:H a=some (.tup (ks.map kV))):(tupleKind (eR P w)).is h ks a:=by
 obtain⟨_,aa,r,⟨o,h1,h2,n,h3⟩,_⟩:=(show bu P w H h a (.tup (ks.map kV)) from ok a _ e)
 exact⟨o,aa.toArray,n,h1,h2,h3,by simpa using UF r⟩
theorem BB {af:List (List Key×V)}(ok:bD P w H h) (e:Rd H a (.dT af)):af.length<=sizeLine/\(a==sysModules)=false/\
  ∃xs,KT H af xs/\h.DictOfH (tupleKind (eR P w)) a xs:=by
 obtain⟨z,y,xs,r,o,es,ep,h1,h2,h3,h4,h5⟩:=(show bu P w H h a (.dT af) from GV ok e)
 refine⟨z,y,xs,r,o,es,ep,h1,h2,h3,h4,fun x hx=> ?_,h5⟩
 have all:∀{l:List (List Key×V)}{m:List (List Key×Addr×Value)},KT H l m->∀x∈m,(tupleKind (eR P w)).is h x.1 x.2.1:=by
  intro l m q
  induction q with
  |nil=>intro x hx;exact nomatch hx
  | @cons p q ps qs hq t ih=>
   intro x hx
   rcases Zao.mp hx with e |hx
   ·subst e
    exact BJ ok (by rw[<-hq.1];exact hq.2.1)
   ·exact ih x hx
 exact all r x hx
theorem TR {af:List (List Key×V)}(ok:bD P w H h) (e:H a=some (.dT af)):af.length<=sizeLine/\(a==sysModules)=false/\
  ∃xs,KT H af xs/\h.DictOfH (tupleKind (eR P w)) a xs:=BB ok (.inl e)
end
def qr (H:Hp) (a:Addr) (y:V) (r:Option V):Prop:=
 (∃af k,Rd H a (.dK af)/\y=kV k/\r=cQ af k)∨∃af k b,Rd H a (.dT af)/\y=.ref b/\H b=some (.tup (k.map kV))/\r=cQ af k
def tX (H:Hp) (a:Addr) (y v:V) (H':Hp):Prop:=
 (∃af k,H a=some (.dK af)/\y=kV k/\af.length<sizeLine/\H'=upd H a (.dK (putK af k v)))∨
 ∃af k b,H a=some (.dT af)/\y=.ref b/\H b=some (.tup (k.map kV))/\af.length<sizeLine/\H'=upd H a (.dT (putK af k v))
theorem qr.k {H:Hp}{a:Addr}{af:List (Key×V)}{k:Key}(e:H a=some (.dK af)):qr H a (kV k) (cQ af k):=.inl ⟨af,k,.inl e,rfl,rfl⟩
theorem tX.k {H:Hp}{a:Addr}{af:List (Key×V)}{k:Key}{v:V}(e:H a=some (.dK af)) (hl:af.length<sizeLine):tX H a (kV k) v (upd H a (.dK (putK af k v))):=.inl ⟨af,k,e,rfl,hl,rfl⟩
section
variable {X:Cx}{pins:List (Addr×Obj)}{σ:St}{H:Hp}{s:Shared}{a:Addr}{y v:V}{u r:Value}{o:Option V}{A:Around}{E:Value->Shared->Prop}
theorem Inv.big (I:Inv X pins σ H s):sysModules<s.heap.objs.size:=by
 have h:mainGlobals<s.heap.objs.size:=(I.mod.glob.keeps I.bk).lt
 exact Nat.lt_trans .d h
theorem HA {h':Heap}{t':Nat}{ob:HO}(I:Inv X pins σ H s) (mu:tP (H a)) (hs:Heap.SameBut a s.heap h') (he:∃q,h'.get? a=some q) (new:bu X.prog X.w (upd H a ob) h' a ob):
  Inv X pins σ (upd H a ob) {s with heap:=h',toks:=t'} :=
 I.write (x:=a) (e:=a) mu (.inl rfl) (fun b q hb z=> (hs.2 b hb).trans z) he new
theorem GZ {P:Program}{w:World}{H':Hp}{h':Heap}{af:List (Key×V)}{vs:List (Key×Value)}(z:af.length<=sizeLine) (hd:(a==sysModules)=false) (rel:KV af vs) (dd:h'.DictOf (eR P w) a vs):
  bu P w H' h' a (.dK af):=⟨z,hd,vs,rel,dd⟩
theorem Zc7 {H':Hp}{Q:Unit->Shared->Prop}(hu:A.units+1<cLine) (I:Inv X pins σ H s) (g:tX H a y v H') (ry:RelV y u) (rv:RelV v r) (h:∀s',Inv X pins σ H' s'->Q () s'):
  wpAny (model X.prog X.w) A (setItem (.ref a) u r) Q E s:=by
 rcases g with ⟨af,k,e,ey,l,eH⟩ |⟨af,k,b,e,ey,eb,l,eH⟩
 ·subst ey eH
  obtain⟨z,hd,vs,rel,dd⟩:=TQ I.ak e
  have hz:vs.length<=sizeLine:=by rw[<-rel.length];exact z
  have hl:(putK af k v).length<=sizeLine:=by have:=YF af k v;omega
  refine wpAny_setItem_pairs (hsz:=hz) (xo ry) dd fun h' wX hs=>h _ ?_
  have he:∃q,h'.get? a=some q:=let ⟨q,_,_,hq,_⟩:=wX;⟨q,hq⟩
  exact HA I (by rw[e];exact True.intro) hs he (GZ hl hd (rel.put k rv) wX)
 ·subst ey eH
  cases (show u=Value.ref b from ry)
  obtain⟨z,hd,xs,rel,dd⟩:=TR I.ak e
  have hz:xs.length<=sizeLine:=by rw[<-Zcf rel];exact z
  have hl:(putK af k v).length<=sizeLine:=by have:=YF af k v;omega
  refine wpAny_setItem_heap (hsz:=hz) (tupleKind_room_in1 hu) (BJ I.ak eb) dd fun h' wX hs=>h _ ?_
  obtain⟨q,es,ep,hq,h2,h3,h4,_,h5⟩:=wX
  refine HA I (by rw[e];exact True.intro) hs ⟨q,hq⟩ ⟨hl,hd,_,(rel.put k eb rv).keeps fun c ys ec=> ?_,q,es,ep,hq,h2,h3,h4,h5⟩
  rw[Zh (Ym ec e (fun z=>nomatch z))]
  exact ec
end
def Ml (td ty tv:TE):TS:=fun D σ H=>tv σ H fun v H1=>td σ H1 fun x H2=>ty σ H2 fun y H3=> ∃a H4,x=.ref a/\tX H3 a y v H4/\D.nx σ H4
section
variable {X:Cx}{o i e value:Expr}{pos pos' aar:Pos}{td ty tv:TE}
theorem Xt (hu:X.A.units+1<cLine) (ho:PE X o td) (hi:PE X i ty) (hv:PE X value tv) (hs:swapsWith value (some (.Subscript o i pos')) pos.line X.env=pure false):
  PS X (.Assign [.Subscript o i pos'] value pos) (Ml td ty tv):=by
 intro pins s σ H D I h
 refine wpAny_Assign_Subscript (ar (hv pins s σ H _ I h) fun r s1 ⟨v,H1,I1,rv,q1⟩=>ar (ho pins s1 σ H1 _ I1 q1) fun u s2 ⟨x,H2,I2,rx,q2⟩=>ar (hi pins s2 σ H2 _ I2 q2) fun iv s3 ⟨y,H3,I3,ry,a,H4,ex,g,q3⟩=> ?_) hs
 subst ex
 obtain rfl:u=Value.ref a:=rx
 exact Zc7 hu I3 g ry rv fun s4 I4=> ⟨σ,H4,I4,q3⟩
end
theorem V4 {P:Program}{w:World}{H:Hp}(h:Heap) (hb:sysModules<h.objs.size):bu P w H (h.push {cls:=.type "dict",data:=.dict #[]}) h.objs.size (.dK []):=
 ⟨ZaV _,beq_eq_false_iff_ne.mpr (ZdS (ZaE hb)),[],.nil,Heap.DictOf.new h⟩
def Lz:TE:=fun _ H Q=> ∀p,H p=none->Q (.ref p) (upd H p (.dK []))
section
variable {X:Cx}{pos:Pos}
theorem IB:PE X (.Dict [] [] pos) Lz:=fun pins s σ H Q I h=>
 wpAny_Dict_empty ⟨.ref s.heap.objs.size,_,I.laid (a:=s.heap.objs.size) (o:=.dK []) (t':=s.toks) (fun _ _ q=>Zab _ q) (Zae _) (V4 s.heap I.big),rfl,h _ (I.ak.fresh (Zae _))⟩
end
def mO (af more:List (Key×V)):List (Key×V):=more.foldl (fun acc kv=>putK acc kv.1 kv.2) af
theorem KV.merge:∀{more:List (Key×V)}{rs:List (Key×Value)}{af:List (Key×V)}{vs:List (Key×Value)},KV more rs->KV af vs->KV (mO af more) (merged vs rs):=by
 intro more rs af vs r
 unfold KV at r
 induction r generalizing af vs with
 |nil=>intro q;exact q
 | @cons p q ps qs h t ih=>
  intro r0
  have e:KV (putK af p.1 p.2) (stored vs q.1 q.2):=by
   have:=r0.put p.1 h.2
   rw[<-h.1];exact this
  exact ih e
theorem Jp:∀(more af:List (Key×V)),(mO af more).length<=af.length+more.length
 | [],af=>by show af.length<=af.length+0;omega
 |p::r,af=>by
  have h1:=Jp r (putK af p.1 p.2)
  have h2:=YF af p.1 p.2
  show(mO (putK af p.1 p.2) r).length<=_
  rw[Zbz];omega
structure M1 (X:Cx) (o:Expr) (m:Str) (apos:Pos) (e:Expr) (bU:Pos):Prop where
 base:attributeBase o m X.env (eval o X.env)=eval o X.env
 FQ:((backTo bU (starEach [e] X.env)).all (fun x=> !x.1)&&(backToKw bU (keywordEach [] X.env)).all (fun x=>x.1.isSome)
  &&decide (([e]:List Expr).length+([]:List Keyword).length+(if ([]:List Keyword).isEmpty then 0 else 1)<30))=true
 line:(apos.endLine==bU.line)=true
 trees:backTo bU (starEach [e] X.env)=[(false,eval e X.env)]
structure M2 (X:Cx) (o:Expr) (m:Str) (apos:Pos) (e f:Expr) (bU:Pos):Prop where
 base:attributeBase o m X.env (eval o X.env)=eval o X.env
 FQ:((backTo bU (starEach [e,f] X.env)).all (fun x=> !x.1)&&(backToKw bU (keywordEach [] X.env)).all (fun x=>x.1.isSome)
  &&decide (([e,f]:List Expr).length+([]:List Keyword).length+(if ([]:List Keyword).isEmpty then 0 else 1)<30))=true
 line:(apos.endLine==bU.line)=true
 trees:backTo bU (starEach [e,f] X.env)=[(false,eval e X.env),(false,eval f X.env)]
def Km (H:Hp) (a:Addr):Prop:=(∃af,Rd H a (.dK af))∨∃af,Rd H a (.dT af)
theorem Vu {X:Cx}{pins:List (Addr×Obj)}{σ:St}{H:Hp}{s:Shared}{a:Addr}(I:Inv X pins σ H s) (d:Km H a):
  s.TypeIs (.ref a) "dict" /\(∀b,Value.ref a=.ref b->∃ob,s.heap.get? b=some ob/\ob.dict=none)/\(a==sysModules)=false:=by
 rcases d with ⟨af,e⟩ |⟨af,e⟩
 ·obtain⟨_,hd,vs,_,dd⟩:=Bz I.ak e
  refine⟨dd.typeIs,fun b q=> ?_,hd⟩
  cases q
  obtain⟨ob,_,_,h1,h2,_⟩:=dd
  exact⟨ob,h1,h2.2.1⟩
 ·obtain⟨_,hd,xs,_,dd⟩:=BB I.ak e
  refine⟨dd.typeIs,fun b q=> ?_,hd⟩
  cases q
  obtain⟨ob,_,_,h1,h2,_⟩:=dd
  exact⟨ob,h1,h2.2.1⟩
section
variable {X:Cx}{pins:List (Addr×Obj)}{σ:St}{H:Hp}{s:Shared}{a:Addr}{y d:V}{u r:Value}{o:Option V}{A:Around}{E:Value->Shared->Prop}
theorem V1 {Q:Value->Shared->Prop}(hu:A.units+1<cLine) (I:Inv X pins σ H s) (g:qr H a y o) (ry:RelV y u) (h:∀w' s',Inv X pins σ H s'->RelV (o.getD .ah) w'->Q w' s'):
  wpAny (model X.prog X.w) A (call (.builtin "dict.get") [.ref a,u]) Q E s:=by
 rcases g with ⟨af,k,e,ey,l⟩ |⟨af,k,b,e,ey,eb,l⟩
 ·subst ey
  obtain⟨z,hd,vs,rel,dd⟩:=Bz I.ak e
  refine call_meetsIn PySem.F.slot_dict_get dd.typeIs PySem.F.entry_dict_get (PySem.F.args_dict_get_2 _ _) (meets_dict_get (eR X.prog X.w) a (xo ry) hd) ⟨_,dd.mapOf,h _ _ (I.tok _) ?_⟩
  rw[l]
  exact(rel.val k).getD rfl
 ·subst ey
  cases (show u=Value.ref b from ry)
  obtain⟨z,hd,xs,rel,dd⟩:=BB I.ak e
  refine call_meetsIn PySem.F.slot_dict_get dd.typeIs PySem.F.entry_dict_get (PySem.F.args_dict_get_2 _ _) (meetsH_dict_get (tupleKind (eR X.prog X.w)) a b hd) ⟨tupleKind_room_in1 hu,k,xs,BJ I.ak eb,dd,h _ _ (I.tok _) ?_⟩
  rw[l]
  exact(rel.val k).getD rfl
end
def LA (td ty:TE):TE:=fun σ H Q=>td σ H fun x H1=> ∃a,x=.ref a/\Km H1 a/\ty σ H1 fun y H2=> ∃o,qr H2 a y o/\Q (o.getD .ah) H2
section
variable {X:Cx}{o e f:Expr}{apos bU:Pos}{td ty tx:TE}
theorem ZdF (hu:X.A.units+1<cLine) (ho:PE X o td) (he:PE X e ty) (m:M1 X o "get" apos e bU):PE X (.Call (.Attribute o "get" apos) [e] [] bU) (LA td ty):=by
 intro pins s σ H Q I h
 refine wpAny_Call_method m.base m.FQ m.line PySem.F.plainAttrs_dict PySem.F.slot_dict_get PySem.F.type_dict_get (ar (ho pins s σ H _ I h) fun u s1 ⟨x,H1,I1,rx,a,ex,d,q1⟩=> ?_)
 subst ex
 obtain rfl:u=Value.ref a:=rx
 obtain⟨t1,t2,_⟩:=Vu I1 d
 refine⟨t1,t2,?_⟩
 rw[m.trees]
 refine PySem.Calls.callWith_builtin rfl (PySem.Calls.evalArgs_plain (PySem.Calls.spliced_cons (ar (he pins s1 σ H1 _ I1 q1) fun iv s2 ⟨y,H2,I2,ry,ov,g,q2⟩=>PySem.Calls.spliced_nil ?_)))
 exact V1 hu I2 g ry fun w' s3 I3 iH=> ⟨_,H2,I3,iH,q2⟩
end
def cJ (scope:Scope) (env:Env):List (Str×Addr):=scope.names.foldl (fun cs y=>if y.2==.free then (y.1,(env.cells.lookup y.1).getD 0)::cs else cs) []
theorem Yc {scope:Scope}{env:Env}(h:∀y∈scope.names,y.2=.free->∃c,env.cells.lookup y.1=some c):closureFor scope env=pure (cJ scope env):=by
 unfold closureFor cJ
 have key:∀(l:List (Str×NameKind)) (cs:List (Str×Addr)),(∀y∈l,y.2=.free->∃c,env.cells.lookup y.1=some c)->
   (forIn l cs (fun x r=>match x with |(name,kind)=>if (kind==NameKind.free)=true then do let c <-cellOf env name;pure (ForInStep.yield ((name,c)::r)) else pure (ForInStep.yield r)):Sem (List (Str×Addr)))
    =pure (l.foldl (fun cs y=>if y.2==.free then (y.1,(env.cells.lookup y.1).getD 0)::cs else cs) cs):=by
  intro l
  induction l with
  |nil=>intro cs _;rfl
  |cons y l ih=>
   intro cs hl
   obtain⟨n,k⟩:=y
   rw[List.forIn_cons,Ze3]
   by_cases hk:k=.free
   ·subst hk
    obtain⟨c,hc⟩:=hl (n,.free) Zas rfl
    have cm:env.cells.lookup n=some c:=hc
    have e1:cellOf env n=pure c:=by unfold cellOf;rw[cm]
    simp only[beq_self_eq_true,Ze2,e1,cm,ZeP,pure_bind]
    exact ih _ fun y hy=>hl y (Zan _ hy)
   ·have hb:(k==NameKind.free)=false:=by simpa using hk
    simp only[hb,Za1,Zdn,pure_bind]
    exact ih _ fun y hy=>hl y (Zan _ hy)
 simp only[key scope.names [] h,pure_bind]
 all_goals rfl
theorem Yl {scope:Scope}{env:Env}{x:Str}{c:Addr}(h:(cJ scope env).lookup x=some c):c=(env.cells.lookup x).getD 0/\(x,NameKind.free)∈scope.names:=by
 unfold cJ at h
 have key:∀(l:List (Str×NameKind)) (cs:List (Str×Addr)),(l.foldl (fun cs y=>if y.2==.free then (y.1,(env.cells.lookup y.1).getD 0)::cs else cs) cs).lookup x=some c->
   (c=(env.cells.lookup x).getD 0/\(x,NameKind.free)∈l)∨cs.lookup x=some c:=by
  intro l
  induction l with
  |nil=>intro cs h;exact .inr h
  |cons y l ih=>
   intro cs h
   obtain⟨n,k⟩:=y
   rw[Ze3]at h
   rcases ih _ h with ⟨h1,h2⟩ |h'
   ·exact .inl ⟨h1,Zan _ h2⟩
   ·by_cases hk:k=.free
    ·subst hk
     simp only[beq_self_eq_true,Ze2]at h'
     rw[ZeQ]at h'
     cases hx:x==n with
     |true=>
      rw[hx]at h'
      have e:x=n:=by simpa using hx
      subst e
      have e':(env.cells.lookup x).getD 0=c:=ZbE h'
      exact .inl ⟨e'.symm,Zas⟩
     |false=>rw[hx]at h';exact .inr h'
    ·have hb:(k==NameKind.free)=false:=by simpa using hk
     simp only[hb,Za1,Zdn]at h'
     exact .inr h'
 rcases key _ _ h with h |h
 ·exact h
 ·simp at h
theorem WW {scope:Scope}{env:Env}{x:Str}(h:(x,NameKind.free)∈scope.names):∃c,(cJ scope env).lookup x=some c:=by
 unfold cJ
 have key:∀(l:List (Str×NameKind)) (cs:List (Str×Addr)),((x,NameKind.free)∈l∨∃c,cs.lookup x=some c)->∃c,(l.foldl (fun cs y=>if y.2==.free then (y.1,(env.cells.lookup y.1).getD 0)::cs else cs) cs).lookup x=some c:=by
  intro l
  induction l with
  |nil=>
   intro cs h
   rcases h with h |h
   ·simp at h
   ·exact h
  |cons y l ih=>
   intro cs h
   obtain⟨n,k⟩:=y
   rw[Ze3]
   refine ih _ ?_
   by_cases hk:k=.free
   ·subst hk
    simp only[beq_self_eq_true,Ze2]
    rw[ZeQ]
    cases hx:x==n with
    |true=>exact .inr ⟨_,rfl⟩
    |false=>
     rcases h with h |h
     ·rcases Zao.mp h with e |h
      ·have e1:x=n:=ZeM Prod.fst e
       simp[e1]at hx
      ·exact .inl h
     ·exact .inr h
   ·have hb:(k==NameKind.free)=false:=by simpa using hk
    simp only[hb,Za1,Zdn]
    rcases h with h |h
    ·rcases Zao.mp h with e |h
     ·exact absurd (ZeM Prod.snd e).symm hk
     ·exact .inl h
    ·exact .inr h
 exact key _ _ (.inl h)
def rl (env:Env) (y:Str×NameKind):Str×NameKind:=if (y.2==NameKind.free&&env.scope.kind==.function&&env.kindOf y.1==some .cell) then (y.1,NameKind.cell) else y
theorem Hi (env:Env) (y:Str×NameKind):(rl env y).1=y.1:=by unfold rl;split<;>rfl
theorem Xy {env:Env}{y:Str×NameKind}(h:y.2=.free):(rl env y).2=.cell∨(rl env y).2=.free:=by
 unfold rl;split
 ·exact .inl rfl
 ·exact .inr h
theorem Vb {env:Env}{y:Str×NameKind}(h:y.2≠.free):rl env y=y:=by
 have hb:(y.2==NameKind.free)=false:=by simpa using h
 unfold rl;rw[hb];simp
theorem Jl (scope:Scope) (env:Env):(relabel scope env).names=scope.names.map (rl env):=rfl
theorem UY {scope:Scope}{env:Env}{x:Str}(hc:∀y∈scope.names,y.2≠.cell) (h:(relabel scope env).names.lookup x=some .cell∨(relabel scope env).names.lookup x=some .free):(x,NameKind.free)∈scope.names:=by
 rw[Jl]at h
 have key:∀(l:List (Str×NameKind)),(∀y∈l,y.2≠.cell)->(∃k,(k=NameKind.cell∨k=.free)/\(l.map (rl env)).lookup x=some k)->(x,NameKind.free)∈l:=by
  intro l
  induction l with
  |nil=>rintro _ ⟨k,_,h⟩;simp at h
  |cons y l ih=>
   rintro hl ⟨k',aP,h⟩
   obtain⟨n,k⟩:=y
   have e1:(rl env (n,k))=(n,(rl env (n,k)).2):=Prod.ext (Hi env _) rfl
   rw[ZbJ,e1,ZeQ]at h
   cases hx:x==n with
   |true=>
    have e:x=n:=by simpa using hx
    subst e
    by_cases hk:k=.free
    ·subst hk;exact Zas
    ·rw[hx]at h
     rw[Vb (env:=env) (y:=(x,k)) hk]at h
     have e:k=k':=ZbE h
     subst e
     rcases aP with z |z
     ·exact absurd z (hl _ Zas)
     ·exact absurd z hk
   |false=>
    rw[hx]at h
    exact Zan _ (ih (fun y hy=>hl y (Zan _ hy)) ⟨k',aP,h⟩)
 refine key _ hc ?_
 rcases h with h |h
 ·exact⟨_,.inl rfl,h⟩
 ·exact⟨_,.inr rfl,h⟩
theorem Jk {scope:Scope}{env:Env}{x:Str}(h:scope.names.lookup x=some .free):(relabel scope env).names.lookup x=some .cell∨(relabel scope env).names.lookup x=some .free:=by
 rw[Jl]
 have key:∀(l:List (Str×NameKind)),l.lookup x=some .free->(l.map (rl env)).lookup x=some .cell∨(l.map (rl env)).lookup x=some .free:=by
  intro l
  induction l with
  |nil=>intro h;simp at h
  |cons y l ih=>
   intro h
   obtain⟨n,k⟩:=y
   have e1:(rl env (n,k))=(n,(rl env (n,k)).2):=Prod.ext (Hi env _) rfl
   rw[ZbJ,e1,ZeQ]
   rw[ZeQ]at h
   cases hx:x==n with
   |true=>
    rw[hx]at h
    have e:k=.free:=ZbE h
    rcases Xy (env:=env) (y:=(n,k)) e with z |z
    ·exact .inl (ZeM some z)
    ·exact .inr (ZeM some z)
   |false=>rw[hx]at h;exact ih h
 exact key _ h
def aR (X:Cx) (N':List Str) (scope:Scope) (C:Addr) (s2:Shared) (H2:Hp) (fp:List Addr):Cx:=
 {X with N:=N',cf:=s2,kI:=H2,env:=compEnvC scope (cJ scope X.env) C X.env,outer:=X.stack,stack:=X.stack,ex:=fp,fn:=fun _=>false,pn:=[],xe:=fun _ _=>False}
def qk (so si:Scope) (N N':List Str) (ts:Nat) (aY:List Nat):Bool:=
 decide (si.kind=.function)&&si.names.all (fun y=>y.2 !=.cell)&&si.names.all (fun y=>y.2 !=.local||si.names.lookup y.1==some .local)
 &&si.names.all (fun y=>y.2 !=.free||so.names.lookup y.1==some .cell||so.names.lookup y.1==some .free)
 &&decide N'.Nodup&&decide (N'.length=ts+aY.length)
 &&(List.range aY.length).all (fun k=> (N'[ts+k]? ==(aY[k]?.bind fun j=>N[j]?))&&(N'[ts+k]?.isSome)&&(N'[ts+k]?.all fun x=>so.names.lookup x !=some .local&&si.names.lookup x==some .free))
def i7 (ts:Nat) (aY:List Nat) (σ:St):St:=List.replicate ts none++aY.map fun j=> (σ[j]?).join
structure Cn (X:Cx) (N':List Str) (ts:Nat) (aY:List Nat) (scope:Scope):Prop where
 kind:scope.kind=.function
 gp:∀y∈scope.names,y.2≠.cell
 names:∀y∈scope.names,y.2=.local->scope.names.lookup y.1=some .local
 free:∀y∈scope.names,y.2=.free->X.env.kindOf y.1=some .cell∨X.env.kindOf y.1=some .free
 nd:N'.Nodup
 len:N'.length=ts+aY.length
 GB:∀k j,aY[k]? =some j->∃x,N'[ts+k]? =some x/\X.N[j]? =some x/\X.env.kindOf x≠some .local/\scope.names.lookup x=some .free
theorem Jw {x:Str}{k:NameKind} :∀{l:List (Str×NameKind)},l.lookup x=some k->(x,k)∈l
 | [],h=>by simp at h
 |(n,j)::l,h=>by
  rw[ZeQ]at h
  cases hx:x==n with
  |true=>
   rw[hx]at h
   have e:x=n:=by simpa using hx
   have e':j=k:=ZbE h
   subst e e'
   exact Zas
  |false=>rw[hx]at h;exact Zan _ (Jw h)
theorem JT {X:Cx}{N':List Str}{ts:Nat}{aY:List Nat}{scope:Scope}(h:qk X.env.scope scope X.N N' ts aY=true):Cn X N' ts aY scope:=by
 unfold qk at h
 simp only[ZaL]at h
 obtain⟨⟨⟨⟨⟨⟨h1,h2⟩,h3⟩,h4⟩,h5⟩,h6⟩,h7⟩:=h
 refine⟨Zdh h1,fun y hy z=> ?_,fun y hy z=> ?_,fun y hy z=> ?_,Zdh h5,Zdh h6,fun k j hk=> ?_⟩
 ·have q:=ZaZ.mp h2 y hy
  rw[z]at q;exact absurd q .d
 ·have q:=ZaZ.mp h3 y hy
  rw[z]at q
  simpa using q
 ·have q:=ZaZ.mp h4 y hy
  rw[z]at q
  simpa[Env.kindOf] using q
 ·have az:k<aY.length:=(Zad.mp hk).1
  have q:=ZaZ.mp h7 k (Zbr.mpr az)
  simp only[ZaL]at q
  obtain⟨⟨q1,q2⟩,q3⟩:=q
  obtain⟨x,hx⟩:=Zdy.mp q2
  rw[hx]at q1 q3
  rw[hk]at q1
  have e1:some x=X.N[j]? :=by simpa using q1
  have oZ:(X.env.scope.names.lookup x !=some .local&&scope.names.lookup x==some .free)=true:=q3
  simp only[ZaL]at oZ
  refine⟨x,hx,e1.symm,?_,by simpa using oZ.2⟩
  have z:=oZ.1
  intro e
  have e':X.env.scope.names.lookup x=some .local:=e
  rw[e']at z
  exact absurd z .d
section
variable {X:Cx}{pins:List (Addr×Obj)}{σ:St}{H:Hp}{s:Shared}
theorem Iq {N':List Str}{ts:Nat}{aY:List Nat}{scope:Scope}{fp:List Addr}{h':Heap}{t':Nat}{m:Str->Option Value}{C:Addr}(S:Cn X N' ts aY scope) (I:Inv X pins σ H s) (hf:∀b∈fp,bE X pins H b)
  (ho:∀b∈fp,∃o,s.heap.get? b=some o) (hC:s.heap.objs.size<=C) (hn:h'.Ns C m) (k:∀b o,s.heap.get? b=some o->h'.get? b=some o):
  Inv (aR X N' scope C s H fp) [] (i7 ts aY σ) H {s with heap:=h',toks:=t'} :=by
 have sub:∀x c,(cJ scope X.env).lookup x=some c->X.env.cells.lookup x=some c:=fun x c e=>by
  obtain⟨e1,e2⟩:=Yl e
  obtain⟨c',cm⟩:=I.ok.has x (S.free _ e2 rfl)
  rw[cm]at e1
  rw[cm,e1];rfl
 have eQ:∀b o,s.heap.get? b=some o->b≠C:=fun b o e=>ZaE (Zaz (Zaq e) hC)
 refine⟨⟨I.ok.mod,?_,I.ok.glob,I.ok.blt,hC,fun x y c e1 e2=>I.ok.inj x y c (sub x c e1) (sub y c e2),fun x hx=> ?_,fun x c z _=>absurd z Zaw,I.ok.hd,I.ok.frames,.inl rfl,fun b hb=> ?_,fun b o e=>I.bs b o e,Zcd I.ok.i8 I.sz,fun b o e hb=> ?_,fun b hb=> ?_,I.stack,I.qK⟩,
  rfl,I.bare,Un.kept k,⟨m,hn,fun i x v e1 e2 e3=> ?_⟩,fun x c e=> ?_,I.ak.fresh hC,fun x c e=>I.fI x c (sub x c e),fun p hp=>absurd (show p∈([]:List (Addr×Obj)) from hp) (by simp),I.ak.kept k,?_⟩
 ·show(relabel scope X.env).kind=.function
  exact S.kind
 ·exact WW (UY S.gp hx)
 ·obtain⟨o,e⟩:=ho b hb
  refine⟨eQ b o e,fun x c ec=> ?_⟩
  exact(hf b hb).2.2.2.2.1 x c (sub x c ec)
 ·obtain⟨e1,e2⟩:=I.bs b o e
  obtain⟨f0,f1,f2,f3,f4,f5⟩:=hf b hb
  rcases f3 with z |z
  ·exact I.ok.kW b o e z
  ·exact absurd (Zaz (Zaq (I.ok.bs b o e).1) z) (ZbI _)
 ·intro z
  obtain⟨f0,f1,f2,f3,f4,f5⟩:=hf b hb
  rcases Zao.mp (I.uA b z) with q |q
  ·exact f1 q
  ·exact f2 q
 ·-- the aav values
  have hlen:¬i<ts:=fun az=>by
   unfold i7 at e2
   rw[Zds (by simpa using az),ZdV]at e2
   split at e2<;>cases e2
  have tw:(aY.map fun j=> (σ[j]?).join)[i - ts]? =some (some v):=by
   unfold i7 at e2
   rw[Zcn (by simpa using hlen),Zcj]at e2
   exact e2
  rw[ZbG]at tw
  cases hc:aY[i - ts]? with
  |none=>rw[hc]at tw;cases tw
  |some j=>
   rw[hc]at tw
   have lZ:(σ[j]?).join=some v:=ZbE tw
   have e4:σ[j]? =some (some v):=by
    cases q:σ[j]? with
    |none=>rw[q]at lZ;cases lZ
    |some o=>rw[q]at lZ;exact ZeM some lZ
   obtain⟨x',n1,n2,n3,n4⟩:=S.GB _ _ hc
   have ei:ts+(i - ts)=i:=.o
   rw[ei]at n1
   have ex:x=x':=by
    have wV:N'[i]? =some x:=e1
    rw[n1]at wV;exact(ZbE wV).symm
   subst ex
   obtain⟨mX,hnX,hl⟩:=I.loc
   have KQ:tK X.env.scope x:=by
    rcases S.free _ (Jw n4) rfl with z |z
    ·exact .inr (.inl z)
    ·exact .inr (.inr z)
   obtain⟨u,ru,lk⟩:=hl j x v n2 e4 KQ
   refine⟨u,ru,?_⟩
   rcases lk with ⟨z,_⟩ |⟨z,c,ec,lT⟩
   ·exact absurd z n3
   ·obtain⟨c',cm⟩:=WW (env:=X.env) (Jw n4)
    have:=sub x c' cm
    rw[ec]at this
    cases this
    refine .inr ⟨?_,c,cm,lT.keeps k⟩
    exact Jk n4
 ·obtain⟨v,z⟩:=I.cell x c (sub x c e)
  exact⟨v,z.keeps k⟩
 ·show(i7 ts aY σ).length=N'.length
  unfold i7
  rw[Zap,Zcj,Zar,S.len]
end
def AccAt (h:Heap) (D:Addr) (ys:List V):Prop:=ys.length<=sizeLine/\∃(aa:List Value) (n:Nat),Vals ys aa/\h.get? D=some {cls:=.type "list",data:=.seq aa.toArray n}
theorem AccAt.keep {h h':Heap}{D:Addr}{ys:List V}(a:AccAt h D ys) (k:∀o,h.get? D=some o->h'.get? D=some o):AccAt h' D ys:=by
 obtain⟨z,aa,n,r,e⟩:=a
 exact⟨z,aa,n,r,k _ e⟩
abbrev TC:=List V->St->Hp->(List V->St->Hp->Prop)->Prop
def kG (Y:Cx) (D:Addr) (m:Sem PySem.Fin->Sem PySem.Fin) (t:TC):Prop:=
 ∀(pins:List (Addr×Obj)) (s:Shared) (σ:St) (H:Hp) (ys:List V) (Q:List V->St->Hp->Prop) (k:Sem PySem.Fin) (R:PySem.Fin->Shared->Prop),Inv Y pins σ H s->bE Y pins H D->AccAt s.heap D ys->t ys σ H Q->
  (∀s' bV ao H',Inv Y pins ao H' s'->bE Y pins H' D->AccAt s'.heap D bV->Q bV ao H'->wpAny (model Y.prog Y.w) Y.A k R (fun _ _=>False) s')->wpAny (model Y.prog Y.w) Y.A (m k) R (fun _ _=>False) s
def Cz (ifs:List Expr) (env:Env):Sem Bool:=forIn ifs true fun c r=>if r=true then do let ok <-isTrue c env (eval c env);pure (ForInStep.yield ok) else pure (ForInStep.yield r)
def kF (Y:Cx) (ifs:List Expr) (t:TT):Prop:=
 ∀(pins:List (Addr×Obj)) (s:Shared) (σ:St) (H:Hp) (Q:Bool->Hp->Prop),Inv Y pins σ H s->t σ H Q->wpAny (model Y.prog Y.w) Y.A (Cz ifs Y.env) (TP Y pins σ Q) Y.xe s
def xW:TT:=fun _ H Q=>Q true H
section
variable {Y:Cx}{D:Addr}
theorem Ya:kF Y [] xW:=fun pins s σ H Q I h=>wpAny_tests_nil ⟨H,I,h⟩
theorem Yr {c:Expr}{t:TT}(hc:PT Y c t):kF Y [c] t:=fun pins s σ H Q I h=>wpAny_tests_one (hc pins s σ H Q I h)
def CF (te:TE):TC:=fun ys σ H Q=>te σ H fun v H1=>ys.length<sizeLine/\Q (ys++[v]) σ H1
theorem AccAt.gp {h:Heap}{ys:List V}(a:AccAt h D ys):∀b∈[D],∃o,h.get? b=some o/\∀v,o.data≠.cell v:=fun b hb=>by
 have e:b=D:=by simpa using hb
 subst e
 obtain⟨z,aa,n,r,e⟩:=a
 exact⟨_,e,fun v z=>by
  have z':Data.seq aa.toArray n=Data.cell v:=z
  cases z'⟩
theorem AccAt.through {h:Heap}{pins:List (Addr×Obj)}{ao:St}{H':Hp}{s':Shared}{ys:List V}(a:AccAt h D ys) (I:Inv Y (pins++jT [D] h) ao H' s'):AccAt s'.heap D ys/\H' D=none:=by
 obtain⟨z,aa,n,r,e⟩:=a
 have q:=I.pin (D,_) (Zav _ (Zav _ (Z5 (Zax.mpr rfl) e)))
 exact⟨⟨z,aa,n,r,q.1⟩,q.2.1⟩
theorem ZH {elt:Expr}{te:TE}(hx:Y.xe=fun _ _=>False) (he:PE Y elt te):
    kG Y D (fun k=> (do let _ <-call (.builtin "list.append") [.ref D,<-eval elt Y.env]) >>=fun _=>k) (CF te):=by
  intro pins s σ H ys Q k R I f a h hk
  refine Zaa (Zbs (Q:=fun _ s'=> ∃bV ao H',Inv Y pins ao H' s'/\bE Y pins H' D/\AccAt s'.heap D bV/\Q bV ao H') ?_ (fun _ s' ⟨bV,ao,H',q1,q2,q3,q4⟩=>hk s' bV ao H' q1 q2 q3 q4) fun _ _ z=>z)
  have I':=I.pinned (fp:=[D]) (fun b hb=>by have e:b=D:=by simpa using hb
                                            subst e;exact f) a.gp
  refine Zaa (Zbs (he _ s σ H _ I' h) (fun u s1 ⟨v,H1,I1,ru,hz,q⟩=> ?_) fun e s1 z=>by rw[hx]at z;exact z)
  obtain⟨a1,n1⟩:=a.through I1
  have f1:bE Y pins H1 D:=⟨n1,f.2⟩
  obtain⟨z,aa,n,r,e⟩:=a1
  have hl:=r.length
  refine Zaa (Zep F.slot_list_append ⟨_,e,rfl⟩ F.entry_list_append (F.args_list_append_2 _ _) (PySem.list_append D aa.toArray n u (by rw[Zaj];omega)) ⟨e,Zaf ?_⟩)
  have q2:=PySem.IsL.update e (·.push u)
  obtain⟨f0,g1,g2,g3,g4,g5⟩:=f1
  have I2:Inv Y pins σ H1 {s1 with heap:=s1.heap.update D (Obj.mapSeq (·.push u))} :=I1.jf.turned (t':=s1.toks) (it:=D) (fun b o hb eb=> (ZbP s1.heap _ (ZdS hb)).trans eb) f0 g1 g3 g4 g5
  refine⟨ys++[v],σ,H1,I2,⟨f0,g1,g2,g3,g4,g5⟩,⟨by rw[Zap,Zdw];omega,aa++[u],(if ((aa.toArray.push u).size==aa.toArray.size)=true then n else n+1),r.append (.cons ru .nil),?_⟩,q⟩
  have e3:aa.toArray.push u=(aa++[u]).toArray:=by simp
  rw[<-e3]
  exact q2
def inner (elt:Expr) (gens:List Comprehension) (scope:Scope) (pos:Pos) (d:Nat) (acc:Value) (env:Env) (k:Sem PySem.Fin):Sem PySem.Fin:=
 match gens[d+1]? with
 |some g'=>eval g'.iter env >>=fun x=>standAt g'.iter.pos >>=fun _=>foldedSetIterable g'.iter env x >>=fun x=>holding [x] (pyIter x) >>=fun iK=>
  runOwn (.compStart (.ListComp elt gens scope pos) (d+1) iK acc env) env >>=fun _=>k
 |none=> (do let _ <-call (.builtin "list.append") [acc,<-eval elt env]) >>=fun _=>k
set_option maxHeartbeats 400000 in
theorem Wh (elt tg iter:Expr) (ifs:List Expr) (gens:List Comprehension) (scope:Scope) (pos:Pos) (d:Nat) (it acc:Value) (env:Env) (hg:gens[d]? =some ⟨tg,iter,ifs,0⟩) (h2:∀g',gens[d+1]? =some g'->g'.is_async=0):
  compTurn (.ListComp elt gens scope pos) d it acc env=(standAt iter.pos >>=fun _=>pyNext it >>=fun r=>match r with
   |none=>pure (.done .next)
   |some v=>letOwnedTupleGo tg it v >>=fun _=>assign tg env v >>=fun _=>Cz ifs env >>=fun ok=>
    if ok=true then inner elt gens scope pos d acc env (again (.compLoop (.ListComp elt gens scope pos) d it acc env)) else again (.compLoop (.ListComp elt gens scope pos) d it acc env)):=by
 unfold compTurn inner
 dsimp only
 rw[hg]
 generalize hn:gens[d+1]? =o
 cases o with
 |none=>rfl
 |some g'=>
  have e:=h2 g' hn
  obtain⟨t',i',f',a'⟩:=g'
  have e':a'=0:=e
  subst e'
  rfl
def gR (g:TG) (tt:TT) (ti:TC) (J:It):TC:=fun ys σ H Q=> ∃W:Nat->Nat->List V->St->Hp->Prop,(∃m,W 0 m ys σ H)/\∀i m ys σ H,W i m ys σ H->
 (J.stop i H/\Q ys σ H)∨(J.go i H/\∃N:List V->St->Hp->Prop,(∀bV ao H',N bV ao H'->∃m',m'<m/\W (i+1) m' bV ao H')/\
  ∀x H',J.mq i H x H'->g x σ H' fun aT H2=>tt aT H2 fun b H3=>if b=true then ti ys aT H3 N else N ys aT H3)
theorem UN {elt tg iter:Expr}{ifs:List Expr}{gens:List Comprehension}{scope:Scope}{pos:Pos}{d:Nat}{it:Addr}{fp:List Addr}{tn:Nat->Heap->Prop}{J:It}{g:TG}{tt:TT}{ti:TC}{pins:List (Addr×Obj)}{s:Shared}{σ:St}{H:Hp}{ys:List V}{Q:List V->St->Hp->Prop}
    (hx:Y.xe=fun _ _=>False) (hc:Y.calm=true) (hg:gens[d]? =some ⟨tg,iter,ifs,0⟩) (T:Turn Y.prog Y.w Y.K tg J fp it tn) (hf:∀b∈fp,bE Y pins H b) (st:tn 0 s.heap) (hD:D∉fp)
    (h2:∀g',gens[d+1]? =some g'->g'.is_async=0) (pg:PG Y tg g) (pt:kF Y ifs tt) (pi:kG Y D (inner elt gens scope pos d (.ref D) Y.env) ti)
    (I:Inv Y pins σ H s) (f:bE Y pins H D) (a:AccAt s.heap D ys) (h:gR g tt ti J ys σ H Q):
    codeAny (model Y.prog Y.w) Y.A (.compLoop (.ListComp elt gens scope pos) d (.ref it) (.ref D) Y.env) (fun r s'=>match r with
      | .ok _=> ∃bV ao H',Inv Y pins ao H' s'/\bE Y pins H' D/\AccAt s'.heap D bV/\Q bV ao H'
      | .error _=>False) s:=by
  obtain⟨W,⟨m0,w0⟩,turn⟩:=h
  have stat:∀{H':Hp},(∀b∈fp,H' b=none)->∀b∈fp,bE Y pins H' b:=fun hn b hb=> ⟨hn b hb,(hf b hb).2⟩
  refine codeAny_loop rfl (fun n s'=> ∃i bV ao H',Inv Y pins ao H' s'/\bE Y pins H' D/\AccAt s'.heap D bV/\tn i s'.heap/\(∀b∈fp,H' b=none)/\W i n bV ao H') (fun n s3 hI=> ?_) m0 ⟨0,ys,σ,H,I,f,a,st,fun b hb=> (hf b hb).1,w0⟩
  obtain⟨i,qu,iE,H3,I3,f3,a3,cK,wN,w3⟩:=hI
  show wpAny _ Y.A ((compTurn (.ListComp elt gens scope pos) d (.ref it) (.ref D) Y.env).onRaise (fun x=>do noteFrame x Y.env;theTreesLotGoes x)) _ _ s3
  refine wpAny_noted (Zbs (E:=fun _ _=>False) ?_ (fun _ _ q=>q) fun _ _ z=>z.elim)
  rw[Wh elt tg iter ifs gens scope pos d (.ref it) (.ref D) Y.env hg h2]
  refine Zaa (ZeN (Zaa ?_))
  have aD:∀{h h':Heap},(∀b o,b∉fp->h.get? b=some o->h'.get? b=some o)->∀{zs},AccAt h D zs->AccAt h' D zs:=fun k _ q=>q.keep fun o e=>k D o hD e
  have Kn:=I3.pinned (fp:=[D]) (fun b hb=>by have e:b=D:=by simpa using hb
                                             subst e;exact f3) a3.gp
  have CL:∀b∈fp,bE Y (pins++jT [D] s3.heap) H3 b:=fun b hb=>by
    obtain⟨g0,g1,g2,g3,g4,g5⟩:=stat wN b hb
    refine⟨g0,g1,g2,g3,g4,fun p hp=> ?_⟩
    rcases ZaC.mp hp with z |z
    · exact g5 p (ZaW _ z)
    · rcases ZaC.mp z with z |z
      · exact g5 p (Zav _ z)
      · intro q
        have e:p.1=D:=by simpa using (J7 z).1
        exact hD (by rw[<-e,q];exact hb)
  rcases turn i n qu iE H3 w3 with ⟨stop,qn⟩ |⟨go,N,hN,step⟩
  · refine Zbs (T.done Y rfl rfl rfl hc i _ s3 iE H3 (fun _ _=>False) Kn CL cK stop) (fun r s4 ⟨hr,I4⟩=> ?_) fun _ _ z=>z
    subst hr
    obtain⟨a4,n4⟩:=a3.through I4
    exact Zaf ⟨qu,iE,H3,I4.jf,f3,a4,qn⟩
  · refine Zbs (T.item Y rfl rfl rfl hc i _ s3 iE H3 (fun _ _=>False) Kn CL cK go) (fun r s4 ⟨u,hr,h4⟩=> ?_) fun _ _ z=>z
    subst hr
    refine Zaa (Zbs h4 (fun _ s5 ⟨x,H5,I5,r5,y5,cT,wM⟩=> ?_) fun _ _ z=>z)
    obtain⟨a5,n5⟩:=a3.through I5
    have f5:bE Y pins H5 D:=⟨n5,f3.2⟩
    have PY:∀b∈D::fp,∃o,s5.heap.get? b=some o/\∀v,o.data≠.cell v:=fun b hb=>by
      rcases Zao.mp hb with e |hb
      · exact a5.gp b (by simp[e])
      · exact T.obj _ _ cT b hb
    have Cd:=I5.jf.pinned (fp:=D::fp) (fun b hb=>by
      rcases Zao.mp hb with e |hb
      · rw[e];exact f5
      · exact stat wM b hb) PY
    refine Zaa (Zbs (pg _ s5 iE H5 x u _ Cd r5 (step x H5 y5)) (fun _ s6 ⟨mj,H6,I6,q6⟩=> ?_) fun _ _ z=>by rw[hx]at z;exact z)
    refine Zaa (Zbs (pt _ s6 mj H6 _ I6 q6) (fun b s7 ⟨H7,I7,q7⟩=> ?_) fun _ _ z=>by rw[hx]at z;exact z)
    have Du:∀{eE:St}{H7:Hp}{s7:Shared},Inv Y (pins++jT (D::fp) s5.heap) eE H7 s7->AccAt s7.heap D qu/\H7 D=none:=fun {eE H7 s7} J=>by
      obtain⟨z,aa,n,r,e⟩:=id a5
      have q:=J.pin (D,_) (Zav _ (Zav _ (Z5 Zas e)))
      exact⟨⟨z,aa,n,r,q.1⟩,q.2.1⟩
    have Dt:∀{eE:St}{H7:Hp}{s7:Shared},Inv Y (pins++jT (D::fp) s5.heap) eE H7 s7->tn (i+1) s7.heap/\∀b∈fp,H7 b=none:=fun {eE H7 s7} J=>by
      refine⟨T.keep _ _ _ cT fun b hb o e=> (J.pin (b,o) (Zav _ (Zav _ (Z5 (Zan _ hb) e)))).1,fun b hb=> ?_⟩
      obtain⟨o,e,dd⟩:=T.obj _ _ cT b hb
      exact(J.pin (b,o) (Zav _ (Zav _ (Z5 (Zan _ hb) e)))).2.1
    cases b with
    |false=>
     simp only[Za1,Zdn]at q7 |-
     obtain⟨m',hm,w7⟩:=hN _ _ _ q7
     obtain⟨a7,n7⟩:=Du I7
     obtain⟨t7,r7⟩:=Dt I7
     exact Zaf ⟨rfl,m',hm,i+1,qu,mj,H7,I7.jf,⟨n7,f3.2⟩,a7,t7,r7,w7⟩
    |true=>
     simp only[Ze2]at q7 |-
     obtain⟨a7,n7⟩:=Du I7
     obtain⟨t7,r7⟩:=Dt I7
     have I7':=I7.jf.pinned (fp:=fp) (stat r7) (T.obj _ _ t7)
     have f7:bE Y (pins++jT fp s7.heap) H7 D:=by
       obtain⟨g0,g1,g2,g3,g4,g5⟩:=f3
       refine⟨n7,g1,g2,g3,g4,fun p hp=> ?_⟩
       rcases ZaC.mp hp with z |z
       · exact g5 p (ZaW _ z)
       · rcases ZaC.mp z with z |z
         · exact g5 p (Zav _ z)
         · intro q
           exact hD (by rw[<-q];exact(J7 z).1)
     refine pi _ s7 mj H7 qu N _ _ I7' f7 a7 q7 fun s8 KN ub H8 I8 f8 a8 q8=> ?_
     obtain⟨m',hm,w8⟩:=hN _ _ _ q8
     refine Zaf ⟨rfl,m',hm,i+1,KN,ub,H8,I8.jf,⟨f8.1,f3.2⟩,a8,T.keep _ _ _ t7 fun b hb o e=> (I8.pin (b,o) (Zav _ (Zav _ (Z5 hb e)))).1,fun b hb=> ?_,w8⟩
     obtain⟨o,e,dd⟩:=T.obj _ _ t7 b hb
     exact(I8.pin (b,o) (Zav _ (Zav _ (Z5 hb e)))).2.1
theorem Jy {elt tg iter:Expr}{ifs:List Expr}{gens:List Comprehension}{scope:Scope}{pos:Pos}{d:Nat}{it:Addr}{R:Result->Shared->Prop}{s:Shared}{A:Around}{prog:Program}{w:World}{env:Env}{acc:Value}{fp:List Addr}{tn:Nat->Heap->Prop}{J:It}{K:ZhQ}
  (hg:gens[d]? =some ⟨tg,iter,ifs,0⟩) (T:Turn prog w K tg J fp it tn) {i:Nat} (st:tn i s.heap) (h:codeAny (model prog w) A (.compLoop (.ListComp elt gens scope pos) d (.ref it) acc env) R s):
  codeAny (model prog w) A (.compStart (.ListComp elt gens scope pos) d (.ref it) acc env) R s:=by
 refine PySem.codeAny_of_tree ?_
 show wpAny _ _ ((compStart (.ListComp elt gens scope pos) d (.ref it) acc env).onRaise (fun x=>do noteFrame x env;standAt theWindowsPlace)) _ _ s
 refine wpAny_notedAt ?_
 have sH:(clausesOf (.ListComp elt gens scope pos))[d]? =some ⟨tg,iter,ifs,0⟩:=hg
 unfold compStart
 rw[sH]
 show wpAny _ _ (ask >>=_) _ _ s
 refine Zaa (wpAny_askSetting (wpAny_ite ?_))
 split
 ·first
   |exact Zaa (Zaf (Zaf (And.intro rfl h)))
   |exact Zaf (And.intro rfl h)
 ·refine Zaa (Zee ?_)
  show wpAny _ _ (standAt iter.pos >>=_) _ _ s
  exact Zaa (ZeN (Zaa (T.self A i s _ _ st (Zaf (And.intro rfl h)))))
def Ln (wi:TI) (g:TG) (tt:TT) (ti:TC):TC:=fun ys σ H Q=>wi σ H fun J H1=>gR g tt ti J ys σ H1 Q
theorem ZdA {elt tg iter:Expr}{ifs:List Expr}{gens:List Comprehension}{scope:Scope}{pos:Pos}{d:Nat}{wi:TI}{g:TG}{tt:TT}{ti:TC}
    (hx:Y.xe=fun _ _=>False) (hc:Y.calm=true) (hg:gens[d+1]? =some ⟨tg,iter,ifs,0⟩) (hi:PI Y tg iter wi) (pg:PG Y tg g) (pt:kF Y ifs tt) (pi:kG Y D (inner elt gens scope pos (d+1) (.ref D) Y.env) ti)
    (hs:∀x,foldedSetIterable iter Y.env x=pure x) (h2:∀g',gens[d+1+1]? =some g'->g'.is_async=0):kG Y D (inner elt gens scope pos d (.ref D) Y.env) (Ln wi g tt ti):=by
  intro pins s σ H ys Q k R I f a h hk
  unfold inner
  rw[hg]
  have I':=I.pinned (fp:=[D]) (fun b hb=>by have e:b=D:=by simpa using hb
                                            subst e;exact f) a.gp
  refine Zaa (Zbs (hi _ s σ H _ I' h) (fun v s1 h1=> ?_) fun _ _ z=>by rw[hx]at z;exact z)
  refine Zaa (ZeN (Zaa (PySem.wpAny_of_eq (hs v) (Zaa (ZbS (Zbs h1 (fun iK s2 h2=> ?_) fun _ _ z=>by rw[hx]at z;exact z))))))
  obtain⟨it,fp,tn,J,H2,e,I2,T,au,f2,q2⟩:=h2
  subst e
  obtain⟨a2,n2⟩:=a.through I2
  have fD:bE Y pins H2 D:=⟨n2,f.2⟩
  have hD:D∉fp:=fun z=>by
    obtain⟨z1,aa,n,r,e⟩:=a
    exact(f2 D z).2.2.2.2.2 (D,_) (Zav _ (Zav _ (Z5 (Zax.mpr rfl) e))) rfl
  have FW:∀b∈fp,bE Y pins H2 b:=fun b hb=>by
    obtain⟨g0,g1,g2,g3,g4,g5⟩:=f2 b hb
    exact⟨g0,g1,g2,g3,g4,fun p hp=>g5 p (by
      rcases ZaC.mp hp with z |z
      · exact ZaW _ z
      · exact Zav _ (ZaW _ z))⟩
  refine Zaa (wpAny_runOwn (Zec (Jy hg T au (UN (Q:=Q) hx hc hg T FW au hD h2 pg pt pi I2.jf fD a2 q2)) fun r s' hr=> ?_))
  cases r with
  |ok fl=>
   obtain⟨bV,ao,H',q1,q2,q3,q4⟩:=hr
   exact hk s' bV ao H' q1 q2 q3 q4
  |error e=>exact hr.elim
end
section
variable {X:Cx}{pins:List (Addr×Obj)}{σ:St}{H H':Hp}{s s':Shared}
theorem WY {N':List Str}{scope:Scope}{C D:Addr}{fp:List Addr}{ao:St}{ys:List V}{pl:List (Addr×Obj)}{h':Heap}(I:Inv X pins σ H s) (hf:∀b∈fp,bE X pins H b) (hC:s.heap.objs.size<=C) (hD:s.heap.objs.size<=D) (km:D≠C)
  (J:Inv (aR X N' scope C s H fp) pl ao H' s') (n:H' D=none) (a:AccAt s'.heap D ys) (sb:Heap.SameBut C s'.heap h'):Inv X pins σ (upd H' D (.lst ys)) {s' with heap:=h'} :=by
 have eQ:∀b o,s.heap.get? b=some o->b≠C:=fun b o e=>ZaE (Zaz (Zaq e) hC)
 have NT:∀b o,s.heap.get? b=some o->b≠D:=fun b o e=>ZaE (Zaz (Zaq e) hD)
 have zH:∀b o,H b=some o->b≠D:=fun b o e=>ZaE (Zaz (I.ak.lt e) hD)
 have fC:H' C=none:=J.free
 have u:Un (aQ X.stack) fp H H' s.heap s'.heap:=J.base
 refine I.Bn (s':= {s' with heap:=h'}) (ch:=fp) J.os ⟨fun b o e nb hb hx=> (sb.2 b (eQ b o e)).trans (u.keep b o e nb hb hx),fun b o e nb hb hx=> ?_,fun b o e nb hx=>by rw[Zh (NT b o e)];exact u.free b o e nb hx,fun b o e hx=> ?_,
  fun b xs e=>by rw[Zh (zH b _ e)];exact u.dM b xs e,fun b o xs e=>by rw[Zh (zH b _ e)];exact u.dJ b o xs e,fun b ps e=>by rw[Zh (zH b _ e)];exact u.dD b ps e⟩ (fun b v e=> ?_) J.bare fun b hb=> ?_
 ·obtain⟨sl,q⟩:=u.slot b o e nb hb hx
  exact⟨sl,(sb.2 b (eQ b o e)).trans q⟩
 ·obtain⟨o',q⟩:=u.there b o e hx
  exact⟨o',(sb.2 b (eQ b o e)).trans q⟩
 ·by_cases hb:b=D
  ·subst hb
   rw[Ze]at e
   cases e
   obtain⟨z,aa,k,r,q⟩:=a
   exact⟨z,aa,k,r,(sb.2 b km).trans q⟩
  ·rw[Zh hb]at e
   refine(J.ak b v e).cE (fun c w hc q=> (sb.2 c ?_).trans q) (fun c q=>by rw[Zh (Zg q n)];exact q) fun c xs q=>by rw[Zh (Zg q n)];exact q
   rcases hc with z |z
   ·rw[z];exact Zg e fC
   ·exact Zg z fC
 ·obtain⟨f0,f1,f2,f3,f4,f5⟩:=hf b hb
  exact⟨f3,f1,f4,f5⟩
theorem Jz {elt tg iter:Expr}{ifs:List Expr}{rest:List Comprehension}{scope:Scope}{pos:Pos}{N':List Str}{ts:Nat}{aY:List Nat}{it:Addr}{fp:List Addr}{tn:Nat->Heap->Prop}{J:It}{g:TG}{tt:TT}{ti:TC}{Q:List V->Hp->Prop}{E:Value->Shared->Prop}{RR:Value->Addr->Result->Shared->Prop}
  (S:Cn X N' ts aY scope) (hc:X.calm=true) (I:Inv X pins σ H s) (T:Turn X.prog X.w X.K tg J fp it tn) (st:tn 0 s.heap) (hf:∀b∈fp,bE X pins H b)
  (h2:∀g',(Comprehension.mk tg iter ifs 0::rest)[0+1]? =some g'->g'.is_async=0)
  (pg:∀C,PG (aR X N' scope C s H fp) tg g) (pt:∀C,kF (aR X N' scope C s H fp) ifs tt)
  (pi:∀C D,kG (aR X N' scope C s H fp) D (inner elt (⟨tg,iter,ifs,0⟩::rest) scope pos 0 (.ref D) (aR X N' scope C s H fp).env) ti)
  (h:gR g tt ti J [] (i7 ts aY σ) H fun ys _ H2=>Q ys H2)
  (QX:∀C D s' ao H' ys fl,s.heap.objs.size<=C->s.heap.objs.size<=D->D≠C->Inv (aR X N' scope C s H fp) [] ao H' s'->H' D=none->AccAt s'.heap D ys->Q ys H'->RR (.ref D) C (.ok fl) s'):
  wpAny (model X.prog X.w) X.A (newList []) (fun acc LR=>wpAny (model X.prog X.w) X.A (newFunctionEnv scope X.env.globals (cJ scope X.env) [] X.env.qual none .none (some X.env)) (fun nW LQ=>
   codeAny (model X.prog X.w) X.A (.compStart (.ListComp elt (⟨tg,iter,ifs,0⟩::rest) scope pos) 0 (.ref it) acc {nW with scope:=relabel scope X.env}) (RR acc nW.locals) LQ) E LR) E s:=by
 refine ZbR (PySem.wpAny_newFunctionEnv S.gp (by intro y hy;simp at hy) (fun fS nj lL=> ?_) S.kind)
 dsimp only at nj lL |-
 generalize kj:s.heap.push {cls:=.type "list",dict:=none,data:=.seq ([]:List Value).toArray} =h0 at nj lL |-
 have hC:h0.objs.size=s.heap.objs.size+1:=by rw[<-kj,Zdp]
 have km:s.heap.objs.size≠h0.objs.size:=by rw[hC];exact ZaE (Nat.lt_succ_self _)
 have nJ:s.heap.objs.size<=h0.objs.size:=by rw[hC];exact Nat.le_succ _
 have eQ:∀b o,s.heap.get? b=some o->b≠h0.objs.size:=fun b o e=>ZaE (Zaz (Zaq e) nJ)
 have old:∀b o,s.heap.get? b=some o->fS.get? b=some o:=fun b o e=>lL.extBut b o (eQ b o e) (Zab _ (kj▸Zab _ e))
 have fX:fS.get? s.heap.objs.size=some {cls:=.type "list",data:=.seq ([]:List Value).toArray 0} :=lL.extBut _ _ km (Zab _ (kj▸Zat _ rfl))
 have ho:∀b∈fp,∃o,s.heap.get? b=some o:=fun b hb=>let ⟨o,e,_⟩:=T.obj _ _ st b hb;⟨o,e⟩
 have I1:Inv (aR X N' scope h0.objs.size s H fp) [] (i7 ts aY σ) H {s with heap:=fS,toks:=s.toks+([]:List (Str×Value)).length} :=Iq S I hf ho nJ nj old
 have fresh:=I.ak.fresh (a:=s.heap.objs.size) (Zae _)
 have A8:∀b∈fp,bE (aR X N' scope h0.objs.size s H fp) [] H b:=fun b hb=>by
  obtain⟨f0,f1,f2,f3,f4,f5⟩:=hf b hb
  refine⟨f0,(I1.ok.kA b hb).1,I1.ok.kr b hb,.inl hb,(I1.ok.kA b hb).2,fun p hp=>absurd (show p∈([]:List (Addr×Obj)) from hp) (by simp)⟩
 have fD:bE (aR X N' scope h0.objs.size s H fp) [] H s.heap.objs.size:=by
  refine⟨fresh,km,fun z=> ?_,.inr (Zae _),fun x c e z=> ?_,fun p hp=>absurd (show p∈([]:List (Addr×Obj)) from hp) (by simp)⟩
  ·obtain⟨_,o,cC,_⟩:=I.stack.mem z
   exact absurd (Zaq cC) (ZbI _)
  ·obtain⟨e1,e2⟩:=Yl e
   obtain⟨c',cm⟩:=I.ok.has x (S.free _ e2 rfl)
   obtain⟨v,q⟩:=I.cell x c' cm
   rw[cm]at e1
   have e3:c=c':=e1
   have l:=q.lt
   rw[<-e3,z]at l
   exact absurd l (ZbI _)
 have aD:AccAt fS s.heap.objs.size []:=⟨ZaV _,[],0,.nil,fX⟩
 have Q7:s.heap.objs.size∉fp:=fun z=>by obtain⟨o,e⟩:=ho _ z;exact absurd (Zaq e) (ZbI _)
 have aw:tn 0 fS:=T.keep _ _ _ st fun b _ o e=>old b o e
 have run:=Jy (elt:=elt) (gens:=⟨tg,iter,ifs,0⟩::rest) (scope:=scope) (pos:=pos) (d:=0) rfl T aw
  (UN (Y:=aR X N' scope h0.objs.size s H fp) (D:=s.heap.objs.size) (Q:=fun ys _ H2=>Q ys H2) (elt:=elt) (gens:=⟨tg,iter,ifs,0⟩::rest) (scope:=scope) (pos:=pos) (d:=0) rfl hc rfl T A8 aw Q7 h2 (pg _) (pt _) (pi _ _) I1 fD aD h)
 refine Zec run fun r s' hr=> ?_
 cases r with
 |error e=>exact hr.elim
 |ok fl=>
  obtain⟨bV,ao,H',q1,q2,q3,q4⟩:=hr
  exact QX _ _ s' ao H' bV fl nJ (Zae _) km q1 q2.1 q3 q4
end
def CG (wi:TI) (ts:Nat) (aY:List Nat) (g:TG) (tt:TT) (ti:TC):TE:=fun σ H Q=>wi σ H fun J H1=>gR g tt ti J [] (i7 ts aY σ) H1 fun ys _ H2=> ∀p,H2 p=none->Q (.ref p) (upd H2 p (.lst ys))
section
variable {X:Cx}{elt tg iter:Expr}{ifs:List Expr}{rest:List Comprehension}{scope:Scope}{pos:Pos}{wi:TI}{g:TG}{tt:TT}{ti:TC}
theorem Ye (N':List Str) (ts:Nat) (aY:List Nat) (hi:PI X tg iter wi) (pg:∀C s H fp,PG (aR X N' scope C s H fp) tg g) (pt:∀C s H fp,kF (aR X N' scope C s H fp) ifs tt)
  (pi:∀C s H fp D,kG (aR X N' scope C s H fp) D (inner elt (⟨tg,iter,ifs,0⟩::rest) scope pos 0 (.ref D) (aR X N' scope C s H fp).env) ti)
  (ok:qk X.env.scope scope X.N N' ts aY=true:=by rfl) (hc:X.calm=true:=by rfl) (h2:∀g',(Comprehension.mk tg iter ifs 0::rest)[0+1]? =some g'->g'.is_async=0:=by(intro g' h;cases h<;>rfl))
  (hs:∀x,foldedSetIterable iter X.env x=pure x:=by intro _;rfl):
  PE X (.ListComp elt (⟨tg,iter,ifs,0⟩::rest) scope pos) (CG wi ts aY g tt ti):=by
 intro pins s σ H Q I h
 have S:=JT ok
 rw[PySem.eval_ListComp]
 refine ZeD (use:=none) rfl hs (Yc fun y hy e=>I.ok.has _ (S.free y hy e)) S.kind S.names (ar (hi pins s σ H _ I h) fun v s1 h1=>ar h1 fun iK s2 ik=> ?_)
 obtain⟨it,fp,tn,J,H2,e,I2,T,au,f2,q2⟩:=ik
 subst e
 refine Jz (RR:=fun acc C=>compPost (model X.prog X.w) X.A X.xe none _ acc C) S hc I2 T au f2 h2 (fun C=>pg C _ _ _) (fun C=>pt C _ _ _) (fun C D=>pi C _ _ _ D) q2 ?_
 intro C D s' ao H' ys fl hC hD km J' n a q
 obtain⟨m,hn,_⟩:=J'.loc
 exact⟨m,hn,fun h' sb=> ⟨.ref D,_,WY I2 f2 hC hD km J' n a sb,rfl,q D n⟩⟩
theorem Jc (N':List Str) (ts:Nat) (aY:List Nat) {i:Nat}{x:Str}{px CS:Pos}(hN:X.N.Nodup) (sr:X.N[i]? =some x) (hx:Loc X.env.scope x) (hi:PI X tg iter wi) (pg:∀C s H fp,PG (aR X N' scope C s H fp) tg g) (pt:∀C s H fp,kF (aR X N' scope C s H fp) ifs tt)
  (pi:∀C s H fp D,kG (aR X N' scope C s H fp) D (inner elt (⟨tg,iter,ifs,0⟩::rest) scope pos 0 (.ref D) (aR X N' scope C s H fp).env) ti)
  (Ad:swapsWith (.ListComp elt (⟨tg,iter,ifs,0⟩::rest) scope pos) (some (.Name x px)) CS.line X.env=pure true:=by rfl)
  (ok:qk X.env.scope scope X.N N' ts aY=true:=by rfl) (hc:X.calm=true:=by rfl) (h2:∀g',(Comprehension.mk tg iter ifs 0::rest)[0+1]? =some g'->g'.is_async=0:=by(intro g' h;cases h<;>rfl))
  (hs:∀x,foldedSetIterable iter X.env x=pure x:=by intro _;rfl) (eW:X.fn x=true∨X.env.scope.names.lookup x=some .local:=by first |exact .inl rfl |exact .inr rfl |assumption):
  PS X (.Assign [.Name x px] (.ListComp elt (⟨tg,iter,ifs,0⟩::rest) scope pos) CS) (uy (CG wi ts aY g tt ti) (bP i)):=by
 intro pins s σ H D I h
 have S:=JT ok
 rw[exec_Assign_Name_used _ _ _ _ Ad]
 refine Zaa (ZeN (Zaa ?_))
 show wpAny _ X.A (do let _ <-comprehension (.ListComp elt (⟨tg,iter,ifs,0⟩::rest) scope pos) scope X.env _ (newList []) false (eval iter X.env) (some (assign (.Name x px) X.env))) _ _ s
 refine Zaa (Zbs (ZeD (use:=some (assign (.Name x px) X.env)) (Q:=fun _ s'=> ∃ao H',Inv X pins ao H' s'/\D.nx ao H') rfl hs (Yc fun y hy e=>I.ok.has _ (S.free y hy e)) S.kind S.names
  (ar (hi pins s σ H _ I h) fun v s1 h1=>ar h1 fun iK s2 ik=> ?_)) (fun _ s' hq=>Zaf (Zaf hq)) fun _ _ e=>e)
 obtain⟨it,fp,tn,J,H2,e,I2,T,au,f2,q2⟩:=ik
 subst e
 refine Jz (RR:=fun acc C=>compPost (model X.prog X.w) X.A X.xe (some (assign (.Name x px) X.env)) _ acc C) S hc I2 T au f2 h2 (fun C=>pg C _ _ _) (fun C=>pt C _ _ _) (fun C D=>pi C _ _ _ D) q2 ?_
 intro C B s' ao H' ys fl hC hB FE J' n a q
 obtain⟨m,hn,_⟩:=J'.loc
 have IX:Inv X pins σ (upd H' B (.lst ys)) s':=WY I2 f2 hC hB FE J' n a (Heap.SameBut.refl C s'.heap)
 have fC:=I2.lU (H':=upd H' B (.lst ys)) (b:=C) hC (by rw[Zh (ZdS FE)];exact J'.free)
 obtain⟨f0,f1,FW,f3,f4,f5⟩:=fC
 show wpAny _ X.A (assign (.Name x px) X.env (.ref B)) _ _ s'
 refine wpAny_assign_Name (Us (v:=.ref B) (u:=.ref B) IX hN sr hx rfl (fun fh I'' ⟨c,sb,js⟩=> ?_) eW)
 have Q9:C≠c:=by
  rcases js with z |z
  ·rw[z];exact f1
  ·exact(f4 x c z).symm
 refine⟨m,Heap.Ns.sameBut hn sb Q9,fun h' Mj=> ?_⟩
 refine⟨σ.set i (some (.ref B)),_,I''.turned (t':=fh.toks) (it:=C) (fun b o hb e=> (Mj.2 b hb).trans e) f0 f1 f3 f4 f5,q B n⟩
end
section
variable {X:Cx}
theorem ZC {c:String} :dA X (.builtin "isinstance") (fun xs H Q=> ∃x t b,xs=[x,.ty c]/\fb X.K H x t/\PySem.W.kitOne X.K t (.type c)=some b/\Q (.bl b) H):=by
 intro pins s σ H xs us Q I r h
 obtain⟨x,t,b,rfl,ty,e,q⟩:=h
 obtain⟨u,v,rfl,ru,rv⟩:=vals2 r
 cases rv
 exact ZcX I ru ty e fun tk=> ⟨.bl b,H,I.tok tk,rfl,q⟩
theorem JY (hc:X.calm=true:=by rfl):dA X (.builtin "all") (fun xs H Q=> ∃(p:Addr) (bs:List Bool),xs=[.ref p]/\ai X.K H p (bs.map V.bl)/\Q (.bl (bs.all id)) H):=by
 intro pins s σ H xs us Q I r h
 obtain⟨p,bs,rfl,hp,q⟩:=h
 obtain⟨u,rfl,ru⟩:=Zgc r
 cases ru
 obtain⟨aa,rv,pl,hz⟩:=I.list hp
 have hb:∀(i:Nat) (v:Value),aa.toArray[i]? =some v->v=.bool (bs.getD i false):=fun i v e=>by
  have e':aa[i]? =some v:=by simpa using e
  have hl:=rv.length
  have hi:i<aa.length:=(Zad.mp e').1
  have ba:i< (bs.map V.bl).length:=.o
  obtain⟨u,hu,ru⟩:=rv.get (i:=i) (x:=(bs.map V.bl)[i]) (by simp)
  rw[e']at hu
  cases hu
  rw[List.getElem_map]at ru
  have sy:i<bs.length:=by simpa using ba
  have e2:bs.getD i false=bs[i]:=by simp[ZbL,sy]
  rw[e2]
  exact ru
 refine call_all_walk (Ze8 pl.isList ?_)
 have cP:p≠s.heap.objs.size:=ZaE (by obtain⟨o,n,e,_⟩:=pl;exact Zaq e)
 refine⟨s.heap.objs.size,_,_,_,_,_,fun i=>bs.getD i false,rfl,PySem.Walks.list (A:=X.A.in1) (show X.A.in1.handled=none from I.ok.hd hc) s.heap.objs.size p cP aa.toArray,⟨⟨_,Zat _ rfl,rfl,rfl⟩,pl.isList.at fun o e=>Zab _ e⟩,fun i v s' Q' E' hP hQ=> ?_,fun h' tk hk=> ?_⟩
 ·rw[hb i v hP]
  exact Zdr hQ
 ·have e:(List.range aa.toArray.size).all (fun i=>bs.getD i false)=bs.all id:=by
   have hl:aa.toArray.size=bs.length:=by have:=rv.length;rw[Zar]at this;simpa using this.symm
   rw[hl,Zek,ZaZ,ZaZ]
   constructor
   ·intro h b hb
    obtain⟨i,hi,e⟩:=List.mem_iff_getElem.mp hb
    have:=h i (Zbr.mpr hi)
    rw[ZbL,Zag hi,ZeP,e]at this
    exact this
   ·intro h i hi
    have ba:=Zbr.mp hi
    rw[ZbL,Zag ba,ZeP]
    exact h _ (ZeR ba)
  rw[e]
  refine⟨.bl (bs.all id),H,I.kept fun b o eb=>hk b o ?_ (Zab _ eb),rfl,q⟩
  intro z
  have e1:b=s.heap.objs.size:=by simpa using z
  exact absurd (Zaq eb) (by rw[e1];exact ZbI _)
def oR (ns:List Int):Nat:=(PyProof.Rows.firstMet (fun i=>ns.getD i 0) ns.length).length
theorem Ui (hc:X.calm=true:=by rfl):dA X (.type "set") (fun xs H Q=> ∃(p:Addr) (ns:List Int),xs=[.ref p]/\ai X.K H p (ns.map V.int)/\ns.length<=1000/\∀q S,H q=none->Q (.ref q) (upd H q (.set S (oR ns)))):=by
 intro pins s σ H xs us Q I r h
 obtain⟨p,ns,rfl,hp,hn,q⟩:=h
 obtain⟨u,rfl,ru⟩:=Zgc r
 cases ru
 obtain⟨aa,rv,pl,hz⟩:=I.list hp
 have hl:=rv.length
 rw[Zar]at hl
 refine call_set_list (I.ok.hd hc) pl.isList (Jx rv) (by rw[Zaj,<-hl];unfold scanBound;omega) fun h' tk hs hk=> ?_
 have e:aa.toArray.size=ns.length:=by simp[hl]
 rw[e]at hs
 exact⟨.ref s.heap.objs.size,_,I.laid (a:=s.heap.objs.size) (o:=.set _ (oR ns)) (fun b o eb=>hk b o (Zaq eb) eb) (Zae _) hs,rfl,q _ _ I.fresh⟩
theorem Uk:dA X (.builtin "len") (fun xs H Q=> ∃p S n,xs=[.ref p]/\H p=some (.set S n)/\Q (.int n) H):=by
 intro pins s σ H xs us Q I r h
 obtain⟨p,S,n,rfl,hp,q⟩:=h
 obtain⟨u,rfl,ru⟩:=Zgc r
 cases ru
 obtain⟨o,es,ep,t,h1,h2,h3,h4,h5,h6,h7,h8⟩:=(show bu X.prog X.w H s.heap p (.set S n) from I.ak p _ hp)
 refine call_len_set h1 h2 h3 h7 (by have:scanBound=4096:=rfl;omega) ⟨.int n,H,I.tok _,⟨_,by rw[h8]⟩,q⟩
theorem Wi:dA X (.type "range") (fun xs H Q=> ∃j:Int,xs=[.int j]/\∀q,H q=none->Q (.ref q) (upd H q (.fj 0 j))):=by
 intro pins s σ H xs us Q I r h
 obtain⟨j,rfl,q⟩:=h
 obtain⟨u,rfl,ru⟩:=Zgc r
 obtain⟨t,rfl⟩:=ru
 refine call_range_1 ?_
 exact⟨.ref s.heap.objs.size,_,I.laid (a:=s.heap.objs.size) (o:=.fj 0 j) (fun b o eb=>Zab _ eb) (Zae _) ⟨_,_,_,Zat _ rfl⟩,rfl,q _ I.fresh⟩
def upTo (n:Nat):List V:=(List.range n).map fun(i:Nat)=>V.int (i:Int)
theorem JO {acc:Array Value}{n:Nat}(h:ItemsOf (fun i v=> ∃t,v=.int (0+i*1) t) acc n):Vals (upTo n) acc.toList:=by
 obtain⟨h1,h2⟩:=h
 obtain⟨l⟩:=acc
 have h1:l.length=n:=h1
 have h2:∀(j:Nat) (v:Value),l[j]? =some v->∃t,v=.int (j:Int) t:=fun j v e=>by
  obtain⟨t,q⟩:=h2 j v (by simpa using e)
  exact⟨t,by rw[q];congr 1;omega⟩
 have key:∀(l:List Value) (k:Nat),(∀(j:Nat) (v:Value),l[j]? =some v->∃t,v=.int ((k+j:Nat):Int) t)->Vals ((List.range' k l.length).map fun(i:Nat)=>V.int (i:Int)) l:=by
  intro l
  induction l with
  |nil=>intro k _;exact .nil
  |cons v l ih=>
   intro k h
   rw[Zbz,List.range'_succ,ZbJ]
   obtain⟨t,e⟩:=h 0 v rfl
   refine .cons ⟨t,by rw[e];simp⟩ (ih (k+1) fun j w q=> ?_)
   obtain⟨t',e'⟩:=h (j+1) w (by simpa using q)
   exact⟨t',by rw[e'];congr 1;omega⟩
 have:=key l 0 (fun j v e=>by simpa using h2 j v e)
 unfold upTo
 rw[<-h1,List.range_eq_range']
 exact this
theorem Uj (hc:X.calm=true:=by rfl):dA X (.type "list") (fun xs H Q=> ∃(p:Addr) (j:Int),xs=[.ref p]/\H p=some (.fj 0 j)/\0<=j/\j<=1000/\∀q,H q=none->Q (.ref q) (upd H q (.lst (upTo j.toNat)))):=by
 intro pins s σ H xs us Q I r h
 obtain⟨p,j,rfl,hp,h0,h1,q⟩:=h
 obtain⟨u,rfl,ru⟩:=Zgc r
 cases ru
 obtain⟨t,u,v,e⟩:=(show bu X.prog X.w H s.heap p (.fj 0 j) from I.ak p _ hp)
 refine call_list_range (n:=j.toNat) (I.ok.hd hc) e (small_one .o .o .o .o) (by rw[PySem.rangeSize_one];split<;>omega) .o fun h' tk acc c' hk hS fX=> ?_
 have r2:=JO fX
 have hlen:(upTo j.toNat).length<=sizeLine:=by unfold upTo;rw[Zar,Zcb,ZaH];omega
 exact⟨.ref s.heap.objs.size,_,I.laid (a:=s.heap.objs.size) (o:=.lst (upTo j.toNat)) hk (Zae _) ⟨hlen,acc.toList,c',r2,by simpa using hS⟩,rfl,q _ I.fresh⟩
theorem Kd:bg X (binaryOp .Add) (fun x y H Q=> ∃a b ys,x=.ref a/\y=.ref b/\aj X.K H a []/\aj X.K H b ys/\Q (.ref b) H):=by
 intro pins s σ H x y u v Q I rx ry h
 obtain⟨a,b,ys,rfl,rfl,ha,hb,q⟩:=h
 cases rx
 cases ry
 obtain⟨aa,rv,pl,hz⟩:=I.tuple ha
 obtain⟨hV,fq,df,cY⟩:=I.tuple hb
 cases rv
 obtain⟨⟨cls,dd,data,sl⟩,ho,cZ,n,hd⟩:=id pl
 obtain⟨⟨Gz,l9,data2,gW⟩,gE,iT,n2,hd2⟩:=id df
 simp only at cZ hd iT hd2
 subst cZ hd iT hd2
 exact concat_meets ⟨_,ho,rfl⟩ ⟨_,gE,rfl⟩ PySem.noFill_tuple_add PySem.seq_tuple_add PySem.F.slot_tuple_add PySem.F.entry_tuple_add (PySem.F.args_tuple_add_2 _ _)
   (tuple_addW0 a b #[] hV.toArray n n2 dd l9 sl gW rfl) ⟨ho,gE,⟨.ref b,H,I,rfl,q⟩⟩
end
theorem WH {K:ZhQ}{a:Addr}{xs:List V}{g:TG}{tt:TT}{ti:TC}{ys:List V}{σ:St}{H:Hp}{Q:List V->St->Hp->Prop}(Pv:Nat->List V->St->Hp->Prop) (h0:Pv 0 ys σ H)
  (hl:∀i ys σ H,i<=xs.length->Pv i ys σ H->aj K H a xs)
  (hs:∀i x ys σ H,xs[i]? =some x->Pv i ys σ H->g x σ H fun aT H2=>tt aT H2 fun b H3=>if b=true then ti ys aT H3 (Pv (i+1)) else Pv (i+1) ys aT H3)
  (hd:∀ys σ H,Pv xs.length ys σ H->Q ys σ H):gR g tt ti (B8 K a) ys σ H Q:=by
 refine⟨fun i m ys σ H=>m=xs.length - i/\i<=xs.length/\Pv i ys σ H,⟨xs.length,by simp,ZaV _,h0⟩,?_⟩
 rintro i m ys σ H ⟨rfl,hi,p⟩
 have q:=hl i ys σ H hi p
 by_cases az:i<xs.length
 ·refine .inr ⟨⟨xs,xs[i],q,by simp[az]⟩,Pv (i+1),fun bV ao H' p'=> ⟨xs.length - (i+1),.o,rfl,az,p'⟩,fun x H' y=> ?_⟩
  obtain⟨e,y⟩:=y
  subst e
  exact hs i x ys σ _ (y xs q) p
 ·have e:i=xs.length:=.o
  subst e
  exact .inl ⟨⟨xs,q,Zae _⟩,hd ys σ H p⟩
theorem Yg {K:ZhQ}{a:Addr}{xs:List V}{g:TG}{tt:TT}{ti:TC}{ys:List V}{σ:St}{H:Hp}{Q:List V->St->Hp->Prop}(Pv:Nat->List V->St->Hp->Prop) (h0:Pv 0 ys σ H)
  (hl:∀i ys σ H,i<=xs.length->Pv i ys σ H->ai K H a xs)
  (hs:∀i x ys σ H,xs[i]? =some x->Pv i ys σ H->g x σ H fun aT H2=>tt aT H2 fun b H3=>if b=true then ti ys aT H3 (Pv (i+1)) else Pv (i+1) ys aT H3)
  (hd:∀ys σ H,Pv xs.length ys σ H->Q ys σ H):gR g tt ti (Ca K a) ys σ H Q:=by
 refine⟨fun i m ys σ H=>m=xs.length - i/\i<=xs.length/\Pv i ys σ H,⟨xs.length,by simp,ZaV _,h0⟩,?_⟩
 rintro i m ys σ H ⟨rfl,hi,p⟩
 have q:=hl i ys σ H hi p
 by_cases az:i<xs.length
 ·refine .inr ⟨⟨xs,xs[i],q,by simp[az]⟩,Pv (i+1),fun bV ao H' p'=> ⟨xs.length - (i+1),.o,rfl,az,p'⟩,fun x H' y=> ?_⟩
  obtain⟨e,y⟩:=y
  subst e
  exact hs i x ys σ _ (y xs q) p
 ·have e:i=xs.length:=.o
  subst e
  exact .inl ⟨⟨xs,q,Zae _⟩,hd ys σ H p⟩
theorem YC {lo:Int}{n:Nat}{g:TG}{tt:TT}{ti:TC}{ys:List V}{σ:St}{H:Hp}{Q:List V->St->Hp->Prop}(Pv:Nat->List V->St->Hp->Prop) (h0:Pv 0 ys σ H)
  (hs:∀i ys σ H,i<n->Pv i ys σ H->g (.int (lo+i)) σ H fun aT H2=>tt aT H2 fun b H3=>if b=true then ti ys aT H3 (Pv (i+1)) else Pv (i+1) ys aT H3)
  (hd:∀ys σ H,Pv n ys σ H->Q ys σ H):gR g tt ti (oq lo n) ys σ H Q:=by
 refine⟨fun i m ys σ H=>m=n - i/\i<=n/\Pv i ys σ H,⟨n,by simp,ZaV _,h0⟩,?_⟩
 rintro i m ys σ H ⟨rfl,hi,p⟩
 by_cases az:i<n
 ·refine .inr ⟨az,Pv (i+1),fun bV ao H' p'=> ⟨n - (i+1),.o,rfl,az,p'⟩,fun x H' y=> ?_⟩
  obtain⟨e,y⟩:=y
  subst e y
  exact hs i ys σ _ az p
 ·have e:i=n:=.o
  subst e
  exact .inl ⟨Zae _,hd ys σ H p⟩
theorem pb {X:Cx}{N':List Str}{scope:Scope}{C:Addr}{s:Shared}{H:Hp}{fp:List Addr}(i:Nat) {x:Str}{pos:Pos}(hN:N'.Nodup:=by decide+kernel) (hi:N'[i]? =some x:=by rfl) (hx:(relabel scope X.env).names.lookup x=some .local:=by rfl):
  PG (aR X N' scope C s H fp) (.Name x pos) (bP i):=ZD (X:=aR X N' scope C s H fp) hN hi (.inl hx) (.inr hx)
def Def (P:Program) (w:World) (K:ZhQ) (mg:Str->Option Value) (base:Heap) (k:Nat) (x:Str) (ps:List Str) (sp:Sp):Prop:=
 ∃f fd,aA P w K mg base aE k f fd ps sp/\mg x=some (.ref f)/\PySem.W.keepIn K (.ref f)=true/\Binds K fd ps []
section
variable {X:Cx}{k:Nat}{x:Str}{ps:List Str}{sp:Sp}{e:Expr}{es:List Expr}{t:TA}{p pos:Pos}
theorem Zf (d:Def X.prog X.w X.K X.mg X.base k x ps sp) (hr:bK k X.A) (ha:PA X (e::es) t) (hg:Gl X x:=by rfl) (gG:(x==("__debug__" :Str))=false:=by decide)
  (he:starEach (e::es) X.env=(false,eval e X.env)::starEach es X.env:=by rfl) (dX:(backTo pos (starEach es X.env)).any (·.1)=false:=by rfl):
  PE X (.Call (.Name x p) (e::es) [] pos) (uv sp [] E0 t):=by
 obtain⟨f,fd,F,hm,hk,hb⟩:=d
 exact Yt F hr hg hm hk hb .nil Na ha gG he dX
end
def bJ (K:ZhQ) (H:Hp) (x:V):Prop:=∃T,fb K H x (.type T)
def whole:V->Bool
 | .int _=>true
 |_=>false
def bh:V->Int->Int->Bool
 | .int i,a,b=>decide (a<=i)&&decide (i<=b)
 |_,_,_=>false
def xR:Option HO->Option (List V)
 |some (.tup xs)=>some xs
 |_=>none
def bj (H:Hp):V->Option (List V)
 | .ref a=>xR (H a)
 |_=>none
theorem ZA {H:Hp}{a:Addr} :bj H (.ref a)=xR (H a):=rfl
theorem Zl {H:Hp}{a:Addr}{xs:List V}(h:H a=some (.tup xs)):bj H (.ref a)=some xs:=by rw[ZA,h];rfl
theorem Zcv {o:Option HO}{xs:List V}(h:xR o=some xs):o=some (.tup xs):=by
 cases o with
 |none=>cases h
 |some o=>cases o<;>first |(cases h;rfl) |cases h
theorem Zu {H:Hp}{x:V}{xs:List V}(h:bj H x=some xs):∃a,x=.ref a/\H a=some (.tup xs):=by
 cases x with
 |ref a=>exact⟨a,rfl,Zcv h⟩
 |_=>cases h
theorem ag.bj {H H':Hp}(s:ag H H') {x:V}{xs:List V}(h:L2.bj H x=some xs):L2.bj H' x=some xs:=by
 obtain⟨a,rfl,q⟩:=Zu h
 exact Zl (s _ _ q)
theorem ag.g8 {K:ZhQ}{H H':Hp}(s:ag H H') {x:V}(h:bJ K H x):bJ K H' x:=by
 obtain⟨T,t⟩:=h
 cases t with
 |ah=>exact⟨_,.ah⟩
 |bl y=>exact⟨_,.bl y⟩
 |int i=>exact⟨_,.int i⟩
 |str y=>exact⟨_,.str y⟩
 |gH y=>exact⟨_,.gH y⟩
 |lst e=>exact⟨_,.lst (s _ _ e)⟩
 |cb e=>exact⟨_,.cb (s _ _ e)⟩
 |tup e=>exact⟨_,.tup (s _ _ e)⟩
 |dK e=>exact⟨_,.dK (s _ _ e)⟩
 |dT e=>exact⟨_,.dT (s _ _ e)⟩
def zW:V->Bool
 | .int _=>true
 | .bl _=>true
 |_=>false
def Ef:V->Bool
 | .bl _=>true
 |_=>false
theorem XJ {K:ZhQ}{H:Hp}{x:V}{T:String}(t:fb K H x (.type T)):PySem.W.kitOne K (.type T) (.type "int")=some (zW x):=by cases t<;>rfl
theorem Zd9 {K:ZhQ}{H:Hp}{x:V}{T:String}(t:fb K H x (.type T)):PySem.W.kitOne K (.type T) (.type "bool")=some (Ef x):=by cases t<;>rfl
theorem ZcU {K:ZhQ}{H:Hp}{x:V}{T:String}(t:fb K H x (.type T)):PySem.W.kitOne K (.type T) (.type "tuple")=some (bj H x).isSome:=by
 cases t with
 |tup e=>rw[Zl e];rfl
 |lst e=>rw[ZA,e];rfl
 |cb e=>rw[ZA,e];rfl
 |dK e=>rw[ZA,e];rfl
 |dT e=>rw[ZA,e];rfl
 |_=>rfl
theorem ZaT (x:V):whole x=(zW x&& !Ef x):=by cases x<;>rfl
def av (p:Addr) (H H':Hp):Prop:=∀b o,H b=some o->b≠p->H' b=some o
theorem av.trans {p:Addr}{H H1 H2:Hp}(a:av p H H1) (b:av p H1 H2):av p H H2:=fun c o h n=>b c o (a c o h n) n
theorem ag.x {p:Addr}{H H1:Hp}(a:ag H H1):av p H H1:=fun c o h _=>a c o h
theorem av.upd {p:Addr}{H:Hp}{o:HO} :av p H (L2.upd H p o):=fun b u h n=>by rw[Zh n];exact h
theorem newX (H:Hp) (p:Addr) (o:HO):∃H',upd H p o=H'/\av p H H':=⟨_,rfl,av.upd⟩
theorem VM {X:Cx}(hu:X.A.units<cLine):bg X (compareOp .Eq) (fun x y H Q=> ∃(a b:Addr) (xs:List V),x=.ref a/\y=.ref b/\ai X.K H a xs/\ai X.K H b []/\Q (.bl xs.isEmpty) H):=by
 intro pins s σ H x y u v Q I rx ry h
 obtain⟨a,b,xs,rfl,rfl,ha,hb,q⟩:=h
 cases rx
 cases ry
 obtain⟨aa,rv,pl,hz⟩:=I.list ha
 obtain⟨hV,fq,df,cY⟩:=I.list hb
 cases fq
 cases rv with
 |nil=>exact SeqAt.eq_listAt (e:=fun _=>true) pl.isList df.isList rfl hu (fun j h1 h2=>absurd h2 (by simp)) ⟨.bl true,H,I,rfl,q⟩
 |cons r t=>exact SeqAt.eq_list_lengthsAt pl.isList df.isList (by simp) hu ⟨.bl false,H,I,rfl,q⟩
theorem VO {X:Cx}(hu:X.A.units<cLine):bg X (compareOp .NotEq) (fun x y H Q=> ∃(a b:Addr) (xs:List V),x=.ref a/\y=.ref b/\ai X.K H a xs/\ai X.K H b []/\Q (.bl (!xs.isEmpty)) H):=by
 intro pins s σ H x y u v Q I rx ry h
 obtain⟨a,b,xs,rfl,rfl,ha,hb,q⟩:=h
 cases rx
 cases ry
 obtain⟨aa,rv,pl,hz⟩:=I.list ha
 obtain⟨hV,fq,df,cY⟩:=I.list hb
 cases fq
 cases rv with
 |nil=>exact SeqAt.RcNeAt.lists (e:=fun _=>true) pl.isList df.isList rfl hu (fun j h1 h2=>absurd h2 (by simp)) _ _ _ _ ⟨.bl false,H,I,rfl,q⟩
 |cons r t=>exact SeqAt.RcNeAt.lists_lengths pl.isList df.isList (by simp) hu _ _ _ _ ⟨.bl true,H,I,rfl,q⟩
section
variable {X:Cx}{pins:List (Addr×Obj)}{σ:St}{H:Hp}{s:Shared}{fp:List Addr}{h':Heap}{tk:Nat}
theorem Wq (hf:∀b∈fp,bE X pins H b) (b:Addr) (o:HO) (q:H b=some o):b∉fp:=fun hm=>by
 rw[(hf b hm).1]at q;cases q
theorem Ws (I:Inv X pins σ H s) (hf:∀b∈fp,bE X pins H b) (hk:∀b o,b∉fp->s.heap.get? b=some o->h'.get? b=some o):Inv X pins σ H {s with heap:=h',toks:=tk} :=by
 refine I.call (g':=s.gens) (d':=s.drawn) (t':=tk) (h':=h') (ch:=fp) ⟨fun b o q _ _ hx=>hk b o hx q,fun b o q _ _ hx=> ⟨o.slots,hk b o hx q⟩,fun b o q n hx=>n,fun b o q hx=> ⟨o,hk b o hx q⟩,fun b ys q=>q,fun b o u q=>q,fun b ps q=> ⟨#[],by rw[q];simp⟩⟩ (fun b o q=> ?_) I.bare fun b hb=> ?_
 ·refine(I.ak b o q).cE (fun c ob cm q'=>hk c ob ?_ q') (fun _ q'=>q') fun _ _ q'=>q'
  rcases cm with z' |z'
  ·rw[z'];exact Wq hf b o q
  ·exact Wq hf c _ z'
 ·obtain⟨f0,f1,f2,f3,f4,f5⟩:=hf b hb
  exact⟨f3,f1,f4,f5⟩
theorem JP {T:Addr}{x y:V}{u v:Value}(I:Inv X pins σ H s) (hf:∀b∈fp,bE X pins H b) (hk:∀b o,b∉fp->s.heap.get? b=some o->h'.get? b=some o) (cW:s.heap.objs.size<=T) (sR:h'.IsTuple T #[u,v]) (ru:RelV x u) (rv:RelV y v):
  Inv X pins σ (upd H T (.par [x,y])) {s with heap:=h',toks:=tk} :=by
 have QR:H T=none:=I.ak.fresh cW
 have neT:∀b o,s.heap.get? b=some o->b≠T:=fun b o q=>ZaE (Zaz (Zaq q) cW)
 have rE:∀b o,H b=some o->b≠T:=fun b o q=>Zg q QR
 refine I.call (g':=s.gens) (d':=s.drawn) (t':=tk) (h':=h') (ch:=fp) ⟨fun b o q _ _ hx=>hk b o hx q,fun b o q _ _ hx=> ⟨o.slots,hk b o hx q⟩,fun b o q n hx=>by rw[Zh (neT b o q)];exact n,fun b o q hx=> ⟨o,hk b o hx q⟩,
  fun b ys q=>by rw[Zh (rE b _ q)];exact q,fun b o u q=>by rw[Zh (rE b _ q)];exact q,fun b ps q=> ⟨#[],by rw[Zh (rE b _ q),q];simp⟩⟩ (fun b o q=> ?_) I.bare fun b hb=> ?_
 ·by_cases hb:b=T
  ·subst hb
   rw[Ze]at q
   cases q
   exact⟨aX,[u,v],.cons ru (.cons rv .nil),sR⟩
  ·rw[Zh hb]at q
   refine(I.ak b o q).cE (fun c ob cm q'=>hk c ob ?_ q') (fun c q'=>by rw[Zh (rE c _ q')];exact q') fun c ys q'=>by rw[Zh (rE c _ q')];exact q'
   rcases cm with z' |z'
   ·rw[z'];exact Wq hf b o q
   ·exact Wq hf c _ z'
 ·obtain⟨f0,f1,f2,f3,f4,f5⟩:=hf b hb
  exact⟨f3,f1,f4,f5⟩
end
section
variable {prog:Program}{w:World}{A:Around}{E:Value->Shared->Prop}{s:Shared}
theorem Zbg {j t:Addr}{i:Nat}{aa:Array Value}{x:Value}{Q:Value->Shared->Prop}(h1:s.heap.IsTupleIter j t i) (h2:s.heap.IsTuple t aa) (hx:aa[i]? =some x)
  (k:∀h',h'.IsTupleIter j t (i+1)->Heap.SameBut j s.heap h'->Q x {s with heap:=h'}):wpAny (model prog w) A (Builtin.SmallTypes.nextOf (.ref j)) Q E s:=by
 obtain⟨o,eo,co,dO⟩:=id h1
 obtain⟨ot,et,_,nt,dt⟩:=h2
 unfold Builtin.SmallTypes.nextOf
 refine Zaa (Zb8 (name:=Str.ofString "__next__") h1.typeIs Zen (Zdq Zen h1.typeIs PySem.F.entry_tuple_iterator_next ?_ (PySem.F.args_tuple_iterator_next_1 _)))
 show wpAny _ _ (field (.ref j) 0 >>=_) _ _ s
 refine Zaa (ZbQ eo dO (x:=.ref t) rfl ?_)
 show wpAny _ _ (if (Value.ref t==Value.none)=true then _ else _) _ _ s
 rw[ZaK (show ¬((Value.ref t==Value.none)=true) from Zaw)]
 show wpAny _ _ (field (.ref j) 1 >>=_) _ _ s
 refine Zaa (ZbQ eo dO (x:=.int i 0) rfl ?_)
 show wpAny _ _ (seqItems? (.ref t) >>=_) _ _ s
 refine Zaa (Zb7 et dt ?_)
 simp only[Zeg,hx]
 refine Zaa (Zfd eo dO (by simp) (Zaf ⟨x,rfl,Zaf (k _ ⟨_,Zdi _ eo (PySem.Obj.isFreed_of_fields (Zeu dO _)),(Obj.cls_mapFields ..).trans co,?_⟩ (Zdg ..))⟩))
 rw[Zeu dO]
 simp[rawInt]
theorem ZcJ {j t:Addr}{i:Nat}{aa:Array Value}{Q:Value->Shared->Prop}(hh:A.handled=none) (h1:s.heap.IsTupleIter j t i) (h2:s.heap.IsTuple t aa) (hx:aa[i]? =none)
  (k:∀h' e,Heap.ExtBut j s.heap h'->(∃o,h'.get? e=some o/\o.cls=.type "StopIteration")->E (.ref e) {s with heap:=h'}):wpAny (model prog w) A (Builtin.SmallTypes.nextOf (.ref j)) Q E s:=by
 obtain⟨o,eo,co,dO⟩:=id h1
 obtain⟨ot,et,_,nt,dt⟩:=h2
 unfold Builtin.SmallTypes.nextOf
 refine Zaa (Zb8 (name:=Str.ofString "__next__") h1.typeIs Zen (Zdq Zen h1.typeIs PySem.F.entry_tuple_iterator_next ?_ (PySem.F.args_tuple_iterator_next_1 _)))
 show wpAny _ _ (field (.ref j) 0 >>=_) _ _ s
 refine Zaa (ZbQ eo dO (x:=.ref t) rfl ?_)
 show wpAny _ _ (if (Value.ref t==Value.none)=true then _ else _) _ _ s
 rw[ZaK (show ¬((Value.ref t==Value.none)=true) from Zaw)]
 show wpAny _ _ (field (.ref j) 1 >>=_) _ _ s
 refine Zaa (ZbQ eo dO (x:=.int i 0) rfl ?_)
 show wpAny _ _ (seqItems? (.ref t) >>=_) _ _ s
 refine Zaa (Zb7 et dt ?_)
 simp only[Zeg,hx]
 refine Zaa (Zee (Zaa (Zfd eo dO (by simp) ?_)))
 show wpAny _ _ (newExc (.type "StopIteration") [] >>=_) _ _ _
 refine Zaa ?_
 simp only[newExc,newTuple]
 refine Zaa (ZbR ?_ (by size_fits))
 refine Zaa (m:=firstArgMember _ _) (PySem.wpAny_of_eq (a:=Value.none) (by first |rfl |(simp only[firstArgMember];rfl)) (ZbR ?_ (by size_fits)))
 simp only[raiseNew]
 refine Zaa (wpAny_handled ?_)
 first |rw[show A.in1.handled=none from hh] |rw[hh]
 exact Zaa (Zaf (PySem.wpAny_throw (k _ _ (((Zdg ..).extBut.push _).push _) ⟨_,Zat _ rfl,rfl⟩)))
end
theorem Gi {prog:Program}{w:World}{A:Around}(hh:A.handled=none) (j t:Addr) (cP:t≠j) (aa:Array Value):
  Draws prog w A j [j,t] aa.size (fun i v=>aa[i]? =some v) (fun i h=>h.IsTupleIter j t i/\h.IsTuple t aa) where
 live:=fun _ _ st=>let ⟨o,ho,_⟩:=st.1;⟨o,ho⟩
 frame:=fun _ _ _ st hk=> ⟨st.1.at fun o e=>hk j (by simp) o e,st.2.at fun o e=>hk t (by simp) o e⟩
 item:=fun i s Q E hi st hQ=>Zbg st.1 st.2 (x:=aa[i]) (by simp[hi]) fun h' a b=>hQ _ h' s.toks (by simp[hi]) ⟨a,st.2.extBut b.extBut cP⟩ b
 done:=fun s Q E st hE=>ZcJ hh st.1 st.2 (by simp) hE
section
variable {prog:Program}{w:World}{A:Around}{E:Value->Shared->Prop}{s:Shared}
theorem Zc5 (l:Addr) (aa:Array Value) (n:Nat) (i6:Option Addr) (sl:Array (Option Value)):
  Meets (Builtin.«enumerate.__new__» ⟨[.type "enumerate",.ref l],[]⟩) (fun _ R s=>s.heap.get? l=some {cls:=.type "tuple",dict:=i6,data:=.seq aa n,slots:=sl}/\
   R (.ok (.ret (.ref (s.heap.push {cls:=.type "tuple_iterator",data:=.fields #[.ref l,.int 0 0]}).objs.size)))
    {s with heap:=(s.heap.push {cls:=.type "tuple_iterator",data:=.fields #[.ref l,.int 0 0]}).push {cls:=.type "enumerate",data:=.fields #[.none,.bool false,.ref s.heap.objs.size,rawInt 0,.none,.none]} }):=
 .of_wp fun prog w A R s h=>by
  obtain⟨hp,g,d,tk,os⟩:=s
  obtain⟨hl,h⟩:=h
  have lK:=sub_enumerate
  have hL:Heap.IsTuple (Shared.heap ⟨hp,g,d,tk,os⟩) l aa:=⟨_,hl,rfl,n,rfl⟩
  wp_walk using AutoSeq1.wpAny_loadPart' hl
  refine wpAny_stack_any fun st=>Zaf ?_
  split
  ·rename_i c _ _ _ _ _
   cases (c==Value.type "enumerate")<;> (wp_walk using AutoSeq1.wpAny_loadPart' hl,PySem.wpAny_pyIter_tuple hL;exact⟨_,rfl,h⟩)
  ·wp_walk using AutoSeq1.wpAny_loadPart' hl,PySem.wpAny_pyIter_tuple hL
   exact⟨_,rfl,h⟩
theorem Zbt {l:Addr}{aa:Array Value}{Q:Value->Shared->Prop}(hL:s.heap.IsTuple l aa)
  (h:∀h',IsEnum h' (s.heap.objs.size+1) s.heap.objs.size 0 .none->h'.IsTupleIter s.heap.objs.size l 0->(∀b o,s.heap.get? b=some o->h'.get? b=some o)->Q (.ref (s.heap.objs.size+1)) {s with heap:=h'}):
  wpAny (model prog w) A (call (.type "enumerate") [.ref l]) Q E s:=by
 obtain⟨⟨c,i6,dt,sl⟩,hl,hc,n,hd⟩:=hL
 replace hc:c=.type "tuple" :=hc
 replace hd:dt=.seq aa n:=hd
 subst hc hd
 refine callType_new F.called_enumerate .d (F.typeCall_enumerate_1 _) (F.newCall_enumerate_1 _) (fun obj=>F.args_object_init_2 obj _) F.entry_enumerate_new (Zc5 l aa n i6 sl) ⟨hl,?_⟩
 have hz:(s.heap.push {cls:=.type "tuple_iterator",data:=.fields #[.ref l,.int 0 0]}).objs.size=s.heap.objs.size+1:=Zdp ..
 show _/\_
 rw[hz]
 have he:IsEnum ((s.heap.push {cls:=.type "tuple_iterator",data:=.fields #[.ref l,.int 0 0]}).push {cls:=.type "enumerate",data:=.fields #[.none,.bool false,.ref s.heap.objs.size,rawInt 0,.none,.none]}) (s.heap.objs.size+1) s.heap.objs.size 0 .none:=by
  have q:=Zat (s.heap.push {cls:=.type "tuple_iterator",data:=.fields #[.ref l,.int 0 0]}) (o:= {cls:=.type "enumerate",data:=.fields #[.none,.bool false,.ref s.heap.objs.size,rawInt 0,.none,.none]}) rfl
  rw[hz]at q
  exact q
 exact⟨⟨_,he,rfl⟩,h _ he ⟨_,Zab _ (Zat _ rfl),rfl,rfl⟩ fun b o x=>Zab _ (Zab _ x)⟩
end
def qp (K:ZhQ) (t:Addr):It:=
 ⟨fun i H=> ∃xs x,aj K H t xs/\xs[i]? =some x,fun i H x H'=> ∃(T:Addr) (y:V),x=.ref T/\H T=none/\H'=upd H T (.par [.int (i:Int),y])/\∀xs,aj K H t xs->xs[i]? =some y,fun i H=> ∃xs,aj K H t xs/\xs.length=i⟩
theorem Zcu {P:Program}{w:World}{K:ZhQ}{elts:List Expr}{kk:Nat}{pos:Pos}(t e j:Addr) (kh:e≠j) (rP:t≠e) (rO:t≠j):
  Turn P w K (.Tuple elts kk pos) (qp K t) [e,j] e (fun i h=> (∃old,IsEnum h e j i old)/\h.IsTupleIter j t i) where
 mem:=by simp
 obj:=fun i h st b hb=>by
  obtain⟨⟨old,he⟩,o,ho,hc,hd⟩:=st
  rcases Zao.mp hb with rfl |hb
  ·exact⟨_,he,fun v z=>by cases z⟩
  ·rw[Zax.mp hb]
   exact⟨o,ho,fun v z=>by rw[hd]at z;cases z⟩
 keep:=fun i h h' st k=> ⟨let ⟨old,he⟩:=st.1;⟨old,k e (by simp) _ he⟩,st.2.at fun o q=>k j (by simp) o q⟩
 item:=by
  intro X hP hw hK hc i pins s σ H E I hf st hg
  subst hP hw hK
  obtain⟨xs,x,hq,hx⟩:=hg
  obtain⟨aa,rv,p,hz⟩:=I.tuple hq
  obtain⟨u,hu,ru⟩:=rv.get hx
  have hl:=rv.length
  have nE:i<aa.toArray.size:=by
   have:=(Zad.mp hu).1
   simpa using this
  have W:=ZfH (prog:=X.prog) (w:=X.w) (A:=X.A) (Gi (A:=X.A.in1) (show X.A.in1.handled=none from I.ok.hd hc) j t rO aa.toArray) e kh (by simp[kh,rP.symm]) (by simp)
  have hT:s.heap.IsTuple t aa.toArray:=p
  refine W.item i s _ _ nE ⟨st.1,st.2,hT⟩ fun T vals h' tk hP cW nG iQ hk=> ⟨_,rfl,W.go elts kk pos i T _ _ _ iQ fun eX dm eV=> ?_⟩
  obtain⟨xS,x2,j7,rfl⟩:=hP
  have lG:aa[i]? =some x2:=by simpa using j7
  rw[hu]at lG
  cases lG
  have sQ:T∉[e,j]:=W.apart _ _ _ iQ
  refine⟨.ref T,upd H T (.par [.int (i:Int),x]),JP (s:=s) (h':=eX) (tk:=tk) I hf (fun b o hb q=>eV b o hb (hk b o hb q)) cW (nG.at fun o q=>eV T o sQ q) ⟨xS,rfl⟩ ru,rfl,⟨T,x,rfl,I.ak.fresh cW,rfl,fun ys hy=>by rw[I.um hy hq];exact hx⟩,⟨dm.1,dm.2.1⟩,fun b hb=> ?_⟩
  rw[Zh (fun z=>sQ (by rw[<-z];exact hb))]
  exact(hf b hb).1
 done:=by
  intro X hP hw hK hc i pins s σ H E I hf st hg
  subst hP hw hK
  obtain⟨xs,hq,hx⟩:=hg
  obtain⟨aa,rv,p,hz⟩:=I.tuple hq
  have hl:=rv.length
  have W:=ZfH (prog:=X.prog) (w:=X.w) (A:=X.A) (Gi (A:=X.A.in1) (show X.A.in1.handled=none from I.ok.hd hc) j t rO aa.toArray) e kh (by simp[kh,rP.symm]) (by simp)
  have hn:i=aa.toArray.size:=by rw[Zaj];omega
  have hT:s.heap.IsTuple t aa.toArray:=p
  rw[hn]at st
  exact W.done s _ _ ⟨st.1,st.2,hT⟩ fun h' tk hk=> ⟨rfl,Ws (s:=s) (h':=h') (tk:=tk) I hf hk⟩
 self:=fun A i s Q E st h=>let ⟨old,he⟩:=st.1;ZfI he h
section
variable {X:Cx}{elts:List Expr}{kk:Nat}{tp:Pos}
def OS (K:ZhQ) (ta:TA):TI:=fun σ H R=>ta σ H fun vs H1=> ∃t,vs=[.ref t]/\(∃xs,aj K H1 t xs)/\R (qp K t) H1
theorem HZ {a:Expr}{ta:TA}{p pos:Pos}(hg:Gl X "enumerate") (hm:X.mg "enumerate" =none) (ha:PA X [a] ta) (hs:starEach [a] X.env=[(false,eval a X.env)]:=by rfl):PI X (.Tuple elts kk tp) (.Call (.Name "enumerate" p) [a] [] pos) (OS X.K ta):=by
 intro pins s σ H R I h
 refine Call_ (YD I hg hm boot_enumerate (Zb3 (ar (ha pos pins s σ H _ I h) fun us s1 ⟨vs,H1,I1,r1,q1⟩=> ?_) hs rfl))
 obtain⟨t,e,⟨xs,hq⟩,q⟩:=q1
 subst e
 obtain⟨u,rfl,ru⟩:=Zgc r1
 cases ru
 obtain⟨aa,rv,pl,hz⟩:=I1.tuple hq
 have hT:s1.heap.IsTuple t aa.toArray:=pl
 have ht:t<s1.heap.objs.size:=by obtain⟨o,ho,_⟩:=hT;exact Zaq ho
 refine Zbt hT fun h' he hj hk=>ZfI he ?_
 have I2:Inv X pins σ H1 {s1 with heap:=h'} :=I1.kept (t':=s1.toks) hk
 refine⟨s1.heap.objs.size+1,[s1.heap.objs.size+1,s1.heap.objs.size],_,_,H1,rfl,I2,Zcu t _ _ (Nat.succ_ne_self _) (ZaE (Zeh ht)) (ZaE ht),⟨⟨_,he⟩,hj⟩,fun b hb=> ?_,q⟩
 have iU:s1.heap.objs.size<=b:=by
  rcases Zao.mp hb with z |z
  ·rw[z];exact Nat.le_succ _
  ·rw[Zax.mp z];exact Zae _
 exact I1.lU iU (I1.ak.fresh iU)
end
theorem ZcM {K:ZhQ}{a:Addr}{xs:List V}{g:TG}{tt:TT}{ti:TC}{ys:List V}{σ:St}{H:Hp}{Q:List V->St->Hp->Prop}(Pv:Nat->List V->St->Hp->Prop) (h0:Pv 0 ys σ H)
  (hl:∀i ys σ H,i<=xs.length->Pv i ys σ H->aj K H a xs)
  (hs:∀i x T ys σ H,xs[i]? =some x->H T=none->Pv i ys σ H->g (.ref T) σ (upd H T (.par [.int (i:Int),x])) fun aT H2=>tt aT H2 fun b H3=>if b=true then ti ys aT H3 (Pv (i+1)) else Pv (i+1) ys aT H3)
  (hd:∀ys σ H,Pv xs.length ys σ H->Q ys σ H):gR g tt ti (qp K a) ys σ H Q:=by
 refine⟨fun i m ys σ H=>m=xs.length - i/\i<=xs.length/\Pv i ys σ H,⟨xs.length,by simp,ZaV _,h0⟩,?_⟩
 rintro i m ys σ H ⟨rfl,hi,p⟩
 have q:=hl i ys σ H hi p
 by_cases az:i<xs.length
 ·refine .inr ⟨⟨xs,xs[i],q,by simp[az]⟩,Pv (i+1),fun bV ao H' p'=> ⟨xs.length - (i+1),.o,rfl,az,p'⟩,fun x H' y=> ?_⟩
  obtain⟨T,z,e1,e2,e3,e4⟩:=y
  subst e1 e3
  exact hs i z T ys σ H (e4 xs q) e2 p
 ·have e:i=xs.length:=.o
  subst e
  exact .inl ⟨⟨xs,q,rfl⟩,hd ys σ H p⟩
structure Fl (P:Program) (w:World) (outer:List Env) (H:Hp) (s:Shared) (e C:Addr) (H':Hp) (s':Shared):Prop where
 os:s'.os=s.os
 bare:AllBare s'.gens
 un:Un (aQ outer) [] H H' s.heap s'.heap
 ak:bD P w H' s'.heap
 wO:∃B a0,Heap.FlyingW B outer e (.ref C) a0 s'.heap/\(∀b o,s.heap.get? b=some o->b∉aQ outer->∃u,B.get? b=some u)/\∀b o,H' b=some o->∃u,B.get? b=some u
def aC (P:Program) (w:World):jJ:=fun outer H s E ev s'=> ∃e C H',ev=.ref e/\Fl P w outer H s e C H' s'/\E (.ref e) (some C) H'
section
variable {P:Program}{w:World}{base:Heap}{env:Env}{outer:List Env}{s0 s1 s2:Shared}{H0 H1 H2:Hp}{e C L:Addr}{A:Around}
theorem YS {B h1 h2:Heap}{H:Hp}(x:bD P w H h1) (bA:∀b o,H b=some o->∃u,B.get? b=some u) (k1:B.StaysIn h1) (k2:B.StaysIn h2):bD P w H h2:=fun a o ha=>
  (x a o ha).cE (fun b u hb hq=>by
    have:∃u',B.get? b=some u':=by
      rcases hb with rfl |hb
      · exact bA _ _ ha
      · exact bA _ _ hb
    obtain⟨u',hu⟩:=this
    have e1:=k1 b u' hu
    rw[hq]at e1
    cases e1
    exact k2 b _ hu) (fun _ q=>q) fun _ _ q=>q
theorem Wu {B h':Heap}(u0:Un (aQ outer) [] H0 H1 s0.heap s1.heap) (u1:Un (aQ (env::outer)) [] H1 H2 s1.heap s2.heap) (hf:env.frame=some L) (ab:s0.heap.objs.size<=L) (fu:s0.heap.FunFrames base outer) (fz:∀b∈aQ outer,H0 b=none)
  (bA:∀b o,s1.heap.get? b=some o->b∉aQ (env::outer)->∃u,B.get? b=some u) (k1:B.StaysIn s2.heap) (k2:B.StaysIn h') (up:s2.heap.UpToSlots h'):Un (aQ outer) [] H0 H2 s0.heap h':=by
 have ck:∀b,b∈aQ (env::outer)↔b=L∨b∈aQ outer:=fun b=>by
  show b∈(env::outer).filterMap (·.frame)↔_
  rw[Zdj (f:=fun(x:Env)=>x.frame) (a:=env) (b:=L) hf,Zao]
  exact Iff.rfl
 have out:∀b o,s0.heap.get? b=some o->b∉aQ outer->b∉aQ (env::outer):=fun b o hb hn hm=>by
  rcases (ck b).mp hm with q |q
  ·rw[q]at hb
   exact absurd (Zaz (Zaq hb) ab) (ZbI _)
  ·exact hn q
 have zU:∀b o u,s2.heap.get? b=some o->B.get? b=some u->h'.get? b=some o:=fun b o u hb hu=>by
  have e1:=k1 b u hu
  rw[hb]at e1
  cases e1
  exact k2 b _ hu
 have oO:∀b o,s0.heap.get? b=some o->b∈aQ outer->∃sl,h'.get? b=some {o with slots:=sl} :=fun b o hb hm=>by
  obtain⟨_,o',cC,nf⟩:=fu.mem hm
  rw[hb]at cC
  cases cC
  obtain⟨yK,e1⟩:=u0.slot b o hb (fz b hm) hm (by simp)
  have n1:=u0.free b o hb (fz b hm) (by simp)
  obtain⟨gW,e2⟩:=u1.slot b _ e1 n1 ((ck b).mpr (.inr hm)) (by simp)
  obtain⟨L8,e3⟩:=up b _ e2 nf
  exact⟨L8,e3⟩
 refine⟨fun b o hb hn EH _=> ?_,fun b o hb hn hm _=>oO b o hb hm,fun b o hb hn hx=> ?_,fun b o hb _=> ?_,fun b xs hb=>u1.dM b xs (u0.dM b xs hb),fun b o u hb=>u1.dJ b o u (u0.dJ b o u hb),fun b ps hb=> ?_⟩
 ·have e1:=u0.keep b o hb hn EH (by simp)
  have n1:=u0.free b o hb hn (by simp)
  have cw:=out b o hb EH
  have e2:=u1.keep b o e1 n1 cw (by simp)
  obtain⟨u,hu⟩:=bA b o e1 cw
  exact zU b o u e2 hu
 ·obtain⟨o1,e1⟩:=u0.there b o hb (by simp)
  have n1:=u0.free b o hb hn (by simp)
  exact u1.free b o1 e1 n1 (by simp)
 ·by_cases hm:b∈aQ outer
  ·obtain⟨sl,q⟩:=oO b o hb hm
   exact⟨_,q⟩
  ·obtain⟨o1,e1⟩:=u0.there b o hb (by simp)
   obtain⟨u,hu⟩:=bA b o1 e1 (out b o hb hm)
   exact⟨u,k2 b u hu⟩
 ·obtain⟨m1,q1⟩:=u0.dD b ps hb
  obtain⟨m2,q2⟩:=u1.dD b _ q1
  exact⟨m1++m2,by rw[q2,Array.append_assoc]⟩
end
theorem M8 {P:Program}{w:World}{K:ZhQ}{mg:Str->Option Value}{base:Heap}{N:List Str}{qual:Str}{scope:Scope}{f:Addr}{cd:Value}{A:Around}{outer:List Env}{s:Shared}{H:Hp}{E:XK} :
  Passes (aC P w) (aF (aC P w) P w K mg base N qual scope f cd A outer s H E) E:=by
 intro pins σ H1 s1 ev s2 I h
 obtain⟨e,C,H',rfl,F,hE⟩:=h
 obtain⟨B,a0,fl,bA,eY⟩:=F.wO
 refine wpAny_leaves_onW (L:=s.heap.objs.size) I.ok.frames rfl fl fun h' nN up=> ?_
 refine⟨e,C,H',rfl,⟨F.os.trans I.os,F.bare,Wu (base:=base) (L:=s.heap.objs.size) I.base F.un rfl (Zae _) I.ok.dI I.ok.fZ bA fl.1 nN.1 up,YS F.ak eY fl.1 nN.1,B,a0,nN,fun b o hb hn=> ?_,eY⟩,hE⟩
 obtain⟨o1,e1⟩:=I.base.there b o hb (by simp[aF])
 refine bA b o1 e1 fun hm=> ?_
 have bZ:b∈(envOfC qual scope s.heap.objs.size f cd::outer).filterMap (·.frame):=hm
 rw[Zdj (f:=fun(x:Env)=>x.frame) (a:=envOfC qual scope s.heap.objs.size f cd) (b:=s.heap.objs.size) rfl]at bZ
 rcases Zao.mp bZ with q |q
 ·rw[q]at hb
  exact absurd (Zaq hb) (ZbI _)
 ·exact hn q
theorem Vq {K:ZhQ}{h:Heap}{C:Addr}{tG:List Value}{newId:String}(X:K.In h) (q:PySem.W.excIn K C tG newId=true):
  ∃bm N nm qn bs hdct sn sub ab col dd k0 k1 k2 k3 k5 mN,h.get? C=some (excClassObj nm qn C N bs bm hdct sn sub ab col dd k0 k1 k2 k3 k5 newId)/\h.Ns N mN/\mN "__init__" =none/\OwnTail h tG bm:=by
 unfold PySem.W.excIn at q
 split at q
 ·rename_i dd cd sl lk
  split at q
  ·rename_i c2 bm j0 j1 j2 j3 nn j5 em es
   rw[ZaL,ZaL,ZaL,ZaL,ZaL]at q
   obtain⟨⟨⟨⟨⟨q1,q2⟩,q3⟩,q4⟩,q5⟩,q6⟩:=q
   have z1:=Zdk.mp q1
   have z2:=Zdk.mp q2
   have z6:=Zdk.mp q6
   subst z1 z2
   have ob:=X _ _ lk
   have z3:cd.hasDel=false:=by revert q3;cases cd.hasDel<;>simp
   have zs:sl= #[j0,j1,j2,j3,some (.builtin nn),j5]:=by
    apply Array.toList_inj.mp
    rw[es]
   refine⟨bm,cd.ns,cd.name,cd.qualname,cd.bases,cd.hasDict,cd.slotNames,cd.subclasses,cd.abstract,cd.collection,dd,j0,j1,j2,j3,j5,h.nsMap cd.ns,?_,.of_isNs (PySem.W.isNs_of_in X q5),PySem.W.nsMap_none_of_in X q5 z6,PySem.W.tail_of_in X q4⟩
   rw[ob,zs]
   obtain⟨a1,a2,a3,a4,a5,a6,a7,a8,a9,a10,a11⟩:=cd
   cases em
   cases z3
   rfl
  ·cases q
 ·cases q
def Lg (C:Addr) (E:XK) (ta:TA):TS:=fun _ σ H=>ta σ H fun vs H1=>vs.length<=sizeLine/\∀e,E (.ref e) (some C) H1
theorem ZaJ {P:Program}{w:World}{K:ZhQ}{mg:Str->Option Value}{base:Heap}{N:List Str}{qual:Str}{scope:Scope}{f:Addr}{cd:Value}{A:Around}{outer:List Env}{s s1:Shared}{H H1:Hp}{E:XK}
  {pins:List (Addr×Obj)}{σ:St}{h':Heap}{e C:Addr}{vs:List Value} (I:Inv (aF (aC P w) P w K mg base N qual scope f cd A outer s H E) pins σ H1 s1) (mk:Heap.MadeExcOf s1.heap h' e (.ref C) vs) (hE:E (.ref e) (some C) H1):
  (aF (aC P w) P w K mg base N qual scope f cd A outer s H E).xe (.ref e) {s1 with heap:=h'} :=by
 have su:∀env∈(envOfC qual scope s.heap.objs.size f cd::outer),∀b,env.frame=some b->b∈aQ (envOfC qual scope s.heap.objs.size f cd::outer):=fun env he b hb=>Zcg.mpr ⟨env,he,hb⟩
 have st:=I.stack
 refine wpAny_leaves_madeW (L:=s.heap.objs.size) (base:=PySem.W.hideAll s1.heap (aQ (envOfC qual scope s.heap.objs.size f cd::outer))) (h:=s1.heap) I.ok.frames rfl (fun b o q=>Zer _ q) (PySem.W.funFrames_hide st su) mk fun h2 t fl tp _ up=> ?_
 have bA:∀b o,s1.heap.get? b=some o->b∉aQ (envOfC qual scope s.heap.objs.size f cd::outer)->∃u,(PySem.W.hideAll s1.heap (aQ (envOfC qual scope s.heap.objs.size f cd::outer))).get? b=some u:=fun b o hb hn=> ⟨o,PySem.W.hideAll_get _ hb hn⟩
 have eY:∀b o,H1 b=some o->∃u,(PySem.W.hideAll s1.heap (aQ (envOfC qual scope s.heap.objs.size f cd::outer))).get? b=some u:=fun b o hb=>by
  have hl:=I.ak.lt hb
  have hx:∃u,s1.heap.get? b=some u:=by
   have ok:=I.ak b o hb
   cases o with
   |lst xs=>obtain⟨_,_,_,_,q⟩:=ok;exact⟨_,q⟩
   |tup xs=>obtain⟨_,_,_,⟨ob,q,_⟩,_⟩:=ok;exact⟨_,q⟩
   |par xs=>obtain⟨_,_,_,ob,q,_⟩:=ok;exact⟨_,q⟩
   |dK af=>obtain⟨_,_,_,_,ob,_,_,q,_⟩:=ok;exact⟨_,q⟩
   |dT af=>obtain⟨_,_,_,_,ob,_,_,q,_⟩:=ok;exact⟨_,q⟩
   |set S n=>obtain⟨ob,_,_,_,q,_⟩:=ok;exact⟨_,q⟩
   |ins C dx fs=>obtain⟨_,_,_,q,_⟩:=ok;exact⟨_,q⟩
   |own y=>exact ok
   |xd fs=>obtain⟨_,⟨_,_,_,q,_⟩,_⟩:=ok;exact⟨_,q⟩
   |fj lo hi=>obtain⟨_,_,_,q⟩:=ok;exact⟨_,q⟩
   |cb ob u=>exact⟨_,ok.1⟩
   |bM ps=>exact⟨_,(show s1.heap.get? b=some _ from ok)⟩
   |met f y=>exact⟨_,(show s1.heap.get? b=some _ from ok)⟩
   |ext φ=>exact ok.2.1
  obtain⟨u,hu⟩:=hx
  exact bA b u hu fun hm=>by
   have:=I.qK b hm
   rw[this]at hb
   cases hb
 have k1:Heap.StaysIn (PySem.W.hideAll s1.heap (aQ (envOfC qual scope s.heap.objs.size f cd::outer))) h':=fun b o q=>mk.keeps b o (Zer _ q)
 refine⟨e,C,H1,rfl,⟨I.os,I.bare,Wu (s1:=s1) (s2:= {s1 with heap:=h'}) (base:=base) (L:=s.heap.objs.size) I.base (Un.kept mk.keeps) rfl (Zae _) I.ok.dI I.ok.fZ bA k1 fl.1 up,YS (I.ak.kept mk.keeps) eY k1 fl.1,_,_,fl,fun b o hb hn=> ?_,eY⟩,hE⟩
 obtain⟨o1,e1⟩:=I.base.there b o hb (by simp[aF])
 refine bA b o1 e1 fun hm=> ?_
 have bZ:b∈(envOfC qual scope s.heap.objs.size f cd::outer).filterMap (·.frame):=hm
 rw[Zdj (f:=fun(x:Env)=>x.frame) (a:=envOfC qual scope s.heap.objs.size f cd) (b:=s.heap.objs.size) rfl]at bZ
 rcases Zao.mp bZ with q |q
 ·rw[q]at hb
  exact absurd (Zaq hb) (ZbI _)
 ·exact hn q
theorem YO {P:Program}{w:World}{K:ZhQ}{mg:Str->Option Value}{base:Heap}{N:List Str}{qual:Str}{scope:Scope}{f:Addr}{cd:Value}{A:Around}{outer:List Env}{s:Shared}{H:Hp}{E:XK}{x:Str}{C:Addr}{B newId OK:String}{tG:List Value}
  {nO:Expr}{rest:List Expr}{np bU pos:Pos}{ta:TA} (FB:ExcBaseFacts B newId OK tG) (hmg:mg x=some (.ref C)) (hex:PySem.W.excIn K C tG newId=true) (hg:Gl (aF (aC P w) P w K mg base N qual scope f cd A outer s H E) x)
  (ha:PA (aF (aC P w) P w K mg base N qual scope f cd A outer s H E) (nO::rest) ta)
  (he:starEach (nO::rest) (envOfC qual scope s.heap.objs.size f cd)=(false,eval nO (envOfC qual scope s.heap.objs.size f cd))::starEach rest (envOfC qual scope s.heap.objs.size f cd):=by rfl)
  (dX:(backTo bU (starEach rest (envOfC qual scope s.heap.objs.size f cd))).any (·.1)=false:=by rfl) (hd:(x==("__debug__" :Str))=false:=by decide):
  PS (aF (aC P w) P w K mg base N qual scope f cd A outer s H E) (.Raise (some (.Call (.Name x np) (nO::rest) [] bU)) none pos) (Lg C E ta):=by
 intro pins s1 σ H1 D I h
 obtain⟨bm,Nn,nm,qn,bs,hdct,sn,sub,ab,col,dd,k0,k1,k2,k3,k5,mN,hC,hN,PZ,T⟩:=Vq I.mod.mS hex
 refine wpAny_Raise_call_subT (C:=C) (nm:=nm) (q:=qn) (N:=Nn) (bs:=bs) (bm:=bm) (hdct:=hdct) (sn:=sn) (sub:=sub) (ab:=ab) (col:=col) (dd:=dd) (k0:=k0) (k1:=k1) (k2:=k2) (k3:=k3) (k5:=k5)
  FB (mN:=mN) (T.hasType FB.hasBase) (I.ok.hd rfl) ?_ PZ (Jf I hg hmg ⟨rfl,?_⟩ hd)
 ·show(backTo bU (starEach (nO::rest) (envOfC qual scope s.heap.objs.size f cd))).any (·.1)=false
  rw[he]
  show(false||(backTo bU (starEach rest (envOfC qual scope s.heap.objs.size f cd))).any (·.1))=false
  rw[dX]
  rfl
 ·have q:=ha bU pins s1 σ H1 _ I h
  show wpAny _ _ (evalArgs (.ref C) true (backTo bU (starEach (nO::rest) (envOfC qual scope s.heap.objs.size f cd))) []) _ _ _
  have q':wpAny (model P w) (A.deeper (envOfC qual scope s.heap.objs.size f cd)) (spliced (backTo bU (starEach (nO::rest) (envOfC qual scope s.heap.objs.size f cd)))) _ _ s1:=q
  rw[he]at q' |-
  refine PySem.Calls.evalArgs_plain (Zbs q' (fun us s2 h2=> ?_) fun _ _ y=>y)
  obtain⟨vs,H2,I2,r,hz,hE⟩:=h2
  refine⟨rfl,by rw[<-r.length];exact hz,I2.bk _ _ hC,hN.keeps I2.bk,T.keeps I2.bk,fun h' e mk=> ?_⟩
  exact ZaJ I2 mk (hE e)
section
variable {X:Cx}
def Lw (ta tb:TE):TE:=fun σ H Q=>ta σ H fun v H1=> ∃x,v=.str x/\(Str.empty++x).length<=sizeLine/\tb σ H1 fun u H2=> ∃n:Int,u=.int n/\n.natAbs.log2<1920/\(Str.empty++x++(Str.ofString (toString n))).length<=sizeLine/\∀z,Q (.str z) H2
theorem Xp {a b:Expr}{ta tb:TE}{p pos:Pos}(ha:PE X a ta) (hb:PE X b tb):PE X (.JoinedStr [a,.FormattedValue b (-1) none p] pos) (Lw ta tb):=by
 intro pins s σ H Q I h
 refine JoinedStr_many (ZeU (Zbs (ha pins s σ H _ I h) (fun u s1 h1=> ?_) fun _ _ y=>y))
 obtain⟨v,H1,I1,r1,x,rfl,hz,h2⟩:=h1
 obtain⟨t,rfl⟩:=r1
 refine⟨hz,ZeU (ZfZ (Zbs (hb pins s1 σ H1 _ I1 h2) (fun u s2 h3=> ?_) fun _ _ y=>y))⟩
 obtain⟨v,H2,I2,r2,n,rfl,hn,cY,q⟩:=h3
 obtain⟨t2,rfl⟩:=r2
 refine ZfO hn ⟨cY,?_⟩
 refine joinParts_nil ?_ cY
 exact⟨.str _,H2,(I2.tok _).tok _,⟨_,rfl⟩,q _⟩
end
section
variable {P:Program}{w:World}{K:ZhQ}{mg:Str->Option Value}{base:Heap}
theorem aG.fk {x qual:Str}{st:Stmt}{f:Addr}{fd:FuncData}{N ps:List Str}{k:Nat}{sp:Sp}(F:aG K x qual st f fd) (S:aZ N ps (ay st)) (len:∀vs H Q E,sp vs H Q E->vs.length=ps.length)
    (hb:∀(aq:Value) (A:Around) (outer:List Env) (s:Shared) (H:Hp) (vs:List V) (Q:VK) (E:XK),bK k (A.deeper (envOfC qual (ay st) s.heap.objs.size f aq))->sp vs H Q E->
      ∃t,fc (aF (aC P w) P w K mg base N qual (ay st) f aq A outer s H E) (cX st) t/\t {nx:=fun _ H'=>Q .ah H',rt:=Q} (start N vs) H):aA P w K mg base (aC P w) (k+1) f fd ps sp:=by
  obtain⟨oc,od,kV,doc,pm,an,aq,ct,eO,rfl,lk,cH⟩:=F.ex
  exact xh lk cH S len fun A outer s H vs Q E hr dG=>hb aq A outer s H vs Q E hr dG
def aW (P:Program) (w:World) (K:ZhQ) (mg:Str->Option Value) (base:Heap) (k:Nat) (x:Str) (ps:List Str) (sp:Sp):Prop:=
 ∃f fd,aA P w K mg base (aC P w) k f fd ps sp/\mg x=some (.ref f)/\PySem.W.keepIn K (.ref f)=true/\Binds K fd ps []
theorem ZX {N:List Str}{qual:Str}{scope:Scope}{f:Addr}{cd:Value}{A:Around}{outer:List Env}{s:Shared}{H:Hp}{E:XK}{k:Nat}{x:Str}{ps:List Str}{sp:Sp}{e:Expr}{es:List Expr}{t:TA}{p pos:Pos}
  (d:aW P w K mg base k x ps sp) (hr:bK k (A.deeper (envOfC qual scope s.heap.objs.size f cd))) (ha:PA (aF (aC P w) P w K mg base N qual scope f cd A outer s H E) (e::es) t) (hg:Gl (aF (aC P w) P w K mg base N qual scope f cd A outer s H E) x:=by rfl)
  (gG:(x==("__debug__" :Str))=false:=by decide)
  (he:starEach (e::es) (envOfC qual scope s.heap.objs.size f cd)=(false,eval e (envOfC qual scope s.heap.objs.size f cd))::starEach es (envOfC qual scope s.heap.objs.size f cd):=by rfl)
  (dX:(backTo pos (starEach es (envOfC qual scope s.heap.objs.size f cd))).any (·.1)=false:=by rfl):
  PE (aF (aC P w) P w K mg base N qual scope f cd A outer s H E) (.Call (.Name x p) (e::es) [] pos) (uv sp [] E t):=by
 obtain⟨g,fd,F,hm,hk,hb⟩:=d
 exact Yt F hr hg hm hk hb .nil M8 ha gG he dX
end
end L2
namespace L2
open PySem PySem.Spec PyProof.Rows PySem.Builtin PySem.Builtin.ObjectAttr PySem.Builtin.Getset_descriptor
def jz (e C:Addr):HO:=.ext fun h=> ∃o,h.get? e=some o/\o.cls=.ref C
structure mi (K:ZhQ) (C:Addr):Prop where
 ga:PySem.W.findIn K (.ref C) "__getattribute__" =some (some (.builtin "BaseException.__getattribute__"))
 hook:PySem.W.findIn K (.ref C) "__getattr__" =some none
 cl:PySem.W.findIn K (.ref C) "__class__" =some (some (.builtin "object.__class__"))
 ob:PySem.W.mroIn K C (.type "object")=some true
 bx:PySem.W.mroIn K C (.type "BaseException")=some true
 cls:(PySem.W.clsIn K C).isSome=true
section
variable {prog:Program}{w:World}{A:Around}{E:Value->Shared->Prop}{s:Shared}{K:ZhQ}{e C:Addr}{o:Obj}{R:Result->Shared->Prop}
theorem Wc {M:Model}{h:Heap}(hx:h.get? e=some o) (hc:o.cls=.ref C):PySem.W.Looks M h (typeOf (.ref e)) (.ref C):=hc▸(PySem.W.Looks.ld hx).andThen .now
theorem Xa {tp:Value}(X:K.In s.heap) (hx:s.heap.get? e=some o) (hc:o.cls=.ref C) (Z:mi K C) (h:R (.ok (.ret (.ref C))) s):
  codeAny (model prog w) A (.call (.builtin "getset_descriptor.__get__") ⟨[.builtin "object.__class__",.ref e,tp],[]⟩) R s:=by
 obtain⟨h0,g0,d0,t0,o0⟩:=s
 have LT:=Wc (M:=model prog w) hx hc
 have LM:=PySem.W.looks_mroIn (M:=model prog w) X Z.ob
 refine PySem.codeAny_call_builtin PySem.W.KF.slot_gs.plain PySem.W.KF.entry_gs (PySem.W.KF.slot_gs.check _ _ _ _ _ _ _ _ PySem.W.KF.type_class (PySem.W.KF.args_gs _ _ _) ?_)
 unfold Builtin.«getset_descriptor.__get__» descrGet
 rw[PySem.W.dga_obj]
 refine Zaa (Zaf ?_)
 unfold descrGetter descrCheckInstance descrNameAndClass isInstance
 simp only[PySem.W.KF.owner_class]
 repeat lk
 refine⟨Code.quiet_builtin _ (by decide+kernel),Zck PySem.W.KF.entry_class ?_⟩
 unfold Builtin.«object.__class__» shownTypeOf
 repeat lk
 exact h
theorem Zc4 {tk:Tok}{Q:PySem.Fin->Shared->Prop}(X:K.In s.heap) (hx:s.heap.get? e=some o) (hc:o.cls=.ref C) (Z:mi K C) (hq:Q (.done (.ret (.ref C))) s):
  wpAny (model prog w) A (Builtin.«object.__getattribute__» ⟨[.ref e,.str "__class__" tk],[]⟩) Q E s:=by
 obtain⟨h0,g0,d0,t0,o0⟩:=s
 have LT:=Wc (M:=model prog w) hx hc
 have LC:=PySem.W.looks_findIn (M:=model prog w) X Z.cl
 have hT5:(⟨h0,g0,d0,t0,o0⟩:Shared).TypeIs (.builtin "object.__class__") "getset_descriptor" :=F.typeOf_object_class
 have f5:=F.typeOf_object_class
 have f6:=F.slot_gs_get.lookup
 have f7:=F.slot_gs_set.lookup
 repeat (any_goals (first |assumption |with_reducible refine LT.at ?_ |with_reducible refine LC.at ?_ |wp_step))
 refine Xa (s:=⟨h0,g0,d0,t0,o0⟩) X hx hc Z ?_
 exact Zaf hq
theorem V9 {tk:Tok}(X:K.In s.heap) (hx:s.heap.get? e=some o) (hc:o.cls=.ref C) (Z:mi K C) (hq:R (.ok (.ret (.ref C))) s):
  codeAny (model prog w) A (.call (.builtin "BaseException.__getattribute__") ⟨[.ref e,.str "__class__" tk],[]⟩) R s:=by
 refine PySem.codeAny_call_builtin F.attr_ValueError.ga.plain F.entry_bexc_ga ?_
 obtain⟨h0,g0,d0,t0,o0⟩:=s
 have LT:=Wc (M:=model prog w) hx hc
 have LB:=PySem.W.looks_mroIn (M:=model prog w) X Z.bx
 have hk:builtinKind "BaseException.__getattribute__" =some .slot:=by decide+kernel
 have dG:splitId "BaseException.__getattribute__" =some ("BaseException", "__getattribute__"):=by decide+kernel
 have ha:=F.args_bexc_ga (.ref e) (.str "__class__" tk)
 simp only[checkBuiltinCall,hk,dG]
 have LI:PySem.W.Looks (model prog w) h0 (isInstance (.ref e) (.type "BaseException")) true:=LT.andThen LB
 refine Zaa (LI.at ?_)
 repeat (first |exact Zc4 (s:=⟨h0,g0,d0,t0,o0⟩) X hx hc Z hq |assumption |wp_step)
theorem V8 {Q:Option Value->Shared->Prop}(X:K.In s.heap) (hx:s.heap.get? e=some o) (hc:o.cls=.ref C) (Z:mi K C) (hq:Q (some (.ref C)) {s with toks:=s.toks+1}):
  wpAny (model prog w) A (getAttr? (.ref e) "__class__") Q E s:=by
 obtain⟨h0,g0,d0,t0,o0⟩:=s
 have LT:=Wc (M:=model prog w) hx hc
 have L1:=PySem.W.looks_findIn (M:=model prog w) X Z.ga
 have L2:=PySem.W.looks_findIn (M:=model prog w) X Z.hook
 have f3:=F.attr_ValueError.ga.bind (.ref e)
 have j7:(Value.builtin "BaseException.__getattribute__" ==Value.builtin "object.__getattribute__")=false:=by decide+kernel
 have zZ:(onTheHeap (Value.ref C)&&Value.builtin "BaseException.__getattribute__" ==Value.builtin "object.__getattribute__")=false:=by rw[j7];rfl
 unfold getAttr? getAttrBy? getAttrBy
 refine Zaa (wpAny_mkText (Zaa (PySem.wpAny_attempt (ZbS (Zaa (LT.at (Zaa (L1.at ?_))))))))
 repeat (any_goals (first |assumption |with_reducible refine L2.at ?_ |wp_step))
 refine V9 (s:=⟨h0,g0,d0,t0+1,o0⟩) X hx hc Z ?_
 repeat (any_goals (first |assumption |wp_step))
theorem Zd8 (Z:mi K C):PySem.W.KitX K (.ref e) (.ref C) (fun h=> ∃o,h.get? e=some o/\o.cls=.ref C) where
 ty:=fun M h _ ⟨o,hx,hc⟩=>Wc hx hc
 it:=fun M h X _=>by
  obtain⟨cd,cH⟩:=Zdy.mp Z.cls
  unfold PySem.W.clsIn at cH
  split at cH
  ·rename_i lk
   intro A2 Q2 E2 s2 k q
   unfold isType loadHead
   exact Zaa (wpAny_loadPart (k _ _ (X _ _ lk)) (Zaf q))
  ·cases cH
 ne:=fun h tp dd aa n sl X pI=>by
  obtain⟨cd,cH⟩:=Zdy.mp Z.cls
  refine Bool.eq_false_iff.mpr fun q=> ?_
  have z:C=tp:=Value.ref.inj (Zdk.mp q)
  rw[<-z]at pI
  unfold PySem.W.clsIn at cH
  split at cH
  ·rename_i lk
   have y:=(X _ _ lk).symm.trans pI
   cases y
  ·cases cH
 ca:=fun X ⟨o,hx,hc⟩ k=>V8 X hx hc Z k
end
section
variable {X:Cx}
theorem JX:dA X (.builtin "isinstance") (fun xs H Q=> ∃e C y c b,xs=[.ref e,y]/\H e=some (jz e C)/\mi X.K C/\(∀u,RelV y u->u=c)/\PySem.W.kitOne X.K (.ref C) c=some b/\Q (.bl b) H):=by
 rintro pins s σ H vs us Q I r ⟨e,C,y,c,b,rfl,he,Z,hy,hk,q⟩
 cases r with
 |cons r1 r2=>
  cases r2 with
  |cons r3 r4=>
   cases r4
   rw[hy _ r3]
   rw[show _=Value.ref e from r1]
   obtain⟨p,_,_⟩:=(show bu X.prog X.w H s.heap e (jz e C) from I.ak e _ he)
   exact Zci (Zd8 Z) I.bX p hk (fun z=>nomatch z) fun tk=> ⟨.bl b,H,I.tok _,rfl,q⟩
end
end L2
namespace L2
open PySem PySem.Spec PyProof.Rows
abbrev Cx.jq (X:Cx) (e:Value):Cx:= {X with A:=X.A.mark (some e),calm:=false,xe:=fun _ _=>False}
section
variable {X:Cx}{pins:List (Addr×Obj)}{σ:St}{H H':Hp}{s s':Shared}
theorem Inv.jq (I:Inv X pins σ H s) (e:Value):Inv (X.jq e) pins σ H s:=
 ⟨⟨I.ok.mod,I.ok.kind,I.ok.glob,I.ok.blt,I.ok.above,I.ok.inj,I.ok.has,I.ok.kB,fun h=>Bool.noConfusion h,I.ok.frames,I.ok.mz,I.ok.kA,I.ok.bs,I.ok.i8,I.ok.kW,I.ok.kr,I.ok.dI,I.ok.fZ⟩,I.os,I.bare,I.base,I.loc,I.cell,I.free,I.fI,I.pin,I.ak,I.len⟩
theorem Inv.KU {e:Value}(I:Inv (X.jq e) pins σ H s) (hd:X.calm=true->X.A.handled=none):Inv X pins σ H s:=
 ⟨⟨I.ok.mod,I.ok.kind,I.ok.glob,I.ok.blt,I.ok.above,I.ok.inj,I.ok.has,I.ok.kB,hd,I.ok.frames,I.ok.mz,I.ok.kA,I.ok.bs,I.ok.i8,I.ok.kW,I.ok.kr,I.ok.dI,I.ok.fZ⟩,I.os,I.bare,I.base,I.loc,I.cell,I.free,I.fI,I.pin,I.ak,I.len⟩
theorem Inv.GA {e C:Addr}{B h':Heap}{o:Obj}(I:Inv X pins σ H s) (un:Un (aQ X.stack) [] H H' s.heap s'.heap) (os:s'.os=s.os) (bare:AllBare s'.gens) (ak:bD X.prog X.w H' s'.heap)
  (bA:∀b o,s.heap.get? b=some o->b∉aQ X.stack->∃u,B.get? b=some u) (eY:∀b o,H' b=some o->∃u,B.get? b=some u) (be:B.get? e=none) (k1:B.StaysIn s'.heap) (k2:B.StaysIn h') (up:s'.heap.UpToSlots h')
  (he:h'.get? e=some o) (hc:o.cls=.ref C) (hd:∃vs,o.data=.fields vs):Inv X pins σ (upd H' e (jz e C)) {s' with heap:=h'}/\H' e=none:=by
 have n0:H' e=none:=by
  cases q:H' e with
  |none=>rfl
  |some u=>
   obtain⟨u',hu⟩:=eY e u q
   rw[be]at hu
   cases hu
 have oO:∀b o,s.heap.get? b=some o->b∈aQ X.stack->∃sl,h'.get? b=some {o with slots:=sl} :=fun b o hb hm=>by
  obtain⟨_,o',cC,nf⟩:=I.stack.mem hm
  rw[hb]at cC
  cases cC
  obtain⟨yK,e1⟩:=un.slot b o hb (I.qK b hm) hm (by simp)
  obtain⟨gW,e2⟩:=up b _ e1 nf
  exact⟨gW,e2⟩
 have NG:∀b u,s.heap.get? b=some u->b≠e:=fun b u hb z=>by
  rw[z]at hb
  by_cases hm:e∈aQ X.stack
  ·obtain⟨_,o',cC,nf⟩:=I.stack.mem hm
   rw[hb]at cC
   cases cC
   obtain⟨sl,q⟩:=oO e u hb hm
   rw[he]at q
   cases q
   obtain⟨vs,hv⟩:=hd
   exact nf vs hv
  ·obtain⟨u',hu⟩:=bA e u hb hm
   rw[be]at hu
   cases hu
 have zU:∀b o u,s'.heap.get? b=some o->B.get? b=some u->h'.get? b=some o:=fun b o u hb hu=>by
  have e1:=k1 b u hu
  rw[hb]at e1
  cases e1
  exact k2 b _ hu
 refine⟨I.Bn (s':= {s' with heap:=h'}) (ch:=[]) os ⟨fun b u hb hn hf _=> ?_,fun b u hb hn hm _=>oO b u hb hm,fun b u hb hn _=> ?_,fun b u hb _=> ?_,fun b xs hb=> ?_,fun b u v hb=> ?_,fun b ps hb=> ?_⟩ ?_ bare (fun b hb=>absurd hb (by simp)),n0⟩
 ·have e1:=un.keep b u hb hn hf (by simp)
  obtain⟨u',hu⟩:=bA b u hb hf
  exact zU b u u' e1 hu
 ·rw[Zh (NG b u hb)]
  exact un.free b u hb hn (by simp)
 ·by_cases hm:b∈aQ X.stack
  ·obtain⟨sl,q⟩:=oO b u hb hm
   exact⟨_,q⟩
  ·obtain⟨u',hu⟩:=bA b u hb hm
   exact⟨u',k2 b u' hu⟩
 ·have q:=un.dM b xs hb
  rw[Zh (Zg q n0)]
  exact q
 ·have q:=un.dJ b u v hb
  rw[Zh (Zg q n0)]
  exact q
 ·obtain⟨m,q⟩:=un.dD b ps hb
  exact⟨m,by rw[Zh (Zg q n0)];exact q⟩
 ·intro b u hb
  by_cases jt:b=e
  ·subst jt
   rw[Ze]at hb
   cases hb
   refine⟨⟨o,he,hc⟩,⟨o,he⟩,fun h1 h2 p k=> ?_⟩
   obtain⟨o1,q1,q2⟩:=p
   exact⟨o1,k _ q1,q2⟩
  ·rw[Zh jt]at hb
   have x:=YS ak eY k1 k2 b u hb
   refine x.cE (fun c w' js q=>q) (fun c q=> ?_) fun c xs q=> ?_
   ·rw[Zh (Zg q n0)];exact q
   ·rw[Zh (Zg q n0)];exact q
end
def Le (X:Cx) (ic ie:Nat) (cS:Addr) (k:Nat) (ts:TS):TS:=fun D σ H=> ∃f fd sp,σ[ic]? =some (some (.ref f))/\(∀s,bD X.prog X.w H s->PySem.W.FnAt f s)/\aA X.prog X.w X.K X.mg X.base (aC X.prog X.w) k f fd [] sp/\(∀s,BindsTo s fd ⟨[],[]⟩ [])/\
 sp [] H (fun _ _=>False) fun ev c H'=> ∃e C,ev=.ref e/\c=some C/\PySem.W.exmOne X.K (.ref C) (.ref cS)=some true/\(H' e=none->ts {nx:=fun ao H2=>D.nx (ao.set ie none) H2,rt:=fun _ _=>False} (σ.set ie (some (.ref e))) (upd H' e (jz e C)))
theorem Zbb {X:Cx}{ic ie k:Nat}{c n S:Str}{cS:Addr}{b0:Stmt}{CK:List Stmt}{ts:TS}{p1 p2 p3 p4 p5 p6:Pos}(Fi:X.calm=true) (ka:X.stack=X.env::X.outer) (fG:X.env.frame=some X.env.locals) (hN:X.N.Nodup) (Qk:X.N[ic]? =some c) (O0:tK X.env.scope c)
  (wx:X.N[ie]? =some n) (pO:X.env.scope.names.lookup n=some .local) (hS:X.mg S=some (.ref cS)) (Qn:Gl X S) (hr:bK k X.A) (Pn:∀e,fc (X.jq (.ref e)) (b0::CK) ts)
  (Qz:(c==("__debug__" :Str))=false:=by decide) (Qy:(c==("__classdict__" :Str))=false:=by decide) (QA:(S==("__debug__" :Str))=false:=by decide)
  (Ad:swapsWith (.Call (.Name c p1) [] [] p2) none p3.line X.env=pure false:=by rfl):
  PS X (.Try [.Expr (.Call (.Name c p1) [] [] p2) p3] [.ExceptHandler (some (.Name S p4)) (some n) (b0::CK) p5] [] [] p6) (Le X ic ie cS k ts):=by
 intro pins s σ H D I h
 obtain⟨f,fd,sp,j6,eW,F,hb,dG⟩:=h
 refine wpAny_Try_except ?_
 refine PySem.wpAny_execs_cons (wpAny_Expr_any ?_ I.quiet Ad)
 refine Zde ?_
 have nm:=Yh (X:=X.gP (fun _ _=>False)) (i:=ic) (x:=c) (pos:=p1) Qk O0 Qz Qy pins s σ H (fun v H2=>v=.ref f/\H2=H) (I.gP _) ⟨_,j6,rfl,rfl⟩
 refine Zbs nm (fun u s1 h1=> ?_) (fun _ _ z=>z.elim)
 obtain⟨v,H1,I1,r1,rfl,rfl⟩:=h1
 have I1:=I1.jM
 obtain rfl:u=Value.ref f:=r1
 refine PySem.W.callWith_F0 (eW _ I1.ak) ?_
 refine PySem.wpAny_call (Zec (F.run X.A X.stack s1 H1 ⟨[],[]⟩ [] [] _ _ hr I1.FZ (hb s1) .nil dG) fun r s2 hq=> ?_)
 cases r with
 |ok fl=>
  cases fl with
  |ret u=>obtain⟨_,_,_,_,_,_,_,z⟩:=hq;exact z.elim
  |next=>exact hq.elim
  |brk=>exact hq.elim
  |cont=>exact hq.elim
 |error ev=>
  obtain⟨e,C,H2,rfl,FL,e',C',q1,q2,hx,hk⟩:=hq
  cases q1
  cases q2
  obtain⟨B,a0,fl,bA,eY⟩:=FL.wO
  rw[ka]at fl
  show wpAny (model X.prog X.w) X.A (noteFrame (.ref e) X.env) _ X.xe s2
  have A7:X.A.frames=some (X.env::X.outer):=by rw[<-ka];exact I.ok.frames
  refine wpAny_looks_onW (L:=X.env.locals) A7 fG fl fun h4 held uk=> ?_
  refine wpAny_landsW held fun h5 A9 uj=> ?_
  have TF:∃o vs,h5.get? e=some o/\o.cls=.ref C/\o.data=.fields vs:=by
   obtain⟨oe,vs,g1,g2,g3,_⟩:=A9.first
   exact⟨oe,vs,g1,g2,g3⟩
  obtain⟨o5,qB,FN,FK,RB⟩:=TF
  have c5:=I1.GA (h':=h5) FL.un FL.os FL.bare FL.ak bA eY fl.2.1 fl.1 A9.1 (uk.trans uj) FN FK ⟨_,RB⟩
  have I5:=c5.1.jq (.ref e)
  refine wpAny_handleBy_cons (codeAny_handlers_test ?_) (by intro q;cases q)
  refine Jf (X:=X.jq (.ref e)) I5 Qn hS ?_ QA
  have LX:=PySem.W.exm_one (M:=model X.prog X.w) (c:=.ref cS) (e:=e) I5.bX (Wc FN FK) hx
  refine LX.at ?_
  refine codeAny_handlers_suite_as ?_
  refine lands_againW (s:= {s2 with heap:=h5}) A9 fun h6 FP xK=> ?_
  obtain⟨o6,Cw,Rz,Ry,Rx,_⟩:=FP.first
  obtain⟨I6,n6⟩:=I1.GA (h':=h6) FL.un FL.os FL.bare FL.ak bA eY fl.2.1 fl.1 FP.1 ((uk.trans uj).trans xK) Rz Ry ⟨_,Rx⟩
  have I6:=I6.jq (.ref e)
  have O7:=hk n6
  refine YN (X:=X.jq (.ref e)) (i:=ie) I6 hN wx (.inl pO) (v:=.ref e) (u:=.ref e) rfl (fun s7 I7=> ?_) (.inr pO)
  refine Zbs (Pn e pins s7 _ _ _ I7 O7) (fun RJ s8 h8=> ?_) fun _ _ z=>z.elim
  cases RJ with
  |ret u=>obtain⟨_,_,_,_,_,z⟩:=h8;exact z.elim
  |brk=>obtain⟨_,_,_,z⟩:=h8;exact z.elim
  |cont=>obtain⟨_,_,_,z⟩:=h8;exact z.elim
  |next=>
   obtain⟨ub,H8,I8,q8⟩:=h8
   have I8:=I8.KU (fun z=>I.ok.hd z)
   obtain⟨m8,EI,Qb⟩:=I8.loc
   have AQ:(X.env.scope.kind==.class||(X.env.scope.kind==.module&&X.env.locals !=X.env.globals))=false:=by rw[I8.ok.kind];rfl
   refine wpAny_nameGoes_keeps pO EI AQ fun h9 v9 P0 ng=> ?_
   have st:=YN (M:=model X.prog X.w) (A:=X.A) (E:=fun _ _=>False) (X:=X) (i:=ie) I8 hN wx (.inl pO) (v:=.ah) (u:=.none) rfl (Q:=fun _ _=>True) (fun _ _=>trivial) (.inr pO)
   refine⟨ub.set ie none,H8,?_,q8⟩
   have az:ie<ub.length:=by rw[I8.len];exact(Zad.mp wx).1
   obtain⟨oL,_,_,hoL,_⟩:=id EI
   have iq:=I8.iq
   refine⟨I8.ok,I8.os,I8.bare,⟨fun b o eb nb hb hx=> ?_,fun b o eb nb hb hx=> ?_,I8.base.free,fun b o eb hx=> ?_,I8.base.dM,I8.base.dJ,I8.base.dD⟩,⟨_,P0,fun j y v' e1 e2 e3=> ?_⟩,fun y cc ec=> ?_,I8.free,I8.fI,fun p hp=> ?_,fun b ob eb=> ?_,by simpa using I8.len⟩
   ·exact(ng.2 b (ZaE (Zaz (Zaq eb) I8.ok.above))).trans (I8.base.keep b o eb nb hb hx)
   ·obtain⟨sl,q⟩:=I8.base.slot b o eb nb hb hx
    exact⟨sl,(ng.2 b (ZaE (Zaz (Zaq eb) I8.ok.above))).trans q⟩
   ·obtain⟨o',q⟩:=I8.base.there b o eb hx
    exact⟨o',(ng.2 b (ZaE (Zaz (Zaq eb) I8.ok.above))).trans q⟩
   ·by_cases hj:j=ie
    ·subst hj
     rw[Zem az]at e2
     cases e2
    ·rw[ZeB (ZdS hj)]at e2
     obtain⟨u',r',q⟩:=Qb j y v' e1 e2 e3
     refine⟨u',r',?_⟩
     rcases q with ⟨kk,q⟩ |⟨kk,c',ec,z⟩
     ·refine .inl ⟨kk,?_⟩
      have ne:y≠n:=fun z=>hj (WG hN e1 (z▸wx))
      simp[ne,q]
     ·exact .inr ⟨kk,c',ec,z.sameBut ng (iq y c' ec)⟩
   ·obtain⟨w',z⟩:=I8.cell y cc ec
    exact⟨w',z.sameBut ng (iq y cc ec)⟩
   ·obtain⟨e1,n1,ne1,NR,d1⟩:=I8.pin p hp
    exact⟨(ng.2 p.1 ne1).trans e1,n1,ne1,NR,d1⟩
   ·refine(I8.ak b ob eb).cE (fun cc w' js q=> (ng.2 cc ?_).trans q) (fun _ q=>q) fun _ _ q=>q
    rintro rfl
    rcases js with rfl |js
    ·rw[I8.free]at eb;cases eb
    ·rw[I8.free]at js;cases js
def gL (c:Addr) (q:Str):HO:=.ext fun h=>h.CodeRec (.ref c) q
def mQ (f:Addr) (q:Str) (params:Arguments) (body:Expr) (scope:Scope) (cl:List (Str×Addr)) (pm:Value) (c:Addr) (ct:Value):HO:=.ext fun h=>h.get? f=some (PySem.W.kla_obj "<lambda>" q params body scope cl pm c ct)
def jb (H:Hp) (f:Addr) (q:Str) (params:Arguments) (body:Expr) (scope:Scope) (cl:List (Str×Addr)):Prop:=∃pm c ct,H f=some (mQ f q params body scope cl pm c ct)/\H c=some (gL c q)
theorem jb.same {H H':Hp}{f:Addr}{q:Str}{params:Arguments}{body:Expr}{scope:Scope}{cl:List (Str×Addr)}(x:jb H f q params body scope cl) (s:ag H H'):jb H' f q params body scope cl:=by
 obtain⟨pm,c,ct,h1,h2⟩:=x
 exact⟨pm,c,ct,s _ _ h1,s _ _ h2⟩
def aab (H:Hp) (q:Str) (ps:Array Value):Prop:=TriplesOk ps.toList/\∀pos cv,codeAmong pos ps.toList=some cv->∃c,cv=.ref c/\H c=some (gL c q)
def TabAt (H:Hp) (P:Addr) (q:Str):Prop:=∃ps,H P=some (.bM ps)/\aab H q ps
theorem JU {h h':Heap}{c:Addr}{q:Str}(x:h.CodeRec (.ref c) q) (k:∀o,h.get? c=some o->h'.get? c=some o):h'.CodeRec (.ref c) q:=by
 obtain⟨c2,oc,vs,tq,e,g1,g2,g3⟩:=x
 cases e
 exact⟨c,oc,vs,tq,rfl,k _ g1,g2,g3⟩
theorem V3 {P:Program}{w:World}{H:Hp}{h:Heap}{c:Addr}{q:Str}(x:h.CodeRec (.ref c) q):bu P w H h c (gL c q):=by
 obtain⟨c2,oc,vs,tq,e,g1,g2,g3⟩:=id x
 cases e
 exact⟨x,⟨_,g1⟩,fun h1 h2 p k=>JU p k⟩
theorem Iu {P:Program}{w:World}{H:Hp}{h:Heap}{f:Addr}{q:Str}{params:Arguments}{body:Expr}{scope:Scope}{cl:List (Str×Addr)}{pm:Value}{c:Addr}{ct:Value}(x:h.get? f=some (PySem.W.kla_obj "<lambda>" q params body scope cl pm c ct)):
  bu P w H h f (mQ f q params body scope cl pm c ct):=⟨x,⟨_,x⟩,fun h1 h2 p k=>k _ p⟩
theorem W0 {pos p2:Pos}{c cv:Value} :∀(l:List Value),TriplesOk l->codeAmong p2 (l++[rawInt pos.line,rawInt pos.col,c])=some cv->codeAmong p2 l=some cv∨cv=c
 | [],_,h=>by
  have h':(if (pos.line:Int)==(p2.line:Int)&&(pos.col:Int)==(p2.col:Int) then some c else codeAmong p2 [])=some cv:=h
  split at h'
  ·exact .inr (ZbE h').symm
  ·cases h'
 | .int a t:: .int b u::x::r,ht,h=>by
  have h':(if a==p2.line&&b==p2.col then some x else codeAmong p2 (r++[rawInt pos.line,rawInt pos.col,c]))=some cv:=h
  show(if a==p2.line&&b==p2.col then some x else codeAmong p2 r)=some cv∨cv=c
  split at h'
  ·rename_i hq
   rw[ZaY hq]
   exact .inl h'
  ·rename_i hq
   rw[ZaK hq]
   exact W0 r ht h'
theorem JF {pos:Pos}{c:Value} :∀(l:List Value),TriplesOk l->TriplesOk (l++[rawInt pos.line,rawInt pos.col,c])
 | [],_=>trivial
 | .int _ _:: .int _ _::_::r,h=>JF r h
structure xy (X:Cx) (c P:Addr):Prop where
 code:X.env.code=.ref c
 hd:PySem.W.CodeHd X.base c P
 bm:∃bm ob,X.mg "__builtins__" =some (.ref bm)/\bm≠builtinsNs/\X.base.get? bm=some ob/\ob.cls=.type "module" /\ob.dict=some builtinsNs/\ob.data=.plain
def Lq (X:Cx) (P:Addr) (params:Arguments) (body:Expr) (scope:Scope):TE:=fun σ H Q=>TabAt H P (X.env.qual++ "<lambda>")/\∀f H',av P H H'->H f=none->TabAt H' P (X.env.qual++ "<lambda>")->jb H' f (X.env.qual++ "<lambda>") params body scope (cJ scope X.env)->Q (.ref f) H'
theorem Yp {X:Cx}{c P:Addr}{params:Arguments}{body:Expr}{scope:Scope}{pos:Pos}(L:xy X c P) (AM:defaultsOf params X.env=([],[])) (fG:∀y∈scope.names,y.2=.free->X.env.kindOf y.1=some .cell∨X.env.kindOf y.1=some .free):
  PE X (.Lambda params body scope pos) (Lq X P params body scope):=by
 intro pins s σ H Q I h
 obtain⟨⟨ps,hP,hT,hC⟩,q⟩:=h
 have oP:s.heap.get? P=some (PySem.W.tabObj ps):=I.ak P _ hP
 have cZ:=Yc (scope:=scope) (env:=X.env) fun y hy e=>I.ok.has _ (fG y hy e)
 have wL:s.heap.Ns mainGlobals X.mg:=I.mod.glob.keeps I.bk
 obtain⟨bm,ob,b1,b2,b3,b4,b5,b6⟩:=L.bm
 have Qo:mainGlobals≠P:=fun z=>by
  obtain⟨o,es,ep,e,d,_⟩:=wL
  rw[z,oP]at e
  cases e
  cases d
 have nF:bm≠P:=fun z=>by
  have e:=I.bk _ _ b3
  rw[z,oP]at e
  cases e
  cases b4
 have QI:bm≠mainGlobals:=fun z=>by
  obtain⟨o,es,ep,e,d,_⟩:=wL
  have e2:=I.bk _ _ b3
  rw[z,e]at e2
  cases e2
  rw[d]at b6
  cases b6
 have BA:s.heap.BuiltinsAt X.mg P:=⟨bm,ob,b1,b2,QI,nF,I.bk _ _ b3,b4,b5,b6⟩
 refine PySem.W.kla_eval AM ?_
 cases hf:codeAmong pos ps.toList with
 |some cv=>
  obtain⟨c',rfl,cm⟩:=hC pos cv hf
  refine PySem.W.kla_makeFunctionHit cZ I.ok.glob wL L.code (L.hd.keeps I.bk) oP hT hf BA fun nV h' tk hk hsz=> ?_
  have nf:H h'.objs.size=none:=I.ak.fresh hsz
  have s1:ag H (upd H h'.objs.size (mQ h'.objs.size (X.env.qual++ "<lambda>") params body scope (cJ scope X.env) ((X.mg "__name__").getD .none) c' nV)):=fun b o hb=>by rw[Zh (Zg hb nf)];exact hb
  refine⟨.ref h'.objs.size,_,I.laid (t':=tk) (a:=h'.objs.size) (fun b u e=>Zab _ (hk b u e)) hsz (Iu (Zat _ rfl)),rfl,?_⟩
  exact q _ _ (fun b o hb _=>s1 b o hb) nf ⟨ps,s1 _ _ hP,hT,fun p2 Bk z=>by obtain⟨c2,e2,h2⟩:=hC p2 Bk z;exact⟨c2,e2,s1 _ _ h2⟩⟩ ⟨_,c',nV,Ze,s1 _ _ cm⟩
 |none=>
  refine PySem.W.kla_makeFunction cZ I.ok.glob wL L.code (L.hd.keeps I.bk) oP hT hf Qo BA fun c' nV h' tk hx dH az vY rQ=> ?_
  have vH:∀b o,s.heap.get? b=some o->b<c':=fun b o e=>Zaz (Zaq e) dH
  have ltH:∀b o,H b=some o->b<c':=fun b o e=>Zaz (I.ak.lt e) dH
  have nc:H c'=none:=I.ak.fresh dH
  have nf:H h'.objs.size=none:=I.ak.fresh (Zcd dH (Zeb az))
  have M4:P≠c':=Zg hP nc
  have Dq:P≠h'.objs.size:=Zg hP nf
  have cnf:c'≠h'.objs.size:=ZaE az
  generalize wz:h'.objs.size=f at nf Dq cnf
  generalize Ai:ps++ #[rawInt pos.line,rawInt pos.col,Value.ref c']=mI at rQ
  generalize As:mQ f (X.env.qual++ "<lambda>") params body scope (cJ scope X.env) ((X.mg "__name__").getD .none) c' nV=lo
  have keep:∀b o,b≠P->s.heap.get? b=some o->(h'.push (PySem.W.kla_obj "<lambda>" (X.env.qual++ "<lambda>") params body scope (cJ scope X.env) ((X.mg "__name__").getD .none) c' nV)).get? b=some o:=fun b o hb e=>Zab _ (hx b o hb e)
  have bI:∀b o,H b=some o->b≠P->upd (upd (upd H P (.bM mI)) c' (gL c' (X.env.qual++ "<lambda>"))) f lo b=some o:=fun b o hb cP=>by
   rw[Zh (Zg hb nf),Zh (Zg hb nc),Zh cP]
   exact hb
  have Br:upd (upd (upd H P (.bM mI)) c' (gL c' (X.env.qual++ "<lambda>"))) f lo P=some (.bM mI):=by rw[Zh Dq,Zh M4,Ze]
  have atC:upd (upd (upd H P (.bM mI)) c' (gL c' (X.env.qual++ "<lambda>"))) f lo c'=some (gL c' (X.env.qual++ "<lambda>")):=by rw[Zh cnf,Ze]
  have GL:upd (upd (upd H P (.bM mI)) c' (gL c' (X.env.qual++ "<lambda>"))) f lo f=some lo:=Ze
  have J:Inv X pins σ (upd (upd (upd H P (.bM mI)) c' (gL c' (X.env.qual++ "<lambda>"))) f lo) {s with heap:=h'.push (PySem.W.kla_obj "<lambda>" (X.env.qual++ "<lambda>") params body scope (cJ scope X.env) ((X.mg "__name__").getD .none) c' nV),toks:=tk} :=by
   refine I.un (t':=tk) ⟨fun b o e n _ _=>keep b o (fun z=>by rw[z,hP]at n;cases n) e,fun b o e n _ _=> ⟨o.slots,keep b o (fun z=>by rw[z,hP]at n;cases n) e⟩,fun b o e n _=> ?_,fun b o e _=> ?_,fun b xs e=>bI b _ e (fun z=>by rw[z,hP]at e;cases e),fun b o u e=>bI b _ e (fun z=>by rw[z,hP]at e;cases e),fun b qs e=> ?_⟩ ?_
   ·have hl:=vH b o e
    rw[Zh (by rw[<-wz];exact ZaE (Nat.lt_trans hl az)),Zh (ZaE hl),Zh (fun z=>by rw[z,hP]at n;cases n)]
    exact n
   ·by_cases hb:b=P
    ·rw[hb];exact⟨_,Zab _ rQ⟩
    ·exact⟨o,keep b o hb e⟩
   ·by_cases hb:b=P
    ·rw[hb,hP]at e
     cases e
     exact⟨_,by rw[hb,Br,Ai]⟩
    ·exact⟨#[],by rw[bI b _ e hb];simp⟩
   ·intro b o hb
    by_cases h1:b=f
    ·rw[h1,GL]at hb
     cases hb
     rw[h1,<-As]
     refine Iu ?_
     rw[<-wz]
     exact Zat _ rfl
    ·by_cases h2:b=c'
     ·rw[h2,atC]at hb
      cases hb
      rw[h2]
      exact V3 (JU vY fun o e=>Zab _ e)
     ·by_cases h3:b=P
      ·rw[h3,Br]at hb
       cases hb
       rw[h3]
       exact Zab _ rQ
      ·have cw:H b=some o:=by rw[Zh h1,Zh h2,Zh h3]at hb;exact hb
       refine(I.ak b o cw).cE (fun z u hz e=>keep z u ?_ e) (fun z e=> ?_) fun z xs e=> ?_
       ·rcases hz with hz |hz
        ·rw[hz];exact h3
        ·intro cY;rw[cY,hP]at hz;cases hz
       ·exact bI z _ e fun cY=>by rw[cY,hP]at e;cases e
       ·exact bI z _ e fun cY=>by rw[cY,hP]at e;cases e
  refine⟨.ref f,_,J,rfl,?_⟩
  refine q f _ (fun b o hb cP=>bI b o hb cP) nf ⟨mI,Br,?_,fun p2 Bk z=> ?_⟩ ⟨_,c',nV,by rw[GL,<-As],atC⟩
  ·rw[<-Ai,Zb9]
   exact JF _ hT
  ·rw[<-Ai,Zb9]at z
   rcases W0 _ hT z with z |z
   ·obtain⟨c2,e2,h2⟩:=hC p2 Bk z
    exact⟨c2,e2,bI _ _ h2 fun cY=>by rw[cY,hP]at h2;cases h2⟩
   ·exact⟨c',z,atC⟩
theorem o9 {X:Cx}{E:XK}(OX:∀e s',wpAny (model X.prog X.w) X.A (leaving X.env e) (fun _ fh=>aC X.prog X.w X.outer X.kI X.cf E e fh) (fun e' fh=>aC X.prog X.w X.outer X.kI X.cf E e' fh) s'->X.xe e s')
  (ka:X.stack=X.env::X.outer) (fG:X.env.frame=some X.env.locals) (hex:X.ex=[]):Passes (aC X.prog X.w) X E:=by
 intro pins σ H1 s1 ev s2 I h
 obtain⟨e,C,H',rfl,F,hE⟩:=h
 obtain⟨B,a0,fl,bA,eY⟩:=F.wO
 have un:=F.un
 rw[ka]at fl bA un
 have ib:Un (aQ X.outer) [] X.kI H1 X.cf.heap s1.heap:=by have:=I.base;rw[hex]at this;exact this
 have A7:X.A.frames=some (X.env::X.outer):=by rw[<-ka];exact I.ok.frames
 refine OX _ _ (wpAny_leaves_onW (L:=X.env.locals) A7 fG fl fun h' nN up=> ?_)
 refine⟨e,C,H',rfl,⟨F.os.trans I.os,F.bare,Wu (base:=X.base) (L:=X.env.locals) ib un fG I.ok.above I.ok.dI I.ok.fZ bA fl.1 nN.1 up,YS F.ak eY fl.1 nN.1,B,a0,nN,fun b o hb hn=> ?_,eY⟩,hE⟩
 obtain⟨o1,e1⟩:=ib.there b o hb (by simp)
 refine bA b o1 e1 fun hm=> ?_
 have bZ:b∈(X.env::X.outer).filterMap (·.frame):=hm
 rw[Zdj (f:=fun(x:Env)=>x.frame) (a:=X.env) (b:=X.env.locals) fG]at bZ
 rcases Zao.mp bZ with q |q
 ·rw[q]at hb
  exact absurd (Zaz (Zaq hb) I.ok.above) (ZbI _)
 ·exact hn q
def fM (P:Program) (w:World) (K:ZhQ) (mg:Str->Option Value) (base:Heap) (N:List Str) (q:Str) (scope:Scope) (f:Addr) (cd:Value) (cl:List (Str×Addr)) (A:Around) (outer:List Env) (s:Shared) (H:Hp) (E:XK):Cx where
 prog:=P
 w:=w
 K:=K
 mg:=mg
 base:=base
 A:=A.deeper (PySem.W.envX q scope s.heap.objs.size f cd cl)
 N:=N
 cf:=s
 kI:=H
 env:=PySem.W.envX q scope s.heap.objs.size f cd cl
 outer:=outer
 stack:=PySem.W.envX q scope s.heap.objs.size f cd cl::outer
 ex:=[]
 calm:=true
 fn:=fun _=>false
 pn:=[]
 xe:=fun e s'=>wpAny (model P w) (A.deeper (PySem.W.envX q scope s.heap.objs.size f cd cl)) (leaving (PySem.W.envX q scope s.heap.objs.size f cd cl) e) (fun _ fh=>aC P w outer H s E e fh) (fun e' fh=>aC P w outer H s E e' fh) s'
structure Two (base:Heap) (scope:Scope) (cl:List (Str×Addr)) (x y:Str) (vx vy:V):Prop where
 kx:scope.names.lookup x=some .free
 ky:scope.names.lookup y=some .free
 only:∀z,scope.names.lookup z=some .cell∨scope.names.lookup z=some .free->z=x∨z=y
 ne:x≠y
 cx:∃c u,cl.lookup x=some c/\base.IsCell c (some u)/\RelV vx u
 cy:∃c u,cl.lookup y=some c/\base.IsCell c (some u)/\RelV vy u
 mem:∀z c,cl.lookup z=some c->z=x∨z=y
 inj:∀c,cl.lookup x=some c->cl.lookup y=some c->False
theorem JR {h b1 b2:Heap} :∀{l:List Env},h.FunFrames b1 l->(∀b∈aQ l,b2.get? b=none)->h.FunFrames b2 l
 | [],_,_=>trivial
 |env::r,⟨hk,⟨L,o,hf,_,ho,hd⟩,hr⟩,hn=> ⟨hk,⟨L,o,hf,hn L (Zcg.mpr ⟨env,.head _,hf⟩),ho,hd⟩,JR hr fun b hb=>hn b (by
  obtain⟨e,he,q⟩:=Zcg.mp hb
  exact Zcg.mpr ⟨e,.tail _ he,q⟩)⟩
theorem Inv.rebase {X:Cx}{pins:List (Addr×Obj)}{σ:St}{H:Hp}{s:Shared}(I:Inv X pins σ H s):
  ∃bf,X.base.StaysIn bf/\tT X.prog X.w X.K X.mg bf X.A X.stack s H/\∀b o,s.heap.get? b=some o->H b=none->b∉aQ X.stack->bf.get? b=some o:=by
 have bA:∀b o,s.heap.get? b=some o->H b=none->b∉aQ X.stack->(PySem.W.hideAll (ij s.heap H) (aQ X.stack)).get? b=some o:=fun b o e n hf=>PySem.W.hideAll_get _ (IV e n) hf
 have st:X.base.StaysIn (PySem.W.hideAll (ij s.heap H) (aQ X.stack)):=fun b o e=>bA b o (I.bs b o e).1 (I.bs b o e).2 fun hm=>by
  have:=(I.stack.mem hm).1
  rw[e]at this
  cases this
 refine⟨_,st,⟨I.ok.frames,⟨I.mod.mS.keeps st,I.mod.glob.keeps st,?_,I.mod.nolimit.keeps st⟩,fun b o e=>HR (Zer _ e),?_,JR I.stack fun b hb=>PySem.W.hideAll_none _ hb,I.qK,I.ak,I.bare⟩,bA⟩
 ·obtain⟨mb,h1,h2⟩:=I.mod.blt
  exact⟨mb,h1.keeps st,h2⟩
 ·rw[PySem.W.hideAll_size,UG]
  exact Zae _
def LF (wi:TI) (ts:Nat) (aY:List Nat) (g:TG) (tt:TT) (ti:St->TC):TE:=fun σ H Q=>wi σ H fun J H1=>gR g tt (ti σ) J [] (i7 ts aY σ) H1 fun ys _ H2=> ∀p,H2 p=none->Q (.ref p) (upd H2 p (.lst ys))
theorem Kf {X:Cx}{elt tg iter:Expr}{ifs:List Expr}{rest:List Comprehension}{scope:Scope}{pos:Pos}{wi:TI}{g:TG}{tt:TT}{ti:St->TC}(N':List Str) (ts:Nat) (aY:List Nat) (hi:PI X tg iter wi) (pg:∀C s H fp,PG (aR X N' scope C s H fp) tg g) (pt:∀C s H fp,kF (aR X N' scope C s H fp) ifs tt)
  (pi:∀pins σ C s H fp D,Inv X pins σ H s->(∀b∈fp,bE X pins H b)->kG (aR X N' scope C s H fp) D (inner elt (⟨tg,iter,ifs,0⟩::rest) scope pos 0 (.ref D) (aR X N' scope C s H fp).env) (ti σ))
  (ok:qk X.env.scope scope X.N N' ts aY=true:=by rfl) (hc:X.calm=true:=by rfl) (h2:∀g',(Comprehension.mk tg iter ifs 0::rest)[0+1]? =some g'->g'.is_async=0:=by(intro g' h;cases h<;>rfl))
  (hs:∀x,foldedSetIterable iter X.env x=pure x:=by intro _;rfl):
  PE X (.ListComp elt (⟨tg,iter,ifs,0⟩::rest) scope pos) (LF wi ts aY g tt ti):=by
 intro pins s σ H Q I h
 have S:=JT ok
 rw[PySem.eval_ListComp]
 refine ZeD (use:=none) rfl hs (Yc fun y hy e=>I.ok.has _ (S.free y hy e)) S.kind S.names (ar (hi pins s σ H _ I h) fun v s1 h1=>ar h1 fun iK s2 ik=> ?_)
 obtain⟨it,fp,tn,J,H2,e,I2,T,au,f2,q2⟩:=ik
 subst e
 refine Jz (RR:=fun acc C=>compPost (model X.prog X.w) X.A X.xe none _ acc C) S hc I2 T au f2 h2 (fun C=>pg C _ _ _) (fun C=>pt C _ _ _) (fun C D=>pi pins σ C _ _ _ D I2 f2) q2 ?_
 intro C D s' ao H' ys fl hC hD km J' n a q
 obtain⟨m,hn,_⟩:=J'.loc
 exact⟨m,hn,fun h' sb=> ⟨.ref D,_,WY I2 f2 hC hD km J' n a sb,rfl,q D n⟩⟩
def Tj:Const->Option V
 | .int n=>some (.int n)
 | .bool b=>some (.bl b)
 | .str x=>some (.str x)
 | .none=>some .ah
 |_=>none
def qY:Expr->Option V
 | .Constant c _ _=>Tj c
 | .UnaryOp .USub (.Constant (.int n) _ _) _=>some (.int (-n))
 | .BinOp (.Constant (.int a) _ _) .Pow (.Constant (.int b) _ _) _=>if 0<=b/\b<=1000000/\a.natAbs<2^64 then some (.int (a^b.toNat)) else none
 |_=>none
def qV:List Expr->Option (List V)
 | []=>some []
 |e::r=>match qY e,qV r with
  |some v,some vs=>some (v::vs)
  |_,_=>none
inductive Lit where
 |sc (v:V)
 |tup (xs:List V)
 |lst (xs:List V)
 |i6
def jF (H:Hp) (v:V):Lit->Prop
 | .sc u=>v=u
 | .tup xs=> ∃a:Addr,v=.ref a/\H a=some (.tup xs)
 | .lst xs=> ∃a:Addr,v=.ref a/\H a=some (.lst xs)
 | .i6=> ∃a:Addr,v=.ref a/\H a=some (.dK [])
theorem jF.same {H H':Hp}{v:V} :∀{l:Lit},jF H v l->ag H H'->jF H' v l
 | .sc _,h,_=>h
 | .tup _,⟨a,e,h⟩,s=> ⟨a,e,s _ _ h⟩
 | .lst _,⟨a,e,h⟩,s=> ⟨a,e,s _ _ h⟩
 | .i6,⟨a,e,h⟩,s=> ⟨a,e,s _ _ h⟩
def litOf:Expr->Option Lit
 | .Tuple es _ _=>match qV es with
  |some xs=>if xs.length<=1000 then some (.tup xs) else none
  |none=>none
 | .List es _=>match qV es with
  |some xs=>if xs.length<=1000 then some (.lst xs) else none
  |none=>none
 | .Dict [] [] _=>some .i6
 |e=> (qY e).map .sc
def litsOf:List Expr->Option (List Lit)
 | []=>some []
 |e::r=>match litOf e,litsOf r with
  |some v,some vs=>some (v::vs)
  |_,_=>none
section
variable {X:Cx}
theorem GQ {e:Expr}{v:V}(h:qY e=some v):PE X e (tC v)/\(∀es,starEach (e::es) X.env=(false,eval e X.env)::starEach es X.env)/\∀a:Addr,v≠.ref a:=by
 unfold qY at h
 split at h
 ·rename_i c j p
  cases c with
  |int n=>cases h;exact⟨Zd,fun _=>rfl,fun a z=>by cases z⟩
  |bool b=>cases h;exact⟨Wf,fun _=>rfl,fun a z=>by cases z⟩
  |str x=>cases h;exact⟨ZS,fun _=>rfl,fun a z=>by cases z⟩
  |none=>cases h;exact⟨Yo,fun _=>rfl,fun a z=>by cases z⟩
  |_=>cases h
 ·cases h
  refine⟨fun pins s σ H Q I q=>GR Hk Zd pins s σ H Q I ⟨_,rfl,q⟩,fun _=>rfl,fun a z=>by cases z⟩
 ·split at h
  ·rename_i hc
   cases h
   refine⟨fun pins s σ H Q I q=>Zm WD Zd Zd pins s σ H Q I ⟨_,_,rfl,rfl,hc,q⟩,fun _=>rfl,fun a z=>by cases z⟩
  ·cases h
 ·cases h
theorem WC:∀{es:List Expr}{vs:List V},qV es=some vs->PA X es (fun _ H Q=>Q vs H)
 | [],vs,h=>by cases h;exact Zb
 |e::r,vs,h=>by
  unfold qV at h
  split at h
  ·rename_i v ws h1 h2
   cases h
   obtain⟨p1,p2,_⟩:=GQ (X:=X) h1
   exact fun pos pins s σ H Q I q=>Za p1 (WC h2) (p2 r) pos pins s σ H Q I q
  ·cases h
theorem VR {e:Expr}{l:Lit}(h:litOf e=some l):PE X e (fun _ H Q=> ∀v H',ag H H'->jF H' v l->(∀a:Addr,v=.ref a->H a=none)->Q v H')/\∀es,starEach (e::es) X.env=(false,eval e X.env)::starEach es X.env:=by
 unfold litOf at h
 split at h
 ·split at h
  ·rename_i xs hx
   split at h
   ·rename_i hl
    cases h
    refine⟨fun pins s σ H Q I q=>Zs (WC hx) pins s σ H Q I ⟨Zeb (CT hl),fun p hp=>q _ _ (fun b o hb=>by rw[Zh (Zg hb hp)];exact hb) ⟨p,rfl,Ze⟩ fun a z=>by cases z;exact hp⟩,fun _=>rfl⟩
   ·cases h
  ·cases h
 ·split at h
  ·rename_i xs hx
   split at h
   ·rename_i hl
    cases h
    refine⟨fun pins s σ H Q I q=>ZG (WC hx) pins s σ H Q I ⟨Zeb (CT hl),fun p hp=>q _ _ (fun b o hb=>by rw[Zh (Zg hb hp)];exact hb) ⟨p,rfl,Ze⟩ fun a z=>by cases z;exact hp⟩,fun _=>rfl⟩
   ·cases h
  ·cases h
 ·cases h
  exact⟨fun pins s σ H Q I q=>IB pins s σ H Q I fun p hp=>q _ _ (fun b o hb=>by rw[Zh (Zg hb hp)];exact hb) ⟨p,rfl,Ze⟩ fun a z=>by cases z;exact hp,fun _=>rfl⟩
 ·rename_i x0 h1 h2 h3
  cases hs:qY e with
  |none=>rw[hs]at h;cases h
  |some v=>
   rw[hs]at h
   cases h
   obtain⟨p1,p2,p3⟩:=GQ (X:=X) hs
   exact⟨fun pins s σ H Q I q=>p1 pins s σ H Q I (q v H (ag.refl H) rfl fun a z=>absurd z (p3 a)),p2⟩
theorem HX:∀{es:List Expr}{ls:List Lit},litsOf es=some ls->PA X es (fun _ H Q=> ∀vs H',ag H H'->Paired (jF H') vs ls->(∀a,V.ref a∈vs->H a=none)->Q vs H')
 | [],ls,h=>by cases h;exact fun pos pins s σ H Q I q=>Zb pos pins s σ H Q I (q [] H (ag.refl H) .nil fun a z=>nomatch z)
 |e::r,ls,h=>by
  unfold litsOf at h
  split at h
  ·rename_i v ws h1 h2
   cases h
   obtain⟨p1,p2⟩:=VR (X:=X) h1
   exact fun pos pins s σ H Q I q=>Za p1 (HX h2) (p2 r) pos pins s σ H Q I fun v1 H1 s1 l1 n1 vs H2 s2 pr n2=>q (v1::vs) H2 (s1.trans s2) (.cons (l1.same s2) pr) fun a z=>by
    rcases Zao.mp z with z |z
    ·exact n1 a z.symm
    ·exact s1.free (n2 a z)
  ·cases h
end
theorem Um (n l1 l2:Nat) (h1:l1<n) (h2:l2<n):ZipApart (n+4) (n+2) (n+3) n (n+1) l1 l2:=by
 constructor<;>intro z<;>refine absurd (show @Eq Nat _ _ from z) ?_<;>omega
end L2
namespace L2
open PySem PySem.Spec PyProof.Rows SeqAt
theorem Jn {α β:Type}{F:α->β->Prop} :∀{kY:List α}{kX:List β}{i:Nat}{x:α},Paired F kY kX->kY[i]? =some x->∃y,kX[i]? =some y/\F x y
 |_,_,_,_,.nil,h=>by simp at h
 |_,_,0,_,.cons r _,h=>by simp at h;subst h;exact⟨_,rfl,r⟩
 |_,_,i+1,_,.cons _ t,h=>by
  obtain⟨y,e,q⟩:=Jn t (i:=i) (by simpa using h)
  exact⟨y,by simpa using e,q⟩
section
variable {X:Cx}
theorem Zai {a b:String} :dA X (.builtin "isinstance") (fun xs H Q=> ∃(x:V) (t:Addr) (T:Value) (r:Bool),xs=[x,.ref t]/\aj X.K H t [.ty a,.ty b]/\((∃i,x=.int i/\T=.type "int")∨∃l ys,x=.ref l/\H l=some (.lst ys)/\T=.type "list")/\
  PySem.W.kitAny X.K T [.type a,.type b]=some r/\Q (.bl r) H):=by
 intro pins s σ H xs us Q I rv h
 obtain⟨x,t,T,r,rfl,hq,hx,hk,q⟩:=h
 obtain⟨u,v,rfl,ru,rv⟩:=vals2 rv
 cases rv
 obtain⟨aa,rt,pl,hz⟩:=I.tuple hq
 cases rt with
 |cons r1 r2=>
  cases r2 with
  |cons r3 r4=>
   cases r4
   cases r1
   cases r3
   obtain⟨o,ho,hc,n,hd⟩:=id pl
   obtain⟨cls,dd,dt,sl⟩:=o
   replace hc:cls=.type "tuple" :=hc
   replace hd:dt=.seq [Value.type a,Value.type b].toArray n:=hd
   subst hc hd
   rcases hx with ⟨i,rfl,rfl⟩ |⟨l,ys,rfl,hl,rfl⟩
   ·obtain⟨tk,rfl⟩:=ru
    exact Ze5 PySem.W.kitx_int I.bX True.intro ho hk (fun z=>nomatch z) fun tk=> ⟨.bl r,H,I.tok _,rfl,q⟩
   ·cases ru
    obtain⟨_,_,n,_,h1⟩:=(show bu X.prog X.w H s.heap l (.lst ys) from I.ak l _ hl)
    exact Ze5 PySem.W.kitx_list I.bX ⟨_,h1,rfl⟩ ho hk (fun z=>nomatch z) fun tk=> ⟨.bl r,H,I.tok _,rfl,q⟩
def il (i:Int) (n:Nat):List Int:=(List.range n).map fun(k:Nat)=>i+(k:Int)
theorem Jg {ns:List Int}{us:List Value}(r:Vals (ns.map V.int) us) (j:Nat) (h:j<us.length):∃t,us[j]=.int (ns.getD j 0) t:=by
 have hl:=r.length
 rw[Zar]at hl
 have hj:j<ns.length:=.o
 obtain⟨u,hu,t,ru⟩:=r.get (i:=j) (x:=.int ns[j]) (by rw[ZbG,Zag hj];rfl)
 rw[Zag h]at hu
 cases hu
 exact⟨t,by rw[ru];simp[hj]⟩
theorem VN (hu:X.A.units<cLine):bg X (compareOp .Eq) (fun x y H Q=> ∃(a b:Addr) (ns ms:List Int),x=.ref a/\y=.ref b/\ai X.K H a (ns.map V.int)/\ai X.K H b (ms.map V.int)/\Q (.bl (decide (ns=ms))) H):=by
 intro pins s σ H x y u v Q I rx ry h
 obtain⟨a,b,ns,ms,rfl,rfl,ha,hb,q⟩:=h
 cases rx
 cases ry
 obtain⟨us,r1,p1,_⟩:=I.list ha
 obtain⟨vs,r2,p2,_⟩:=I.list hb
 have l1:=r1.length
 have l2:=r2.length
 rw[Zar]at l1 l2
 by_cases hl:ns.length=ms.length
 ·refine eq_listAt (e:=fun j=>ns.getD j 0==ms.getD j 0) p1.isList p2.isList (by simp;omega) hu (fun j h1 h2=> ?_) ?_
  ·obtain⟨t1,e1⟩:=Jg r1 j (by simpa using h1)
   obtain⟨t2,e2⟩:=Jg r2 j (by simpa using h2)
   rw[show us.toArray[j]=us[j]'(by simpa using h1) by simp,show vs.toArray[j]=vs[j]'(by simpa using h2) by simp,e1,e2]
   exact Zdz _ _ _ _
  ·have e:(List.range us.toArray.size).all (fun j=>ns.getD j 0==ms.getD j 0)=decide (ns=ms):=by
    rw[Zek,ZaZ,Zb5]
    constructor
    ·intro h
     refine List.ext_getElem hl fun i h1 h2=> ?_
     have:=h i (by rw[Zbr,Zaj];omega)
     simpa[h1,h2] using this
    ·rintro rfl j _
     simp
   rw[e]
   exact⟨.bl _,H,I,rfl,q⟩
 ·refine eq_list_lengthsAt p1.isList p2.isList (by simp;omega) hu ?_
  rw[ZaA (fun z=>hl (by rw[z]))]at q
  exact⟨.bl false,H,I,rfl,q⟩
theorem UM {x:V} :∀{xs:List V}{us:List Value},Vals xs us->xs.all fK=true->us.countP (gK x)=xs.countP fun y=>dZ y x
 |_,_,.nil,_=>rfl
 |y::xs,u::us,.cons r t,f=>by
  rw[List.all_cons,ZaL]at f
  rw[List.countP_cons,List.countP_cons,xp r f.1,UM t f.2]
def MI (K:ZhQ):V->List V->Hp->VK->Prop:=fun v vs H Q=> ∃(a:Addr) (xs:List V) (x:V),v=.ref a/\vs=[x]/\ai K H a xs/\fK x=true/\xs.all fK=true/\Q (.int ((xs.countP fun y=>dZ y x:Nat):Int)) H
theorem IA {aa:List Value}{h:Heap}{a:Addr}(pl:h.IsList a aa.toArray):∃dd n sl,h.get? a=some {cls:=.type "list",dict:=dd,data:=.seq aa.toArray n,slots:=sl} :=by
 obtain⟨o,ho,hc,n,hd⟩:=pl
 obtain⟨cls,dd,dt,sl⟩:=o
 replace hc:cls=.type "list" :=hc
 replace hd:dt=.seq aa.toArray n:=hd
 subst hc hd
 exact⟨_,_,_,ho⟩
theorem ZdX:xw X "list.count" (MI X.K):=by
 intro pins s σ H v vs u us Q I rv zl h
 obtain⟨a,xs,x,rfl,rfl,hq,fx,fs,q⟩:=h
 cases rv
 obtain⟨ux,rfl,rx⟩:=Zgc zl
 obtain⟨aa,r,pl,hz⟩:=I.list hq
 obtain⟨dd,n,sl,ho⟩:=IA pl.isList
 refine Zep F.slot_list_count ⟨_,ho,rfl⟩ F.entry_list_count (F.args_list_count_2 _ _) (list_countAt a aa.toArray n dd sl ux (gK x)) ⟨ho,fun y hy=>Y4 rx fx r fs y (by simpa using hy),?_⟩
 exact⟨.int _,H,I.tok _,⟨_,by rw[show aa.toArray.toList=aa by simp,UM r fs]⟩,q⟩
def MH (K:ZhQ):V->List V->Hp->VK->Prop:=fun v vs H Q=> ∃(a:Addr) (xs:List V) (x:V) (j:Nat),v=.ref a/\vs=[x]/\ai K H a xs/\fK x=true/\xs.all fK=true/\(∃y,xs[j]? =some y/\dZ y x=true)/\(∀m y,m<j->xs[m]? =some y->dZ y x=false)/\Q (.int (j:Int)) H
theorem ZcN:xw X "list.index" (MH X.K):=by
 intro pins s σ H v vs u us Q I rv zl h
 obtain⟨a,xs,x,j,rfl,rfl,hq,fx,fs,⟨y,hy,ey⟩,Ao,q⟩:=h
 cases rv
 obtain⟨ux,rfl,rx⟩:=Zgc zl
 obtain⟨aa,r,pl,hz⟩:=I.list hq
 obtain⟨dd,n,sl,ho⟩:=IA pl.isList
 have hlen:=r.length
 have GN:∀k z (hk:k<aa.length),xs[k]? =some z->gK x aa[k]=dZ z x:=fun k z hk fU=>by
  obtain⟨w,hw,iH⟩:=r.get fU
  rw[Zag hk]at hw
  cases hw
  exact xp iH (ZaZ.mp fs z (ZaX fU))
 have hj:j<aa.length:=by have:=(Zad.mp hy).1;omega
 refine Zep F.slot_list_index ⟨_,ho,rfl⟩ F.entry_list_index (F.args_list_index_2 _ _)
  (list_indexAt a aa.toArray n dd sl ux (gK x) j (by simpa using hj) (by rw[ZaH]at hz;omega) (by simpa[ey] using GN j y hj hy) (fun m hm P1=> ?_)) ⟨ho,fun y hy=>Y4 rx fx r fs y (by simpa using hy),?_⟩
 ·have bZ:m<aa.length:=by simpa using hm
  have hx:m<xs.length:=.o
  have e:=GN m _ bZ (Zag hx)
  rw[Ao m _ P1 (Zag hx)]at e
  simpa using e
 ·exact⟨.int (j:Int),H,I.tok _,⟨_,rfl⟩,q⟩
def Lv (ta tb tc td te:TE):TE:=fun σ H Q=>ta σ H fun v1 H1=> ∃x1,v1=.str x1/\(Str.empty++x1).length<=sizeLine/\tb σ H1 fun v2 H2=> ∃n:Int,v2=.int n/\n.natAbs.log2<1920/\(Str.empty++x1++(Str.ofString (toString n))).length<=sizeLine/\
 tc σ H2 fun v3 H3=> ∃x3,v3=.str x3/\(Str.empty++x1++(Str.ofString (toString n))++x3).length<=sizeLine/\td σ H3 fun v4 H4=> ∃m:Int,v4=.int m/\m.natAbs.log2<1920/\(Str.empty++x1++(Str.ofString (toString n))++x3++(Str.ofString (toString m))).length<=sizeLine/\
 te σ H4 fun v5 H5=> ∃x5,v5=.str x5/\(Str.empty++x1++(Str.ofString (toString n))++x3++(Str.ofString (toString m))++x5).length<=sizeLine/\∀z,Q (.str z) H5
theorem IC {a b c d e:Expr}{ta tb tc td te:TE}{p p' pos:Pos}(ha:PE X a ta) (hb:PE X b tb) (hc:PE X c tc) (hd:PE X d td) (he:PE X e te):PE X (.JoinedStr [a,.FormattedValue b (-1) none p,c,.FormattedValue d (-1) none p',e] pos) (Lv ta tb tc td te):=by
 intro pins s σ H Q I h
 refine JoinedStr_many (ZeU (Zbs (ha pins s σ H _ I h) (fun u s1 h1=> ?_) fun _ _ y=>y))
 obtain⟨v,H1,I1,r1,x,rfl,hz,h2⟩:=h1
 obtain⟨t,rfl⟩:=r1
 refine⟨hz,ZeU (ZfZ (Zbs (hb pins s1 σ H1 _ I1 h2) (fun u s2 h3=> ?_) fun _ _ y=>y))⟩
 obtain⟨v,H2,I2,r2,n,rfl,hn,cY,h4⟩:=h3
 obtain⟨t2,rfl⟩:=r2
 refine ZfO hn ⟨cY,?_⟩
 have I2':=I2.tok (s2.toks+1)
 refine ZeU (Zbs (hc pins _ σ H2 _ (I2.tok _) h4) (fun u s3 h5=> ?_) fun _ _ y=>y)
 obtain⟨v,H3,I3,r3,x3,rfl,OU,h6⟩:=h5
 obtain⟨t3,rfl⟩:=r3
 refine⟨OU,ZeU (ZfZ (Zbs (hd pins s3 σ H3 _ I3 h6) (fun u s4 h7=> ?_) fun _ _ y=>y))⟩
 obtain⟨v,H4,I4,r4,m,rfl,hm,OT,h8⟩:=h7
 obtain⟨t4,rfl⟩:=r4
 refine ZfO hm ⟨OT,?_⟩
 refine ZeU (Zbs (he pins _ σ H4 _ (I4.tok _) h8) (fun u s5 h9=> ?_) fun _ _ y=>y)
 obtain⟨v,H5,I5,r5,x5,rfl,Eh,q⟩:=h9
 obtain⟨t5,rfl⟩:=r5
 refine⟨Eh,joinParts_nil ?_ Eh⟩
 exact⟨.str _,H5,I5.tok _,⟨_,rfl⟩,q _⟩
end
end L2
namespace L2
open PySem PySem.Spec PyProof.Rows
structure One (base:Heap) (scope:Scope) (cl:List (Str×Addr)) (x:Str) (vx:V):Prop where
 kx:scope.names.lookup x=some .free
 only:∀z,scope.names.lookup z=some .cell∨scope.names.lookup z=some .free->z=x
 cx:∃c u,cl.lookup x=some c/\base.IsCell c (some u)/\RelV vx u
 mem:∀z c,cl.lookup z=some c->z=x
structure Src (prog:Program) (w:World) (i l:Addr) (n:Nat) (f:Nat->Value) (S:Nat->Heap->Prop):Prop where
 here:∀k h,S k h->∃o,h.get? i=some o
 cE:∀k h h',S k h->(∀c,c=i∨c=l->∀o,h.get? c=some o->h'.get? c=some o)->S k h'
 item:∀(A:Around) k (s:Shared) (Q:Value->Shared->Prop) (E:Value->Shared->Prop),k<n->S k s.heap->(∀h',S (k+1) h'->Heap.SameBut i s.heap h'->Q (f k) {s with heap:=h'})->wpAny (model prog w) A (Builtin.SmallTypes.nextOf (.ref i)) Q E s
 stop:∀(A:Around) (s:Shared) (Q:Value->Shared->Prop) (E:Value->Shared->Prop),A.handled=none->S n s.heap->(∀h' e,Heap.ExtBut i s.heap h'->(∃o,h'.get? e=some o/\o.cls=.type "StopIteration")->E (.ref e) {s with heap:=h'})->wpAny (model prog w) A (Builtin.SmallTypes.nextOf (.ref i)) Q E s
theorem Jb (prog:Program) (w:World) {i l:Addr}(aa:Array Value) (cP:l≠i):Src prog w i l aa.size (fun k=>aa.getD k .none) (fun k h=>IsTupIter h i l k/\IsTup h l aa) where
 here:=fun k h ⟨⟨o,ho,_⟩,_⟩=> ⟨o,ho⟩
 cE:=fun k h h' ⟨⟨o,ho,r⟩,⟨u,hu,r'⟩⟩ st=> ⟨⟨o,st i (.inl rfl) o ho,r⟩,⟨u,st l (.inr rfl) u hu,r'⟩⟩
 item:=fun A k s Q E hk ⟨hi,ht⟩ q=>by
  obtain⟨oi,gi,ci,di⟩:=id hi
  obtain⟨ot,gt,ct,nt,dt⟩:=id ht
  have hx:aa[k]? =some (aa.getD k .none):=by simp[hk]
  unfold Builtin.SmallTypes.nextOf
  refine Zaa (Zb8 (name:=Str.ofString "__next__") hi.typeIs Zfn (Zdq Zfn hi.typeIs entry_tupleiter_next ?_ (args_tupleiter_next _)))
  refine(show wpAny _ _ (field (.ref i) 0 >>=_) _ _ s from Zaa (ZbQ gi di (x:=.ref l) rfl ?_))
  refine(show wpAny _ _ (if (Value.ref l==Value.none)=true then _ else _) _ _ s from ?_)
  rw[ZaK (by exact Zaw)]
  refine(show wpAny _ _ (field (.ref i) 1 >>=_) _ _ s from Zaa (ZbQ gi di (x:=.int k 0) rfl ?_))
  refine(show wpAny _ _ (seqItems? (.ref l) >>=_) _ _ s from Zaa (Zb7 gt dt ?_))
  simp only[Zeg,hx]
  refine Zaa (Zfd gi di (by simp) (Zaf ⟨_,rfl,Zaf (q _ ⟨⟨_,Zdi _ gi (PySem.Obj.isFreed_of_fields (Zeu di _)),(Obj.cls_mapFields ..).trans ci,?_⟩,?_⟩ (Zdg ..))⟩))
  ·rw[Zeu di];simp[rawInt]
  ·exact⟨ot,(Zdg ..).extBut _ _ cP gt,ct,nt,dt⟩
 stop:=fun A s Q E hh ⟨hi,ht⟩ q=>by
  obtain⟨oi,gi,ci,di⟩:=id hi
  obtain⟨ot,gt,ct,nt,dt⟩:=id ht
  have hx:aa[aa.size]? =none:=by simp
  unfold Builtin.SmallTypes.nextOf
  refine Zaa (Zb8 (name:=Str.ofString "__next__") hi.typeIs Zfn (Zdq Zfn hi.typeIs entry_tupleiter_next ?_ (args_tupleiter_next _)))
  refine(show wpAny _ _ (field (.ref i) 0 >>=_) _ _ s from Zaa (ZbQ gi di (x:=.ref l) rfl ?_))
  refine(show wpAny _ _ (if (Value.ref l==Value.none)=true then _ else _) _ _ s from ?_)
  rw[ZaK (by exact Zaw)]
  refine(show wpAny _ _ (field (.ref i) 1 >>=_) _ _ s from Zaa (ZbQ gi di (x:=.int aa.size 0) rfl ?_))
  refine(show wpAny _ _ (seqItems? (.ref l) >>=_) _ _ s from Zaa (Zb7 gt dt ?_))
  simp only[Zeg,hx]
  refine Zaa (Zee (Zaa (Zfd gi di (by simp) ?_)))
  refine(show wpAny _ _ (newExc (.type "StopIteration") [] >>=_) _ _ _ from Zaa ?_)
  simp only[newExc,newTuple]
  refine Zaa (ZbR ?_ (by size_fits))
  refine Zaa (m:=firstArgMember _ _) (PySem.wpAny_of_eq (a:=Value.none) (by first |rfl |(simp only[firstArgMember];rfl)) ?_)
  refine ZbR ?_ (by size_fits)
  simp only[raiseNew]
  refine Zaa (wpAny_handled ?_)
  first |rw[show A.in1.handled=none from hh] |rw[hh]
  refine Zaa (Zaf (PySem.wpAny_throw ?_))
  exact q _ _ (((Zdg ..).extBut.push _).push _) ⟨_,Zat _ rfl,rfl⟩
section
variable {prog:Program}{w:World}{A:Around}{E:Value->Shared->Prop}{s:Shared}{z TI TO i1 i2 l1 l2:Addr}{n k:Nat}{f g:Nat->Value}{S1 S2:Nat->Heap->Prop}
theorem XH {a b:Value}{Q:Value->Shared->Prop}(U1:Src prog w i1 l1 n f S1) (U2:Src prog w i2 l2 n g S2) (D:ZipApart z TI TO i1 i2 l1 l2) (hk:k<n) (hz:IsZip s.heap z TI TO .none) (hI:IsPair s.heap TI (.ref i1) (.ref i2)) (hO:IsPair s.heap TO a b) (h1:S1 k s.heap) (h2:S2 k s.heap)
    (q:∀h',IsZip h' z TI TO (rawInt s.heap.objs.size)->IsPair h' TO (f k) (g k)->S1 (k+1) h'->S2 (k+1) h'->IsPair h' s.heap.objs.size (f k) (g k)->h'.objs.size=s.heap.objs.size+1->
      (∀c o,c≠z->c≠TO->c≠i1->c≠i2->s.heap.get? c=some o->h'.get? c=some o)->Q (.ref s.heap.objs.size) {s with heap:=h'}):
    wpAny (model prog w) A (Builtin.«zip.__next__» ⟨[.ref z],[]⟩) (fun fin s'=> ∃v,fin=.done (.ret v)/\Q v s') E s:=by
  refine(show wpAny _ _ (field (.ref z) 2 >>=_) _ _ _ from Zaa (ZbQ hz rfl (x:=.bool false) rfl ?_))
  refine(show wpAny _ _ (field (.ref z) 3 >>=_) _ _ _ from Zaa (ZbQ hz rfl (x:=.ref TI) rfl (Zaa (Zb7 hI rfl ?_))))
  refine(show wpAny _ _ (Builtin.SmallTypes.ownedTupleIsFree (.ref z) >>=_) _ _ _ from Zaa ?_)
  unfold Builtin.SmallTypes.ownedTupleIsFree
  refine Zaa (ZbQ hz rfl (x:=.none) rfl (Zaf ?_))
  simp only[Ze2]
  refine Zaa (Zee (Zaa (ZbQ hz rfl (x:=.ref TO) rfl (Zaa (ZeZ hz (by simp) fun m1 mn e1=> ?_)))))
  replace mn:IsZip m1 z TI TO .ellipsis:=mn
  have b1:=e1.extBut
  refine Zaa ?_
  simp only[List.zipIdx_cons,List.zipIdx_nil,List.forIn_cons,List.forIn_nil]
  refine Zaa (Zaa (PySem.wpAny_onRaise ?_))
  have aw:S1 k m1:=U1.cE _ _ _ h1 fun c hc o ho=>by rcases hc with rfl |rfl<;>first |exact b1 _ _ D.i1z ho |exact b1 _ _ D.l1z ho
  refine(show wpAny _ _ (Builtin.SmallTypes.nextOf (.ref i1) >>=_) _ _ _ from Zaa (U1.item _ k _ _ _ hk aw fun m2 au e2=>Zaf ?_))
  have b2:=e2.extBut
  have o2:IsPair m2 TO a b:=b2 _ _ D.TOi1 (b1 _ _ D.TOz hO)
  refine Zaa (Zb7 o2 rfl (Zaa (wpAny_updateSeq_pair o2 fun m3 o3 e3=> ?_)))
  replace o3:IsPair m3 TO (f k) b:=o3
  have b3:=e3.extBut
  refine Zaa (Zf7 (Zaf (Zaa (Zaa (PySem.wpAny_onRaise ?_)))))
  have w3:S2 k m3:=U2.cE _ _ _ h2 fun c hc o ho=>by
    rcases hc with rfl |rfl
    · exact b3 _ _ D.TOi2.symm (b2 _ _ D.i12.symm (b1 _ _ D.i2z ho))
    · exact b3 _ _ D.l2TO (b2 _ _ D.l2i1 (b1 _ _ D.l2z ho))
  refine(show wpAny _ _ (Builtin.SmallTypes.nextOf (.ref i2) >>=_) _ _ _ from Zaa (U2.item _ k _ _ _ hk w3 fun m4 w4 e4=>Zaf ?_))
  have b4:=e4.extBut
  have o4:IsPair m4 TO (f k) b:=b4 _ _ D.TOi2 o3
  refine Zaa (Zb7 o4 rfl (Zaa (wpAny_updateSeq_pair o4 fun m5 o5 e5=> ?_)))
  replace o5:IsPair m5 TO (f k) (g k):=o5
  have b5:=e5.extBut
  refine Zaa (Zf7 (Zaf (Zaf (Zaa (Zb7 o5 rfl (Zaa (wpAny_newTuple ?_)))))))
  have sz:m5.objs.size=s.heap.objs.size:=by rw[e5.1,e4.1,e3.1,e2.1,e1.1]
  have z5:IsZip m5 z TI TO .ellipsis:=b5 _ _ D.TOz.symm (b4 _ _ D.i2z.symm (b3 _ _ D.TOz.symm (b2 _ _ D.i1z.symm mn)))
  have kp:∀c o,c≠z->c≠TO->c≠i1->c≠i2->s.heap.get? c=some o->m5.get? c=some o:=fun c o c1 c2 c3 c4 e=>b5 _ _ c2 (b4 _ _ c4 (b3 _ _ c2 (b2 _ _ c3 (b1 _ _ c1 e))))
  have cT:S1 (k+1) m5:=U1.cE _ _ _ au fun c hc o ho=>by
    rcases hc with rfl |rfl
    · exact b5 _ _ D.TOi1.symm (b4 _ _ D.i12 (b3 _ _ D.TOi1.symm ho))
    · exact b5 _ _ D.l1TO (b4 _ _ D.l1i2 (b3 _ _ D.l1TO ho))
  have w5:S2 (k+1) m5:=U2.cE _ _ _ w4 fun c hc o ho=>by rcases hc with rfl |rfl<;>first |exact b5 _ _ D.TOi2.symm ho |exact b5 _ _ D.l2TO ho
  have Ct:z<m5.objs.size:=Zaq z5
  refine(show wpAny _ _ (Builtin.SmallTypes.ownedTupleHandOut (.ref z) (.ref m5.objs.size) >>=_) _ _ _ from Zaa ?_)
  unfold Builtin.SmallTypes.ownedTupleHandOut
  have z6:IsZip (m5.push {cls:=.type "tuple",data:=.seq #[f k,g k]}) z TI TO .ellipsis:=Zab _ z5
  refine Zaa (ZeZ z6 (by simp) fun m7 z7 e7=> ?_)
  replace z7:IsZip m7 z TI TO (rawInt m5.objs.size):=z7
  refine ZeZ z7 (by simp) fun m8 z8 e8=> ?_
  replace z8:IsZip m8 z TI TO (rawInt m5.objs.size):=z8
  have up:∀c o,c≠z->m5.get? c=some o->m8.get? c=some o:=fun c o c1 e=>e8.extBut _ _ c1 (e7.extBut _ _ c1 (Zab _ e))
  have t8:IsPair m8 m5.objs.size (f k) (g k):=e8.extBut _ _ (Nat.ne_of_gt Ct) (e7.extBut _ _ (Nat.ne_of_gt Ct) (Zat _ rfl))
  have s8:m8.objs.size=m5.objs.size+1:=by rw[e8.1,e7.1,Zdp]
  rw[sz]at z8 t8 s8
  refine Zaf ⟨_,rfl,?_⟩
  show Q (.ref m5.objs.size) _
  rw[sz]
  refine q m8 z8 (up _ _ D.TOz o5) (U1.cE _ _ _ cT fun c hc o ho=> ?_) (U2.cE _ _ _ w5 fun c hc o ho=> ?_) t8 s8 fun c o c1 c2 c3 c4 e=>up c o c1 (kp c o c1 c2 c3 c4 e)
  · rcases hc with rfl |rfl<;>first |exact up _ _ D.i1z ho |exact up _ _ D.l1z ho
  · rcases hc with rfl |rfl<;>first |exact up _ _ D.i2z ho |exact up _ _ D.l2z ho
theorem Vk {a b:Value}{Q:PySem.Fin->Shared->Prop}(hh:A.handled=none) (U1:Src prog w i1 l1 n f S1) (D:ZipApart z TI TO i1 i2 l1 l2) (hz:IsZip s.heap z TI TO .none) (hI:IsPair s.heap TI (.ref i1) (.ref i2)) (hO:IsPair s.heap TO a b) (h1:S1 n s.heap)
  (q:∀h' e,(∀c o,c≠z->c≠TO->c≠i1->c≠i2->s.heap.get? c=some o->h'.get? c=some o)->(∃o,h'.get? e=some o/\o.cls=.type "StopIteration")->E (.ref e) {s with heap:=h'}):
  wpAny (model prog w) A (Builtin.«zip.__next__» ⟨[.ref z],[]⟩) Q E s:=by
 refine(show wpAny _ _ (field (.ref z) 2 >>=_) _ _ _ from Zaa (ZbQ hz rfl (x:=.bool false) rfl ?_))
 refine(show wpAny _ _ (field (.ref z) 3 >>=_) _ _ _ from Zaa (ZbQ hz rfl (x:=.ref TI) rfl (Zaa (Zb7 hI rfl ?_))))
 refine(show wpAny _ _ (Builtin.SmallTypes.ownedTupleIsFree (.ref z) >>=_) _ _ _ from Zaa ?_)
 unfold Builtin.SmallTypes.ownedTupleIsFree
 refine Zaa (ZbQ hz rfl (x:=.none) rfl (Zaf ?_))
 simp only[Ze2]
 refine Zaa (Zee (Zaa (ZbQ hz rfl (x:=.ref TO) rfl (Zaa (ZeZ hz (by simp) fun m1 mn e1=> ?_)))))
 replace mn:IsZip m1 z TI TO .ellipsis:=mn
 have b1:=e1.extBut
 refine Zaa ?_
 simp only[List.zipIdx_cons,List.zipIdx_nil,List.forIn_cons,List.forIn_nil]
 refine Zaa (Zaa (PySem.wpAny_onRaise ?_))
 have aw:S1 n m1:=U1.cE _ _ _ h1 fun c hc o ho=>by rcases hc with rfl |rfl<;>first |exact b1 _ _ D.i1z ho |exact b1 _ _ D.l1z ho
 refine(show wpAny _ _ (Builtin.SmallTypes.nextOf (.ref i1) >>=_) _ _ _ from Zaa (U1.stop _ _ _ _ hh aw fun m2 e e2 he=> ?_))
 obtain⟨oe,ge,ce⟩:=he
 have z2:IsZip m2 z TI TO .ellipsis:=e2 _ _ D.i1z.symm mn
 have NS:e≠z:=fun y=>by subst y;rw[z2]at ge;cases ge;simp at ce
 refine ZeZ z2 (by simp) fun m3 _ e3=>q m3 e (fun c o c1 _ c3 _ x=>e3.extBut _ _ c1 (e2 _ _ c3 (b1 _ _ c1 x))) ⟨oe,e3.extBut _ _ NS ge,ce⟩
end
section
variable {prog:Program}{w:World}{A:Around}{z TI TO i1 i2 l1 l2:Addr}{n:Nat}{f g:Nat->Value}{S1 S2:Nat->Heap->Prop}
theorem IP (hh:A.handled=none) (U1:Src prog w i1 l1 n f S1) (U2:Src prog w i2 l2 n g S2) (D:ZipApart z TI TO i1 i2 l1 l2):
  WalksT prog w A z [z,TI,TO,i1,i2,l1,l2] [z,TO,i1,i2] n (fun k vals=>vals= #[f k,g k])
   (fun k h=>IsZip h z TI TO .none/\IsPair h TI (.ref i1) (.ref i2)/\(∃a b,IsPair h TO a b)/\S1 k h/\S2 k h)
   (fun k T h=>IsZip h z TI TO (rawInt T)/\IsPair h TI (.ref i1) (.ref i2)/\(∃a b,IsPair h TO a b)/\S1 (k+1) h/\S2 (k+1) h/\T∉[z,TO,i1,i2]) where
 sub:=fun c hc=>by
  simp only[Zao,Zbc,Zdo]at hc |-
  rcases hc with rfl |rfl |rfl |rfl<;>simp
 frame:=fun k h h' ⟨a1,a2,⟨a,b,a3⟩,a4,a5⟩ kp=> ⟨kp z (by simp) _ a1,kp TI (by simp) _ a2,⟨a,b,kp TO (by simp) _ a3⟩,U1.cE _ _ _ a4 fun c hc o=>kp c (by rcases hc with rfl |rfl<;>simp) o,U2.cE _ _ _ a5 fun c hc o=>kp c (by rcases hc with rfl |rfl<;>simp) o⟩
 item:=fun k s Q E hk ⟨a1,a2,⟨a,b,a3⟩,a4,a5⟩ q=>by
  have ty:s.TypeIs (.ref z) "zip" :=⟨_,a1,rfl⟩
  have ne:∀{c o},s.heap.get? c=some o->s.heap.objs.size≠c:=fun e=>Nat.ne_of_gt (Zaq e)
  obtain⟨o1,g1⟩:=U1.here _ _ a4
  obtain⟨o2,g2⟩:=U2.here _ _ a5
  unfold pyNext
  refine Zaa (PySem.wpAny_attempt (Zb8 (name:=Str.ofString "__next__") ty PySem.F.slot_zip_next (Zdq PySem.F.slot_zip_next ty F.entry_zip_next (XH U1 U2 D hk a1 a2 a3 a4 a5 fun h' c1 c2 c3 c4 c5 c6 c7=>Zaf ?_) (F.args_zip_next_1 _))))
  refine q s.heap.objs.size #[f k,g k] h' s.toks rfl (Zae _) ⟨_,c5,rfl,_,rfl⟩ ⟨c1,c7 _ _ D.TIz D.TITO D.TIi1 D.TIi2 a2,⟨_,_,c2⟩,c3,c4,fun m=> ?_⟩ fun c o hc e=>c7 c o (fun x=>hc (by simp[x])) (fun x=>hc (by simp[x])) (fun x=>hc (by simp[x])) (fun x=>hc (by simp[x])) e
  simp only[Zao,Zbc,Zdo]at m
  rcases m with m |m |m |m
  ·exact ne a1 m
  ·exact ne a3 m
  ·exact ne g1 m
  ·exact ne g2 m
 go:=fun elts kk pos k T s Q E ⟨a1,a2,⟨a,b,a3⟩,a4,a5,_⟩ q=>wpAny_letOwnedTupleGo_zip a1 fun h' z' s'=>by
  have ex:=s'.extBut
  refine q h' ⟨z',ex _ _ D.TIz a2,⟨a,b,ex _ _ D.TOz a3⟩,U1.cE _ _ _ a4 fun c hc o ho=> ?_,U2.cE _ _ _ a5 fun c hc o ho=> ?_⟩ fun c o hc e=>ex _ _ (fun x=>hc (by simp[x])) e
  ·rcases hc with rfl |rfl<;>first |exact ex _ _ D.i1z ho |exact ex _ _ D.l1z ho
  ·rcases hc with rfl |rfl<;>first |exact ex _ _ D.i2z ho |exact ex _ _ D.l2z ho
 apart:=fun k T h ⟨_,_,_,_,_,t⟩=>t
 done:=fun s Q E ⟨a1,a2,⟨a,b,a3⟩,a4,a5⟩ q=>by
  have ty:s.TypeIs (.ref z) "zip" :=⟨_,a1,rfl⟩
  unfold pyNext
  refine Zaa (PySem.wpAny_attempt (Zb8 (name:=Str.ofString "__next__") ty PySem.F.slot_zip_next (Zdq PySem.F.slot_zip_next ty F.entry_zip_next (Vk hh U1 D a1 a2 a3 a4 fun h' e kp he=> ?_) (F.args_zip_next_1 _))))
  obtain⟨o,ho,hc⟩:=he
  refine Zaa (wpAny_isInstance (T:= "StopIteration") (b:=true) ⟨o,ho,hc⟩ isSubtype_stop (Zaf (q _ s.toks fun c o hc e=> ?_)))
  exact kp c o (fun x=>hc (by simp[x])) (fun x=>hc (by simp[x])) (fun x=>hc (by simp[x])) (fun x=>hc (by simp[x])) e
 self:=fun k s Q E st q=>Zfh st.1 q
end
abbrev uf (h:Heap) (l1:Addr):Heap:=h.push {cls:=.type "tuple_iterator",data:=.fields #[.ref l1,.int 0 0]}
abbrev ue (h:Heap) (l1 l2:Addr):Heap:=(uf h l1).push {cls:=.type "tuple_iterator",data:=.fields #[.ref l2,.int 0 0]}
abbrev ud (h:Heap) (l1 l2:Addr):Heap:=(ue h l1 l2).push {cls:=.type "tuple",data:=.seq #[.ref h.objs.size,.ref (uf h l1).objs.size]}
abbrev uc (h:Heap) (l1 l2:Addr):Heap:=(ud h l1 l2).push {cls:=.type "tuple",data:=.seq #[.none,.none]}
abbrev oz (h:Heap) (l1 l2:Addr):Heap:=(uc h l1 l2).push {cls:=.type "zip",data:=.fields #[.none,.bool false,.bool false,.ref (ue h l1 l2).objs.size,.ref (ud h l1 l2).objs.size]}
theorem Zbl {h:Heap}{l:Addr}{xs:Array Value}(t:IsTup h l xs) (o:Obj):IsTup (h.push o) l xs:=let ⟨u,hu,r⟩:=t;⟨u,Zab _ hu,r⟩
theorem Vl (l1 l2:Addr) (xs ys:Array Value):Meets (Builtin.«zip.__new__» ⟨[.type "zip",.ref l1,.ref l2],[]⟩) (fun _ R s=>IsTup s.heap l1 xs/\IsTup s.heap l2 ys/\R (.ok (.ret (.ref (uc s.heap l1 l2).objs.size))) {s with heap:=oz s.heap l1 l2}):=
 .of_wp fun prog w A R s h=>by
  obtain⟨hp,gg,d,tk,os⟩:=s
  obtain⟨t1,t2,h⟩:=h
  have lK:=sub_zip
  have T1:IsTup (Shared.heap ⟨hp,gg,d,tk,os⟩) l1 xs:=t1
  have T2:IsTup (Shared.heap ⟨hp.push {cls:=.type "tuple_iterator",data:=.fields #[.ref l1,.int 0 0]},gg,d,tk,os⟩) l2 ys:=Zbl t2 _
  wp_walk using iter_tuple T1,iter_tuple T2
  exact⟨_,rfl,h⟩
theorem Vn {prog:Program}{w:World}{A:Around}{E:Value->Shared->Prop}{s:Shared}{l1 l2:Addr}{xs ys:Array Value}{Q:Value->Shared->Prop}(t1:IsTup s.heap l1 xs) (t2:IsTup s.heap l2 ys)
    (q:∀h',IsZip h' (s.heap.objs.size+4) (s.heap.objs.size+2) (s.heap.objs.size+3) .none->IsPair h' (s.heap.objs.size+2) (.ref s.heap.objs.size) (.ref (s.heap.objs.size+1))->IsPair h' (s.heap.objs.size+3) .none .none->
      IsTupIter h' s.heap.objs.size l1 0->IsTupIter h' (s.heap.objs.size+1) l2 0->(∀c o,s.heap.get? c=some o->h'.get? c=some o)->Q (.ref (s.heap.objs.size+4)) {s with heap:=h'}):
    wpAny (model prog w) A (call (.type "zip") [.ref l1,.ref l2]) Q E s:=by
  refine callType_new F.called_zip .d (F.typeCall_zip_2 _ _) (F.newCall_zip_2 _ _) (fun obj=>F.args_object_init_3 obj _ _) F.entry_zip_new (Vl l1 l2 xs ys) ⟨t1,t2,?_⟩
  have y1:(uf s.heap l1).objs.size=s.heap.objs.size+1:=Zdp ..
  have y2:(ue s.heap l1 l2).objs.size=s.heap.objs.size+2:=by rw[Zdp,y1]
  have y3:(ud s.heap l1 l2).objs.size=s.heap.objs.size+3:=by rw[Zdp,y2]
  have y4:(uc s.heap l1 l2).objs.size=s.heap.objs.size+4:=by rw[Zdp,y3]
  have p:∀{h:Heap}{c:Addr}{o u:Obj},h.get? c=some o->(h.push u).get? c=some o:=fun e=>Zab _ e
  have x5:(oz s.heap l1 l2).get? (uc s.heap l1 l2).objs.size=some _:=Zat _ rfl
  have x4:(oz s.heap l1 l2).get? (ud s.heap l1 l2).objs.size=some _:=p (Zat _ rfl)
  have x3:(oz s.heap l1 l2).get? (ue s.heap l1 l2).objs.size=some _:=p (p (Zat _ rfl))
  have x2:(oz s.heap l1 l2).get? (uf s.heap l1).objs.size=some _:=p (p (p (Zat _ rfl)))
  have x1:(oz s.heap l1 l2).get? s.heap.objs.size=some _:=p (p (p (p (Zat _ rfl))))
  show _/\_
  rw[y2,y3,y4]at x5
  rw[y1,y2]at x3
  rw[y3]at x4
  rw[y1]at x2
  rw[y4]
  exact⟨⟨_,x5,rfl⟩,q _ x5 x3 x4 ⟨_,x1,rfl,rfl⟩ ⟨_,x2,rfl,rfl⟩ fun c o x=>p (p (p (p (p x))))⟩
section
variable {X:Cx}{pins:List (Addr×Obj)}{σ:St}{H:Hp}{s:Shared}{fp:List Addr}
theorem Ke {T:Addr}{o:HO}(hf:∀b∈fp,bE X pins H b) (cW:s.heap.objs.size<=T) (PX:∀b∈fp,∃o,s.heap.get? b=some o/\∀v,o.data≠.cell v) (b:Addr) (hb:b∈fp):upd H T o b=none:=by
 obtain⟨o,ho,_⟩:=PX b hb
 rw[Zh (ZaE (Zaz (Zaq ho) cW))]
 exact(hf b hb).1
end
theorem Y9 {z TI TO i1 i2 b:Addr}(hb:b∉[z,TI,TO,i1,i2]):b∉[z,TO,i1,i2]:=fun hm=>hb (by
 simp only[Zao,Zbc,Zdo]at hm |-
 rcases hm with h |h |h |h
 ·exact .inl h
 ·exact .inr (.inr (.inl h))
 ·exact .inr (.inr (.inr (.inl h)))
 ·exact .inr (.inr (.inr (.inr h))))
theorem vF {z TI TO i1 i2:Addr}{P:Addr->Prop}(h1:P z) (h2:P TI) (h3:P TO) (h4:P i1) (h5:P i2):∀b∈[z,TI,TO,i1,i2],P b:=fun b hb=>by
 simp only[Zao,Zbc,Zdo]at hb
 rcases hb with rfl |rfl |rfl |rfl |rfl
 ·exact h1
 ·exact h2
 ·exact h3
 ·exact h4
 ·exact h5
def B7 (K:ZhQ) (l1 l2:Addr):It:=
 ⟨fun i H=> ∃xs ys x y,aj K H l1 xs/\aj K H l2 ys/\xs.length=ys.length/\xs[i]? =some x/\ys[i]? =some y,
  fun i H v H'=> ∃(T:Addr) (x y:V),v=.ref T/\H T=none/\H'=upd H T (.par [x,y])/\∀xs ys,aj K H l1 xs->aj K H l2 ys->xs[i]? =some x/\ys[i]? =some y,
  fun i H=> ∃xs ys,aj K H l1 xs/\aj K H l2 ys/\xs.length=i/\ys.length=i⟩
theorem Zcr {P:Program}{w:World}{K:ZhQ}{elts:List Expr}{kk:Nat}{pos:Pos}(z TI TO i1 i2 l1 l2:Addr) (D:ZipApart z TI TO i1 i2 l1 l2):
  Turn P w K (.Tuple elts kk pos) (B7 K l1 l2) [z,TI,TO,i1,i2] z (fun i h=>IsZip h z TI TO .none/\IsPair h TI (.ref i1) (.ref i2)/\(∃a b,IsPair h TO a b)/\IsTupIter h i1 l1 i/\IsTupIter h i2 l2 i) where
 mem:=by simp
 obj:=fun i h st b hb=>by
  obtain⟨a1,a2,⟨u,v,a3⟩,⟨o4,h4,_,d4⟩,⟨o5,h5,_,d5⟩⟩:=st
  exact vF (P:=fun b=> ∃o,h.get? b=some o/\∀v,o.data≠.cell v) ⟨_,a1,fun v z=>by cases z⟩ ⟨_,a2,fun v z=>by cases z⟩ ⟨_,a3,fun v z=>by cases z⟩ ⟨_,h4,fun v z=>by rw[d4]at z;cases z⟩ ⟨_,h5,fun v z=>by rw[d5]at z;cases z⟩ b hb
 keep:=fun i h h' st k=>by
  obtain⟨a1,a2,⟨u,v,a3⟩,a4,a5⟩:=st
  exact⟨k z (by simp) _ a1,k TI (by simp) _ a2,⟨u,v,k TO (by simp) _ a3⟩,(let ⟨o,ho,r⟩:=a4;⟨o,k i1 (by simp) o ho,r⟩),let ⟨o,ho,r⟩:=a5;⟨o,k i2 (by simp) o ho,r⟩⟩
 item:=by
  intro X hP hw hK hc i pins s σ H E I hf st hg
  subst hP hw hK
  obtain⟨xs,ys,x,y,fF,cV,pO,hx,hy⟩:=hg
  obtain⟨eT,jj,dQ,fT⟩:=I.tuple fF
  obtain⟨fA,fq,df,cY⟩:=I.tuple cV
  obtain⟨u,hu,ru⟩:=jj.get hx
  obtain⟨v,hv,rv⟩:=fq.get hy
  have Ag:fA.toArray.size=eT.toArray.size:=by
   have e1:=jj.length
   have e2:=fq.length
   simp only[Zaj]
   omega
  have nE:i<eT.toArray.size:=by
   have e1:=(Zad.mp hu).1
   simp only[Zaj]
   omega
  have U2:=Jb X.prog X.w fA.toArray D.l2i2
  rw[Ag]at U2
  have W:=IP (A:=X.A) (I.ok.hd hc) (Jb X.prog X.w eT.toArray D.l1i1) U2 D
  obtain⟨a1,a2,a3,a4,a5⟩:=st
  refine W.item i s _ _ nE ⟨a1,a2,a3,⟨a4,dQ⟩,⟨a5,df⟩⟩ fun T vals h' tk hP cW nG iQ hk=> ⟨_,rfl,W.go elts kk pos i T _ _ _ iQ fun eX dm eV=> ?_⟩
  have j7:eT.toArray.getD i .none=u:=by simp[ZbL,hu]
  have dU:fA.toArray.getD i .none=v:=by simp[ZbL,hv]
  rw[j7,dU]at hP
  subst hP
  have both:∀b o,b∉[z,TI,TO,i1,i2]->s.heap.get? b=some o->eX.get? b=some o:=fun b o hb q=>eV b o (Y9 hb) (hk b o (Y9 hb) q)
  have sR:eX.IsTuple T #[u,v]:=nG.at fun o q=>eV T o (W.apart _ _ _ iQ) q
  refine⟨.ref T,upd H T (.par [x,y]),JP (s:=s) (h':=eX) (tk:=tk) I hf both cW sR ru rv,rfl,⟨T,x,y,rfl,I.ak.fresh cW,rfl,fun as bs ha hb=>by rw[I.um ha fF,I.um hb cV];exact⟨hx,hy⟩⟩,⟨dm.1,dm.2.1,dm.2.2.1,dm.2.2.2.1.1,dm.2.2.2.2.1⟩,Ke hf cW ?_⟩
  obtain⟨u',v',By⟩:=a3
  obtain⟨o4,h4,_,d4⟩:=a4
  obtain⟨o5,h5,_,d5⟩:=a5
  exact vF (P:=fun b=> ∃o,s.heap.get? b=some o/\∀v,o.data≠.cell v) ⟨_,a1,fun v z=>by cases z⟩ ⟨_,a2,fun v z=>by cases z⟩ ⟨_,By,fun v z=>by cases z⟩ ⟨_,h4,fun v z=>by rw[d4]at z;cases z⟩ ⟨_,h5,fun v z=>by rw[d5]at z;cases z⟩
 done:=by
  intro X hP hw hK hc i pins s σ H E I hf st hg
  subst hP hw hK
  obtain⟨xs,ys,fF,cV,hx,hy⟩:=hg
  obtain⟨eT,jj,dQ,fT⟩:=I.tuple fF
  obtain⟨fA,fq,df,cY⟩:=I.tuple cV
  have e1:=jj.length
  have e2:=fq.length
  have Ag:fA.toArray.size=eT.toArray.size:=by simp only[Zaj];omega
  have U2:=Jb X.prog X.w fA.toArray D.l2i2
  rw[Ag]at U2
  have W:=IP (A:=X.A) (I.ok.hd hc) (Jb X.prog X.w eT.toArray D.l1i1) U2 D
  have hn:i=eT.toArray.size:=by simp only[Zaj];omega
  obtain⟨a1,a2,a3,a4,a5⟩:=st
  rw[hn]at a4 a5
  exact W.done s _ _ ⟨a1,a2,a3,⟨a4,dQ⟩,⟨a5,df⟩⟩ fun h' tk hk=> ⟨rfl,Ws (s:=s) (h':=h') (tk:=tk) I hf fun b o hb q=>hk b o (Y9 hb) q⟩
 self:=fun A i s Q E st h=>Zfh st.1 h
section
variable {X:Cx}{elts:List Expr}{kk:Nat}{tp:Pos}
def ON (K:ZhQ) (ta:TA):TI:=fun σ H R=>ta σ H fun vs H1=> ∃l1 l2,vs=[.ref l1,.ref l2]/\(∃xs ys,aj K H1 l1 xs/\aj K H1 l2 ys)/\R (B7 K l1 l2) H1
theorem Xr {a b:Expr}{ta:TA}{p pos:Pos}(hg:Gl X "zip") (hm:X.mg "zip" =none) (ha:PA X [a,b] ta) (hs:starEach [a,b] X.env=[(false,eval a X.env),(false,eval b X.env)]:=by rfl) (lN:starEach [b] X.env=[(false,eval b X.env)]:=by rfl):
  PI X (.Tuple elts kk tp) (.Call (.Name "zip" p) [a,b] [] pos) (ON X.K ta):=by
 intro pins s σ H R I h
 refine Call_ (YD I hg hm PyProof.Rows.Boot.«zip» (Zb3 (ar (ha pos pins s σ H _ I h) fun us s1 ⟨vs,H1,I1,r1,q1⟩=> ?_) (by rw[hs,lN]) (by rw[lN];rfl)))
 obtain⟨l1,l2,e,⟨xs,ys,fF,cV⟩,q⟩:=q1
 subst e
 obtain⟨u,v,rfl,ru,rv⟩:=vals2 r1
 cases ru
 cases rv
 obtain⟨eT,jj,dQ,fT⟩:=I1.tuple fF
 obtain⟨fA,fq,df,cY⟩:=I1.tuple cV
 have t1:l1<s1.heap.objs.size:=by obtain⟨o,ho,_⟩:=id dQ;exact Zaq ho
 have t2:l2<s1.heap.objs.size:=by obtain⟨o,ho,_⟩:=id df;exact Zaq ho
 have D:=Um s1.heap.objs.size l1 l2 t1 t2
 refine Vn dQ df fun h' b1 b2 b3 b4 b5 hk=>Zfh b1 ?_
 have I2:Inv X pins σ H1 {s1 with heap:=h'} :=I1.kept (t':=s1.toks) hk
 refine⟨s1.heap.objs.size+4,[s1.heap.objs.size+4,s1.heap.objs.size+2,s1.heap.objs.size+3,s1.heap.objs.size,s1.heap.objs.size+1],_,_,H1,rfl,I2,
  Zcr _ _ _ _ _ l1 l2 D,⟨b1,b2,⟨_,_,b3⟩,b4,b5⟩,fun b hb=> ?_,q⟩
 have iU:s1.heap.objs.size<=b:=by
  simp only[Zao,Zbc,Zdo]at hb
  rcases hb with z |z |z |z |z<;>rw[z]<;>first |exact Zae _ |exact ZeS _ _
 exact I1.lU iU (I1.ak.fresh iU)
end
theorem ZcK {K:ZhQ}{l1 l2:Addr}{xs zs:List V}{g:TG}{tt:TT}{ti:TC}{ys:List V}{σ:St}{H:Hp}{Q:List V->St->Hp->Prop}(hlen:xs.length=zs.length) (Pv:Nat->List V->St->Hp->Prop) (h0:Pv 0 ys σ H)
  (hl:∀i ys σ H,i<=xs.length->Pv i ys σ H->aj K H l1 xs/\aj K H l2 zs)
  (hs:∀i x y T ys σ H,xs[i]? =some x->zs[i]? =some y->H T=none->Pv i ys σ H->g (.ref T) σ (upd H T (.par [x,y])) fun aT H2=>tt aT H2 fun b H3=>if b=true then ti ys aT H3 (Pv (i+1)) else Pv (i+1) ys aT H3)
  (hd:∀ys σ H,Pv xs.length ys σ H->Q ys σ H):gR g tt ti (B7 K l1 l2) ys σ H Q:=by
 refine⟨fun i m ys σ H=>m=xs.length - i/\i<=xs.length/\Pv i ys σ H,⟨xs.length,by simp,ZaV _,h0⟩,?_⟩
 rintro i m ys σ H ⟨rfl,hi,p⟩
 obtain⟨q1,q2⟩:=hl i ys σ H hi p
 by_cases az:i<xs.length
 ·refine .inr ⟨⟨xs,zs,xs[i],zs[i]'(by omega),q1,q2,hlen,by simp[az],by simp[hlen▸az]⟩,Pv (i+1),fun bV ao H' p'=> ⟨xs.length - (i+1),.o,rfl,az,p'⟩,fun x H' y=> ?_⟩
  obtain⟨T,a,b,e1,e2,e3,e4⟩:=y
  subst e1 e3
  obtain⟨f1,f2⟩:=e4 xs zs q1 q2
  exact hs i a b T ys σ H f1 f2 e2 p
 ·have e:i=xs.length:=.o
  subst e
  exact .inl ⟨⟨xs,zs,q1,q2,rfl,hlen.symm⟩,hd ys σ H p⟩
end L2
namespace L2
open PySem PySem.Spec PyProof.Rows SeqAt
section
variable {X:Cx}
theorem YM {a b:String} :dA X (.builtin "isinstance") (fun xs H Q=> ∃(x:V) (t:Addr) (T:Value) (r:Bool),xs=[x,.ref t]/\aj X.K H t [.ty a,.ty b]/\((∃i,x=.int i/\T=.type "int")∨(x=.ah/\T=.type "NoneType")∨(∃l ys,x=.ref l/\H l=some (.lst ys)/\T=.type "list")∨∃l ys,x=.ref l/\H l=some (.tup ys)/\T=.type "tuple")/\
  PySem.W.kitAny X.K T [.type a,.type b]=some r/\Q (.bl r) H):=by
 intro pins s σ H xs us Q I rv h
 obtain⟨x,t,T,r,rfl,hq,hx,hk,q⟩:=h
 obtain⟨u,v,rfl,ru,rv⟩:=vals2 rv
 cases rv
 obtain⟨aa,rt,pl,hz⟩:=I.tuple hq
 cases rt with
 |cons r1 r2=>
  cases r2 with
  |cons r3 r4=>
   cases r4
   cases r1
   cases r3
   obtain⟨o,ho,hc,n,hd⟩:=id pl
   obtain⟨cls,dd,dt,sl⟩:=o
   replace hc:cls=.type "tuple" :=hc
   replace hd:dt=.seq [Value.type a,Value.type b].toArray n:=hd
   subst hc hd
   rcases hx with ⟨i,rfl,rfl⟩ |⟨rfl,rfl⟩ |⟨l,ys,rfl,hl,rfl⟩ |⟨l,ys,rfl,hl,rfl⟩
   ·obtain⟨tk,rfl⟩:=ru
    exact Ze5 PySem.W.kitx_int I.bX True.intro ho hk (fun z=>nomatch z) fun tk=> ⟨.bl r,H,I.tok _,rfl,q⟩
   ·cases ru
    exact Ze5 PySem.W.kitx_none I.bX True.intro ho hk (fun z=>nomatch z) fun tk=> ⟨.bl r,H,I.tok _,rfl,q⟩
   ·cases ru
    obtain⟨_,_,n,_,h1⟩:=(show bu X.prog X.w H s.heap l (.lst ys) from I.ak l _ hl)
    exact Ze5 PySem.W.kitx_list I.bX ⟨_,h1,rfl⟩ ho hk (fun z=>nomatch z) fun tk=> ⟨.bl r,H,I.tok _,rfl,q⟩
   ·cases ru
    obtain⟨_,_,_,p,_⟩:=(show bu X.prog X.w H s.heap l (.tup ys) from I.ak l _ hl)
    obtain⟨o,h1,h2,_⟩:=p
    exact Ze5 PySem.W.kitx_tuple I.bX ⟨o,h1,h2⟩ ho hk (fun z=>nomatch z) fun tk=> ⟨.bl r,H,I.tok _,rfl,q⟩
theorem HV (hu:X.A.units<cLine):bg X (compareOp .Eq) (fun x y H Q=> ∃(a b:Addr) (ns ms:List Int),x=.ref a/\y=.ref b/\aj X.K H a (ns.map V.int)/\aj X.K H b (ms.map V.int)/\Q (.bl (decide (ns=ms))) H):=by
 intro pins s σ H x y u v Q I rx ry h
 obtain⟨a,b,ns,ms,rfl,rfl,ha,hb,q⟩:=h
 cases rx
 cases ry
 obtain⟨us,r1,p1,_⟩:=I.tuple ha
 obtain⟨vs,r2,p2,_⟩:=I.tuple hb
 have l1:=r1.length
 have l2:=r2.length
 rw[Zar]at l1 l2
 refine eq_tupleAt (e:=fun j=>ns.getD j 0==ms.getD j 0) p1 p2 hu (fun j h1 h2=> ?_) ?_
 ·obtain⟨t1,e1⟩:=Jg r1 j (by simpa using h1)
  obtain⟨t2,e2⟩:=Jg r2 j (by simpa using h2)
  rw[show us.toArray[j]=us[j]'(by simpa using h1) by simp,show vs.toArray[j]=vs[j]'(by simpa using h2) by simp,e1,e2]
  exact Zdz _ _ _ _
 ·have e:((List.range (min us.toArray.size vs.toArray.size)).all (fun j=>ns.getD j 0==ms.getD j 0)&&us.toArray.size==vs.toArray.size)=decide (ns=ms):=by
   rw[Zek,ZaL,ZaZ,Zb5,Zdk,Zaj,Zaj]
   constructor
   ·rintro⟨h,hl⟩
    refine List.ext_getElem .o fun i h1 h2=> ?_
    have:=h i (by rw[Zbr];omega)
    simpa[h1,h2] using this
   ·rintro rfl
    exact⟨fun j _=>by simp,.o⟩
  rw[e]
  exact⟨.bl _,H,I,rfl,q⟩
end
structure Cells (base:Heap) (scope:Scope) (cl:List (Str×Addr)) (N:List Str) (vs:List V):Prop where
 len:vs.length=N.length
 only:∀z,scope.names.lookup z=some .cell∨scope.names.lookup z=some .free->z∈N
 at_:∀(i:Nat) x v,N[i]? =some x->vs[i]? =some v->scope.names.lookup x=some .free/\∃c u,cl.lookup x=some c/\base.IsCell c (some u)/\RelV v u
 mem:∀z c,cl.lookup z=some c->z∈N
 inj:∀x y c,cl.lookup x=some c->cl.lookup y=some c->x=y
theorem Iv {P:Program}{w:World}{K:ZhQ}{mg:Str->Option Value}{base:Heap}{f:Addr}{q:Str}{params:Arguments}{body:Expr}{scope:Scope}{cl:List (Str×Addr)}{pm:Value}{c:Addr}{ct:Value}{k:Nat}{N:List Str}{ws:List V}{sp:Sp}
    (T:Cells base scope cl N ws) (hk:scope.kind=.function) (QE:scope.isCoroutine=false) (Qm:scope.isGenerator=false) (lT:∀z∈scope.names,z.2≠.cell)
    (dG:∀vs H Q E,sp vs H Q E->vs=[]/\H f=some (mQ f q params body scope cl pm c ct)/\H c=some (gL c q))
    (hb:∀(A:Around) (outer:List Env) (s:Shared) (H:Hp) (Q:VK) (E:XK),bK k (A.deeper (PySem.W.envX q scope s.heap.objs.size f (.ref c) cl))->sp [] H Q E->
      ∃t,PE (fM P w K mg base N q scope f (.ref c) cl A outer s H E) body t/\t (ws.map some) H Q):
    aA P w K mg base (aC P w) (k+1) f (PySem.W.kla_fn "<lambda>" q params body scope cl pm (.ref c) ct) [] sp:=by
  refine⟨fun vs H Q E h=>by rw[(dG vs H Q E h).1];rfl,fun A outer s H args us vs Q E hr e0 AS rv h=> ?_⟩
  obtain⟨rfl,hf,hc⟩:=dG _ _ _ _ h
  have of:s.heap.get? f=some (PySem.W.kla_obj "<lambda>" q params body scope cl pm c ct):=(e0.ak f _ hf).1
  have oc:s.heap.CodeRec (.ref c) q:=(e0.ak c _ hc).1
  have lim:s.heap.NoLimit:=e0.mod.nolimit.keeps fun b o e=> (e0.bs b o e).1
  refine PySem.W.kla_callFunE hr.depth of rfl QE Qm rfl oc (AS _ _ _ _ ?_)
  refine PySem.wpAny_newFunctionEnv lT (fun z hz=>by cases rv;exact absurd hz (by simp)) (fun h1 rX Pr=> ?_) hk
  have k1:∀b o,s.heap.get? b=some o->h1.get? b=some o:=fun b o e=>Pr.extBut b o (ZaE (Zaq e)) (Zab _ e)
  refine⟨lim.keeps k1,?_⟩
  show codeAny _ A (.expr body (PySem.W.envX q scope s.heap.objs.size f (.ref c) cl)) _ _
  obtain⟨t,ht,hq⟩:=hb A outer s H Q E (hr.deeper _) h
  have Bm:∀{a:Addr}{v:Option Value},base.IsCell a v->h1.IsCell a v/\H a=none:=fun {a v} ⟨o,ho,hd⟩=> ⟨⟨o,k1 _ _ (e0.bs _ _ ho).1,hd⟩,(e0.bs _ _ ho).2⟩
  have GK:∀z,z∈N->∃c u,cl.lookup z=some c/\base.IsCell c (some u):=fun z hz=>by
    obtain⟨i,hi,e⟩:=Zcl hz
    have ba:i<ws.length:=by rw[T.len];exact hi
    obtain⟨_,c,u,h1,h2,_⟩:=T.at_ i z ws[i] (by rw[<-e];exact Zag hi) (Zag ba)
    exact⟨c,u,h1,h2⟩
  have cells:∀z a,cl.lookup z=some a->∃v,base.IsCell a v:=fun z a hz=>by
    obtain⟨c,u,h1,h2⟩:=GK z (T.mem z a hz)
    rw[hz]at h1;cases h1;exact⟨_,h2⟩
  have I:Inv (fM P w K mg base N q scope f (.ref c) cl A outer s H E) [] (ws.map some) H {s with heap:=h1,toks:=s.toks+(([]:List Str).zip us).length} :=by
    refine⟨⟨e0.mod,hk,rfl,rfl,Zae _,fun a b cc h2 h3=> ?_,fun a ha=> ?_,fun a cc hn=>Bool.noConfusion hn,fun _=>hr.hd,Around.frames_deeper e0.frames,.inr ⟨rfl,rfl⟩,fun b z=>absurd (show b∈([]:List Addr) from z) (by simp),e0.bs,e0.i8,fun b _ _ z=>absurd (show b∈([]:List Addr) from z) (by simp),fun b z=>absurd (show b∈([]:List Addr) from z) (by simp),e0.dI,e0.fZ⟩,
      rfl,e0.bare,Un.kept k1,⟨_,rX,fun i z v h2 h3 h4=> ?_⟩,fun z a hz=> ?_,e0.ak.fresh (Zae _),fun z a hz=> ?_,fun p hp=>absurd (show p∈([]:List (Addr×Obj)) from hp) (by simp),e0.ak.kept k1,(by rw[Zar];exact T.len)⟩
    · have h2:cl.lookup a=some cc:=h2
      have h3:cl.lookup b=some cc:=h3
      exact T.inj _ _ _ h2 h3
    · obtain⟨c,_,h1,_⟩:=GK a (T.only a ha)
      exact⟨c,h1⟩
    · have FF:(ws.map some)[i]? =some (some v):=h3
      rw[ZbG]at FF
      obtain⟨v',e',SK⟩:=Zbk.mp FF
      cases SK
      obtain⟨kx,c,u,h5,h6,h7⟩:=T.at_ i z v h2 e'
      exact⟨u,h7,.inr ⟨.inr kx,c,h5,(Bm h6).1⟩⟩
    · obtain⟨v,b⟩:=cells z a hz
      exact⟨v,(Bm b).1⟩
    · obtain⟨v,b⟩:=cells z a hz
      exact(Bm b).2
  refine PySem.W.kla_codeExpr (Zbs (ht [] _ _ H _ I hq) (fun u s' hs=> ?_) fun e s' hs=>hs)
  obtain⟨v,H',J,r,z⟩:=hs
  exact⟨v,H',J.os,J.bare,J.base,J.ak,r,z⟩
end L2
namespace L2
open PySem PySem.Spec PyProof.Rows
section
variable {prog:Program}{w:World}{A:Around}{E:Value->Shared->Prop}{s:Shared}
theorem JQ {t sl:Addr}{items:Array Value}{vl vu:Value}{lo hi:Option Int}{Q:Value->Shared->Prop}(ht:IsTup s.heap t items) (hs:s.heap.IsSliceOf sl vl vu .none) (pl:IsPart vl lo) (pu:IsPart vu hi)
  (hw:HT.aJ items.size 0 lo=0/\HT.aJ items.size items.size hi=items.size) (h:Q (.ref t) s):wpAny (model prog w) A (getItem (.ref t) (.ref sl)) Q E s:=by
 obtain⟨os,nh,wG,sI⟩:=id hs
 have KY:s.TypeIs (.ref sl) "slice" :=⟨os,nh,wG⟩
 unfold getItem
 try with_reducible refine ZbS ?_
 first |refine Zaa (Zaf ?_) |skip
 refine Zaa (wpAny_sequenceKey ht.typeIs .d (Zaa (Zb8 (name:=Str.ofString "__getitem__") ht.typeIs Zb4 (Zdq Zb4 ht.typeIs entry_tuple_getitem ?_ (args_tuple_getitem _ _)))))
 refine(show wpAny _ _ (Builtin.Tuple.tupleItemsOf (.ref t) >>=_) _ _ s from Zaa (tupleItemsOf_ ht (Zaa (Zfr KY ?_))))
 rw[ZaY .d]
 refine Zaa (HT.CU hs pl pu ?_)
 rw[hw.1,hw.2]
 refine(show wpAny _ _ (if ((((0:Nat):Int)==0&&(1:Int)==1&&(items.size - 0)==items.size)=true) then _ else _) _ _ s from ?_)
 rw[ZaY (by simp)]
 unfold Builtin.Tuple.tupleIsExact
 refine Zaa ?_
 wp_walk using wpAny_typeOf ht.typeIs
 exact⟨_,rfl,Zaf h⟩
end
section
variable {X:Cx}
def zo (K:ZhQ):V->Option Int->Option Int->Hp->VK->Prop:=fun x lo hi H Q=> ∃a xs,x=.ref a/\H a=some (.tup xs)/\∀(c:Addr) H',ag H H'->H' c=some (.tup (cI xs lo hi))->Q (.ref c) H'
theorem JG:xr X (zo X.K):=by
 intro pins s σ H x v vl vu lo hi sl Q I rx hs pl pu h
 obtain⟨a,xs,rfl,ha,q⟩:=h
 have hx:aj X.K H a xs:=aj.of ha
 by_cases hw:HT.aJ xs.length 0 lo=0/\HT.aJ xs.length xs.length hi=xs.length
 ·cases rx
  obtain⟨aa,r,ht,hz⟩:=I.tuple hx
  have hlen:aa.toArray.size=xs.length:=by rw[Zaj];exact r.length.symm
  refine⟨"tuple",_,Zb4.lookup,ht.typeIs,?_⟩
  refine JQ ht hs pl pu (by rw[hlen];exact hw) ⟨.ref a,H,I,rfl,q a H (ag.refl _) ?_⟩
  rw[ha]
  unfold cI
  rw[hw.1,hw.2,ZeV,Nat.sub_zero,Zb2]
 ·exact Vf pins s σ H (.ref a) v vl vu lo hi sl Q I rx hs pl pu ⟨a,xs,rfl,hx,hw,fun p hp=>q p _ (fun b u hb=>by rw[Zh (Zg hb hp)];exact hb) Ze⟩
end
theorem ZcP:typeLookup (.type "list") "keys" =pure none:=by rw[typeLookup_type,builtinLookup_eq_fast];kernel_rfl
theorem UK:entryFor table "dict.update.loop" =some Builtin.«dict.update.loop» :=entryFor_of_tree (by kernel_rfl)
theorem Jd:plainId "dict.update.loop" =true:=by decide+kernel
section
variable {prog:Program}{w:World}{A:Around}{E:Value->Shared->Prop}{s:Shared}
theorem Rl {a:Addr}{o:Obj}{xs:Array Value}{k:Nat}{Q:Option Value->Shared->Prop}
  (hx:s.heap.get? a=some o) (hc:o.cls=.type "list") (Fg:o.data=.seq xs k) (hd:o.dict=none) (hA:A.handled=none)
  (h:∀h' tk e,Heap.NewExcOf s.heap h' e "AttributeError" ->Q none {s with heap:=h',toks:=tk}):
  wpAny (model prog w) A (getAttr? (.ref a) "keys") Q E s:=by
 obtain⟨c,i6,dat,sl⟩:=o
 simp only at hc Fg hd
 subst hc Fg hd
 obtain⟨hp,g,d,tk,os⟩:=s
 have hT:∀qH,(⟨hp,g,d,qH,os⟩:Shared).TypeIs (.ref a) "list" :=fun _=> ⟨_,hx,rfl⟩
 have f1:=sub_AttributeError
 have f3:=PySem.F.slot_list_getattribute.lookup
 have f4:=PySem.F.slot_list_getattribute.bind (.ref a)
 have f5:=am_list_getattr_none
 unfold getAttr? getAttrBy? getAttrBy
 repeat (any_goals (first |assumption |exact hT _ |((with_reducible show wpAny _ _ (call (Value.builtin "list.__getattribute__") _ _) _ _ _);refine Zep PySem.F.slot_list_getattribute (hT _) am_entry_list_getattribute (F.args_list_getattribute_2 _ _) (meets_getattribute_miss_list a xs k sl "keys" _ ZcP .d .d) ⟨hx,hA,fun h' qH e jn=> ?_⟩) |wp_step))
 obtain⟨t',u',he⟩:=jn.there
 show wpAny _ _ (getattributeRaised _ _ _ _ _ _ _) _ _ _
 unfold getattributeRaised
 repeat (any_goals (first |assumption |wp_step))
 exact h _ _ _ jn.of
def oj (h:Heap) (b:Addr) (u v:Value):Prop:=∃o:Obj,h.get? b=some o/\o.cls=.type "tuple" /\∃n,o.data=.seq #[u,v] n
theorem Wm {b:Addr}{u v:Value}{Q:List Value->Shared->Prop}(hp:oj s.heap b u v) (h:Q [u,v] s):wpAny (model prog w) A (Builtin.Dict.pairItems (.ref b)) Q E s:=by
 obtain⟨o,ho,hc,n,hd⟩:=hp
 unfold Builtin.Dict.pairItems
 refine Zaa (Zfr (show s.TypeIs (.ref b) "tuple" from ⟨o,ho,hc⟩) ?_)
 rw[ZaY .d]
 refine Zaa (Zb7 ho hd ?_)
 exact Zaf h
variable {K:Type} [DecidableEq K] {knd:KeyKind prog w K}
def oh (knd:KeyKind prog w K) (h:Heap) (d it:Addr) (us:List Value) (rs:List (K×Value)):Prop:=Paired (fun u (r:K×Value)=> ∃b k,u=.ref b/\b≠d/\b≠it/\oj h b k r.2/\knd.is r.1 k=true) us rs
theorem oh.keep {h h':Heap}{d it:Addr}{us:List Value}{rs:List (K×Value)}(p:oh knd h d it us rs) (k:∀b o,b≠d->b≠it->h.get? b=some o->h'.get? b=some o):oh knd h' d it us rs:=by
 unfold oh at p |-
 induction p with
 |nil=>exact .nil
 |cons a _ ih=>
  obtain⟨b,kk,e,n1,n2,⟨o,ho,r⟩,z⟩:=a
  exact .cons ⟨b,kk,e,n1,n2,⟨o,k _ _ n1 n2 ho,r⟩,z⟩ ih
theorem IQ {d it l:Addr}{R:Result->Shared->Prop}{items:Array Value}(wF:d≠it) (sJ:l≠d) (pP:l≠it) (hA:A.handled=none):
  ∀(us:List Value) (rs:List (K×Value)) (i:Nat) (z:Int) (t:Tok) (af:List (K×Value)) (s:Shared),items.toList.drop i=us->oh knd s.heap d it us rs->s.heap.IsListIter it l i->s.heap.IsList l items->s.heap.DictOf knd d af->af.length+rs.length<=sizeLine->
   (∀h' t',(∀b o,b≠d->b≠it->s.heap.get? b=some o->h'.get? b=some o)->h'.DictOf knd d (merged af rs)->R (.ok (.ret .none)) {s with heap:=h',toks:=t'})->
   codeAny (model prog w) A (.builtin "dict.update.loop" ⟨[.ref d,.ref it,.int z t,.none],[]⟩) R s
 | [],rs,i,z,t,af,s,hu,hp,hit,hl,hd,hz,hR=>by
  cases hp
  refine Zck UK ?_
  rw[Zb0 Jd _]
  show wpAny _ A.in1 (pyNext (.ref it) >>=_) _ _ s
  refine Zaa (wpAny_pyNext_list_end (A:=A.in1) hA hit hl ?_ fun h' eb=> ?_)
  ·have:items.toList.length<=i:=List.drop_eq_nil_iff.mp hu
   rw[Array.getElem?_eq_none_iff]
   simpa using this
  ·show wpAny _ A.in1 (Builtin.Dict.addKeywords d [] >>=_) _ _ _
   refine Zaa (Zaf (Zaf ?_))
   exact hR h' s.toks (fun b o _ h2 e=>eb b o h2 e) (hd.extBut eb wF)
 |u::us,rs,i,z,t,af,s,hu,hp,hit,hl,hd,hz,hR=>by
  cases hp with
  | @cons _ r _ Di a ps=>
   obtain⟨b,k,rfl,nbd,NU,pr,hk⟩:=a
   have az:i<items.toList.length:=by
    apply Nat.lt_of_not_le
    intro h
    rw[ZbX h]at hu
    cases hu
   rw[Zdt az]at hu
   obtain⟨e1,e2⟩:=List.cons.inj hu
   refine Zck UK ?_
   rw[Zb0 Jd _]
   show wpAny _ A.in1 (pyNext (.ref it) >>=_) _ _ s
   refine Zaa (wpAny_pyNext_list_item hit hl (x:=.ref b) ?_ fun h' Qj sb=> ?_)
   ·rw[<-ZaP,Zag az,e1]
   have MW:oj h' b k r.2:=by
    obtain⟨o,ho,rest⟩:=pr
    exact⟨o,(sb.2 b NU).trans ho,rest⟩
   have Qe:h'.IsList l items:=by
    obtain⟨o,ho,rest⟩:=hl
    exact⟨o,(sb.2 l pP).trans ho,rest⟩
   have iS:h'.DictOf knd d af:=by
    obtain⟨o,es,ep,ho,rest⟩:=hd
    exact⟨o,es,ep,(sb.2 d wF).trans ho,rest⟩
   show wpAny _ A.in1 (holding [Value.ref b] _ >>=_) _ _ _
   refine Zaa (ZbS ?_)
   refine Zaa (Zfe (Wm MW ?_))
   show wpAny _ A.in1 (holding [k,r.2] (dictSet d k r.2)) _ _ _
   refine ZbS ?_
   refine wpAny_dictSet_pairs (s:= {s with heap:=h'}) hk iS (fun h2 hd2 oU=> ?_) (by rw[Zbz]at hz;omega)
   refine Zaf ⟨Zev Jd _,?_⟩
   have kp:∀c o,c≠d->c≠it->s.heap.get? c=some o->h2.get? c=some o:=fun c o h1 ik e=> (oU.2 c h1).trans ((sb.2 c ik).trans e)
   refine IQ wF sJ pP hA us Di (i+1) (z+1) 0 (stored af r.1 r.2) _ e2 ((show oh knd s.heap d it us Di from ps).keep kp) ?_ ?_ hd2 ?_ ?_
   ·obtain⟨o,ho,rest⟩:=Qj
    exact⟨o,(oU.2 it (ZdS wF)).trans ho,rest⟩
   ·obtain⟨o,ho,rest⟩:=Qe
    exact⟨o,(oU.2 l sJ).trans ho,rest⟩
   ·have:=stored_length_le af r.1 r.2
    rw[Zbz]at hz
    omega
   ·intro h3 t3 k3 d3
    exact hR h3 t3 (fun c o h1 ik e=>k3 c o h1 ik (kp c o h1 ik e)) d3
theorem W2 {o:Addr}{ob:Obj}{items:Array Value}{n:Nat}{rs:List (K×Value)}{Q:Value->Shared->Prop}(ho:s.heap.get? o=some ob) (cZ:ob.cls=.type "list") (AK:ob.dict=none) (sN:ob.data=.seq items n) (hA:A.handled=none)
  (hp:Paired (fun u (r:K×Value)=> ∃b k,u=.ref b/\oj s.heap b k r.2/\knd.is r.1 k=true) items.toList rs) (hz:rs.length<=sizeLine)
  (h:∀h' t',h'.DictOf knd s.heap.objs.size (merged [] rs)->(∀b o,s.heap.get? b=some o->h'.get? b=some o)->Q (.ref s.heap.objs.size) {s with heap:=h',toks:=t'}):
  wpAny (model prog w) A (call (.type "dict") [.ref o]) Q E s:=by
 refine callType_codes (Q₁:=fun obj aI=>obj=.ref s.heap.objs.size/\aI= {s with heap:=s.heap.push {cls:=.type "dict",data:=.dict #[]} }) PySem.F.kt_called_dict (PySem.F.kt_typeCall_dict_1 _) PySem.F.entry_dict_init (kt_code_dict_new _ ⟨rfl,rfl⟩) ?_
 rintro obj aI ⟨rfl,rfl⟩
 have pN:(s.heap.push {cls:=.type "dict",data:=.dict #[]}).DictOf knd s.heap.objs.size []:=Heap.DictOf.new s.heap
 have pM:=Zab {cls:=.type "dict",data:=.dict #[]} ho
 refine⟨pN.typeIs,PySem.F.args_dict_init_2 _ _,?_⟩
 unfold Builtin.«dict.__init__»
 refine Zaa ?_
 unfold Builtin.Dict.selfAndRest
 refine Zaa (wpAny_notOrdered_dict pN.typeIs ?_)
 show wpAny _ _ (pure (s.heap.objs.size,[Value.ref o])) _ _ _
 refine Zaf ?_
 show wpAny _ _ (Builtin.Dict.updateFrom "dict.__init__" s.heap.objs.size (.ref o) [] .none) _ _ _
 unfold Builtin.Dict.updateFrom
 refine Zaa (Zfr (T:= "list") ⟨ob,pM,cZ⟩ ?_)
 rw[ZaY .d]
 refine Zaa (Rl pM cZ sN AK hA fun h2 t2 e2 x2=> ?_)
 rw[ZaY (by rfl)]
 refine Zaa (Zee ?_)
 have gE:=x2.keeps _ _ pM
 refine Zaa (Ze8 (items:=items) ⟨ob,gE,cZ,n,sN⟩ ?_)
 have vG:s.heap.objs.size<h2.objs.size:=by
  obtain⟨od,_,_,Am,_⟩:=id pN
  exact Zaq (x2.keeps _ _ Am)
 have vH:o<s.heap.objs.size:=Zaq ho
 have kp:∀b u,s.heap.get? b=some u->(h2.push {cls:=.type "list_iterator",data:=.fields #[.ref o,.int 0 0]}).get? b=some u:=fun b u e=>Zab _ (x2.keeps _ _ (Zab _ e))
 refine Zaf ⟨Zev Jd _,?_⟩
 refine IQ (A:=A.in1) (knd:=knd) (items:=items) (l:=o) (d:=s.heap.objs.size) (it:=h2.objs.size) (ZaE vG) (ZaE vH) (ZaE (Nat.lt_trans vH vG)) hA items.toList rs 0 0 0 [] _ ZeV ?_ ?_ ?_ ?_ (by rw[Zdv];omega) ?_
 ·unfold oh
  have key:∀{us:List Value}{ts:List (K×Value)},Paired (fun u (r:K×Value)=> ∃b k,u=.ref b/\oj s.heap b k r.2/\knd.is r.1 k=true) us ts->Paired (fun u (r:K×Value)=> ∃b k,u=.ref b/\b≠s.heap.objs.size/\b≠h2.objs.size/\oj (h2.push {cls:=.type "list_iterator",data:=.fields #[.ref o,.int 0 0]}) b k r.2/\knd.is r.1 k=true) us ts:=by
   intro us ts p
   induction p with
   |nil=>exact .nil
   |cons a _ ih=>
    obtain⟨b,k,e,⟨q,hq,rest⟩,z⟩:=a
    have:=Zaq hq
    exact .cons ⟨b,k,e,ZaE this,ZaE (Nat.lt_trans this vG),⟨q,kp _ _ hq,rest⟩,z⟩ ih
  exact key hp
 ·exact⟨_,Zat _ rfl,rfl,rfl⟩
 ·exact⟨ob,Zab _ gE,cZ,n,sN⟩
 ·obtain⟨od,es,ep,Am,rest⟩:=pN
  exact⟨od,es,ep,Zab _ (x2.keeps _ _ Am),rest⟩
 ·intro h3 t3 k3 d3
  refine⟨rfl,h h3 t3 d3 fun b u e=> ?_⟩
  have:=Zaq e
  exact k3 b u (ZaE this) (ZaE (Nat.lt_trans this vG)) (kp b u e)
end
section
variable {X:Cx}
abbrev Kj (H:Hp):List V->List (Key×V)->Prop:=Paired fun y (kv:Key×V)=> ∃b,y=.ref b/\H b=some (.tup [kV kv.1,kv.2])
theorem Ul (hc:X.calm=true:=by rfl):dA X (.type "dict") (fun xs H Q=> ∃(p:Addr) (ys:List V) (af:List (Key×V)),xs=[.ref p]/\H p=some (.lst ys)/\Kj H ys af/\af.length<=1000/\∀q,H q=none->Q (.ref q) (upd H q (.dK (mO [] af)))):=by
 intro pins s σ H xs us Q I r h
 obtain⟨p,ys,af,rfl,hp,pv,hz,q⟩:=h
 obtain⟨u,rfl,ru⟩:=Zgc r
 cases ru
 obtain⟨aa,rv,⟨ob,n,ho,cZ,AK,sN⟩,_⟩:=I.list (ai.of hp)
 have key:∀{ys:List V}{af:List (Key×V)}{aa:List Value},Kj H ys af->Vals ys aa->∃rs:List (Key×Value),KV af rs/\Paired (fun u (r:Key×Value)=> ∃b k,u=.ref b/\oj s.heap b k r.2/\(eR X.prog X.w).is r.1 k=true) aa rs:=by
  intro ys af aa pv
  induction pv generalizing aa with
  |nil=>intro r;cases r;exact⟨[],.nil,.nil⟩
  | @cons y kv ys af a _ ih=>
   intro r
   cases r with
   | @cons _ u _ us ry rr=>
    obtain⟨rs,k1,k2⟩:=ih rr
    obtain⟨b,rfl,hb⟩:=a
    cases ry
    obtain⟨ps,pr,pt,_⟩:=I.tuple (aj.of hb)
    cases pr with
    | @cons _ pu _ pus r1 r2=>
     cases r2 with
     | @cons _ pw _ pws r3 r4=>
      cases r4
      obtain⟨o,ho,cm,m,iS⟩:=pt
      exact⟨(kv.1,pw)::rs,.cons ⟨rfl,r3⟩ k1,.cons ⟨b,pu,rfl,⟨o,ho,cm,m,iS⟩,xo r1⟩ k2⟩
 obtain⟨rs,k1,k2⟩:=key pv rv
 have lr:af.length=rs.length:=KV.length k1
 refine W2 (knd:=eR X.prog X.w) (items:=aa.toArray) ho cZ AK sN (I.ok.hd hc) (by simpa using k2) (by rw[ZaH];omega) fun h' t' dd kp=> ?_
 have fU:(mO [] af).length<=sizeLine:=by
  have h1:=Jp af []
  rw[Zdv]at h1
  rw[ZaH];omega
 exact⟨.ref s.heap.objs.size,_,I.laid (a:=s.heap.objs.size) (o:=.dK (mO [] af)) (t':=t') kp (Zae _) (GZ fU (beq_eq_false_iff_ne.mpr (ZdS (ZaE I.big))) (k1.merge .nil) dd),rfl,q _ I.fresh⟩
end
theorem J8:fillsNumberSlot (.type "tuple") "mul" =pure false:=
 PySem.fillsNumberSlot_seq (id:= "tuple.__mul__") (r:=some (.builtin "tuple.__rmul__")) ZeY.lookup (by decide+kernel) PySem.F.slot_tuple_rmul.lookup (by decide+kernel)
theorem UX:seqRepeat? (.type "tuple")=pure (some (.builtin "tuple.__mul__")):=by
 unfold seqRepeat?
 rw[PySem.seqSlot_of (T:= "tuple") (name:= "__mul__") (id:= "tuple.__mul__") ZeY.lookup (by decide+kernel),PySem.seqSlot_of (T:= "tuple") (name:= "__rmul__") (id:= "tuple.__rmul__") PySem.F.slot_tuple_rmul.lookup (by decide+kernel)]
 rfl
theorem Wy (a:Int) (t:Tok) (l:Addr) (items:Array Value) (n:Nat) (d:Option Addr) (sl:Array (Option Value)):
  Meets (Builtin.«int.__rmul__» ⟨[.int a t,.ref l],[]⟩) (fun _ R s=>s.heap.get? l=some {cls:=.type "tuple",dict:=d,data:=.seq items n,slots:=sl}/\R (.ok (.ret Value.notImplemented)) s):=
 .of_wp fun prog w A R s h=>by obtain⟨hp,g,d,tk,os⟩:=s;obtain⟨hl,h⟩:=h;wp_walk;exact⟨_,rfl,h⟩
theorem Uf (l:Addr) (items:Array Value) (n:Nat) (d:Option Addr) (sl:Array (Option Value)) (u:Tok):
  Meets (Builtin.«tuple.__mul__» ⟨[.ref l,.int 1 u],[]⟩) (fun _ R s=>s.heap.get? l=some {cls:=.type "tuple",dict:=d,data:=.seq items n,slots:=sl}/\R (.ok (.ret (.ref l))) s):=
 .of_wp fun prog w A R s h=>by
  obtain⟨hp,g,d,tk,os⟩:=s;obtain⟨hl,h⟩:=h
  wp_walk;exact⟨_,rfl,h⟩
theorem WI (l:Addr) (items:Array Value) (n:Nat) (d:Option Addr) (sl:Array (Option Value)) (x:Int) (u:Tok) (h0:items.isEmpty=false) (h1:(x==1)=false) (h2:1<=x) (hs:items.size*x.toNat<=1000) (hx:x<=1000) (hz:(List.foldl (fun x1 x2=>x1++x2) #[] (List.replicate x.toNat items)).size<=sizeLine):
  Meets (Builtin.«tuple.__mul__» ⟨[.ref l,.int x u],[]⟩) (fun _ R s=>s.heap.get? l=some {cls:=.type "tuple",dict:=d,data:=.seq items n,slots:=sl}/\R (.ok (.ret (Value.ref s.heap.objs.size))) {s with heap:=s.heap.push {cls:=Value.type "tuple",data:=Data.seq (List.foldl (fun x1 x2=>x1++x2) #[] (List.replicate x.toNat items))},toks:=s.toks}):=
 .of_wp fun prog w A R s h=>by
  obtain⟨hp,g,d,tk,os⟩:=s;obtain⟨hl,h⟩:=h
  have a1:decide (x< -(2^63))=false:=ZaA .o
  have a2:decide (x>=2^63)=false:=ZaA .o
  have a3:decide (x<=0)=false:=ZaA .o
  have hn:(items.size:Int)*x<=1000:=by
   have e:x=(x.toNat:Int):=.o
   rw[e]
   exact_mod_cast hs
  have a4:¬((items.size:Int)*x> (2^63 - 1)/8):=.o
  have a5:Builtin.Tuple.tupleTooMany ((items.size:Int)*x)=false:=by
   unfold Builtin.Tuple.tupleTooMany
   have e:=ZaH
   simp
   omega
  wp_walk
  rw[ZaK (by rw[a1,a2];decide)]
  have ht:IsTup hp l items:=⟨_,hl,rfl,n,rfl⟩
  refine Zaa (tupleItemsOf_ ht ?_)
  dsimp only
  rw[ZaK (by rw[h0,h1];decide),ZaK (by rw[a3,h0];decide),ZaK a4,a5,ZaK Zaw]
  wp_walk;exact⟨_,rfl,h⟩
section
variable {X:Cx}
def MD:R2:=fun x y H Q=> ∃a k xs,x=.ref a/\y=.int k/\H a=some (.tup xs)/\xs≠[]/\1<=k/\k<=1000/\xs.length*k.toNat<=1000/\∀(c:Addr) H',ag H H'->H' c=some (.tup (List.replicate k.toNat xs).flatten)->Q (.ref c) H'
theorem U5:bg X (binaryOp .Mult) MD:=by
  intro pins s σ H x y v u Q I rx ry h
  obtain⟨l,k,xs,rfl,rfl,hH,cP,h1,h2,hz,q⟩:=h
  cases rx
  obtain⟨t,rfl⟩:=ry
  obtain⟨aa,r,pl,_⟩:=I.tuple (aj.of hH)
  have hl:=r.length
  obtain⟨⟨cls,dd,data,sl⟩,ho,cZ,n,hd⟩:=id pl
  simp only at cZ hd
  subst cZ hd
  have f0:∀m:Nat,List.foldl (fun x1 x2=>x1++x2) #[] (List.replicate m aa.toArray)=(List.replicate m aa).flatten.toArray:=fun m=>by
    have:=Wa aa m []
    rw[Zdx]at this
    exact this
  have hsz:aa.toArray.size*k.toNat<=1000:=by rw[Zaj,<-hl];exact hz
  have h0:aa.toArray.isEmpty=false:=by
    cases aa with
    |nil=>
     cases xs with
     |nil=>exact absurd rfl cP
     |cons a b=>cases hl
    |cons a b=>rfl
  refine PySem.wpAny_binaryOp_repeat_ref (T:= "tuple") (U:= "int") .d ⟨_,ho,rfl⟩ (fun s'=>PySem.typeIs_int s' k t) J8 PySem.F.fills_int_mul PySem.F.slot_int_rmul UX PySem.F.slot_int_index.lookup
    (Zep PySem.F.slot_int_rmul (PySem.typeIs_int s k t) PySem.F.entry_int_rmul (PySem.F.args_int_rmul_2 _ _) (Wy k t l aa.toArray n dd sl)
      ⟨ho,rfl,⟨_,ho,rfl⟩,?_⟩)
  by_cases hk:k=1
  · subst hk
    refine Zep ZeY ⟨_,ho,rfl⟩ PySem.F.entry_tuple_mul (PySem.F.args_tuple_mul_2 _ _) (Uf l aa.toArray n dd sl t) ⟨ho,⟨.ref l,H,I,rfl,q l H (ag.refl _) ?_⟩⟩
    rw[hH]
    simp
  · refine Zep ZeY ⟨_,ho,rfl⟩ PySem.F.entry_tuple_mul (PySem.F.args_tuple_mul_2 _ _) (WI l aa.toArray n dd sl k t h0 (by simpa using hk) h1 hsz h2 ?_) ⟨ho,?_⟩
    · rw[f0,Zaj,BQ,ZaH]
      rw[Zaj,Nat.mul_comm]at hsz
      omega
    · rw[f0]
      refine⟨.ref s.heap.objs.size,upd H s.heap.objs.size (.tup (List.replicate k.toNat xs).flatten),?_,rfl,q _ _ (fun b o hb=>by rw[Zh (Zg hb I.fresh)];exact hb) Ze⟩
      refine I.laid (t':=s.toks) (fun b o e=>Zab _ e) (Zae _) ⟨by rw[BQ,ZaH,Nat.mul_comm];omega,_,r.rep k.toNat,?_⟩
      exact⟨⟨_,Zat s.heap rfl,rfl,0,rfl⟩,_,Zat s.heap rfl,rfl⟩
theorem Xc {K:ZhQ}{a:Addr}{xs:List V}{g:TG}{tb:TS}{D:Ends}{σ:St}{H:Hp}(Pv:Nat->St->Hp->Prop) (h0:Pv 0 σ H) (hl:∀i σ H,i<=xs.length->Pv i σ H->aj K H a xs)
  (hs:∀i x T σ H,xs[i]? =some x->H T=none->Pv i σ H->g (.ref T) σ (upd H T (.par [.int (i:Int),x])) fun aT H2=>tb {D with nx:=Pv (i+1),ct:=Pv (i+1),bk:=D.nx} aT H2) (hd:∀σ H,Pv xs.length σ H->D.nx σ H):
  ∃W:Nat->Nat->St->Hp->Prop,(∃m,W 0 m σ H)/\∀i m σ H,W i m σ H->
   ((qp K a).stop i H/\D.nx σ H)∨((qp K a).go i H/\∃N:St->Hp->Prop,(∀ao H',N ao H'->∃m',m'<m/\W (i+1) m' ao H')/\∀x H',(qp K a).mq i H x H'->g x σ H' fun aT H2=>tb {D with nx:=N,ct:=N,bk:=D.nx} aT H2):=by
 refine⟨fun i m σ H=>m=xs.length - i/\i<=xs.length/\Pv i σ H,⟨xs.length,by simp,ZaV _,h0⟩,?_⟩
 rintro i m σ H ⟨rfl,hi,p⟩
 have q:=hl i σ H hi p
 by_cases az:i<xs.length
 ·refine .inr ⟨⟨xs,xs[i],q,by simp[az]⟩,Pv (i+1),fun ao H' p'=> ⟨xs.length - (i+1),.o,rfl,az,p'⟩,fun x H' y=> ?_⟩
  obtain⟨T,z,e1,e2,e3,e4⟩:=y
  subst e1 e3
  exact hs i z T σ H (e4 xs q) e2 p
 ·have e:i=xs.length:=.o
  subst e
  exact .inl ⟨⟨xs,q,rfl⟩,hd σ H p⟩
end
end L2
namespace PyProof.Rows.fO
open PySem
def Rp:Bool->Keyed->Array Keyed->Nat->Nat->Nat->StateT SortSt Sem (Option Nat):=sortPriv%PySem.Builtin.gallop
def w9 (left:Bool) (key:Keyed) (arr:Array Keyed) (base:Nat) (i:Nat):StateT SortSt Sem (Option Bool):=
 elem' arr (base+i) >>=fun x=>if left=true then lt' x key else lt' key x >>=fun c=>pure (c.map fun z=> !z)
structure Ord (r:Keyed->Keyed->Bool):Prop where
 gk:∀x y,r x y=true->r y x=false
 dS:∀x y z,r y x=false->r z y=false->r z x=false
theorem Ord.lj {r:Keyed->Keyed->Bool}(o:Ord r) (x:Keyed):r x x=false:=by
 cases h:r x x with
 |false=>rfl
 |true=>have:=o.gk x x h;rw[h]at this;cases this
section
variable {prog:Program}{w:World}{A:Around}{E:Value->Shared->Prop}{s:Shared}{κ:SortKind}{a₀:Array Keyed}{r:Keyed->Keyed->Bool}
def jd (prog:Program) (w:World) (A:Around) (E:Value->Shared->Prop) (s:Shared) (κ:SortKind) (a₀:Array Keyed) (r:Keyed->Keyed->Bool):Prop:=
 ∀(x y:Keyed) (st:SortSt) (Q:Option Bool->SortSt->Prop),x∈a₀.toList->y∈a₀.toList->kindOf st=κ->Q (some (r x y)) st->wpS (model prog w) A E s (lt' x y) Q st
theorem ZB {arr:Array Keyed}{i:Nat}{x:Keyed}{Q:Keyed->SortSt->Prop}{st:SortSt}(hx:arr[i]? =some x) (h:Q x st):wpS (model prog w) A E s (elem' arr i) Q st:=by
 rw[elem'_eq,hx]
 exact ZaD h
theorem ZQ {σ α:Type}{c:Prop} [Decidable c] {t e:StateT σ Sem α}{Q:α->σ->Prop}{st:σ}(h1:c->wpS (model prog w) A E s t Q st) (h2:¬c->wpS (model prog w) A E s e Q st):wpS (model prog w) A E s (if c then t else e) Q st:=by
 by_cases h:c
 ·rw[ZaY h];exact h1 h
 ·rw[ZaK h];exact h2 h
theorem ZR {σ α:Type}{x y:Nat}{t e:StateT σ Sem α}{Q:α->σ->Prop}{st:σ}(h1:x=y->wpS (model prog w) A E s t Q st) (h2:¬x=y->wpS (model prog w) A E s e Q st):wpS (model prog w) A E s (if (x==y)=true then t else e) Q st:=
 ZQ (fun h=>h1 (Zdk.mp h)) (fun h=>h2 fun z=>h (Zdk.mpr z))
theorem BU {σ α:Type}{b:Bool}{t e:StateT σ Sem α}{Q:α->σ->Prop}{st:σ}(h1:b=true->wpS (model prog w) A E s t Q st) (h2:b=false->wpS (model prog w) A E s e Q st):wpS (model prog w) A E s (if b=true then t else e) Q st:=
 ZQ h1 (fun h=>h2 (Bool.eq_false_iff.mpr h))
theorem Hn {σ α γ:Type}{c:Prop} [Decidable c] {j:Unit->γ->StateT σ Sem α}{x y:γ}{Q:α->σ->Prop}{st:σ}(h:∀x,wpS (model prog w) A E s (j () x) Q st):wpS (model prog w) A E s (if c then j () x else j () y) Q st:=
 ZQ (fun _=>h _) (fun _=>h _)
theorem xl {σ α γ δ:Type}{c:Prop} [Decidable c] {j:Unit->γ->δ->StateT σ Sem α}{t:StateT σ Sem α}{x:γ}{y:δ}{Q:α->σ->Prop}{st:σ}(P:γ->δ->Prop) (h:∀x y,P x y->wpS (model prog w) A E s (j () x y) Q st)
  (h1:c->(∀x y,P x y->wpS (model prog w) A E s (j () x y) Q st)->wpS (model prog w) A E s t Q st) (h2:¬c->P x y):wpS (model prog w) A E s (if c then t else j () x y) Q st:=
 ZQ (fun z=>h1 z h) (fun z=>h _ _ (h2 z))
theorem Ho {σ α:Type}{c:Prop} [Decidable c] {j:Unit->StateT σ Sem α}{t:StateT σ Sem α}{Q:α->σ->Prop}{st:σ}(P:σ->Prop) (h:∀ae,P ae->wpS (model prog w) A E s (j ()) Q ae)
  (h1:c->(∀ae,P ae->wpS (model prog w) A E s (j ()) Q ae)->wpS (model prog w) A E s t Q st) (h2:¬c->P st):wpS (model prog w) A E s (if c then t else j ()) Q st:=
 ZQ (fun z=>h1 z h) (fun z=>h _ (h2 z))
def bp (r:Keyed->Keyed->Bool) (left:Bool) (key x:Keyed):Bool:=if left=true then r x key else !r key x
theorem Za4 {left:Bool}{key:Keyed}{arr:Array Keyed}{base i:Nat}{x:Keyed}{Q:Option Bool->SortSt->Prop}{st:SortSt}(hc:jd prog w A E s κ a₀ r) (hk:kindOf st=κ) (hx:arr[base+i]? =some x) (mx:x∈a₀.toList) (mk:key∈a₀.toList) (h:Q (some (bp r left key x)) st):
  wpS (model prog w) A E s (w9 left key arr base i) Q st:=by
 unfold w9
 refine Zay (ZB hx ?_)
 cases left with
 |true=>
  rw[ZaY rfl]
  exact hc _ _ _ _ mx mk hk h
 |false=>
  rw[ZaK Zaw]
  exact Zay (hc _ _ _ _ mk mx hk (ZaD h))
theorem Yn {left:Bool}{key:Keyed}{arr:Array Keyed}{base n hint:Nat}{Q:Option Nat->SortSt->Prop}{st:SortSt}(hc:jd prog w A E s κ a₀ r) (hk:kindOf st=κ) (p:Nat->Bool)
  (hp:∀i,i<n->∃x,arr[base+i]? =some x/\x∈a₀.toList/\p i=bp r left key x) (mk:key∈a₀.toList) (mono:∀i j,i<=j->j<n->p j=true->p i=true) (hh:hint<n)
  (h:∀k,k<=n->(∀i,i<k->p i=true)->(∀i,k<=i->i<n->p i=false)->Q (some k) st):wpS (model prog w) A E s (Rp left key arr base n hint) Q st:=by
 have tE:∀{i:Nat}{Q:Option Bool->SortSt->Prop},i<n->Q (some (p i)) st->wpS (model prog w) A E s (w9 left key arr base i) Q st:=fun {i Q} hi hq=>by
  obtain⟨x,e,m,ep⟩:=hp i hi
  exact Za4 hc hk e m mk (by rw[<-ep];exact hq)
 have down:∀i j,i<=j->j<n->p i=false->p j=false:=fun i j dr hj hf=>by
  cases hh:p j with
  |false=>rfl
  |true=>rw[mono i j dr hj hh]at hf;cases hf
 show wpS (model prog w) A E s (w9 left key arr base hint >>=_) _ _
 dsimp only
 refine Zay (tE hh ?_)
 cases EB:p hint with
 |true=>
  dsimp only
  rw[ZaY rfl]
  refine Zay (Ze0 (ZbY (I:=fun x c ae=>ae=st/\∃cj bW,c=(none,cj,bW)/\hint+cj<n/\p (hint+cj)=true/\cj<bW/\x+1<=bW) (Q:=fun c ae=>ae=st/\∃cj bW,c=(none,cj,bW)/\hint+cj<n/\p (hint+cj)=true/\cj<bW/\∀i,hint+bW<=i->i<n->p i=false) ?_ ?_ ⟨rfl,0,1,rfl,hh,EB,Nat.one_pos,Zae _⟩) ?_)
  ·rintro x c ae _ hx ⟨rfl,cj,bW,rfl,q1,q2,q3,q4⟩
   dsimp only
   refine ZQ (fun dH=>ZaD ⟨rfl,_,_,rfl,q1,q2,q3,fun i h1 h2=>.o⟩) (fun dH=>Zay (tE .o ?_))
   cases rT:p (hint+bW) with
   |true=>exact ZaD ⟨rfl,bW,2*bW+1,rfl,.o,rT,.o,.o⟩
   |false=>exact ZaD ⟨rfl,_,_,rfl,q1,q2,q3,fun i h1 h2=>down (hint+bW) i h1 h2 rT⟩
  ·rintro c ae ⟨rfl,cj,bW,rfl,q1,q2,q3,q4⟩
   rw[ZbC (ZaV n)]at q4
   exact⟨rfl,_,_,rfl,q1,q2,q3,fun i h1 h2=>.o⟩
  ·rintro c ae ⟨rfl,cj,bW,rfl,q1,q2,q3,q4⟩
   dsimp only
   refine Zay (ZbY (I:=fun x c au=>au=ae/\∃lo hi,c=(none,lo,hi)/\lo<=hi/\hi<=n/\(∀i,i<lo->p i=true)/\(∀i,hi<=i->i<n->p i=false)/\hi - lo<=n - x) ?_ ?_ ⟨rfl,_,_,rfl,.o,.o,(fun i hi=>mono i (hint+cj) .o q1 q2),(fun i h1 h2=>q4 i .o h2),.o⟩)
   ·rintro x c au _ hx ⟨rfl,lo,hi,rfl,h1,h2,h3,h4,h5⟩
    dsimp only
    refine ZQ (fun dH=> ?_) (fun dH=> ?_)
    ·have e:=Nat.le_antisymm h1 dH
     subst e
     exact ZaD (ZaD (h lo h2 h3 h4))
    ·have hm:lo+(hi - lo)/2<hi:=.o
     have nq:=ZeS lo ((hi - lo)/2)
     generalize em:lo+(hi - lo)/2=m at hm nq
     refine Zay (tE .o ?_)
     cases rV:p m with
     |true=>exact ZaD ⟨rfl,m+1,hi,rfl,hm,h2,fun i ba=>mono i m (Nat.le_of_lt_succ ba) .o rV,h4,.o⟩
     |false=>exact ZaD ⟨rfl,lo,m,rfl,nq,.o,h3,fun i h1 h2=>down m i h1 h2 rV,.o⟩
   ·rintro c au ⟨rfl,lo,hi,rfl,h1,h2,h3,h4,h5⟩
    rw[ZbC (ZaV n)]at h5
    have e:lo=hi:=.o
    subst e
    exact ZaD (h lo h2 h3 h4)
 |false=>
  dsimp only
  rw[ZaK Zaw]
  refine Zay (Ze0 (ZbY (I:=fun x c ae=>ae=st/\∃cj bW,c=(none,cj,bW)/\cj<=hint/\p (hint - cj)=false/\cj<bW/\x+1<=bW) (Q:=fun c ae=>ae=st/\∃cj bW,c=(none,cj,bW)/\cj<=hint/\p (hint - cj)=false/\cj<bW/\∀i,i+bW<=hint->p i=true) ?_ ?_ ⟨rfl,0,1,rfl,ZaV _,EB,Nat.one_pos,Zae _⟩) ?_)
  ·rintro x c ae _ hx ⟨rfl,cj,bW,rfl,q1,q2,q3,q4⟩
   dsimp only
   refine ZQ (fun dH=>ZaD ⟨rfl,_,_,rfl,q1,q2,q3,fun i h1=>.o⟩) (fun dH=>Zay (tE .o ?_))
   cases rT:p (hint - bW) with
   |true=>exact ZaD ⟨rfl,_,_,rfl,q1,q2,q3,fun i h1=>mono i (hint - bW) (Nat.le_sub_of_add_le h1) .o rT⟩
   |false=>exact ZaD ⟨rfl,bW,2*bW+1,rfl,.o,rT,.o,.o⟩
  ·rintro c ae ⟨rfl,cj,bW,rfl,q1,q2,q3,q4⟩
   rw[ZbC (ZaV n)]at q4
   exact⟨rfl,_,_,rfl,q1,q2,q3,fun i h1=>.o⟩
  ·rintro c ae ⟨rfl,cj,bW,rfl,q1,q2,q3,q4⟩
   dsimp only
   refine Zay (ZbY (I:=fun x c au=>au=ae/\∃lo hi,c=(none,lo,hi)/\lo<=hi/\hi<=n/\(∀i,i<lo->p i=true)/\(∀i,hi<=i->i<n->p i=false)/\hi - lo<=n - x) ?_ ?_ ⟨rfl,_,_,rfl,.o,.o,(fun i hi=>q4 i .o),(fun i h1 h2=>down (hint - cj) i .o h2 q2),.o⟩)
   ·rintro x c au _ hx ⟨rfl,lo,hi,rfl,h1,h2,h3,h4,h5⟩
    dsimp only
    refine ZQ (fun dH=> ?_) (fun dH=> ?_)
    ·have e:=Nat.le_antisymm h1 dH
     subst e
     exact ZaD (ZaD (h lo h2 h3 h4))
    ·have hm:lo+(hi - lo)/2<hi:=.o
     have nq:=ZeS lo ((hi - lo)/2)
     generalize em:lo+(hi - lo)/2=m at hm nq
     refine Zay (tE .o ?_)
     cases rV:p m with
     |true=>exact ZaD ⟨rfl,m+1,hi,rfl,hm,h2,fun i ba=>mono i m (Nat.le_of_lt_succ ba) .o rV,h4,.o⟩
     |false=>exact ZaD ⟨rfl,lo,m,rfl,nq,.o,h3,fun i h1 h2=>down m i h1 h2 rV,.o⟩
   ·rintro c au ⟨rfl,lo,hi,rfl,h1,h2,h3,h4,h5⟩
    rw[ZbC (ZaV n)]at h5
    have e:lo=hi:=.o
    subst e
    exact ZaD (h lo h2 h3 h4)
end
def CV:Nat->StateT SortSt Sem Unit:=sortPriv%PySem.Builtin.setMinGallop
def Oc:Array Keyed->Array Keyed->StateT SortSt Sem (Array Keyed):=sortPriv%PySem.Builtin.mergeLo
theorem J5 (g:Nat):CV g=modify fun s=>SortSt.mk' (kindOf s) (arrOf s) (pendingOf s) g (failedOf s):=rfl
abbrev Pw (r:Keyed->Keyed->Bool) (l:List Keyed):Prop:=l.Pairwise fun x y=>r y x=false
def SG (st ae:SortSt):Prop:=kindOf ae=kindOf st/\arrOf ae=arrOf st/\pendingOf ae=pendingOf st/\failedOf ae=failedOf st
theorem SG.refl (st:SortSt):SG st st:=⟨rfl,rfl,rfl,rfl⟩
def Good (r:Keyed->Keyed->Bool) (a b res:Array Keyed):Prop:=res.toList.Perm (a.toList++b.toList)/\Pw r res.toList
structure JW (r:Keyed->Keyed->Bool) (a b out:Array Keyed) (ia ib:Nat):Prop where
 perm:(out.toList++(a.toList.drop ia++b.toList.drop ib)).Perm (a.toList++b.toList)
 jO:Pw r out.toList
 gM:∀x∈out.toList,∀y∈a.toList.drop ia++b.toList.drop ib,r y x=false
structure fe (r:Keyed->Keyed->Bool) (a b:Array Keyed):Prop where
 o:Ord r
 sa:Pw r a.toList
 sb:Pw r b.toList
theorem Jj {α:Type}{l:List α}{i:Nat}{x:α}(h:l[i]? =some x):l.drop i=x::l.drop (i+1):=by
 obtain⟨hi,e⟩:=Zad.mp h
 rw[Zdt hi,e]
theorem ZV {xs:Array Keyed}{i:Nat}{x:Keyed}(h:xs[i]? =some x):xs.toList[i]? =some x:=by rw[ZaP];exact h
theorem Zo {xs:Array Keyed}{i:Nat}(h:i<xs.size):∃x,xs[i]? =some x:=⟨xs[i],getElem?_pos xs i h⟩
theorem JJ {r:Keyed->Keyed->Bool}{l:List Keyed}{i:Nat}{x:Keyed}(o:Ord r) (p:Pw r l) (h:l[i]? =some x):∀y∈l.drop i,r y x=false:=fun y hy=>by
 rw[Jj h]at hy
 rcases Zao.mp hy with rfl |hy
 ·exact o.lj _
 ·have q:Pw r (l.drop i):=ZbN (Zei i l) p
  rw[Jj h]at q
  exact(ZbU.mp q).1 y hy
theorem Wb (xs:Array Keyed) (i j:Nat):(xs.extract i j).toList=(xs.toList.drop i).take (j - i):=by
 rw[Array.toList_extract,List.extract_eq_drop_take]
theorem Wt (xs:Array Keyed) (i:Nat):(xs.extract i xs.size).toList=xs.toList.drop i:=by
 rw[Wb,ZbZ (by rw[ZbB,Zau];exact Zae _)]
section
variable {r:Keyed->Keyed->Bool}{a b out:Array Keyed}{ia ib:Nat}
theorem JW.kT (C:fe r a b) (J:JW r a b out ia ib) {x:Keyed}(hx:a[ia]? =some x) (h:∀y,b[ib]? =some y->r y x=false):JW r a b (out.push x) (ia+1) ib:=by
 have jn:=ZV hx
 have hd:=Jj jn
 have low:∀y∈a.toList.drop (ia+1)++b.toList.drop ib,r y x=false:=fun y hy=>by
  rcases ZaC.mp hy with hy |hy
  ·exact JJ C.o C.sa jn y (by rw[hd];exact Zan _ hy)
  ·cases e:b[ib]? with
   |none=>
    rw[<-ZaP]at e
    rw[ZbX (by rw[List.getElem?_eq_none_iff]at e;exact e)]at hy
    cases hy
   |some z=>
    have h1:=JJ C.o C.sb (ZV e) y hy
    exact C.o.dS x z y (h z e) h1
 refine⟨?_,?_,fun u hu y hy=> ?_⟩
 ·rw[ZbK,Za3]
  have:=J.perm
  rw[hd]at this
  exact this
 ·rw[ZbK]
  refine Zbf.mpr ⟨J.jO,Zd2 _ _,fun u hu v hv=> ?_⟩
  rw[Zax.mp hv]
  exact J.gM u hu x (ZaW _ (by rw[hd];exact Zas))
 ·rw[ZbK]at hu
  rcases ZaC.mp hu with hu |hu
  ·refine J.gM u hu y ?_
   rcases ZaC.mp hy with hy |hy
   ·exact ZaW _ (by rw[hd];exact Zan _ hy)
   ·exact Zav _ hy
  ·rw[Zax.mp hu]
   exact low y hy
theorem JW.kS (C:fe r a b) (J:JW r a b out ia ib) {y:Keyed}(hy:b[ib]? =some y) (h:∀x,a[ia]? =some x->r x y=false):JW r a b (out.push y) ia (ib+1):=by
 have iM:=ZV hy
 have hd:=Jj iM
 have low:∀z∈a.toList.drop ia++b.toList.drop (ib+1),r z y=false:=fun z hz=>by
  rcases ZaC.mp hz with hz |hz
  ·cases e:a[ia]? with
   |none=>
    rw[<-ZaP]at e
    rw[ZbX (by rw[List.getElem?_eq_none_iff]at e;exact e)]at hz
    cases hz
   |some x=>
    have h1:=JJ C.o C.sa (ZV e) z hz
    exact C.o.dS y x z (h x e) h1
  ·exact JJ C.o C.sb iM z (by rw[hd];exact Zan _ hz)
 refine⟨?_,?_,fun u hu z hz=> ?_⟩
 ·rw[ZbK,Za3]
  have:=J.perm
  rw[hd]at this
  refine List.Perm.trans (Zew _ ?_) this
  exact(show(y::(a.toList.drop ia++b.toList.drop (ib+1))).Perm _ from List.perm_middle.symm)
 ·rw[ZbK]
  refine Zbf.mpr ⟨J.jO,Zd2 _ _,fun u hu v hv=> ?_⟩
  rw[Zax.mp hv]
  exact J.gM u hu y (Zav _ (by rw[hd];exact Zas))
 ·rw[ZbK]at hu
  rcases ZaC.mp hu with hu |hu
  ·refine J.gM u hu z ?_
   rcases ZaC.mp hz with hz |hz
   ·exact ZaW _ hz
   ·exact Zav _ (by rw[hd];exact Zan _ hz)
  ·rw[Zax.mp hu]
   exact low z hz
theorem IS {xs:Array Keyed}{i k:Nat}{x:Keyed}(hx:xs[i+k]? =some x):xs.extract i (i+(k+1))=(xs.extract i (i+k)).push x:=by
 obtain⟨h,e⟩:=Zba.mp hx
 rw[<-e,<-Nat.add_assoc,Array.extract_succ_right .o h]
theorem JW.rp (C:fe r a b) (J:JW r a b out ia ib):∀k,ia+k<=a.size->(∀i,i<k->∀x y,a[ia+i]? =some x->b[ib]? =some y->r y x=false)->JW r a b (out++a.extract ia (ia+k)) (ia+k) ib
 |0,_,_=>by
  rw[Nat.add_zero]
  have e:a.extract ia ia= #[]:=by simp;omega
  rw[e,Array.append_empty]
  exact J
 |k+1,hk,h=>by
  obtain⟨x,hx⟩:=Zo (xs:=a) (i:=ia+k) .o
  have ih:=JW.rp C J k .o fun i hi=>h i .o
  have:=ih.kT C hx fun y hy=>h k .o x y hx hy
  rw[IS hx,Array.append_push]
  exact this
theorem JW.rn (C:fe r a b) (J:JW r a b out ia ib):∀k,ib+k<=b.size->(∀i,i<k->∀y x,b[ib+i]? =some y->a[ia]? =some x->r x y=false)->JW r a b (out++b.extract ib (ib+k)) ia (ib+k)
 |0,_,_=>by
  rw[Nat.add_zero]
  have e:b.extract ib ib= #[]:=by simp;omega
  rw[e,Array.append_empty]
  exact J
 |k+1,hk,h=>by
  obtain⟨y,hy⟩:=Zo (xs:=b) (i:=ib+k) .o
  have ih:=JW.rn C J k .o fun i hi=>h i .o
  have:=ih.kS C hy fun x hx=>h k .o y x hy hx
  rw[IS hy,Array.append_push]
  exact this
theorem JW.done (C:fe r a b) (J:JW r a b out ia ib) (h:a.size<=ia∨b.size<=ib):Good r a b (out++a.extract ia a.size++b.extract ib b.size):=by
 unfold Good
 rw[Zb9,Zb9,Wt,Wt]
 refine⟨by rw[Za3];exact J.perm,?_⟩
 have pa:Pw r (a.toList.drop ia):=ZbN (Zei _ _) C.sa
 have pb:Pw r (b.toList.drop ib):=ZbN (Zei _ _) C.sb
 rw[Za3]
 refine Zbf.mpr ⟨J.jO,?_,J.gM⟩
 rcases h with h |h
 ·rw[ZbX (by rw[Zau];exact h),Zdx]
  exact pb
 ·rw[ZbX (as:=b.toList) (by rw[Zau];exact h),ZbT]
  exact pa
theorem JW.last (C:fe r a b) (J:JW r a b out ia ib) (h:ia+1=a.size) (hl:∀x,a[a.size - 1]? =some x->∀y∈b.toList,r x y=false):Good r a b (out++b.extract ib b.size++a.extract ia a.size):=by
 unfold Good
 rw[Zb9,Zb9,Wt,Wt]
 obtain⟨x,hx⟩:=Zo (xs:=a) (i:=ia) .o
 have ed:a.toList.drop ia=[x]:=by
  rw[Jj (ZV hx),ZbX (by rw[Zau];omega)]
 have P:=J.perm
 have B:=J.gM
 rw[ed]at P B |-
 have pb:Pw r (b.toList.drop ib):=ZbN (Zei _ _) C.sb
 refine⟨?_,?_⟩
 ·rw[Za3]
  exact List.Perm.trans (Zew _ List.perm_append_comm) P
 ·rw[Za3]
  refine Zbf.mpr ⟨J.jO,Zbf.mpr ⟨pb,Zd2 _ _,fun y hy z hz=> ?_⟩,fun u hu z hz=>B u hu z ?_⟩
  ·rw[Zax.mp hz]
   exact hl x (by rw[show a.size - 1=ia by omega];exact hx) y (ZbH hy)
  ·rcases ZaC.mp hz with hz |hz
   ·exact Zav _ hz
   ·exact ZaW _ hz
end
theorem Z1 {xs:Array Keyed}{i:Nat}{x:Keyed}(h:xs[i]? =some x):x∈xs.toList:=ZaX (ZV h)
theorem JI {r:Keyed->Keyed->Bool}{l:List Keyed}{i j:Nat}{x y:Keyed}(o:Ord r) (p:Pw r l) (hx:l[i]? =some x) (hy:l[j]? =some y) (h:i<=j):r y x=false:=by
 refine JJ o p hx y ?_
 have:(l.drop i)[j - i]? =some y:=by rw[ZdD,show i+(j - i)=j by omega];exact hy
 exact ZaX this
theorem BF {r:Keyed->Keyed->Bool}{x y z:Keyed}(o:Ord r) (h:r y z=true) (h2:r y x=false):r x z=true:=by
 cases e:r x z with
 |true=>rfl
 |false=>
  have:=o.dS z x y e h2
  rw[h]at this
  cases this
section
variable {prog:Program}{w:World}{A:Around}{E:Value->Shared->Prop}{s:Shared}{κ:SortKind}{a₀:Array Keyed}{r:Keyed->Keyed->Bool}
theorem JB {g:Nat}{Q:Unit->SortSt->Prop}{st:SortSt}(h:Q () (SortSt.mk' (kindOf st) (arrOf st) (pendingOf st) g (failedOf st))):wpS (model prog w) A E s (CV g) Q st:=by
 rw[J5]
 exact ZeW h
theorem Zak {a b:Array Keyed}{Q:Array Keyed->SortSt->Prop}{st:SortSt}(hc:jd prog w A E s κ a₀ r) (hk:kindOf st=κ) (C:fe r a b) (ma:∀x∈a.toList,x∈a₀.toList) (mb:∀x∈b.toList,x∈a₀.toList) (na:1<=a.size) (nb:1<=b.size)
  (h0:∀y,b[0]? =some y->∀x∈a.toList,r x y=false) (hl:∀x,a[a.size - 1]? =some x->∀y∈b.toList,r x y=false)
  (h:∀res ae,SG st ae->Good r a b res->Q res ae):wpS (model prog w) A E s (Oc a b) Q st:=by
 show wpS (model prog w) A E s (_ >>=_) _ _
 try dsimp -zeta only
 refine Zay (Zha (Zee ⟨rfl,?_⟩))
 obtain⟨y0,lD⟩:=Zo (xs:=b) (i:=0) .o
 refine Zay (ZB lD ?_)
 have J0:JW r a b #[y0] 0 1:=by
  have e:JW r a b #[] 0 0:=⟨by simp,.nil,fun x hx=>by cases hx⟩
  exact e.kS C lD fun x hx=>h0 y0 lD x (Z1 hx)
 refine ZR (fun jm=>ZaD (h _ _ (SG.refl _) (J0.done C (.inr .o)))) (fun jm=>ZR (fun fT=>ZaD (h _ _ (SG.refl _) (J0.last C .o hl))) (fun fT=>Zay (ZfS ?_)))
 refine Zay (Ze0 (ZbY (I:=fun x c aw=>SG st aw/\∃out ia ib g,c=(none,out,ia,ib,g)/\JW r a b out ia ib/\ia+1<a.size/\ib<b.size/\x+1<=ia+ib) (Q:=fun c aw=>SG st aw/\∃res,c.fst=some res/\Good r a b res) ?step ?fin ⟨SG.refl _,_,_,_,_,rfl,J0,.o,.o,.o⟩) ?post)
 case post=>
  rintro c aw ⟨iF,res,ec,gd⟩
  rw[ec]
  exact ZaD (h res aw iF gd)
 case fin=>
  rintro c aw ⟨_,out,ia,ib,g,_,_,i1,i2,i3⟩
  rw[ZbC (ZaV _)]at i3
  omega
 case step=>
  rintro x c aw _ hx ⟨iF,out,ia,ib,g,rfl,J,i1,i2,i3⟩
  have kc:kindOf aw=κ:=by rw[iF.1];exact hk
  refine Zay (Ze0 (ZbY (I:=fun y c au=>au=aw/\∃eK fE fB ac bc,c=(none,eK,fE,fB,ac,bc)/\JW r a b eK fE fB/\fE+1<a.size/\fB<b.size/\ia+ib+y<=fE+fB)
   (Q:=fun c au=>au=aw/\((∃res,c.fst=some res/\Good r a b res)∨∃eK fE fB ac bc,c=(none,eK,fE,fB,ac,bc)/\JW r a b eK fE fB/\fE+1<a.size/\fB<b.size/\ia+ib+1<=fE+fB)) ?_ ?_ ⟨rfl,_,_,_,_,_,rfl,J,i1,i2,Zae _⟩) ?_)
  ·rintro y c au _ hy ⟨rfl,eK,fE,fB,ac,bc,rfl,J',j1,j2,j3⟩
   dsimp only
   obtain⟨yb,iL⟩:=Zo (xs:=b) (i:=fB) j2
   obtain⟨xa,iN⟩:=Zo (xs:=a) (i:=fE) .o
   refine Zay (ZB iL (Zay (ZB iN (Zay (hc _ _ _ _ (mb _ (Z1 iL)) (ma _ (Z1 iN)) kc ?_)))))
   refine BU (fun hr=>Zay (ZB iL ?_)) (fun hr=>Zay (ZB iN ?_))
   ·have J2:=J'.kS C iL (fun x hx=>by rw[iN]at hx;cases hx;exact C.o.gk _ _ hr)
    exact ZR (fun hz=>ZaD ⟨rfl,.inl ⟨_,rfl,J2.done C (.inr .o)⟩⟩) (fun hz=>ZQ (fun _=>ZaD ⟨rfl,.inr ⟨_,_,_,_,_,rfl,J2,j1,.o,.o⟩⟩) (fun _=>ZaD ⟨rfl,_,_,_,_,_,rfl,J2,j1,.o,.o⟩))
   ·have J2:=J'.kT C iN (fun x hx=>by rw[iL]at hx;cases hx;exact hr)
    exact ZR (fun hz=>ZaD ⟨rfl,.inl ⟨_,rfl,J2.last C hz hl⟩⟩) (fun hz=>ZQ (fun _=>ZaD ⟨rfl,.inr ⟨_,_,_,_,_,rfl,J2,.o,j2,.o⟩⟩) (fun _=>ZaD ⟨rfl,_,_,_,_,_,rfl,J2,.o,j2,.o⟩))
  ·rintro c au ⟨rfl,eK,fE,fB,ac,bc,rfl,J',j1,j2,j3⟩
   rw[ZbC (ZaV _)]at j3
   omega
  rintro c au ⟨rfl,⟨res,ec,gd⟩ |⟨eK,fE,fB,ac,bc,rfl,J',j1,j2,j3⟩⟩
  ·rw[ec]
   exact ZaD ⟨iF,res,rfl,gd⟩
  clear J i1 i2 kc
  dsimp -zeta only
  refine Zay (Zha (Zee ⟨rfl,?_⟩))
  refine Zay (Ze0 (ZbY (I:=fun y c au=>SG st au/\∃out ia ib g ac bc,c=(none,out,ia,ib,g,ac,bc)/\JW r a b out ia ib/\ia+1<a.size/\ib<b.size/\fE+fB+y<=ia+ib)
   (Q:=fun c au=>SG st au/\((∃res,c.fst=some res/\Good r a b res)∨∃out ia ib g ac bc,c=(none,out,ia,ib,g,ac,bc)/\JW r a b out ia ib/\ia+1<a.size/\ib<b.size/\fE+fB<=ia+ib)) ?_ ?_ ⟨iF,_,_,_,_,_,_,rfl,J',j1,j2,Zae _⟩) ?_)
  ·rintro y c au _ hy ⟨jh,out,ia,ib,g,ac,bc,rfl,J,i1,i2,i4⟩
   obtain⟨y2,dU⟩:=Zo (xs:=b) (i:=ib) i2
   extract_lets -underBinder s1 o1 s2 x1 s3 z1 s4 g1 s5 tI tH jp g2
   refine Hn (j:=jp) fun g'=> ?_
   dsimp -zeta only[jp,tH,tI,s5,s4,z1,s3,x1,s2,o1,s1]
   clear g2 jp tH tI s5 g1 s4 z1 s3 x1 s2 o1 s1
   refine Zay (JB ?_)
   generalize AB:SortSt.mk' _ _ _ _ _=cK
   have eJ:SG st cK:=by rw[<-AB];exact jh
   have sf:kindOf cK=κ:=by rw[eJ.1];exact hk
   refine Zay (ZB dU ?_)
   refine Zay (Yn hc sf (fun i=>match a[ia+i]? with |some x=> !r y2 x |none=>false) (fun i hi=> ?_) (mb y2 (Z1 dU)) (fun i j dr hj hp=> ?_) .o fun k kn gA gB=> ?_)
   ·obtain⟨x,hx⟩:=Zo (xs:=a) (i:=ia+i) .o
    refine⟨x,hx,ma x (Z1 hx),?_⟩
    try dsimp only
    rw[hx]
    rfl
   ·obtain⟨xj,lE⟩:=Zo (xs:=a) (i:=ia+j) .o
    obtain⟨xi,lF⟩:=Zo (xs:=a) (i:=ia+i) .o
    try dsimp only at hp |-
    rw[lE]at hp
    rw[lF]
    rw[Zb6]at hp |-
    exact C.o.dS _ _ _ (JI C.o C.sa (ZV lF) (ZV lE) .o) hp
   have low:ia+k<a.size->∀x,a[ia+k]? =some x->r y2 x=true:=fun hk x hx=>by
    have:=gB k (Zae _) .o
    try dsimp only at this
    rw[hx,Bool.not_eq_false']at this
    exact this
   dsimp -zeta only
   extract_lets -underBinder Bx jp o3 x3
   refine xl (j:=jp) (fun o i=>JW r a b o i ib/\i+1<a.size/\ia<=i/\∀x,a[i]? =some x->r y2 x=true) ?_ (fun kg hj=> ?_) (fun kg=> ?_)
   ·rintro o i ⟨J1,q1,q2,q3⟩
    clear low gA gB kn
    dsimp -zeta only[jp]
    clear x3 o3 jp
    clear_value Bx
    refine Zay (ZB dU ?_)
    have J2:=J1.kS C dU (fun x hx=>C.o.gk _ _ (q3 x hx))
    obtain⟨x3,iO⟩:=Zo (xs:=a) (i:=i) .o
    refine ZR (fun hz=>ZaD ⟨eJ,.inl ⟨_,rfl,J2.done C (.inr .o)⟩⟩) (fun hz=>Zay (ZB iO ?_))
    refine Zay (Yn hc sf (fun i=>match b[ib+1+i]? with |some y=>r y x3 |none=>false) (fun i hi=> ?_) (ma x3 (Z1 iO)) (fun i j dr hj hp=> ?_) .o fun k1 pE gA gB=> ?_)
    ·obtain⟨y,hy⟩:=Zo (xs:=b) (i:=ib+1+i) .o
     refine⟨y,hy,mb y (Z1 hy),?_⟩
     try dsimp only
     rw[hy]
     rfl
    ·obtain⟨yj,lu⟩:=Zo (xs:=b) (i:=ib+1+j) .o
     obtain⟨yi,lC⟩:=Zo (xs:=b) (i:=ib+1+i) .o
     try dsimp only at hp |-
     rw[lu]at hp
     rw[lC]
     exact BF C.o hp (JI C.o C.sb (ZV lC) (ZV lu) .o)
    have low:ib+1+k1<b.size->∀y,b[ib+1+k1]? =some y->r y x3=false:=fun hk y hy=>by
     have:=gB k1 (Zae _) .o
     try dsimp only at this
     rw[hy]at this
     exact this
    dsimp -zeta only
    extract_lets -underBinder Bp jp o3 z3
    refine xl (j:=jp) (fun o z=>JW r a b o i z/\z<b.size/\ib+1<=z/\∀y,b[z]? =some y->r y x3=false) ?_ (fun kg hj=> ?_) (fun kg=> ?_)
    ·rintro o z ⟨J3,p1,p2,p3⟩
     clear low gA gB pE
     dsimp -zeta only[jp]
     clear z3 o3 jp
     clear_value Bp
     refine Zay (ZB iO ?_)
     have J4:=J3.kT C iO p3
     exact ZR (fun hz=>ZaD ⟨eJ,.inl ⟨_,rfl,J4.last C hz hl⟩⟩) (fun hz=>ZQ (fun _=>ZaD ⟨eJ,.inr ⟨_,_,_,_,_,_,rfl,J4,.o,p1,.o⟩⟩) (fun _=>ZaD ⟨eJ,_,_,_,_,_,_,rfl,J4,.o,p1,.o⟩))
    ·dsimp only[o3,z3]
     clear_value jp
     have J3:=J2.rn C k1 .o (fun i hi y x hy hx=>by
      rw[iO]at hx
      cases hx
      have:=gA i hi
      try dsimp only at this
      rw[hy]at this
      exact C.o.gk _ _ this)
     exact ZR (fun hz=>ZaD ⟨eJ,.inl ⟨_,rfl,J3.done C (.inr .o)⟩⟩) (fun hz=>hj _ _ ⟨J3,.o,.o,low .o⟩)
    ·obtain rfl:k1=0:=.o
     exact⟨J2,.o,Zae _,low .o⟩
   ·dsimp only[o3,x3]
    clear_value jp
    have J1:=J.rp C k .o (fun i hi x y hx hy=>by
     rw[dU]at hy
     cases hy
     have:=gA i hi
     try dsimp only at this
     rw[hx,Zb6]at this
     exact this)
    exact ZR (fun hz=>ZaD ⟨eJ,.inl ⟨_,rfl,J1.last C hz hl⟩⟩) (fun jm=>ZR (fun hz=>ZaD ⟨eJ,.inl ⟨_,rfl,J1.done C (.inl .o)⟩⟩) (fun hz=>hj _ _ ⟨J1,.o,.o,low .o⟩))
   ·obtain rfl:k=0:=.o
    exact⟨J,i1,Zae _,low .o⟩
  ·rintro c au ⟨_,out,OM,OL,g,ac,bc,rfl,_,k1,k2,k3⟩
   rw[ZbC (ZaV _)]at k3
   omega
  rintro c au ⟨jh,⟨res,ec,gd⟩ |⟨out,OM,OL,g,ac,bc,rfl,J2,k1,k2,k3⟩⟩
  ·rw[ec]
   exact ZaD ⟨jh,res,rfl,gd⟩
  dsimp only
  exact Zay (JB (ZaD ⟨jh,_,_,_,_,rfl,J2,k1,k2,.o⟩))
end
def Od:Array Keyed->Array Keyed->StateT SortSt Sem (Array Keyed):=sortPriv%PySem.Builtin.mergeHi
structure JH (r:Keyed->Keyed->Bool) (a b out:Array Keyed) (na nb:Nat):Prop where
 la:na<=a.size
 lb:nb<=b.size
 perm:((a.toList.take na++b.toList.take nb)++out.toList.reverse).Perm (a.toList++b.toList)
 jO:Pw r out.toList.reverse
 gM:∀y∈a.toList.take na++b.toList.take nb,∀x∈out.toList,r x y=false
theorem UV {α:Type}{l:List α}{i:Nat}{x:α}(h:l[i]? =some x):l.take (i+1)=l.take i++[x]:=by
 rw[ZbO,h]
 rfl
theorem Wo {r:Keyed->Keyed->Bool}{l:List Keyed}{i:Nat}{x:Keyed}(o:Ord r) (p:Pw r l) (h:l[i]? =some x):∀y∈l.take (i+1),r x y=false:=fun y hy=>by
 obtain⟨j,hj,e⟩:=Zcl hy
 rw[ZaS]at hj
 rw[List.getElem_take]at e
 exact JI (i:=j) o p (by rw[Zag .o,e]) h .o
theorem xg (xs:Array Keyed) (j:Nat):(xs.extract 0 j).toList=xs.toList.take j:=by
 rw[Wb,ZeV,Nat.sub_zero]
section
variable {r:Keyed->Keyed->Bool}{a b out:Array Keyed}{na nb:Nat}
theorem JH.kT (C:fe r a b) (J:JH r a b out na nb) {x:Keyed}(h1:1<=na) (hx:a[na - 1]? =some x) (h:1<=nb->∀y,b[nb - 1]? =some y->r x y=false):JH r a b (out.push x) (na - 1) nb:=by
 have la:=J.la
 have lb:=J.lb
 have jn:=ZV hx
 have ht:=UV jn
 rw[Zex h1]at ht
 have mx:x∈a.toList.take na:=by rw[ht];simp
 have low:∀y∈a.toList.take (na - 1)++b.toList.take nb,r x y=false:=fun y hy=>by
  rcases ZaC.mp hy with hy |hy
  ·exact Wo C.o C.sa jn y (by rw[Zex h1,ht];exact ZaW _ hy)
  ·have n1:1<=nb:=by
    rcases Nat.eq_zero_or_pos nb with z |z
    ·rw[z]at hy;cases hy
    ·exact z
   obtain⟨z,e⟩:=Zo (xs:=b) (i:=nb - 1) .o
   have:=Wo C.o C.sb (ZV e) y (by rw[Zex n1];exact hy)
   exact C.o.dS y z x this (h n1 z e)
 refine⟨.o,lb,?_,?_,fun y hy u hu=> ?_⟩
 ·rw[ZbK,List.reverse_append]
  have P:=J.perm
  rw[ht]at P
  refine List.Perm.trans ?_ P
  show((a.toList.take (na - 1)++b.toList.take nb)++(x::out.toList.reverse)).Perm (((a.toList.take (na - 1)++[x])++b.toList.take nb)++out.toList.reverse)
  rw[Za3,Za3,Za3]
  refine Zew _ ?_
  show(b.toList.take nb++x::out.toList.reverse).Perm (x::(b.toList.take nb++out.toList.reverse))
  exact List.perm_middle
 ·rw[ZbK,List.reverse_append]
  refine ZbU.mpr ⟨fun u hu=> ?_,J.jO⟩
  exact J.gM x (ZaW _ mx) u (List.mem_reverse.mp hu)
 ·rw[ZbK]at hu
  rcases ZaC.mp hu with hu |hu
  ·refine J.gM y ?_ u hu
   rcases ZaC.mp hy with hy |hy
   ·exact ZaW _ (by rw[ht];exact ZaW _ hy)
   ·exact Zav _ hy
  ·rw[Zax.mp hu]
   exact low y hy
theorem JH.kS (C:fe r a b) (J:JH r a b out na nb) {y:Keyed}(h1:1<=nb) (hy:b[nb - 1]? =some y) (h:1<=na->∀x,a[na - 1]? =some x->r y x=false):JH r a b (out.push y) na (nb - 1):=by
 have la:=J.la
 have lb:=J.lb
 have iM:=ZV hy
 have ht:=UV iM
 rw[Zex h1]at ht
 have my:y∈b.toList.take nb:=by rw[ht];simp
 have low:∀z∈a.toList.take na++b.toList.take (nb - 1),r y z=false:=fun z hz=>by
  rcases ZaC.mp hz with hz |hz
  ·have n1:1<=na:=by
    rcases Nat.eq_zero_or_pos na with q |q
    ·rw[q]at hz;cases hz
    ·exact q
   obtain⟨x,e⟩:=Zo (xs:=a) (i:=na - 1) .o
   have:=Wo C.o C.sa (ZV e) z (by rw[Zex n1];exact hz)
   exact C.o.dS z x y this (h n1 x e)
  ·exact Wo C.o C.sb iM z (by rw[Zex h1,ht];exact ZaW _ hz)
 refine⟨la,.o,?_,?_,fun z hz u hu=> ?_⟩
 ·rw[ZbK,List.reverse_append]
  have P:=J.perm
  rw[ht]at P
  refine List.Perm.trans ?_ P
  show((a.toList.take na++b.toList.take (nb - 1))++(y::out.toList.reverse)).Perm ((a.toList.take na++(b.toList.take (nb - 1)++[y]))++out.toList.reverse)
  rw[Za3,Za3,Za3]
  exact .refl _
 ·rw[ZbK,List.reverse_append]
  refine ZbU.mpr ⟨fun u hu=> ?_,J.jO⟩
  exact J.gM y (Zav _ my) u (List.mem_reverse.mp hu)
 ·rw[ZbK]at hu
  rcases ZaC.mp hu with hu |hu
  ·refine J.gM z ?_ u hu
   rcases ZaC.mp hz with hz |hz
   ·exact ZaW _ hz
   ·exact Zav _ (by rw[ht];exact ZaW _ hz)
  ·rw[Zax.mp hu]
   exact low z hz
theorem HE {xs:Array Keyed}{i n:Nat}{x:Keyed}(hx:xs[i]? =some x) (h:i<n) (hn:n<=xs.size):(xs.extract i n).reverse=(xs.extract (i+1) n).reverse.push x:=by
 apply Array.toList_inj.mp
 rw[Array.toList_reverse,ZbK,Array.toList_reverse,Wb,Wb,Jj (ZV hx),show n - i=(n - (i+1))+1 by omega,List.take_succ_cons,List.reverse_cons]
theorem JH.rp (C:fe r a b) (J:JH r a b out na nb):∀k,k<=na->(∀i,na - k<=i->i<na->∀x y,a[i]? =some x->b[nb - 1]? =some y->r x y=false)->JH r a b (out++(a.extract (na - k) na).reverse) (na - k) nb
 |0,_,_=>by
  have e:a.extract (na - 0) na= #[]:=by simp;omega
  rw[e]
  simpa using J
 |k+1,hk,h=>by
  have la:=J.la
  obtain⟨x,hx⟩:=Zo (xs:=a) (i:=na - (k+1)) .o
  have ih:=JH.rp C J k .o fun i h1 h2=>h i .o h2
  have e1:na - k - 1=na - (k+1):=.o
  have:=ih.kT C (x:=x) .o (by rw[e1];exact hx) fun _ y hy=>h (na - (k+1)) (Zae _) .o x y hx hy
  rw[e1]at this
  rw[HE hx .o la,show na - (k+1)+1=na - k by omega,Array.append_push]
  exact this
theorem JH.rn (C:fe r a b) (J:JH r a b out na nb):∀k,k<=nb->(∀i,nb - k<=i->i<nb->∀y x,b[i]? =some y->a[na - 1]? =some x->r y x=false)->JH r a b (out++(b.extract (nb - k) nb).reverse) na (nb - k)
 |0,_,_=>by
  have e:b.extract (nb - 0) nb= #[]:=by simp;omega
  rw[e]
  simpa using J
 |k+1,hk,h=>by
  have lb:=J.lb
  obtain⟨y,hy⟩:=Zo (xs:=b) (i:=nb - (k+1)) .o
  have ih:=JH.rn C J k .o fun i h1 h2=>h i .o h2
  have e1:nb - k - 1=nb - (k+1):=.o
  have:=ih.kS C (y:=y) .o (by rw[e1];exact hy) fun _ x hx=>h (nb - (k+1)) (Zae _) .o y x hy hx
  rw[e1]at this
  rw[HE hy .o lb,show nb - (k+1)+1=nb - k by omega,Array.append_push]
  exact this
theorem JH.Mv (C:fe r a b) (J:JH r a b out na nb) {m:Nat}(hm:m<=na) (h:∀i,m<=i->i<na->∀x y,a[i]? =some x->b[nb - 1]? =some y->r x y=false):JH r a b (out++(a.extract m na).reverse) m nb:=by
 have:=J.rp C (na - m) .o (fun i h1 h2=>h i .o h2)
 rw[show na - (na - m)=m by omega]at this
 exact this
theorem JH.Mu (C:fe r a b) (J:JH r a b out na nb) {m:Nat}(hm:m<=nb) (h:∀i,m<=i->i<nb->∀y x,b[i]? =some y->a[na - 1]? =some x->r y x=false):JH r a b (out++(b.extract m nb).reverse) na m:=by
 have:=J.rn C (nb - m) .o (fun i h1 h2=>h i .o h2)
 rw[show nb - (nb - m)=m by omega]at this
 exact this
theorem JH.done (C:fe r a b) (J:JH r a b out na nb) (h:na=0∨nb=0):Good r a b (a.extract 0 na++b.extract 0 nb++out.reverse):=by
 unfold Good
 rw[Zb9,Zb9,xg,xg,Array.toList_reverse]
 refine⟨J.perm,?_⟩
 have pa:Pw r (a.toList.take na):=ZbN (Zef _ _) C.sa
 have pb:Pw r (b.toList.take nb):=ZbN (Zef _ _) C.sb
 refine Zbf.mpr ⟨?_,J.jO,fun y hy x hx=>J.gM y hy x (List.mem_reverse.mp hx)⟩
 rcases h with h |h
 ·rw[h,List.take_zero,Zdx]
  exact pb
 ·rw[h,List.take_zero,ZbT]
  exact pa
theorem JH.first (C:fe r a b) (J:JH r a b out na nb) (h:nb=1) (h0:∀y,b[0]? =some y->∀x∈a.toList,r x y=false):Good r a b (b.extract 0 nb++a.extract 0 na++out.reverse):=by
 have lb:=J.lb
 subst h
 unfold Good
 obtain⟨y,hy⟩:=Zo (xs:=b) (i:=0) .o
 have et:b.toList.take 1=[y]:=by rw[show(1:Nat)=0+1 from rfl,UV (ZV hy)];rfl
 rw[Zb9,Zb9,xg,xg,Array.toList_reverse,et]
 have P:=J.perm
 have B:=J.gM
 rw[et]at P B
 have pa:Pw r (a.toList.take na):=ZbN (Zef _ _) C.sa
 refine⟨List.Perm.trans (List.Perm.append_right _ List.perm_append_comm) P,?_⟩
 refine Zbf.mpr ⟨?_,J.jO,fun z hz x hx=>B z ?_ x (List.mem_reverse.mp hx)⟩
 ·refine ZbU.mpr ⟨fun z hz=>h0 y hy z (Zce hz),pa⟩
 ·rcases ZaC.mp hz with hz |hz
  ·exact Zav _ hz
  ·exact ZaW _ hz
end
section
variable {prog:Program}{w:World}{A:Around}{E:Value->Shared->Prop}{s:Shared}{κ:SortKind}{a₀:Array Keyed}{r:Keyed->Keyed->Bool}
theorem Zal {a b:Array Keyed}{Q:Array Keyed->SortSt->Prop}{st:SortSt}(hc:jd prog w A E s κ a₀ r) (hk:kindOf st=κ) (C:fe r a b) (ma:∀x∈a.toList,x∈a₀.toList) (mb:∀x∈b.toList,x∈a₀.toList) (NX:1<=a.size) (nb0:1<=b.size)
  (h0:∀y,b[0]? =some y->∀x∈a.toList,r x y=false) (hl:∀x,a[a.size - 1]? =some x->∀y∈b.toList,r x y=false)
  (h:∀res ae,SG st ae->Good r a b res->Q res ae):wpS (model prog w) A E s (Od a b) Q st:=by
 show wpS (model prog w) A E s (_ >>=_) _ _
 try dsimp -zeta only
 refine Zay (Zha (Zee ⟨rfl,?_⟩))
 obtain⟨x0,mY⟩:=Zo (xs:=a) (i:=a.size - 1) .o
 refine Zay (ZB mY ?_)
 have J0:JH r a b #[x0] (a.size - 1) b.size:=by
  have e:JH r a b #[] a.size b.size:=⟨Zae _,Zae _,by simp[<-Array.length_toList],.nil,fun y hy x hx=>by cases hx⟩
  exact e.kT C NX mY fun _ y hy=>hl x0 mY y (Z1 hy)
 refine ZR (fun jm=>ZaD (h _ _ (SG.refl _) (J0.done C (.inl jm)))) (fun jm=>ZR (fun fT=>ZaD (h _ _ (SG.refl _) (J0.first C fT h0))) (fun fT=>Zay (ZfS ?_)))
 refine Zay (Ze0 (ZbY (I:=fun x c aw=>SG st aw/\∃na nb out g,c=(none,na,nb,out,g)/\JH r a b out na nb/\1<=na/\2<=nb/\na+nb+x+1<=a.size+b.size) (Q:=fun c aw=>SG st aw/\∃res,c.fst=some res/\Good r a b res) ?step ?fin ⟨SG.refl _,_,_,_,_,rfl,J0,.o,.o,.o⟩) ?post)
 case post=>
  rintro c aw ⟨iF,res,ec,gd⟩
  rw[ec]
  exact ZaD (h res aw iF gd)
 case fin=>
  rintro c aw ⟨_,na,nb,out,g,_,_,i1,i2,i3⟩
  rw[ZbC (ZaV _)]at i3
  omega
 case step=>
  rintro x c aw _ hx ⟨iF,na,nb,out,g,rfl,J,i1,i2,i3⟩
  have kc:kindOf aw=κ:=by rw[iF.1];exact hk
  refine Zay (Ze0 (ZbY (I:=fun y c au=>au=aw/\∃fv ft eK ac bc,c=(none,fv,ft,eK,ac,bc)/\JH r a b eK fv ft/\1<=fv/\2<=ft/\fv+ft+y<=na+nb)
   (Q:=fun c au=>au=aw/\((∃res,c.fst=some res/\Good r a b res)∨∃fv ft eK ac bc,c=(none,fv,ft,eK,ac,bc)/\JH r a b eK fv ft/\1<=fv/\2<=ft/\fv+ft+1<=na+nb)) ?_ ?_ ⟨rfl,_,_,_,_,_,rfl,J,i1,i2,Zae _⟩) ?_)
  ·rintro y c au _ hy ⟨rfl,fv,ft,eK,ac,bc,rfl,J',j1,j2,j3⟩
   dsimp only
   have la:=J'.la
   have lb:=J'.lb
   obtain⟨yb,iL⟩:=Zo (xs:=b) (i:=ft - 1) .o
   obtain⟨xa,iN⟩:=Zo (xs:=a) (i:=fv - 1) .o
   refine Zay (ZB iL (Zay (ZB iN (Zay (hc _ _ _ _ (mb _ (Z1 iL)) (ma _ (Z1 iN)) kc ?_)))))
   refine BU (fun hr=>Zay (ZB iN ?_)) (fun hr=>Zay (ZB iL ?_))
   ·have J2:=J'.kT C j1 iN (fun _ y hy=>by rw[iL]at hy;cases hy;exact C.o.gk _ _ hr)
    exact ZR (fun hz=>ZaD ⟨rfl,.inl ⟨_,rfl,J2.done C (.inl hz)⟩⟩) (fun hz=>ZQ (fun _=>ZaD ⟨rfl,.inr ⟨_,_,_,_,_,rfl,J2,.o,j2,.o⟩⟩) (fun _=>ZaD ⟨rfl,_,_,_,_,_,rfl,J2,.o,j2,.o⟩))
   ·have J2:=J'.kS C .o iL (fun _ x hx=>by rw[iN]at hx;cases hx;exact hr)
    exact ZR (fun hz=>ZaD ⟨rfl,.inl ⟨_,rfl,J2.first C hz h0⟩⟩) (fun hz=>ZQ (fun _=>ZaD ⟨rfl,.inr ⟨_,_,_,_,_,rfl,J2,j1,.o,.o⟩⟩) (fun _=>ZaD ⟨rfl,_,_,_,_,_,rfl,J2,j1,.o,.o⟩))
  ·rintro c au ⟨rfl,fv,ft,eK,ac,bc,rfl,J',j1,j2,j3⟩
   rw[ZbC (ZaV _)]at j3
   have la:=J.la
   have lb:=J.lb
   omega
  rintro c au ⟨rfl,⟨res,ec,gd⟩ |⟨fv,ft,eK,ac,bc,rfl,J',j1,j2,j3⟩⟩
  ·rw[ec]
   exact ZaD ⟨iF,res,rfl,gd⟩
  clear J i1 i2 kc
  dsimp -zeta only
  refine Zay (Zha (Zee ⟨rfl,?_⟩))
  refine Zay (Ze0 (ZbY (I:=fun y c au=>SG st au/\∃na nb out g ac bc,c=(none,na,nb,out,g,ac,bc)/\JH r a b out na nb/\1<=na/\2<=nb/\na+nb+y<=fv+ft)
   (Q:=fun c au=>SG st au/\((∃res,c.fst=some res/\Good r a b res)∨∃na nb out g ac bc,c=(none,na,nb,out,g,ac,bc)/\JH r a b out na nb/\1<=na/\2<=nb/\na+nb<=fv+ft)) ?_ ?_ ⟨iF,_,_,_,_,_,_,rfl,J',j1,j2,Zae _⟩) ?_)
  ·rintro y c au _ hy ⟨jh,na,nb,out,g,ac,bc,rfl,J,i1,i2,i4⟩
   have la:=J.la
   have lb:=J.lb
   obtain⟨y2,dU⟩:=Zo (xs:=b) (i:=nb - 1) .o
   extract_lets -underBinder s1 x1 s2 z1 s3 o1 s4 g1 s5 tI tH jp g2
   refine Hn (j:=jp) fun g'=> ?_
   dsimp -zeta only[jp,tH,tI,s5,s4,z1,s3,x1,s2,o1,s1]
   clear g2 jp tH tI s5 g1 s4 o1 s3 z1 s2 x1 s1
   refine Zay (JB ?_)
   generalize AB:SortSt.mk' _ _ _ _ _=cK
   have eJ:SG st cK:=by rw[<-AB];exact jh
   have sf:kindOf cK=κ:=by rw[eJ.1];exact hk
   refine Zay (ZB dU ?_)
   refine Zay (Yn hc sf (fun i=>match a[0+i]? with |some x=> !r y2 x |none=>false) (fun i hi=> ?_) (mb y2 (Z1 dU)) (fun i j dr hj hp=> ?_) .o fun at_ kn gA gB=> ?_)
   ·obtain⟨x,hx⟩:=Zo (xs:=a) (i:=0+i) .o
    refine⟨x,hx,ma x (Z1 hx),?_⟩
    try dsimp only
    rw[hx]
    rfl
   ·obtain⟨xj,lE⟩:=Zo (xs:=a) (i:=0+j) .o
    obtain⟨xi,lF⟩:=Zo (xs:=a) (i:=0+i) .o
    try dsimp only at hp |-
    rw[lE]at hp
    rw[lF]
    rw[Zb6]at hp |-
    exact C.o.dS _ _ _ (JI C.o C.sa (ZV lF) (ZV lE) .o) hp
   have low:1<=at_->∀x,a[at_ - 1]? =some x->r y2 x=false:=fun hk x hx=>by
    have:=gA (at_ - 1) .o
    try dsimp only at this
    rw[Nat.zero_add,hx,Zb6]at this
    exact this
   dsimp -zeta only
   extract_lets -underBinder k2 Bx jp o3 x3
   refine xl (j:=jp) (fun n o=>JH r a b o n nb/\1<=n/\n<=na/\∀x,a[n - 1]? =some x->r y2 x=false) ?_ (fun kg hj=> ?_) (fun kg=> ?_)
   ·rintro n o ⟨J1,q1,q2,q3⟩
    clear low gA gB kn
    dsimp -zeta only[jp]
    clear x3 o3 jp
    clear_value Bx k2
    refine Zay (ZB dU ?_)
    have J2:=J1.kS C .o dU (fun _=>q3)
    obtain⟨x3,iO⟩:=Zo (xs:=a) (i:=n - 1) .o
    refine ZR (fun hz=>ZaD ⟨eJ,.inl ⟨_,rfl,J2.first C hz h0⟩⟩) (fun hz=>Zay (ZB iO ?_))
    refine Zay (Yn hc sf (fun i=>match b[0+i]? with |some y=>r y x3 |none=>false) (fun i hi=> ?_) (ma x3 (Z1 iO)) (fun i j dr hj hp=> ?_) .o fun k1 pE gA gB=> ?_)
    ·obtain⟨y,hy⟩:=Zo (xs:=b) (i:=0+i) .o
     refine⟨y,hy,mb y (Z1 hy),?_⟩
     try dsimp only
     rw[hy]
     rfl
    ·obtain⟨yj,lu⟩:=Zo (xs:=b) (i:=0+j) .o
     obtain⟨yi,lC⟩:=Zo (xs:=b) (i:=0+i) .o
     try dsimp only at hp |-
     rw[lu]at hp
     rw[lC]
     exact BF C.o hp (JI C.o C.sb (ZV lC) (ZV lu) .o)
    have low:1<=k1->∀y,b[k1 - 1]? =some y->r x3 y=false:=fun hk y hy=>by
     have:=gA (k1 - 1) .o
     try dsimp only at this
     rw[Nat.zero_add,hy]at this
     exact C.o.gk _ _ this
    dsimp -zeta only
    extract_lets -underBinder k3 Bp jp o3 z3
    refine xl (j:=jp) (fun m o=>JH r a b o n m/\2<=m/\m<=nb - 1/\∀y,b[m - 1]? =some y->r x3 y=false) ?_ (fun kg hj=> ?_) (fun kg=> ?_)
    ·rintro m o ⟨J3,p1,p2,p3⟩
     clear low gA gB pE
     dsimp -zeta only[jp]
     clear z3 o3 jp
     clear_value Bp k3
     refine Zay (ZB iO ?_)
     have J4:=J3.kT C q1 iO (fun _=>p3)
     exact ZR (fun hz=>ZaD ⟨eJ,.inl ⟨_,rfl,J4.done C (.inl hz)⟩⟩) (fun hz=>ZQ (fun _=>ZaD ⟨eJ,.inr ⟨_,_,_,_,_,_,rfl,J4,.o,p1,.o⟩⟩) (fun _=>ZaD ⟨eJ,_,_,_,_,_,_,rfl,J4,.o,p1,.o⟩))
    ·dsimp only[o3,z3]
     clear_value jp
     have J3:=J2.Mu C (m:=k1) pE (fun i AA sy y x hy hx=>by
      rw[iO]at hx
      cases hx
      have:=gB i AA sy
      try dsimp only at this
      rw[Nat.zero_add,hy]at this
      exact this)
     exact ZR (fun hz=>ZaD ⟨eJ,.inl ⟨_,rfl,J3.first C hz h0⟩⟩) (fun jm=>ZR (fun hz=>ZaD ⟨eJ,.inl ⟨_,rfl,J3.done C (.inr hz)⟩⟩) (fun hz=>hj _ _ ⟨J3,.o,pE,low .o⟩))
    ·obtain rfl:k1=nb - 1:=Nat.le_antisymm pE (Nat.sub_eq_zero_iff_le.mp (Nat.eq_zero_of_not_pos kg))
     exact⟨J2,.o,Zae _,low .o⟩
   ·dsimp only[o3,x3]
    clear_value jp
    have J1:=J.Mv C (m:=at_) kn (fun i AA sy x y hx hy=>by
     rw[dU]at hy
     cases hy
     have:=gB i AA sy
     try dsimp only at this
     rw[Nat.zero_add,hx,Bool.not_eq_false']at this
     exact C.o.gk _ _ this)
    exact ZR (fun hz=>ZaD ⟨eJ,.inl ⟨_,rfl,J1.done C (.inl hz)⟩⟩) (fun hz=>hj _ _ ⟨J1,Nat.pos_of_ne_zero hz,kn,low (Nat.pos_of_ne_zero hz)⟩)
   ·obtain rfl:at_=na:=Nat.le_antisymm kn (Nat.sub_eq_zero_iff_le.mp (Nat.eq_zero_of_not_pos kg))
    exact⟨J,i1,Zae _,low i1⟩
  ·rintro c au ⟨jh,na,nb,out,g,ac,bc,rfl,J,i1,i2,i4⟩
   rw[ZbC (ZaV _)]at i4
   have la:=J'.la
   have lb:=J'.lb
   omega
  rintro c au ⟨jh,⟨res,ec,gd⟩ |⟨zJ,nb2,out,g,ac,bc,rfl,J2,k1,k2,k3⟩⟩
  ·rw[ec]
   exact ZaD ⟨jh,res,rfl,gd⟩
  dsimp only
  exact Zay (JB (ZaD ⟨jh,_,_,_,_,rfl,J2,k1,k2,.o⟩))
end
def SI (r:Keyed->Keyed->Bool) (xs:Array Keyed) (lo hi:Nat):Prop:=∀i j x y,lo<=i->i<=j->j<hi->xs[i]? =some x->xs[j]? =some y->r y x=false
def NI (r:Keyed->Keyed->Bool) (xs:Array Keyed) (lo hi:Nat):Prop:=∀i j x y,lo<=i->i<=j->j<hi->xs[i]? =some x->xs[j]? =some y->r x y=false
def EQ (r:Keyed->Keyed->Bool) (xs:Array Keyed) (lo hi:Nat):Prop:=∀i j x y,lo<=i->i<hi->lo<=j->j<hi->xs[i]? =some x->xs[j]? =some y->r x y=false
section
variable {r:Keyed->Keyed->Bool}{xs:Array Keyed}{lo hi:Nat}
theorem SI.one (o:Ord r):SI r xs lo (lo+1):=fun i j x y h1 h2 h3 hx hy=>by
 obtain rfl:i=j:=.o
 rw[hx]at hy;cases hy;exact o.lj _
theorem NI.one (o:Ord r):NI r xs lo (lo+1):=fun i j x y h1 h2 h3 hx hy=>by
 obtain rfl:i=j:=.o
 rw[hx]at hy;cases hy;exact o.lj _
theorem EQ.one (o:Ord r):EQ r xs lo (lo+1):=fun i j x y h1 h2 h3 h4 hx hy=>by
 obtain rfl:i=j:=.o
 rw[hx]at hy;cases hy;exact o.lj _
theorem SI.snoc (o:Ord r) (h:SI r xs lo hi) {p q:Keyed}(hl:lo<hi) (hp:xs[hi - 1]? =some p) (hq:xs[hi]? =some q) (hr:r q p=false):SI r xs lo (hi+1):=fun i j x y h1 h2 h3 hx hy=>by
 by_cases hj:j<hi
 ·exact h i j x y h1 h2 hj hx hy
 ·obtain rfl:j=hi:=.o
  rw[hq]at hy;cases hy
  by_cases ba:i=j
  ·subst ba
   rw[hq]at hx;cases hx;exact o.lj _
  ·exact o.dS x p q (h i (j - 1) x p h1 .o .o hx hp) hr
theorem NI.snoc (o:Ord r) (h:NI r xs lo hi) {p q:Keyed}(hl:lo<hi) (hp:xs[hi - 1]? =some p) (hq:xs[hi]? =some q) (hr:r p q=false):NI r xs lo (hi+1):=fun i j x y h1 h2 h3 hx hy=>by
 by_cases hj:j<hi
 ·exact h i j x y h1 h2 hj hx hy
 ·obtain rfl:j=hi:=.o
  rw[hq]at hy;cases hy
  by_cases ba:i=j
  ·subst ba
   rw[hq]at hx;cases hx;exact o.lj _
  ·exact o.dS q p x hr (h i (j - 1) x p h1 .o .o hx hp)
theorem EQ.snoc (o:Ord r) (h:EQ r xs lo hi) {p q:Keyed}(hl:lo<hi) (hp:xs[hi - 1]? =some p) (hq:xs[hi]? =some q) (hr:r p q=false) (gD:r q p=false):EQ r xs lo (hi+1):=fun i j x y h1 h2 h3 h4 hx hy=>by
 have one:∀i x,lo<=i->i<hi->xs[i]? =some x->r x q=false/\r q x=false:=fun i x h1 h2 hx=>
  ⟨o.dS q p x hr (h i (hi - 1) x p h1 h2 .o .o hx hp),o.dS x p q (h (hi - 1) i p x .o .o h1 h2 hp hx) gD⟩
 by_cases hj:j<hi
 ·by_cases ba:i<hi
  ·exact h i j x y h1 ba h3 hj hx hy
  ·obtain rfl:i=hi:=.o
   rw[hq]at hx;cases hx
   exact(one j y h3 hj hy).2
 ·obtain rfl:j=hi:=.o
  rw[hq]at hy;cases hy
  by_cases ba:i<j
  ·exact(one i x h1 ba hx).1
  ·obtain rfl:i=j:=.o
   rw[hq]at hx;cases hx
   exact o.lj _
abbrev dh (xs:Array Keyed) (i j:Nat):Array Keyed:=mirror xs i j ((j - i)/2)
theorem WJ (hh:hi<=xs.size) (k:Nat):(dh xs lo hi)[k]? =if lo<=k/\k<hi then xs[lo+hi - 1 - k]? else xs[k]? :=getElem?_mirror_all hh k
theorem SI.dh (h:SI r xs lo hi) (hh:hi<=xs.size):NI r (dh xs lo hi) lo hi:=fun i j x y h1 h2 h3 hx hy=>by
 rw[WJ hh,ZaY ⟨.o,.o⟩]at hx hy
 exact h _ _ y x .o .o .o hy hx
theorem NI.dh (h:NI r xs lo hi) (hh:hi<=xs.size):SI r (dh xs lo hi) lo hi:=fun i j x y h1 h2 h3 hx hy=>by
 rw[WJ hh,ZaY ⟨.o,.o⟩]at hx hy
 exact h _ _ y x .o .o .o hy hx
theorem NI.DQ {m:Nat}(h:NI r xs lo hi) (e:EQ r xs m hi) (hm:lo<=m) (hh:hi<=xs.size):NI r (PyProof.Rows.fO.dh xs m hi) lo hi:=fun i j x y h1 h2 h3 hx hy=>by
 rw[WJ hh]at hx hy
 by_cases hj:m<=j
 ·rw[ZaY ⟨hj,h3⟩]at hy
  by_cases ba:m<=i
  ·rw[ZaY ⟨ba,.o⟩]at hx
   exact e _ _ x y .o .o .o .o hx hy
  ·rw[ZaK .o]at hx
   exact h i _ x y h1 .o .o hx hy
 ·rw[ZaK .o]at hx hy
  exact h i j x y h1 h2 h3 hx hy
theorem Kb {m:Nat}(hh:hi<=xs.size) (hm:m<hi) {p:Keyed}(hp:(dh xs m hi)[hi - 1]? =some p):xs[m]? =some p:=by
 rw[WJ hh,ZaY ⟨.o,.o⟩,show m+hi - 1 - (hi - 1)=m by omega]at hp
 exact hp
theorem U9 (hh:hi<=xs.size) {k:Nat}(h:k<lo∨hi<=k):(dh xs lo hi)[k]? =xs[k]? :=by rw[WJ hh,ZaK .o]
end
structure CB (a₀:Array Keyed) (κ:SortKind) (lo:Nat) (st ae:SortSt):Prop where
 kind:kindOf ae=κ
 pend:pendingOf ae=pendingOf st
 fail:failedOf ae=failedOf st
 perm:(arrOf ae).Perm a₀
 pre:∀k,k<lo->(arrOf ae)[k]? =(arrOf st)[k]?
theorem CB.size {a₀:Array Keyed}{κ:SortKind}{lo:Nat}{st ae:SortSt}(h:CB a₀ κ lo st ae):(arrOf ae).size=a₀.size:=h.perm.size_eq
theorem CB.mem {a₀:Array Keyed}{κ:SortKind}{lo:Nat}{st ae:SortSt}(h:CB a₀ κ lo st ae) {i:Nat}{x:Keyed}(hx:(arrOf ae)[i]? =some x):x∈a₀.toList:=(Zco.mp h.perm).mem_iff.mp (Z1 hx)
theorem CB.rev {a₀:Array Keyed}{κ:SortKind}{lo m hi:Nat}{st ae:SortSt}(h:CB a₀ κ lo st ae) (hm:lo<=m) (hh:hi<=a₀.size):CB a₀ κ lo st (setArr ae (dh (arrOf ae) m hi)):=
 ⟨h.kind,h.pend,h.fail,(mirror_perm _ _ _ _).trans h.perm,fun k hk=>by
  show(dh (arrOf ae) m hi)[k]? =_
  rw[U9 (by rw[h.size];exact hh) (.inl .o)]
  exact h.pre k hk⟩
section
variable {prog:Program}{w:World}{A:Around}{E:Value->Shared->Prop}{s:Shared}{κ:SortKind}{a₀:Array Keyed}{r:Keyed->Keyed->Bool}
theorem Ja {st ae:SortSt}{lo i j:Nat}{x y:Keyed}{Q:Option Bool->SortSt->Prop}(hc:jd prog w A E s κ a₀ r) (B:CB a₀ κ lo st ae) (hx:(arrOf ae)[i]? =some x) (hy:(arrOf ae)[j]? =some y) (h:Q (some (r x y)) ae):wpS (model prog w) A E s (ltAt' i j) Q ae:=by
 rw[ltAt'_eq]
 exact Zay (ZfS (Zay (ZB hx (Zay (ZB hy (hc _ _ _ _ (B.mem hx) (B.mem hy) B.kind h))))))
theorem JC {st:SortSt}{i j:Nat}{Q:Unit->SortSt->Prop}(h:Q () (setArr st (dh (arrOf st) i j))):wpS (model prog w) A E s (reverseSlice' i j) Q st:=by
 rw[reverseSlice'_eq]
 exact ZeW h
theorem EQ.zA {xs:Array Keyed}{lo hi:Nat}(o:Ord r) (h:hi=lo+1):EQ r xs lo hi:=by subst h;exact EQ.one o
theorem Ua {st:SortSt}{lo eP:Nat}{Q:Option Nat->SortSt->Prop}(o:Ord r) (hc:jd prog w A E s κ a₀ r) (B0:CB a₀ κ lo st st) (h1:1<=eP) (hz:lo+eP<=a₀.size)
  (h:∀n ae,CB a₀ κ lo st ae->1<=n->n<=eP->SI r (arrOf ae) lo (lo+n)->Q (some n) ae):wpS (model prog w) A E s (countRun' lo eP) Q st:=by
 rw[countRun'_eq]
 try dsimp -zeta only
 have z0:=B0.size
 refine Zay (Ze0 (ZbY (I:=fun y c ae=>ae=st/\c=(none,y)/\SI r (arrOf st) lo (lo+y))
  (Q:=fun c ae=>ae=st/\∃n,c=(none,n)/\1<=n/\n<=eP/\SI r (arrOf st) lo (lo+n)/\(n=eP∨∃p q,(arrOf st)[lo+n - 1]? =some p/\(arrOf st)[lo+n]? =some q/\r q p=true)) ?_ ?_ ⟨rfl,rfl,SI.one o⟩) ?_)
 ·rintro y c ae pH dU ⟨rfl,rfl,S⟩
  dsimp only
  obtain⟨p,hp⟩:=Zo (xs:=arrOf ae) (i:=lo+y - 1) .o
  obtain⟨q,hq⟩:=Zo (xs:=arrOf ae) (i:=lo+y) .o
  refine Zay (Ja hc B0 hq hp ?_)
  cases hr:r q p with
  |true=>exact ZaD ⟨rfl,y,rfl,pH,.o,S,.inr ⟨p,q,hp,hq,hr⟩⟩
  |false=>exact ZaD ⟨rfl,rfl,S.snoc (hi:=lo+y) o .o hp hq hr⟩
 ·rintro c ae ⟨rfl,rfl,S⟩
  have e9:max 1 eP=eP:=ZbC h1
  rw[e9]at S
  exact⟨rfl,eP,by rw[e9],h1,Zae _,S,.inl rfl⟩
 rintro c ae ⟨rfl,n,rfl,n1,n2,S,hn⟩
 refine ZR (fun fV=>ZaD (h n ae B0 n1 n2 S)) (fun fV=> ?_)
 rcases hn with hn |⟨p,q,hp,hq,hr⟩
 ·exact absurd hn fV
 replace n2:n<eP:=Nat.lt_of_le_of_ne n2 fV
 dsimp -zeta only
 extract_lets -underBinder jp
 refine Ho (j:=jp) (fun stx=>CB a₀ κ lo ae stx/\NI r (arrOf stx) lo (lo+(n+1))) ?_ (fun nk hj=> ?_) (fun nk=> ?_)
 ·rintro aw ⟨B1,N1⟩
  dsimp -zeta only[jp]
  clear jp S hp hq hr
  refine Zay (Zha (Zee ⟨rfl,?_⟩))
  refine Zay (Ze0 (ZbY (I:=fun y c stx=>CB a₀ κ lo ae stx/\∃dg,c=(none,y,dg)/\NI r (arrOf stx) lo (lo+y)/\dg+1<=y/\EQ r (arrOf stx) (lo+y - (dg+1)) (lo+y))
   (Q:=fun c stx=>CB a₀ κ lo ae stx/\∃m dg,c=(none,m,dg)/\n+1<=m/\m<=eP/\NI r (arrOf stx) lo (lo+m)/\dg+1<=m/\EQ r (arrOf stx) (lo+m - (dg+1)) (lo+m)) ?_ ?_ ⟨B1,0,rfl,N1,.o,EQ.zA o .o⟩) ?_)
  ·rintro y c au pH dU ⟨B2,dg,rfl,N2,g1,e2⟩
   dsimp only
   have z2:=B2.size
   obtain⟨p2,jo⟩:=Zo (xs:=arrOf au) (i:=lo+y - 1) .o
   obtain⟨q2,cV⟩:=Zo (xs:=arrOf au) (i:=lo+y) .o
   refine Zay (Ja hc B2 cV jo ?_)
   cases gD:r q2 p2 with
   |true=>
    dsimp only
    rw[ZaY rfl]
    by_cases wa:dg>0
    ·rw[ZaY wa]
     refine Zay (JC ?_)
     have B3:=B2.rev (m:=lo+y - (dg+1)) (hi:=lo+y) .o .o
     have N3:NI r (dh (arrOf au) (lo+y - (dg+1)) (lo+y)) lo (lo+y):=N2.DQ e2 .o .o
     obtain⟨p3,rW⟩:=Zo (xs:=dh (arrOf au) (lo+y - (dg+1)) (lo+y)) (i:=lo+y - 1) (by rw[mirror_size];omega)
     have PQ:=Kb .o .o rW
     have v8:(dh (arrOf au) (lo+y - (dg+1)) (lo+y))[lo+y]? =some q2:=by rw[U9 .o (.inr (Zae _))];exact cV
     have h3:r p3 q2=false:=o.dS q2 p2 p3 (o.gk _ _ gD) (e2 _ _ p3 p2 (Zae _) .o .o .o PQ jo)
     exact ZaD ⟨B3,0,rfl,N3.snoc (hi:=lo+y) o .o rW v8 h3,.o,EQ.zA o .o⟩
    ·rw[ZaK wa]
     exact ZaD ⟨B2,0,rfl,N2.snoc (hi:=lo+y) o .o jo cV (o.gk _ _ gD),.o,EQ.zA o .o⟩
   |false=>
    dsimp only
    rw[ZaK Zaw]
    refine Zay (Ja hc B2 jo cV ?_)
    cases Ey:r p2 q2 with
    |true=>exact ZaD ⟨B2,y,dg,rfl,.o,.o,N2,g1,e2⟩
    |false=>
     refine ZaD ⟨B2,dg+1,rfl,N2.snoc (hi:=lo+y) o .o jo cV Ey,.o,?_⟩
     have:=e2.snoc (hi:=lo+y) o .o jo cV Ey gD
     rw[show lo+(y+1) - (dg+1+1)=lo+y - (dg+1) by omega]
     exact this
  ·rintro c au ⟨B2,dg,rfl,N2,g1,e2⟩
   have e9:max (n+1) eP=eP:=ZbC .o
   rw[e9]at N2 g1 e2
   exact⟨B2,eP,dg,by rw[e9],.o,.o,N2,g1,e2⟩
  rintro c cK ⟨B3,m,dg,rfl,m1,m2,N3,g3,e3⟩
  have z3:=B3.size
  extract_lets -underBinder r1 s1 t1 u1
  dsimp -zeta only[r1,s1,t1,u1]
  extract_lets -underBinder jp
  refine Ho (j:=jp) (fun stx=>CB a₀ κ lo ae stx/\NI r (arrOf stx) lo (lo+m)) ?_ (fun wa hj=> ?_) (fun wa=> ⟨B3,N3⟩)
  ·rintro de ⟨B4,N4⟩
   clear B3 N3 e3 z3
   dsimp -zeta only[jp]
   clear jp
   refine Zay (JC ?_)
   have B9:=B4.rev (m:=lo) (hi:=lo+m) (Zae _) .o
   have S9:SI r (arrOf (setArr de (dh (arrOf de) lo (lo+m)))) lo (lo+m):=NI.dh N4 (by rw[B4.size];omega)
   generalize setArr de (dh (arrOf de) lo (lo+m))=uF at B9 S9
   have z9:=B9.size
   refine Zay (ZbY (I:=fun y c stx=>stx=uF/\c=(none,y)/\SI r (arrOf uF) lo (lo+y)) ?_ ?_ ⟨rfl,rfl,S9⟩)
   ·rintro y c stx pH dU ⟨rfl,rfl,S⟩
    dsimp only
    obtain⟨p9,ED⟩:=Zo (xs:=arrOf stx) (i:=lo+y - 1) .o
    obtain⟨q9,EA⟩:=Zo (xs:=arrOf stx) (i:=lo+y) .o
    refine Zay (Ja hc B9 EA ED ?_)
    cases PB:r q9 p9 with
    |true=>exact ZaD (ZaD (h y stx B9 .o .o S))
    |false=>exact ZaD ⟨rfl,rfl,S.snoc (hi:=lo+y) o .o ED EA PB⟩
   ·rintro c stx ⟨rfl,rfl,S⟩
    rw[ZbC .o]at S
    have e9:max m eP=eP:=ZbC .o
    dsimp only
    rw[e9]
    exact ZaD (h eP stx B9 .o .o S)
  ·clear_value jp
   exact Zay (JC (hj _ ⟨B3.rev (m:=lo+m - (dg+1)) (hi:=lo+m) .o .o,N3.DQ e3 .o .o⟩))
 ·clear_value jp
  obtain⟨f,hf⟩:=Zo (xs:=arrOf ae) (i:=lo) .o
  refine Zay (Ja hc B0 hf hp ?_)
  refine BU (fun Ex=>ZaD (h n ae B0 n1 (Zeb n2) S)) (fun Ex=>Zay (JC (hj _ ⟨B0.rev (m:=lo) (hi:=lo+n) (Zae _) .o,?_⟩)))
  have N1:NI r (dh (arrOf ae) lo (lo+n)) lo (lo+n):=S.dh .o
  obtain⟨p1,pJ⟩:=Zo (xs:=dh (arrOf ae) lo (lo+n)) (i:=lo+n - 1) (by rw[mirror_size];omega)
  have EE:=Kb .o .o pJ
  rw[hf]at EE
  cases EE
  have fF:(dh (arrOf ae) lo (lo+n))[lo+n]? =some q:=by rw[U9 .o (.inr (Zae _))];exact hq
  exact N1.snoc (hi:=lo+n) o .o pJ fF (o.dS q p f (o.gk _ _ hr) Ex)
 ·obtain rfl:n=1:=.o
  exact⟨B0,(NI.one o).snoc (hi:=lo+1) o .o hp hq (o.gk _ _ hr)⟩
theorem VB {x y z:Keyed}(o:Ord r) (h:r z x=true) (h2:r y x=false):r z y=true:=by
 cases e:r z y with
 |true=>rfl
 |false=>
  have:=o.dS x y z h2 e
  rw[h]at this
  cases this
theorem Zcp {st:SortSt}{i j:Nat}{Q:Unit->SortSt->Prop}(h:Q () (setArr st (bubble (arrOf st) i (i - j)))):wpS (model prog w) A E s (moveDown' i j) Q st:=by
 rw[moveDown'_eq]
 exact ZeW h
theorem SI.put {xs:Array Keyed}{lo k l:Nat}{q:Keyed}(o:Ord r) (S:SI r xs lo (lo+k)) (hq:xs[lo+k]? =some q) (hl:l<=k) (h1:∀i x,i<l->xs[lo+i]? =some x->r q x=false) (h2:∀i x,l<=i->i<k->xs[lo+i]? =some x->r q x=true):SI r (bubble xs (lo+k) (lo+k - (lo+l))) lo (lo+(k+1)):=by
 have hs:lo+k<xs.size:=(Zba.mp hq).1
 intro i j x y g1 g2 g3 hx hy
 rw[getElem?_bubble hs _ .o]at hx hy
 rw[show lo+k - (lo+k - (lo+l))=lo+l by omega]at hx hy
 by_cases ei:i=lo+l
 ·rw[ZaY ei,hq]at hx
  cases hx
  by_cases ej:j=lo+l
  ·rw[ZaY ej,hq]at hy
   cases hy
   exact o.lj _
  ·rw[ZaK ej,ZaY .o]at hy
   exact o.gk _ _ (h2 (j - 1 - lo) y .o .o (by rw[show lo+(j - 1 - lo)=j - 1 by omega];exact hy))
 ·rw[ZaK ei]at hx
  by_cases ej:j=lo+l
  ·rw[ZaY ej,hq]at hy
   cases hy
   rw[ZaK .o]at hx
   exact h1 (i - lo) x .o (by rw[show lo+(i - lo)=i by omega];exact hx)
  ·rw[ZaK ej]at hy
   by_cases gi:lo+l<i
   ·rw[ZaY .o]at hx hy
    exact S (i - 1) (j - 1) x y .o .o .o hx hy
   ·rw[ZaK .o]at hx
    by_cases gj:lo+l<j
    ·rw[ZaY .o]at hy
     exact S i (j - 1) x y .o .o .o hx hy
    ·rw[ZaK .o]at hy
     exact S i j x y .o .o .o hx hy
theorem Wj {st eI:SortSt}{lo n ok:Nat}{Q:Bool->SortSt->Prop}(o:Ord r) (hc:jd prog w A E s κ a₀ r) (B0:CB a₀ κ lo eI st) (h1:1<=ok) (hn:ok<=n) (hz:lo+n<=a₀.size) (S0:SI r (arrOf st) lo (lo+ok))
  (h:∀ae,CB a₀ κ lo eI ae->SI r (arrOf ae) lo (lo+n)->Q true ae):wpS (model prog w) A E s (binarySort' lo n ok) Q st:=by
 rw[binarySort'_eq]
 dsimp only
 rw[Nat.max_eq_left h1]
 refine Zay (ZbY (I:=fun k c ae=>c=(none,())/\CB a₀ κ lo eI ae/\SI r (arrOf ae) lo (lo+k)) ?_ ?_ ⟨rfl,B0,S0⟩)
 ·rintro k c aw kc EU ⟨rfl,B1,S1⟩
  try dsimp only
  have z1:=B1.size
  obtain⟨q,hq⟩:=Zo (xs:=arrOf aw) (i:=lo+k) .o
  refine Zay (Ze0 (ZbY (I:=fun y c ae=>ae=aw/\∃l u,c=(none,l,u)/\l<=u/\u<=k/\(∀i x,i<l->(arrOf aw)[lo+i]? =some x->r q x=false)/\(∀i x,u<=i->i<k->(arrOf aw)[lo+i]? =some x->r q x=true)/\u - l<=k - y)
   (Q:=fun c ae=>ae=aw/\∃l u,c=(none,l,u)/\l<=k/\(∀i x,i<l->(arrOf aw)[lo+i]? =some x->r q x=false)/\(∀i x,l<=i->i<k->(arrOf aw)[lo+i]? =some x->r q x=true)) ?_ ?_ ⟨rfl,0,k,rfl,.o,.o,fun i x hi=>absurd hi .o,fun i x g1 g2=>absurd g2 .o,.o⟩) ?_)
  ·rintro y c ae _ hy ⟨rfl,l,u,rfl,g1,g2,g3,g4,g5⟩
   dsimp only
   refine ZQ (fun dH=> ?_) (fun dH=> ?_)
   ·exact ZaD ⟨rfl,l,u,rfl,.o,g3,fun i x g6=>g4 i x .o⟩
   ·have hm:(l+u)/2<u:=.o
    have r6:l<=(l+u)/2:=.o
    generalize (l+u)/2=m at hm r6
    obtain⟨p,hp⟩:=Zo (xs:=arrOf ae) (i:=lo+m) .o
    refine Zay (Ja hc B1 hq hp ?_)
    cases hr:r q p with
    |true=>
     refine ZaD ⟨rfl,l,m,rfl,r6,.o,g3,fun i x g6 g7 hx=> ?_,.o⟩
     exact VB o hr (S1 (lo+m) (lo+i) p x .o .o .o hp hx)
    |false=>
     refine ZaD ⟨rfl,m+1,u,rfl,.o,g2,fun i x g6 hx=> ?_,g4,.o⟩
     exact o.dS x p q (S1 (lo+i) (lo+m) x p .o .o .o hx hp) hr
  ·rintro c ae ⟨rfl,l,u,rfl,g1,g2,g3,g4,g5⟩
   rw[ZbC (ZaV _)]at g5
   exact⟨rfl,l,u,rfl,.o,g3,fun i x g6=>g4 i x .o⟩
  rintro c ae ⟨rfl,l,u,rfl,g1,g3,g4⟩
  dsimp only
  refine Zay (Zcp (ZaD ⟨rfl,⟨B1.kind,B1.pend,B1.fail,(bubble_perm _ _ _).trans B1.perm,fun i hi=> ?_⟩,S1.put o hq g1 g3 g4⟩))
  show(bubble (arrOf ae) (lo+k) (lo+k - (lo+l)))[i]? =_
  rw[getElem?_bubble .o _ .o,ZaK .o,ZaK .o]
  exact B1.pre i hi
 ·rintro c aw ⟨rfl,B1,S1⟩
  rw[ZbC hn]at S1
  exact ZaD (h aw B1 S1)
end
def seg (L:List Keyed) (s n:Nat):List Keyed:=(L.drop s).take n
theorem Y2 {L:List Keyed}{s n i:Nat}(h:i<n):(seg L s n)[i]? =L[s+i]? :=by
 unfold seg
 rw[Zch h,ZdD]
theorem Ik {L:List Keyed}{s n:Nat}(h:s+n<=L.length):(seg L s n).length=n:=by
 unfold seg
 rw[ZaS,ZbB];omega
theorem SI.pw {r:Keyed->Keyed->Bool}{xs:Array Keyed}{lo n:Nat}(h:SI r xs lo (lo+n)):Pw r (seg xs.toList lo n):=by
 unfold Pw
 rw[List.pairwise_iff_getElem]
 intro i j hi hj dr
 have hn:j<n:=by unfold seg at hj;rw[ZaS]at hj;omega
 have e1:(seg xs.toList lo n)[i]? =some (seg xs.toList lo n)[i]:=Zag hi
 have e2:(seg xs.toList lo n)[j]? =some (seg xs.toList lo n)[j]:=Zag hj
 rw[Y2 .o,ZaP]at e1
 rw[Y2 hn,ZaP]at e2
 exact h (lo+i) (lo+j) _ _ .o .o .o e1 e2
def Runs (r:Keyed->Keyed->Bool) (L:List Keyed):List (Nat×Nat×Nat)->Nat->Nat->Prop
 | [],p,q=>p=q
 |x::rest,p,q=>x.1=p/\1<=x.2.1/\Pw r (seg L x.1 x.2.1)/\Runs r L rest (p+x.2.1) q
section
variable {r:Keyed->Keyed->Bool}{L L':List Keyed}
theorem Runs.le:∀{ps:List (Nat×Nat×Nat)}{p q:Nat},Runs r L ps p q->p+ps.length<=q
 | [],_,_,h=>by cases h;exact Zae _
 |x::ps,p,q,h=>by
  have:=Runs.le h.2.2.2
  have:=h.2.1
  rw[Zbz]
  omega
theorem Runs.app:∀{l1 l2:List (Nat×Nat×Nat)}{p q:Nat},Runs r L (l1++l2) p q↔∃m,Runs r L l1 p m/\Runs r L l2 m q
 | [],l2,p,q=> ⟨fun h=> ⟨p,rfl,h⟩,fun⟨m,h1,h2⟩=>by cases h1;exact h2⟩
 |x::l1,l2,p,q=>by
  constructor
  ·rintro⟨h1,h2,h3,h4⟩
   obtain⟨m,g1,g2⟩:=Runs.app.mp h4
   exact⟨m,⟨h1,h2,h3,g1⟩,g2⟩
  ·rintro⟨m,⟨h1,h2,h3,g1⟩,g2⟩
   exact⟨h1,h2,h3,Runs.app.mpr ⟨m,g1,g2⟩⟩
theorem Runs.congr:∀{ps:List (Nat×Nat×Nat)}{p q:Nat},Runs r L ps p q->(∀s n,p<=s->s+n<=q->seg L s n=seg L' s n)->Runs r L' ps p q
 | [],_,_,h,_=>h
 |x::ps,p,q,⟨h1,h2,h3,h4⟩,e=>by
  have:=Runs.le h4
  refine⟨h1,h2,?_,Runs.congr h4 fun s n g1 g2=>e s n .o g2⟩
  rw[<-e x.1 x.2.1 .o .o]
  exact h3
theorem Il {m s n:Nat}(h:L.take m=L'.take m) (hs:s+n<=m):seg L s n=seg L' s n:=by
 have key:∀M:List Keyed,seg M s n=seg (M.take m) s n:=fun M=>by
  unfold seg
  rw[List.drop_take,List.take_take,ZeE .o]
 rw[key L,key L',h]
theorem Ww {m s n:Nat}(h:L.drop m=L'.drop m) (hs:m<=s):seg L s n=seg L' s n:=by
 have key:∀M:List Keyed,seg M s n=((M.drop m).drop (s - m)).take n:=fun M=>by
  unfold seg
  rw[ZeX,show m+(s - m)=s by omega]
 rw[key L,key L',h]
theorem ZcQ {A B M:List Keyed}{k n:Nat}(o:Ord r) (sA:Pw r A) (sB:Pw r B) (hM:M.Perm (A.drop k++B.take n)) (sM:Pw r M) (h1:∀x∈A.take k,∀y∈B,r y x=false) (h2:∀z∈A,∀w∈B.drop n,r w z=false):Pw r (A.take k++(M++B.drop n)):=by
 have pa:Pw r (A.take k):=ZbN (Zef _ _) sA
 have pb:Pw r (B.drop n):=ZbN (Zei _ _) sB
 have Mn:Pw r (A.take k++A.drop k):=by rw[Zbu];exact sA
 have Mm:Pw r (B.take n++B.drop n):=by rw[Zbu];exact sB
 refine Zbf.mpr ⟨pa,Zbf.mpr ⟨sM,pb,fun z hz w hw=> ?_⟩,fun x hx z hz=> ?_⟩
 ·rcases ZaC.mp (hM.mem_iff.mp hz) with hz |hz
  ·exact h2 z (ZbH hz) w hw
  ·exact(Zbf.mp Mm).2.2 z hz w hw
 ·rcases ZaC.mp hz with hz |hz
  ·rcases ZaC.mp (hM.mem_iff.mp hz) with hz |hz
   ·exact(Zbf.mp Mn).2.2 x hx z hz
   ·exact h1 x hx z (Zce hz)
  ·exact h1 x hx z (ZbH hz)
theorem Ie (off:Nat):∀(M:List Keyed) (j:Nat) (xs:Array Keyed),off+j+M.length<=xs.size->((M.zipIdx j).foldl (fun a x=>a.setIfInBounds (off+x.snd) x.fst) xs).toList=xs.toList.take (off+j)++(M++xs.toList.drop (off+j+M.length))
 | [],j,xs,_=>by
  show xs.toList=_
  rw[Zdx,Zdv,Nat.add_zero,Zbu]
 |m::M,j,xs,h=>by
  rw[Zbz]at h
  rw[List.zipIdx_cons,Ze3,Ie off M (j+1) _ (by rw[Array.size_setIfInBounds];omega),Array.toList_setIfInBounds]
  have hl:off+j<xs.toList.length:=by rw[Zau];omega
  rw[List.drop_set_of_lt .o,<-Nat.add_assoc,ZbO,List.take_set_of_le (Zae _),Zem hl]
  rw[Za3,Zbz,show off+j+1+M.length=off+j+(M.length+1) by omega]
  rfl
end
section
variable {s t k n m z y b:Nat}
theorem qa (h:¬n - k=0):s+(k+(n - k - 1))=s+(n - 1):=.o
theorem qb (h:k<=n) (h1:1<=n):s+(n - 1)=s+k+(n - k) - 1:=.o
theorem qc (e:t=s+n) (h:k<=n):s+k+(n - k+m)=t+m:=.o
theorem qd (e:t=s+n) (h:k<=n):t - (s+k)=n - k:=.o
theorem qe (h:k<=n) (g:m<=b):min k n+(n - k+m+(b - m))=n+b:=.o
theorem qf (h:k<=n) (h1:1<=n) (h2:1<=m) (e:t=s+n) (f:z=y) (g:t+m<=y):s+k+(n - k) - 1<z:=.o
theorem qg (e:t=s+n) (h:k<=n) (g:m<=b) (f:t+b<=y) (f':z=y):s+k+0+(n - k+m)<=z:=.o
theorem qh (h2:1<=m) (f:z=y) (g:t+m<=y):t<z:=.o
theorem qi (e:t=s+n) (f:z=y) (g:t+m<=y) (h:k<n):s+k<z:=.o
theorem qj (f:z=y) (g:t+m<=y) (h:k<m):t+k<z:=.o
end
section
variable {prog:Program}{w:World}{A:Around}{E:Value->Shared->Prop}{s:Shared}{κ:SortKind}{a₀:Array Keyed}{r:Keyed->Keyed->Bool}
theorem XD {st ae:SortSt}{Q:PUnit->SortSt->Prop}(h:Q ⟨⟩ ae):wpS (model prog w) A E s (set ae:StateT SortSt Sem PUnit) Q st:=by
 unfold wpS
 exact Zaf ⟨rfl,h⟩
theorem XC {α:Type}{m:StateT SortSt Sem α}{Q:α->SortSt->Prop}{st:SortSt}(P:SortSt->Prop) (hp:P st) (h:∀eI,P eI->wpS (model prog w) A E s m Q eI):wpS (model prog w) A E s m Q st:=h st hp
theorem Zam {st:SortSt}{i:Nat}{Q:Bool->SortSt->Prop}(o:Ord r) (hc:jd prog w A E s κ a₀ r) (hk:kindOf st=κ) (hP:(arrOf st).Perm a₀) (hF:failedOf st=none) {pre post:List (Nat×Nat×Nat)}{sa na pw sb nb vt:Nat}
  (hp:(pendingOf st).toList=pre++(sa,na,pw)::(sb,nb,vt)::post) (hi:pre.length=i) (kO:sb=sa+na) (n1:1<=na) (n2:1<=nb) (hz:sb+nb<=a₀.size) (SA:Pw r (seg (arrOf st).toList sa na)) (SB:Pw r (seg (arrOf st).toList sb nb))
  (h:∀ae,kindOf ae=κ->(arrOf ae).Perm a₀->failedOf ae=none->(pendingOf ae).toList=pre++(sa,na+nb,pw)::post->(arrOf ae).toList.take sa=(arrOf st).toList.take sa->(arrOf ae).toList.drop (sb+nb)=(arrOf st).toList.drop (sb+nb)->Pw r (seg (arrOf ae).toList sa (na+nb))->Q true ae):
  wpS (model prog w) A E s (mergeAt' i) Q st:=by
 have hsz:(arrOf st).size=a₀.size:=hP.size_eq
 have e1:(pendingOf st)[i]? =some (sa,na,pw):=by
  rw[<-ZaP,hp,<-hi]
  simp
 have e2:(pendingOf st)[i+1]? =some (sb,nb,vt):=by
  rw[<-ZaP,hp,<-hi,Zcn .o,show pre.length+1 - pre.length=1 by omega]
  rfl
 have EC:(((pendingOf st).setIfInBounds i (sa,na+nb,pw)).eraseIdxIfInBounds (i+1)).toList=pre++(sa,na+nb,pw)::post:=by
  rw[Array.toList_eraseIdxIfInBounds,Array.toList_setIfInBounds,hp,<-hi,List.set_append_right _ _ (Zae _),Nat.sub_self,List.set_cons_zero,List.eraseIdx_append_of_length_le .o,show pre.length+1 - pre.length=1 by omega]
  rfl
 show wpS (model prog w) A E s (_ >>=_) _ _
 obtain⟨kd,xs,pd,ga,fl⟩:=st
 refine Zay (ZfS ?_)
 replace e1:pd[i]? =some (sa,na,pw):=e1
 replace e2:pd[i+1]? =some (sb,nb,vt):=e2
 dsimp only
 rw[e1,e2]
 dsimp only
 refine Zay (XD ?_)
 refine XC (fun eI=>kindOf eI=κ/\arrOf eI=xs/\(pendingOf eI).toList=pre++(sa,na+nb,pw)::post/\failedOf eI=none) ⟨hk,rfl,EC,hF⟩ ?_
 rintro eI ⟨g1,g2,g3,g4⟩
 clear EC e1 e2
 replace hP:xs.Perm a₀:=hP
 replace hsz:xs.size=a₀.size:=hsz
 replace SA:Pw r (seg xs.toList sa na):=SA
 replace SB:Pw r (seg xs.toList sb nb):=SB
 have mm:∀{j:Nat}{x:Keyed},xs[j]? =some x->x∈a₀.toList:=fun hx=> (Zco.mp hP).mem_iff.mp (Z1 hx)
 have lA:(seg xs.toList sa na).length=na:=Ik (by rw[Zau];omega)
 have lB:(seg xs.toList sb nb).length=nb:=Ik (by rw[Zau];omega)
 have Bu:∀{j:Nat}{x:Keyed},j<na->xs[sa+j]? =some x->(seg xs.toList sa na)[j]? =some x:=fun hj hx=>by rw[Y2 hj,ZaP];exact hx
 have Bt:∀{j:Nat}{x:Keyed},j<nb->xs[sb+j]? =some x->(seg xs.toList sb nb)[j]? =some x:=fun hj hx=>by rw[Y2 hj,ZaP];exact hx
 have xc:∀{j:Nat}{x:Keyed},(seg xs.toList sa na)[j]? =some x->j<na/\xs[sa+j]? =some x:=fun {j x} hx=>by
  have hj:j<na:=by have:=(Zad.mp hx).1;omega
  exact⟨hj,by rw[Y2 hj,ZaP]at hx;exact hx⟩
 have Bs:∀{j:Nat}{x:Keyed},(seg xs.toList sb nb)[j]? =some x->j<nb/\xs[sb+j]? =some x:=fun {j x} hx=>by
  have hj:j<nb:=by have:=(Zad.mp hx).1;omega
  exact⟨hj,by rw[Y2 hj,ZaP]at hx;exact hx⟩
 have fin:∀(k n:Nat) (M:List Keyed) (ae:SortSt),k<=na->n<=nb->kindOf ae=κ->failedOf ae=none->(pendingOf ae).toList=pre++(sa,na+nb,pw)::post->M.Perm ((seg xs.toList sa na).drop k++(seg xs.toList sb nb).take n)->Pw r M->
   (∀x∈(seg xs.toList sa na).take k,∀y∈seg xs.toList sb nb,r y x=false)->(∀z∈seg xs.toList sa na,∀w∈(seg xs.toList sb nb).drop n,r w z=false)->
   (arrOf ae).toList=xs.toList.take (sa+k)++(M++xs.toList.drop (sa+k+M.length))->Q true ae:=fun k n M ae Aw fV f1 f2 f3 f4 f5 f6 f7 f8=>by
  have lM:M.length=(na - k)+n:=by
   rw[f4.length_eq,Zap,ZbB,ZaS,lA,lB,ZeE fV]
  have hL:xs.toList.length=a₀.size:=by rw[Zau];exact hsz
  have eA:xs.toList.take (sa+k)=xs.toList.take sa++(seg xs.toList sa na).take k:=by
   rw[List.take_add]
   unfold seg
   rw[List.take_take,ZeE Aw]
  have eB:xs.toList.drop (sa+k+M.length)=(seg xs.toList sb nb).drop n++xs.toList.drop (sb+nb):=by
   rw[lM,show sa+k+(na - k+n)=sb+n from qc kO Aw,<-ZeX]
   have:xs.toList.drop sb=seg xs.toList sb nb++xs.toList.drop (sb+nb):=by
    unfold seg
    rw[<-ZeX,Zbu]
   rw[this,List.drop_append_of_le_length (by rw[lB];exact fV)]
  have SF:xs.toList=xs.toList.take sa++((seg xs.toList sa na++seg xs.toList sb nb)++xs.toList.drop (sb+nb)):=by
   have a1:xs.toList.drop sa=seg xs.toList sa na++xs.toList.drop sb:=by
    unfold seg
    rw[kO,<-ZeX,Zbu]
   have a2:xs.toList.drop sb=seg xs.toList sb nb++xs.toList.drop (sb+nb):=by
    unfold seg
    rw[<-ZeX,Zbu]
   rw[Za3,<-a2,<-a1,Zbu]
  have eN:(arrOf ae).toList=xs.toList.take sa++(((seg xs.toList sa na).take k++(M++(seg xs.toList sb nb).drop n))++xs.toList.drop (sb+nb)):=by
   rw[f8,eA,eB]
   simp only[Za3]
  have lX:(xs.toList.take sa).length=sa:=by rw[ZaS];omega
  have lY:((seg xs.toList sa na).take k++(M++(seg xs.toList sb nb).drop n)).length=na+nb:=by
   rw[Zap,Zap,ZaS,ZbB,lA,lB,lM];exact qe Aw fV
  have pY:((seg xs.toList sa na).take k++(M++(seg xs.toList sb nb).drop n)).Perm (seg xs.toList sa na++seg xs.toList sb nb):=by
   refine List.Perm.trans (Zew _ (List.Perm.append_right _ f4)) ?_
   rw[Za3,Zbu,<-Za3,Zbu]
  refine h ae f1 ?_ f2 f3 ?_ ?_ ?_
  ·refine Zco.mpr (List.Perm.trans ?_ (Zco.mp hP))
   rw[eN]
   refine List.Perm.trans (Zew _ (List.Perm.append_right _ pY)) ?_
   rw[<-SF]
  ·rw[eN,List.take_left' lX]
  ·rw[eN,<-Za3,List.drop_left' (by rw[Zap,lX,lY];omega)]
  ·have:seg (arrOf ae).toList sa (na+nb)=(seg xs.toList sa na).take k++(M++(seg xs.toList sb nb).drop n):=by
    rw[eN]
    show List.take (na+nb) (List.drop sa (xs.toList.take sa++(((seg xs.toList sa na).take k++(M++(seg xs.toList sb nb).drop n))++xs.toList.drop (sb+nb))))=_
    rw[List.drop_left' lX,List.take_left' lY]
   rw[this]
   exact ZcQ o SA SB f4 f5 f6 f7
 obtain⟨y0,lD⟩:=Zo (xs:=xs) (i:=sb) (qh n2 hsz hz)
 refine Zay (ZB lD ?_)
 have Rb:∀y∈seg xs.toList sb nb,r y y0=false:=fun y hy=>by
  obtain⟨j,hj⟩:=Zdd hy
  exact JI o SB (Bt (j:=0) .o lD) hj (ZaV _)
 refine Zay (Yn hc g1 (fun i=>match xs[sa+i]? with |some x=> !r y0 x |none=>false) (fun i hi=> ?_) (mm lD) (fun i j dr hj hp=> ?_) .o fun k kn gA gB=> ?_)
 ·obtain⟨x,hx⟩:=Zo (xs:=xs) (i:=sa+i) (qi kO hsz hz .o)
  refine⟨x,hx,mm hx,?_⟩
  try dsimp only
  rw[hx]
  rfl
 ·obtain⟨xj,lE⟩:=Zo (xs:=xs) (i:=sa+j) (qi kO hsz hz .o)
  obtain⟨xi,lF⟩:=Zo (xs:=xs) (i:=sa+i) (qi kO hsz hz .o)
  try dsimp only at hp |-
  rw[lE]at hp
  rw[lF]
  rw[Zb6]at hp |-
  exact o.dS _ _ _ (JI o SA (Bu .o lF) (Bu .o lE) dr) hp
 dsimp only
 have low:∀x∈(seg xs.toList sa na).take k,∀y∈seg xs.toList sb nb,r y x=false:=fun x hx y hy=>by
  obtain⟨j,hj⟩:=Zdd hx
  have EW:j<k:=by have:=(Zad.mp hj).1;rw[ZaS]at this;omega
  rw[Zch EW]at hj
  obtain⟨sh,nD⟩:=xc hj
  have:=gA j EW
  try dsimp only at this
  rw[nD,Zb6]at this
  exact o.dS x y0 y this (Rb y hy)
 refine ZQ (fun jm=> ?_) (fun jm=> ?_)
 ·have ek:k=na:=by have:=Zdk.mp jm;omega
  subst ek
  refine ZaD (fin k 0 [] eI (Zae _) (ZaV _) g1 g4 g3 (by rw[ZbX .o];exact .refl _) .nil low (fun z hz w hw=> ?_) ?_)
  ·exact low z (by rw[ZbZ .o];exact hz) w (ZbH hw)
  ·rw[g2,Zdx,Zdv,Nat.add_zero,Zbu]
 have OV:¬(na - k=0):=fun z=>jm (Zdk.mpr z)
 obtain⟨x0,mY⟩:=Zo (xs:=xs) (i:=sa+k+(na - k) - 1) (qf kn n1 n2 kO hsz hz)
 refine Zay (ZB mY ?_)
 have Ek:xs[sa+(na - 1)]? =some x0:=by rw[<-mY];congr 1;exact qb kn n1
 have Rc:∀x∈seg xs.toList sa na,r x0 x=false:=fun x hx=>by
  obtain⟨j,hj⟩:=Zdd hx
  exact JI o SA hj (Bu (j:=na - 1) .o Ek) (by have:=(xc hj).1;omega)
 refine Zay (Yn hc g1 (fun i=>match xs[sb+i]? with |some y=>r y x0 |none=>false) (fun i hi=> ?_) (mm mY) (fun i j dr hj hp=> ?_) .o fun n nn NO NP=> ?_)
 ·obtain⟨y,hy⟩:=Zo (xs:=xs) (i:=sb+i) (qj hsz hz .o)
  refine⟨y,hy,mm hy,?_⟩
  try dsimp only
  rw[hy]
  rfl
 ·obtain⟨yj,lu⟩:=Zo (xs:=xs) (i:=sb+j) (qj hsz hz .o)
  obtain⟨yi,lC⟩:=Zo (xs:=xs) (i:=sb+i) (qj hsz hz .o)
  try dsimp only at hp |-
  rw[lu]at hp
  rw[lC]
  exact BF o hp (JI o SB (Bt .o lC) (Bt .o lu) dr)
 dsimp only
 have high:∀z∈seg xs.toList sa na,∀w∈(seg xs.toList sb nb).drop n,r w z=false:=fun z hz w hw=>by
  obtain⟨j,hj⟩:=Zdd hw
  rw[ZdD]at hj
  obtain⟨sh,nD⟩:=Bs hj
  have:=NP (n+j) .o sh
  try dsimp only at this
  rw[nD]at this
  exact o.dS z x0 w (Rc z hz) this
 refine ZQ (fun fT=> ?_) (fun fT=> ?_)
 ·have en:n=0:=Zdk.mp fT
  subst en
  refine ZaD (fin na 0 [] eI (Zae _) (ZaV _) g1 g4 g3 (by rw[ZbX .o];exact .refl _) .nil (fun x hx y hy=> ?_) high ?_)
  ·exact high x (Zce hx) y (by rw[ZeV];exact hy)
  ·rw[g2,Zdx,Zdv,Nat.add_zero,Zbu]
 have aaB:¬(n=0):=fun z=>fT (Zdk.mpr z)
 have xA:(xs.extract (sa+k) sb).toList=(seg xs.toList sa na).drop k:=by
  rw[Wb]
  unfold seg
  rw[List.drop_take,ZeX,show sb - (sa+k)=na - k from qd kO kn]
 have xB:(xs.extract sb (sb+n)).toList=(seg xs.toList sb nb).take n:=by
  rw[Wb,show sb+n - sb=n by omega]
  unfold seg
  rw[List.take_take,ZeE nn]
 have L9:(xs.extract (sa+k) sb).size=na - k:=by rw[<-Zau,xA,ZbB,lA]
 have aat:(xs.extract sb (sb+n)).size=n:=by rw[<-Zau,xB,ZaS,lB];omega
 have C:fe r (xs.extract (sa+k) sb) (xs.extract sb (sb+n)):=⟨o,by rw[xA];exact ZbN (Zei _ _) SA,by rw[xB];exact ZbN (Zef _ _) SB⟩
 have mA:∀x∈(xs.extract (sa+k) sb).toList,x∈a₀.toList:=fun x hx=>by
  rw[xA]at hx
  obtain⟨j,hj⟩:=Zdd (ZbH hx)
  exact mm (xc hj).2
 have mB:∀x∈(xs.extract sb (sb+n)).toList,x∈a₀.toList:=fun x hx=>by
  rw[xB]at hx
  obtain⟨j,hj⟩:=Zdd (Zce hx)
  exact mm (Bs hj).2
 have m0:∀y,(xs.extract sb (sb+n))[0]? =some y->∀x∈(xs.extract (sa+k) sb).toList,r x y=false:=fun y hy x hx=>by
  have pH:=ZV hy
  rw[xB,Zch .o,Y2 .o,Nat.add_zero,ZaP,lD]at pH
  cases pH
  rw[xA]at hx
  obtain⟨j,hj⟩:=Zdd hx
  rw[ZdD]at hj
  obtain⟨sh,nD⟩:=xc hj
  have:=gB (k+j) .o sh
  try dsimp only at this
  rw[nD,Bool.not_eq_false']at this
  exact o.gk _ _ this
 have ml:∀x,(xs.extract (sa+k) sb)[(xs.extract (sa+k) sb).size - 1]? =some x->∀y∈(xs.extract sb (sb+n)).toList,r x y=false:=fun x hx y hy=>by
  have zZ:=ZV hx
  rw[L9,xA,ZdD,Y2 .o,ZaP,show sa+(k+(na - k - 1))=sa+(na - 1) from qa OV,Ek]at zZ
  cases zZ
  rw[xB]at hy
  obtain⟨j,hj⟩:=Zdd hy
  have EV:j<n:=by have:=(Zad.mp hj).1;rw[ZaS]at this;omega
  rw[Zch EV]at hj
  obtain⟨sh,nD⟩:=Bs hj
  have:=NO j EV
  try dsimp only at this
  rw[nD]at this
  exact o.gk _ _ this
 have done:∀(res:Array Keyed) (aw:SortSt),SG eI aw->Good r (xs.extract (sa+k) sb) (xs.extract sb (sb+n)) res->Q true (setArr aw (List.foldl (fun a x=>a.setIfInBounds (sa+k+x.snd) x.fst) (arrOf aw) res.toList.zipIdx)):=fun res aw sg gd=>by
  have p1:=gd.1
  rw[xA,xB]at p1
  have lR:res.toList.length=na - k+n:=by rw[p1.length_eq,Zap,ZbB,ZaS,lA,lB];omega
  refine fin k n res.toList _ kn nn (by show kindOf aw=κ;rw[sg.1];exact g1) (by show failedOf aw=none;rw[sg.2.2.2];exact g4) (by show(pendingOf aw).toList=_;rw[sg.2.2.1];exact g3) p1 gd.2 low high ?_
  show(List.foldl (fun a x=>a.setIfInBounds (sa+k+x.snd) x.fst) (arrOf aw) res.toList.zipIdx).toList=_
  rw[sg.2.1,g2]
  exact Ie (sa+k) res.toList 0 xs (by rw[lR];exact qg kO kn nn hz hsz)
 refine ZQ (fun hle=> ?_) (fun hle=> ?_)
 ·refine Zay (Zak hc g1 C mA mB .o .o m0 ml fun res aw sg gd=> ?_)
  refine Zay (ZeW (Zay (ZfS ?_)))
  have ef:(failedOf (setArr aw (List.foldl (fun a x=>a.setIfInBounds (sa+k+x.snd) x.fst) (arrOf aw) res.toList.zipIdx))).isNone=true:=by
   show(failedOf aw).isNone=true
   rw[sg.2.2.2,g4]
   rfl
  rw[ef]
  exact ZaD (done res aw sg gd)
 ·refine Zay (Zal hc g1 C mA mB .o .o m0 ml fun res aw sg gd=> ?_)
  refine Zay (ZeW (Zay (ZfS ?_)))
  have ef:(failedOf (setArr aw (List.foldl (fun a x=>a.setIfInBounds (sa+k+x.snd) x.fst) (arrOf aw) res.toList.zipIdx))).isNone=true:=by
   show(failedOf aw).isNone=true
   rw[sg.2.2.2,g4]
   rfl
  rw[ef]
  exact ZaD (done res aw sg gd)
structure RS (a₀:Array Keyed) (κ:SortKind) (r:Keyed->Keyed->Bool) (st:SortSt) (lo:Nat):Prop where
 kind:kindOf st=κ
 perm:(arrOf st).Perm a₀
 fail:failedOf st=none
 runs:Runs r (arrOf st).toList (pendingOf st).toList 0 lo
 le:lo<=a₀.size
theorem Tf {α:Type}{l:List α}{i:Nat}(h:i+1<l.length):∃pre a b post,l=pre++a::b::post/\pre.length=i:=by
 refine⟨l.take i,l[i],l[i+1],l.drop (i+2),?_,by rw[ZaS];omega⟩
 rw[<-Zdt h,<-Zdt .o,Zbu]
theorem RS.merge {st:SortSt}{lo i:Nat}{Q:Bool->SortSt->Prop}(o:Ord r) (hc:jd prog w A E s κ a₀ r) (R:RS a₀ κ r st lo) (hi:i+1< (pendingOf st).size)
  (h:∀ae,RS a₀ κ r ae lo->(pendingOf ae).size+1=(pendingOf st).size->(arrOf ae).toList.drop lo=(arrOf st).toList.drop lo->Q true ae):wpS (model prog w) A E s (mergeAt' i) Q st:=by
 obtain⟨pre,⟨sa,na,pw⟩,⟨sb,nb,vt⟩,post,hp,hl⟩:=Tf (l:=(pendingOf st).toList) (i:=i) (by rw[Zau];exact hi)
 have hr:=R.runs
 rw[hp]at hr
 obtain⟨m,h1,h2⟩:=Runs.app.mp hr
 obtain⟨a1,a2,a3,h3⟩:=h2
 obtain⟨b1,b2,b3,h4⟩:=h3
 dsimp only at a1 a2 a3 b1 b2 b3 h4
 subst a1
 have l4:=h4.le
 have l1:=h1.le
 have le:=R.le
 refine Zam o hc R.kind R.perm R.fail hp hl b1 a2 b2 .o a3 b3 fun ae g1 g2 g3 g4 g5 g6 g7=> ?_
 refine h ae ⟨g1,g2,g3,?_,le⟩ ?_ ?_
 ·rw[g4]
  refine Runs.app.mpr ⟨sa,h1.congr fun s n q1 q2=>Il g5.symm q2,rfl,(show 1<=na+nb by omega),g7,?_⟩
  show Runs r (arrOf ae).toList post (sa+(na+nb)) lo
  rw[<-Nat.add_assoc]
  exact h4.congr fun s n q1 q2=>Ww (m:=sb+nb) g6.symm .o
 ·rw[<-Zau,<-Zau,g4,hp]
  simp only[Zap,Zbz]
  omega
 ·have key:∀M:List Keyed,M.drop lo=(M.drop (sb+nb)).drop (lo - (sb+nb)):=fun M=>by
   rw[ZeX]
   congr 1
   omega
  rw[key,key (arrOf st).toList,g6]
theorem RS.push {st:SortSt}{lo n:Nat}(R:RS a₀ κ r st lo) (n1:1<=n) (hz:lo+n<=a₀.size) (S:Pw r (seg (arrOf st).toList lo n)):RS a₀ κ r (setPending st ((pendingOf st).push (lo,n,0))) (lo+n):=by
 refine⟨R.kind,R.perm,R.fail,?_,hz⟩
 show Runs r (arrOf st).toList ((pendingOf st).push (lo,n,0)).toList 0 (lo+n)
 rw[ZbK]
 exact Runs.app.mpr ⟨lo,R.runs,rfl,n1,S,rfl⟩
theorem IH {L:List Keyed}{pw:Nat} :∀{ps:List (Nat×Nat×Nat)}{i p q:Nat},Runs r L ps p q->Runs r L (ps.modify i fun x=> (x.fst,x.2.fst,pw)) p q
 | [],i,p,q,h=>by rw[List.modify_nil];exact h
 |x::ps,0,p,q,h=>by
  rw[List.modify_zero_cons]
  exact h
 |x::ps,i+1,p,q,⟨h1,h2,h3,h4⟩=>by
  rw[List.modify_succ_cons]
  exact⟨h1,h2,h3,IH h4⟩
theorem RS.pow {st:SortSt}{lo i pw:Nat}(R:RS a₀ κ r st lo):RS a₀ κ r (setPending st ((pendingOf st).modify i fun x=> (x.fst,x.2.fst,pw))) lo:=by
 refine⟨R.kind,R.perm,R.fail,?_,R.le⟩
 show Runs r (arrOf st).toList ((pendingOf st).modify i fun x=> (x.fst,x.2.fst,pw)).toList 0 lo
 rw[Array.toList_modify]
 exact IH R.runs
theorem X6 {xs ys:Array Keyed}{lo:Nat}(h:∀k,k<lo->xs[k]? =ys[k]?):xs.toList.take lo=ys.toList.take lo:=by
 refine List.ext_getElem? fun k=> ?_
 by_cases hk:k<lo
 ·rw[Zch hk,Zch hk,ZaP,ZaP]
  exact h k hk
 ·rw[List.getElem?_eq_none (by rw[ZaS];omega),List.getElem?_eq_none (by rw[ZaS];omega)]
theorem CB.rs {st ae:SortSt}{lo:Nat}(R:RS a₀ κ r st lo) (B:CB a₀ κ lo st ae):RS a₀ κ r ae lo:=by
 refine⟨B.kind,B.perm,B.fail.trans R.fail,?_,R.le⟩
 rw[B.pend]
 exact R.runs.congr fun s n q1 q2=>Il (X6 fun k hk=> (B.pre k hk).symm) q2
theorem W3 {st:SortSt}{Q:Unit->SortSt->Prop}(o:Ord r) (hc:jd prog w A E s κ a₀ r) (h2:2<=a₀.size) (k0:kindOf st=κ) (p0:(arrOf st).Perm a₀) (f0:failedOf st=none) (e0:pendingOf st= #[])
  (h:∀ae,(arrOf ae).Perm a₀->failedOf ae=none->Pw r (arrOf ae).toList->Q () ae):wpS (model prog w) A E s sortRuns' Q st:=by
 rw[sortRuns'_eq]
 dsimp only
 refine Zay (ZfS ?_)
 have z0:(arrOf st).size=a₀.size:=p0.size_eq
 rw[z0]
 generalize minRun' a₀.size a₀.size 0=mr
 refine Zay (Ze0 (ZbY (I:=fun x c aw=> ∃lo,c=(none,lo)/\RS a₀ κ r aw lo/\x<=lo) (Q:=fun c aw=>c=(none,a₀.size)/\RS a₀ κ r aw a₀.size) ?step ?fin ⟨0,rfl,⟨k0,p0,f0,by rw[e0];exact rfl,ZaV _⟩,Zae _⟩) ?post)
 case fin=>
  rintro c aw ⟨lo,rfl,R,hx⟩
  rw[ZbC (ZaV _)]at hx
  have:=R.le
  obtain rfl:lo=a₀.size:=.o
  exact⟨rfl,R⟩
 case step=>
  rintro x c aw _ hx ⟨lo,rfl,R1,zY⟩
  dsimp only
  by_cases dH:lo>=a₀.size
  ·rw[ZaY dH]
   have:=R1.le
   obtain rfl:lo=a₀.size:=.o
   exact ZaD ⟨rfl,R1⟩
  rw[ZaK dH]
  refine Zay (Ua o hc (st:=aw) ⟨R1.kind,rfl,rfl,R1.perm,fun _ _=>rfl⟩ .o .o fun found au B2 f1 f2 S=> ?_)
  dsimp only
  by_cases az:found<mr
  ·rw[ZaY az]
   refine Zay (Zha (Zee ⟨rfl,?_⟩))
   have eW:found<=min (a₀.size - lo) mr:=.o
   have Qp:min (a₀.size - lo) mr<=a₀.size - lo:=.o
   generalize min (a₀.size - lo) mr=n at eW Qp
   refine Zay (Wj o hc B2 f1 eW .o S fun cK B3 S3=> ?_)
   rw[ZaK .d]
   have R2:=CB.rs R1 B3
   have S2:=S3.pw
   have n1:1<=n:=.o
   clear S3 B3 B2 S
   clear au
   revert R2 S2
   generalize cK=au
   intro R2 S2
   refine Zay (ZfS ?_)
   cases hb:(pendingOf au).back? with
   |none=>
    try dsimp only
    exact Zay (ZeW (ZaD ⟨_,rfl,R2.push n1 .o S2,.o⟩))
   |some z=>
    obtain⟨s1,m1,p1⟩:=z
    try dsimp only
    refine Zay (Ze0 (ZbY (I:=fun _ c ae=>c=(none,())/\RS a₀ κ r ae lo/\(arrOf ae).toList.drop lo=(arrOf au).toList.drop lo) (Q:=fun c ae=>c=(none,())/\RS a₀ κ r ae lo/\(arrOf ae).toList.drop lo=(arrOf au).toList.drop lo) ?_ (fun c ae hh=>hh) ⟨rfl,R2,rfl⟩) ?_)
    ·rintro y c ae _ _ ⟨rfl,R,hd⟩
     refine Zay (ZfS ?_)
     by_cases hs:(pendingOf ae).size>1
     ·rw[ZaY hs]
      cases hq:(pendingOf ae)[(pendingOf ae).size - 2]? with
      |none=>exact ZaD ⟨rfl,R,hd⟩
      |some z=>
       obtain⟨z1,z2,Nc⟩:=z
       dsimp only
       split
       ·exact ZaD ⟨rfl,R,hd⟩
       ·refine Zay (R.merge o hc .o fun dm tM _ AN=> ?_)
        rw[ZaK .d]
        exact ZaD ⟨rfl,tM,AN.trans hd⟩
     ·rw[ZaK hs]
      exact ZaD ⟨rfl,R,hd⟩
    rintro c ae ⟨rfl,R,hd⟩
    dsimp only
    refine Zay (ZeW (Zay (ZeW (ZaD ⟨_,rfl,R.pow.push n1 .o ?_,.o⟩))))
    show Pw r (seg (arrOf ae).toList lo _)
    rw[Ww (L':=(arrOf au).toList) hd (Zae _)]
    exact S2
  ·rw[ZaK az]
   have R2:=CB.rs R1 B2
   have S2:=S.pw
   have n1:=f1
   clear S B2
   clear R1
   refine Zay (ZfS ?_)
   cases hb:(pendingOf au).back? with
   |none=>
    try dsimp only
    exact Zay (ZeW (ZaD ⟨_,rfl,R2.push n1 .o S2,.o⟩))
   |some z=>
    obtain⟨s1,m1,p1⟩:=z
    try dsimp only
    refine Zay (Ze0 (ZbY (I:=fun _ c ae=>c=(none,())/\RS a₀ κ r ae lo/\(arrOf ae).toList.drop lo=(arrOf au).toList.drop lo) (Q:=fun c ae=>c=(none,())/\RS a₀ κ r ae lo/\(arrOf ae).toList.drop lo=(arrOf au).toList.drop lo) ?_ (fun c ae hh=>hh) ⟨rfl,R2,rfl⟩) ?_)
    ·rintro y c ae _ _ ⟨rfl,R,hd⟩
     refine Zay (ZfS ?_)
     by_cases hs:(pendingOf ae).size>1
     ·rw[ZaY hs]
      cases hq:(pendingOf ae)[(pendingOf ae).size - 2]? with
      |none=>exact ZaD ⟨rfl,R,hd⟩
      |some z=>
       obtain⟨z1,z2,Nc⟩:=z
       dsimp only
       split
       ·exact ZaD ⟨rfl,R,hd⟩
       ·refine Zay (R.merge o hc .o fun dm tM _ AN=> ?_)
        rw[ZaK .d]
        exact ZaD ⟨rfl,tM,AN.trans hd⟩
     ·rw[ZaK hs]
      exact ZaD ⟨rfl,R,hd⟩
    rintro c ae ⟨rfl,R,hd⟩
    dsimp only
    refine Zay (ZeW (Zay (ZeW (ZaD ⟨_,rfl,R.pow.push n1 .o ?_,.o⟩))))
    show Pw r (seg (arrOf ae).toList lo _)
    rw[Ww (L':=(arrOf au).toList) hd (Zae _)]
    exact S2
 case post=>
  rintro c aw ⟨rfl,R1⟩
  dsimp only
  refine Zay (Ze0 (ZbY (I:=fun x c ae=>c=(none,())/\RS a₀ κ r ae a₀.size/\(pendingOf ae).size+x<=a₀.size) (Q:=fun c ae=>c=(none,())/\RS a₀ κ r ae a₀.size/\(pendingOf ae).size<=1) ?_ ?_ ⟨rfl,R1,by have:=R1.runs.le;rw[Zau]at this;omega⟩) ?_)
  ·rintro x c ae _ _ ⟨rfl,R,hx⟩
   refine Zay (ZfS ?_)
   by_cases hs:(pendingOf ae).size<=1
   ·rw[ZaY hs]
    exact ZaD ⟨rfl,R,hs⟩
   rw[ZaK hs]
   have idx:∀c:Prop,∀_:Decidable c,(if c then (pendingOf ae).size - 2 - 1 else (pendingOf ae).size - 2)+1< (pendingOf ae).size:=fun c _=>by split<;>omega
   refine Zay (R.merge o hc (idx _ _) fun dm tM z'' _=> ?_)
   rw[ZaK .d]
   exact ZaD ⟨rfl,tM,.o⟩
  ·rintro c ae ⟨rfl,R,hx⟩
   rw[ZbC (ZaV _)]at hx
   exact⟨rfl,R,.o⟩
  rintro c ae ⟨rfl,R,hs⟩
  refine ZaD (h ae R.perm R.fail ?_)
  have hr:=R.runs
  have hl:(pendingOf ae).toList.length<=1:=by rw[Zau];exact hs
  match hp:(pendingOf ae).toList,hl with
  | [],_=>
   rw[hp]at hr
   have:0=a₀.size:=hr
   omega
  | [x],_=>
   rw[hp]at hr
   obtain⟨q1,q2,q3,q4⟩:=hr
   have q4':0+x.2.1=a₀.size:=q4
   rw[q1]at q3
   have:seg (arrOf ae).toList 0 x.2.1=(arrOf ae).toList:=by
    unfold seg
    rw[ZeV,ZbZ (by rw[Zau,R.perm.size_eq];omega)]
   rw[this]at q3
   exact q3
  |_::_::_,h=>simp at h
end
end PyProof.Rows.fO
namespace PyProof.Rows.fO
open PySem PySem.W
section
variable {prog:Program}{w:World}{A:Around}{E:Value->Shared->Prop}{s:Shared}{κ:SortKind}{r:Keyed->Keyed->Bool}
def Cq (prog:Program) (w:World) (A:Around) (E:Value->Shared->Prop) (κ:SortKind) (r:Keyed->Keyed->Bool) (a:Addr) (h:Heap) (vs:List Value):Prop:=
 ∀s6:Shared,(∀b o,b≠a->h.get? b=some o->s6.heap.get? b=some o)->(2<=vs.length->∀Q:SortKind->Shared->Prop,Q κ s6->wpAny (model prog w) A (keyKind' vs.toArray) Q E s6)/\jd prog w A E s6 κ (pairsOf vs) r
theorem ZaM (o:Ord r) {a:Addr}{vs:List Value}{n:Nat}{P:PySem.Fin->Shared->Prop}(ho:s.heap.get? a=some (seqObj "list" vs.toArray n)) (hc:Cq prog w A E κ r a s.heap vs) (hz:vs.length<=1000)
  (h:∀xs:Array Keyed,xs.Perm (pairsOf vs)->Pw r xs.toList->P (.done (.ret .none)) {s with heap:=sortedHeap s.heap a vs (xs.map (·.2))}):
  wpAny (model prog w) A (Builtin.«list.sort» ⟨[.ref a],[]⟩) P E s:=by
 rw[list_sort_plain]
 have ha:a<s.heap.objs.size:=Zaq ho
 have rR:vs.toArray.size<=sizeLine:=by rw[Zaj,ZaH];omega
 refine Zaa (listItems_at ho rfl ?_)
 refine Zaa (listUpdate_at ho rfl ?_ rR)
 obtain⟨e1,pM⟩:∃e1,(s.heap.update a (Obj.mapSeq fun _=> #[])).get? a=some (seqObj "list" #[] e1):=⟨_,get?_update_seq ho (fun _=> #[])⟩
 refine Zaa (seqEpoch_at pM rfl ?_)
 refine Zaa (wpAny_newTuple ?_ (by simpa using rR))
 refine Zaa (PySem.wpAny_newList ?_)
 refine ZbS ?_
 have wg:(((s.heap.update a (Obj.mapSeq fun _=> #[])).push (seqObj "tuple" vs.toArray 0)).push (seqObj "list" #[] 0)).get? a=some (seqObj "list" #[] e1):=by
  rw[Heap.get?_push_ne _ _ _ (by rw[size_push',PySem.Heap.size_update];exact ZaE (Zeh ha)),Heap.get?_push_ne _ _ _ (by rw[PySem.Heap.size_update];exact ZaE ha)]
  exact pM
 show wpAny (model prog w) A _ P E {s with heap:=((s.heap.update a (Obj.mapSeq fun _=> #[])).push (seqObj "tuple" vs.toArray 0)).push (seqObj "list" #[] 0)}
 dsimp only
 have keep:∀b o,b≠a->s.heap.get? b=some o->((((s.heap.update a (Obj.mapSeq fun _=> #[])).push (seqObj "tuple" vs.toArray 0)).push (seqObj "list" #[] 0))).get? b=some o:=fun b ob hb e=>
  Zab _ (Zab _ (by rw[Heap.get?_update_ne _ _ _ _ hb];exact e))
 obtain⟨hk,Fi⟩:=hc {s with heap:=((s.heap.update a (Obj.mapSeq fun _=> #[])).push (seqObj "tuple" vs.toArray 0)).push (seqObj "list" #[] 0)} keep
 have hsz:vs.toArray.size=vs.length:=by simp
 by_cases h2:vs.toArray.size<2
 ·rw[ZaY h2,ZaY h2]
  refine Zaa (Zaf ?_)
  rw[StateT.run_pure]
  refine Zaa (Zaf ?_)
  dsimp only
  refine Zaa (seqEpoch_at wg rfl ?_)
  refine Zaa (listUpdate_at wg rfl ?_ (hsz2:=by rw[Array.size_map];show(pairsOf vs).size<=_;rw[Zg4,ZaH];omega))
  simp only[bne_self_eq_false,Za1,Zdn]
  refine Zaf (h (pairsOf vs) (Array.Perm.refl _) ?_)
  have hl:(pairsOf vs).toList.length<2:=by rw[Zau,Zg4];omega
  match (pairsOf vs).toList,hl with
  | [],_=>exact .nil
  | [x],_=>exact Zd2 _ _
  |_::_::_,h=>exact absurd h (by simp)
 ·rw[ZaK h2,ZaK h2]
  refine Zaa (hk .o _ ?_)
  refine Zaa (Zbs (W3 (κ:=κ) (r:=r) (a₀:=pairsOf vs) (st:=SortSt.mk' κ (vs.toArray.zip vs.toArray) #[] 7 none)
   (Q:=fun _ ae=> (arrOf ae).Perm (pairsOf vs)/\failedOf ae=none/\Pw r (arrOf ae).toList) o Fi (by rw[Zg4];omega) rfl (Array.Perm.refl _) rfl rfl fun ae a1 a2 a3=> ⟨a1,a2,a3⟩) ?_ fun _ _ e=>e)
  rintro⟨⟨⟩,ae⟩ s' ⟨rfl,hp,hf,hs⟩
  dsimp only
  refine Zaa (seqEpoch_at wg rfl ?_)
  refine Zaa (listUpdate_at wg rfl ?_ (hsz2:=by refine Zcd (Nat.le_of_eq ((Array.size_map ..).trans (hp.size_eq.trans (Zg4 _)))) ?_;rw[ZaH];omega))
  rw[hf]
  simp only[bne_self_eq_false,Za1,Zdn]
  exact Zaf (h _ hp hs)
theorem X3 (o:Ord r) {l:Addr}{vs:List Value}{Q:Value->Shared->Prop}(hl:s.heap.IsList l vs.toArray) (hc:∀h' a,(∀b ob,s.heap.get? b=some ob->h'.get? b=some ob)->(∀b ob,s.heap.get? b=some ob->b≠a)->Cq prog w A.in1.in1 (fun _ _=>False) κ r a h' vs) (hz:vs.length<=1000)
  (h:∀xs:Array Keyed,xs.Perm (pairsOf vs)->Pw r xs.toList->Q (.ref (s.heap.objs.size+1)) {s with heap:=sortedAll s.heap vs (xs.map (·.2))}):
  wpAny (model prog w) A (call (.builtin "sorted") [.ref l]) Q E s:=by
 have rR:vs.length<=sizeLine:=by rw[ZaH];omega
 refine Calls.call_function_entry kind_sorted plain_sorted entry_sorted (args_sorted1 _) ?_
 unfold Builtin.«sorted»
 refine Zaa (m:=checkCount "sorted" 1 1 _) (Zaf ?_)
 refine Zaa (collect_list hl ?_ rR)
 refine Zaa (PySem.wpAny_newList ?_ rR)
 have hsz:((s.heap.push (seqObj "list" #[] 0)).update s.heap.objs.size (Obj.mapSeq (· ++vs.toArray))).objs.size=s.heap.objs.size+1:=by
  rw[PySem.Heap.size_update,size_push']
 have hoL:(((s.heap.push (seqObj "list" #[] 0)).update s.heap.objs.size (Obj.mapSeq (· ++vs.toArray))).push (seqObj "list" vs.toArray 0)).get? (s.heap.objs.size+1)=some (seqObj "list" vs.toArray 0):=by
  rw[<-hsz];exact Zat _ rfl
 show wpAny _ _ _ _ _ {s with heap:=((s.heap.push (seqObj "list" #[] 0)).update s.heap.objs.size (Obj.mapSeq (· ++vs.toArray))).push (seqObj "list" vs.toArray 0)}
 rw[hsz]
 have asks:=hc (((s.heap.push (seqObj "list" #[] 0)).update s.heap.objs.size (Obj.mapSeq (· ++vs.toArray))).push (seqObj "list" vs.toArray 0)) (s.heap.objs.size+1)
  (fun b ob e=>Zab _ (by rw[Heap.get?_update_ne _ _ _ _ (ZaE (Zaq e))];exact Zab _ e)) (fun b ob e=>ZaE (Zeh (Zaq e)))
 have TH:Cq prog w A.in1.in1 E κ r (s.heap.objs.size+1) (((s.heap.push (seqObj "list" #[] 0)).update s.heap.objs.size (Obj.mapSeq (· ++vs.toArray))).push (seqObj "list" vs.toArray 0)) vs:=fun s6 h6=>by
  obtain⟨q1,q2⟩:=asks s6 h6
  refine⟨fun g Q hq=>Zbs (q1 g Q hq) (fun _ _ x=>x) fun _ _ x=>x.elim,fun x y st Q m1 m2 hk hq=> ?_⟩
  exact Zbs (q2 x y st Q m1 m2 hk hq) (fun _ _ x=>x) fun _ _ x=>x.elim
 refine Zaa (ZbS (Zdq slot_list_sort ⟨_,hoL,rfl⟩ entry_list_sort (ZaM o hoL TH hz fun xs a1 a2=> ⟨_,rfl,?_⟩) (args_list_sort _)))
 exact Zaf ⟨_,rfl,h xs a1 a2⟩
end
def aK:List Int->List Int->Bool
 | [],[]=>false
 | [],_::_=>true
 |_::_,[]=>false
 |a::l,b::m=>if a=b then aK l m else decide (a<b)
theorem YR:∀x y,aK x y=true->aK y x=false
 | [],[],h=>by cases h
 | [],_::_,_=>rfl
 |_::_,[],h=>by cases h
 |a::l,b::m,h=>by
  unfold aK at h |-
  by_cases e:a=b
  ·rw[ZaY e]at h
   rw[ZaY e.symm]
   exact YR l m h
  ·rw[ZaK e]at h
   rw[ZaK (ZdS e)]
   have:=Zdh h
   exact ZaA .o
theorem Y5:∀x y z,aK y x=false->aK z y=false->aK z x=false
 | [],[],[],_,_=>rfl
 | [],[],_::_,_,_=>rfl
 | [],_::_,[],_,h=>by cases h
 | [],_::_,_::_,_,_=>rfl
 |_::_,[],_,h,_=>by cases h
 |_::_,_::_,[],_,h=>by cases h
 |a::l,b::m,c::n,h1,h2=>by
  unfold aK at h1 h2 |-
  by_cases e1:b=a
  ·rw[ZaY e1]at h1
   by_cases e2:c=b
   ·rw[ZaY e2]at h2
    rw[ZaY (e2.trans e1)]
    exact Y5 l m n h1 h2
   ·rw[ZaK e2]at h2
    have:=Ze1 h2
    rw[ZaK .o]
    exact ZaA .o
  ·rw[ZaK e1]at h1
   have q1:=Ze1 h1
   by_cases e2:c=b
   ·rw[ZaK .o]
    exact ZaA .o
   ·rw[ZaK e2]at h2
    have q2:=Ze1 h2
    rw[ZaK .o]
    exact ZaA .o
theorem Iy:∀x y,aK x y=false->aK y x=false->x=y
 | [],[],_,_=>rfl
 | [],_::_,h,_=>by cases h
 |_::_,[],_,h=>by cases h
 |a::l,b::m,h1,h2=>by
  unfold aK at h1 h2
  by_cases e:a=b
  ·rw[ZaY e]at h1
   rw[ZaY e.symm]at h2
   rw[e,Iy l m h1 h2]
  ·rw[ZaK e]at h1
   rw[ZaK (ZdS e)]at h2
   have q1:=Ze1 h1
   have q2:=Ze1 h2
   omega
theorem Xo (key:Value->List Int):Ord fun x y:Keyed=>aK (key x.1) (key y.1):=⟨fun _ _=>YR _ _,fun _ _ _=>Y5 _ _ _⟩
section
variable {prog:Program}{w:World}{A:Around}{s:Shared}{b:Bool}{Q:Bool->Shared->Prop}
theorem Xl {c:Bool}{x y:Int}{t u:Tok}(h:Q (decide (x<y)) s):wpAny (model prog w) A (oneLt' c (.int x t) (.int y u)) Q (fun _ _=>False) s:=by
 cases c with
 |true=>exact oneLt_int h
 |false=>exact kat_one _ _ (lt_int (Q:=PySem.W.BoolBack Q) h)
theorem IZ {fin:Bool} :∀{us vs:List Value}{xs ys:List Int}{i:Nat},IntsAre us xs->IntsAre vs ys->fin=decide (xs.length<ys.length)->Q (aK xs ys) s->KatLex prog w A b fin Q (us.zip vs) i s
 |_,_,_,_,i,.nil,.nil,hf,h=>by
  subst hf
  exact h
 |_,_,_,_,i,.nil,.cons _ _ _,hf,h=>by
  subst hf
  exact h
 |_,_,_,_,i,.cons _ _ _,.nil,hf,h=>by
  subst hf
  exact h
 |_,_,_,_,i,.cons x t ix,.cons y u iy,hf,h=>by
  rw[Zes]
  refine kat_cons (Zdz (A:=A) (s:=s) x t y u _ _ _ _ ?_)
  unfold aK at h
  by_cases e:x=y
  ·rw[ZaY e]at h
   rw[Zdk.mpr e]
   exact kat_yes (IZ ix iy (by rw[hf];exact decide_eq_decide.mpr (by simp only[Zbz];omega)) h)
  ·rw[ZaK e]at h
   rw[beq_eq_false_iff_ne.mpr e]
   exact kat_no (Xl h)
end
end PyProof.Rows.fO
namespace L2
open PySem PySem.Spec PyProof.Rows PyProof.Rows.fO
def dc (H:Hp) (v:V) (k:List Int):Prop:=∃t:Addr,v=.ref t/\H t=some (.tup (k.map V.int))
theorem dc.same {H H':Hp}{v:V}{k:List Int}(h:dc H v k) (s:ag H H'):dc H' v k:=by
 obtain⟨t,e,h1⟩:=h
 exact⟨t,e,s _ _ h1⟩
def fw (h:Heap):Value->List Int
 | .ref t=>match h.get? t with
  |some o=>match o.data with
   | .seq aa _=>aa.toList.map numOf
   |_=> []
  |none=> []
 |_=> []
theorem Y6 {h:Heap}{t:Addr}{o:Obj}{aa:Array Value}{n:Nat}{k:List Int}(e:h.get? t=some o) (d:o.data=.seq aa n) (i:IntsAre aa.toList k):fw h (.ref t)=k:=by
 unfold fw
 dsimp only
 rw[e]
 dsimp only
 rw[d]
 dsimp only
 clear d e
 generalize aa.toList=us at i
 induction i with
 |nil=>rfl
 |cons x t _ ih=>rw[ZbJ,ih];rfl
def toV:Value->V
 | .ref t=> .ref t
 |_=> .ah
def aaa (h:Heap) (u:Value) (k:List Int):Prop:=∃(t:Addr) (o:Obj) (aa:Array Value) (n:Nat),u=.ref t/\h.get? t=some o/\o.cls=.type "tuple" /\o.data=.seq aa n/\IntsAre aa.toList k
theorem YY {α β:Type}{R:α->β->Prop} :∀{xs:List α}{ys:List β}{x:α},Paired R xs ys->x∈xs->∃y∈ys,R x y
 |_,_,_,.cons h r,m=>by
  rcases Zao.mp m with rfl |m
  ·exact⟨_,Zas,h⟩
  ·obtain⟨y,hy,q⟩:=YY r m
   exact⟨y,Zan _ hy,q⟩
theorem Jo {α β:Type}{R:α->β->Prop}{f:α->β} :∀{xs:List α}{ys:List β},Paired R xs ys->(∀x y,R x y->f x=y)->xs.map f=ys
 |_,_,.nil,_=>rfl
 |_,_,.cons h r,e=>by rw[ZbJ,e _ _ h,Jo r e]
theorem J6 {vs:List Value}{p:Keyed}(h:p∈(pairsOf vs).toList):p.1∈vs/\p.2=p.1:=by
 unfold pairsOf at h
 rw[Array.toList_zip,List.toList_toArray]at h
 have:∀(l:List Value),p∈l.zip l->p.1∈l/\p.2=p.1:=fun l=>by
  induction l with
  |nil=>intro h;cases h
  |cons a l ih=>
   intro h
   rw[Zes]at h
   rcases Zao.mp h with rfl |h
   ·exact⟨Zas,rfl⟩
   ·exact⟨Zan _ (ih h).1,(ih h).2⟩
 exact this vs h
abbrev I4:=Int×Int×Int×Int
def br (q:I4):List Int:=[q.1,q.2.1,q.2.2.1,q.2.2.2]
theorem Xi {a b:I4}(h:br a=br b):a=b:=by
 obtain⟨a1,a2,a3,a4⟩:=a
 obtain⟨b1,b2,b3,b4⟩:=b
 simp only[br,List.cons.injEq,and_true]at h
 obtain⟨h1,h2,h3,h4⟩:=h
 subst h1 h2 h3 h4
 rfl
def nZ (H:Hp) (v:V) (q:I4):Prop:=∃t t':Addr,v=.ref t/\H t=some (.tup [.ref t',.int q.2.2.1,.int q.2.2.2])/\H t'=some (.tup [.int q.1,.int q.2.1])
def kD (h:Heap) (u:Value) (k:I4):Prop:=∃(t:Addr) (o:Obj) (n:Nat) (t':Addr) (o':Obj) (n':Nat) (k1 k2 k3 k4:Tok),u=.ref t/\h.get? t=some o/\o.cls=.type "tuple" /\o.data=.seq #[.ref t',.int k.2.2.1 k3,.int k.2.2.2 k4] n/\
 h.get? t'=some o'/\o'.cls=.type "tuple" /\o'.data=.seq #[.int k.1 k1,.int k.2.1 k2] n'
theorem kD.keep {h h':Heap}{u:Value}{k:I4}{a:Addr}(x:kD h u k) (kp:∀b o,b≠a->h.get? b=some o->h'.get? b=some o) (na:∀b o,h.get? b=some o->b≠a):kD h' u k:=by
 obtain⟨t,o,n,t',o',n',k1,k2,k3,k4,e,g,c,d,g',c',d'⟩:=x
 exact⟨t,o,n,t',o',n',k1,k2,k3,k4,e,kp t o (na t o g) g,c,d,kp t' o' (na t' o' g') g',c',d'⟩
def j4 (h:Heap):Value->List Int
 | .ref t=>match h.get? t with
  |some o=>match o.data with
   | .seq aa _=>fw h (aa.toList.getD 0 .none)++(aa.toList.drop 1).map numOf
   |_=> []
  |none=> []
 |_=> []
theorem Wr {h:Heap}{u:Value}{k:I4}(x:kD h u k):j4 h u=br k:=by
 obtain⟨t,o,n,t',o',n',k1,k2,k3,k4,rfl,g,c,d,g',c',d'⟩:=x
 have e:=Y6 g' d' (k:=[k.1,k.2.1]) (.cons _ _ (.cons _ _ .nil))
 unfold j4
 dsimp only
 rw[g]
 dsimp only
 rw[d]
 dsimp only
 show fw h (.ref t')++_=_
 rw[e]
 rfl
theorem Ur {h:Heap} :∀{us:List Value}{ks:List I4},Paired (kD h) us ks->∃fs,PySem.W.KatTups h us fs/\fs.length=us.length/\∀f∈fs,∃t o,f=.ref t/\h.get? t=some o/\o.cls=.type "tuple"
 |_,_,.nil=> ⟨[],.nil,rfl,fun f hf=>by cases hf⟩
 |_,_,.cons (a:=u) (b:=k) q r=>by
  obtain⟨t,o,n,t',o',n',k1,k2,k3,k4,e,g,c,d,g',c',d'⟩:=q
  obtain⟨fs,h1,h2,h3⟩:=Ur r
  subst e
  refine⟨.ref t'::fs,.cons g c d rfl h1,by rw[Zbz,Zbz,h2],fun f hf=> ?_⟩
  rcases Zao.mp hf with rfl |hf
  ·exact⟨_,_,rfl,g',c'⟩
  ·exact h3 f hf
theorem Zd7 (a b a' b':Int) (l m:List Int):aK (a::b::l) (a'::b'::m)=if [a,b]=[a',b'] then aK l m else HT.lexLt [a,b] [a',b']:=by
 by_cases e1:a=a'
 ·subst e1
  by_cases e2:b=b'
  ·subst e2
   simp[aK]
  ·simp[aK,e2,HT.lexLt]
 ·simp[aK,e1,HT.lexLt]
theorem V7 {A:Around}{s:Shared}{t t':Addr}{o o':Obj}{n n':Nat}{a b a' b':Int}{k1 k2 k3 k4:Tok}(hu:A.units<cLine) (g:s.heap.get? t=some o) (c:o.cls=.type "tuple") (d:o.data=.seq #[.int a k1,.int b k2] n)
  (g':s.heap.get? t'=some o') (c':o'.cls=.type "tuple") (d':o'.data=.seq #[.int a' k3,.int b' k4] n'):SeqAt.EqAt A s (.ref t) (.ref t') (decide ([a,b]=[a',b'])):=by
 by_cases h:t=t'
 ·subst h
  rw[g]at g'
  cases g'
  rw[d]at d'
  have e:a=a'/\b=b':=by
   injection d' with e1 e2
   simp at e1
   exact⟨e1.1.1,e1.2.1⟩
  rw[e.1,e.2]
  have:=SeqAt.EqAt.same (A:=A) (s:=s) (.ref t)
  simpa using this
 ·refine SeqAt.EqAt.of_refs h ?_
  have z:=SeqAt.RcAt.tuples (A:=A) (s:=s) (l:=t) (b:=t') (items:= #[.int a k1,.int b k2]) (items2:= #[.int a' k3,.int b' k4]) (e:=fun j=>if j=0 then a==a' else b==b') ⟨o,g,c,n,d⟩ ⟨o',g',c',n',d'⟩ hu (fun j h1 h2=>by
   have Rf:j<2:=h1
   match j,Rf with
   |0,_=>exact Zdz _ _ _ _
   |1,_=>exact Zdz _ _ _ _)
  have e:((List.range (min (#[Value.int a k1,Value.int b k2]:Array Value).size (#[Value.int a' k3,Value.int b' k4]:Array Value).size)).all (fun j=>if j=0 then a==a' else b==b')&&(#[Value.int a k1,Value.int b k2]:Array Value).size==(#[Value.int a' k3,Value.int b' k4]:Array Value).size)=decide ([a,b]=[a',b']):=by
   show((List.range 2).all (fun j=>if j=0 then a==a' else b==b')&&2==2)=_
   rw[Zek]
   simp[ZeF]
  rw[e]at z
  exact z
section
variable {X:Cx}
theorem JV (hu:X.A.units+2<cLine):dA X (.builtin "sorted") (fun xs H Q=> ∃(p:Addr) (vs:List V) (ks:List I4),xs=[.ref p]/\ai X.K H p vs/\Paired (nZ H) vs ks/\vs.length<=1000/\
  ∀(q:Addr) (oE:List V) (rK:List I4),H q=none->rK.Perm ks->(rK.map br).Pairwise (fun a b=>aK b a=false)->Paired (nZ H) oE rK->Q (.ref q) (upd H q (.lst oE))):=by
 intro pins s σ H xs us Q I r h
 obtain⟨p,vs,ks,rfl,hp,pr,hz,q⟩:=h
 obtain⟨u,rfl,ru⟩:=Zgc r
 cases ru
 obtain⟨aa,rv,pl,_⟩:=I.list hp
 have hl:=rv.length
 have key:∀{vs:List V}{ks:List I4}{aa:List Value},Paired (nZ H) vs ks->Vals vs aa->Paired (fun u k=>kD s.heap u k/\nZ H (toV u) k) aa ks:=by
  intro vs ks aa pr
  induction pr generalizing aa with
  |nil=>intro rv;cases rv;exact .nil
  |cons hh _ ih=>
   intro rv
   cases rv with
   |cons r1 r2=>
    refine .cons ?_ (ih r2)
    obtain⟨t,t',rfl,ht,lJ⟩:=hh
    cases r1
    obtain⟨i1,ri,⟨o,go,oc,n,od⟩,_⟩:=I.tuple (aj.of ht)
    obtain⟨i2,Mx,⟨o',go',NC,n',NA⟩,_⟩:=I.tuple (aj.of lJ)
    refine⟨?_,t,t',rfl,ht,lJ⟩
    cases ri with
    |cons a1 a2=>
     cases a2 with
     |cons a3 a4=>
      cases a4 with
      |cons a5 a6=>
       cases a6
       cases Mx with
       |cons b1 b2=>
        cases b2 with
        |cons b3 b4=>
         cases b4
         cases a1
         obtain⟨k3,rfl⟩:=a3
         obtain⟨k4,rfl⟩:=a5
         obtain⟨k1,rfl⟩:=b1
         obtain⟨k2,rfl⟩:=b3
         exact⟨t,o,n,t',o',n',k1,k2,k3,k4,rfl,go,oc,od,go',NC,NA⟩
 have tp:=key pr rv
 have tu:Paired (kD s.heap) aa ks:=Paired.dq tp fun _ _ h=>h.1
 refine X3 (κ:=tuples' false) (r:=fun x y=>aK (j4 s.heap x.1) (j4 s.heap y.1)) (Xo _) pl.isList (fun h' a kp na s6 h6=> ?_) .o fun xs Ej zX=> ?_
 ·have K1:Paired (kD s6.heap) aa ks:=Paired.dq tu fun u k x=>x.keep (a:=a) (fun b o hb e=>h6 b o hb (kp b o e)) na
  refine⟨fun h2 Q' hq=> ?_,fun x y st Q' mx my hk hq=> ?_⟩
  ·obtain⟨fs,kt,kl,kf⟩:=Ur K1
   refine PySem.W.kat_kind (T:=.type "tuple") kt .o (fun v hv=> ?_) (by rfl) hq
   obtain⟨t,o,rfl,g,c⟩:=kf v hv
   rw[<-c]
   exact(PySem.W.Looks.ld g).andThen .now
  ·rw[lt'_eq]
   refine Zay (ZfS ?_)
   rw[hk]
   obtain⟨Ob,_⟩:=J6 mx
   obtain⟨Oa,_⟩:=J6 my
   obtain⟨kx,_,nx⟩:=YY tu Ob
   obtain⟨ky,_,ny⟩:=YY tu Oa
   dsimp only at hq
   rw[Wr nx,Wr ny]at hq
   obtain⟨tx,ox,n1,K0,ox',N9,c1,c2,c3,c4,ex,gx,cx,dx,FH,Gw,Gh⟩:=nx.keep (h':=s6.heap) (a:=a) (fun b o hb e=>h6 b o hb (kp b o e)) na
   obtain⟨ty,oy,n2,KZ,oy',N8,d1,d2,d3,d4,ey,gy,cy,dy,FG,Gv,Gg⟩:=ny.keep (h':=s6.heap) (a:=a) (fun b o hb e=>h6 b o hb (kp b o e)) na
   rw[ex,ey]
   refine Zay (Zha (PySem.wpAny_attempt (PySem.W.kat_lt gx dx gy dy ?_)))
   show PySem.W.KatLex _ _ _ false (decide (3<3)) _ ((Value.ref K0,Value.ref KZ)::([Value.int kx.2.2.1 c3,Value.int kx.2.2.2 c4].zip [Value.int ky.2.2.1 d3,Value.int ky.2.2.2 d4])) 0 _
   refine PySem.W.kat_cons (V7 (A:=X.A.in1.in1) hu FH Gw Gh FG Gv Gg _ _ _ _ ?_)
   have Ay:aK (br kx) (br ky)=if [kx.1,kx.2.1]=[ky.1,ky.2.1] then aK [kx.2.2.1,kx.2.2.2] [ky.2.2.1,ky.2.2.2] else HT.lexLt [kx.1,kx.2.1] [ky.1,ky.2.1]:=Zd7 ..
   rw[Ay]at hq
   by_cases e:[kx.1,kx.2.1]=[ky.1,ky.2.1]
   ·rw[ZaY e]at hq
    rw[ZaR e]
    exact PySem.W.kat_yes (IZ (xs:=[kx.2.2.1,kx.2.2.2]) (ys:=[ky.2.2.1,ky.2.2.2]) (.cons _ _ (.cons _ _ .nil)) (.cons _ _ (.cons _ _ .nil)) rfl ⟨rfl,ZaD hq⟩)
   ·rw[ZaK e]at hq
    rw[ZaA e]
    exact PySem.W.kat_no (PySem.W.kat_one _ _ (HT.DU ⟨_,FH,Gw,N9,Gh⟩ ⟨_,FG,Gv,N8,Gg⟩ (ns:=[kx.1,kx.2.1]) (ms:=[ky.1,ky.2.1]) (.cons _ _ (.cons _ _ .nil)) (.cons _ _ (.cons _ _ .nil)) hu ⟨rfl,ZaD hq⟩))
 ·have ck:∀pq∈xs.toList,pq.1∈aa/\pq.2=pq.1:=fun pq Aj=>J6 ((Zco.mp Ej).mem_iff.mp Aj)
  have eo:(xs.map (·.2)).toList=xs.toList.map (·.1):=by
   rw[Array.toList_map]
   exact List.map_congr_left fun pq Aj=> (ck pq Aj).2
  have po:(xs.toList.map (·.1)).Perm aa:=by
   refine List.Perm.trans ((Zco.mp Ej).map _) ?_
   unfold pairsOf
   rw[Array.toList_zip,List.toList_toArray]
   have:∀l:List Value,(l.zip l).map (·.1)=l:=fun l=>by
    induction l with
    |nil=>rfl
    |cons a l ih=>rw[Zes,ZbJ,ih]
   rw[this]
  generalize aaD:xs.map (·.2)=out at eo
  let kk:Value->I4:=fun u=>match j4 s.heap u with
   | [a,b,c,d]=> (a,b,c,d)
   |_=> (0,0,0,0)
  have ET:∀u k,kD s.heap u k->kk u=k:=fun u k x=>by
   show(match j4 s.heap u with
    | [a,b,c,d]=> (a,b,c,d)
    |_=> (0,0,0,0))=k
   rw[Wr x]
   rfl
  have ek:aa.map kk=ks:=Jo tu ET
  have rel:∀u∈out.toList,nZ H (toV u) (kk u)/\br (kk u)=j4 s.heap u/\RelV (toV u) u:=fun u hu=>by
   rw[eo]at hu
   obtain⟨k,_,hT,hS⟩:=YY tp (po.mem_iff.mp hu)
   have e:=ET u k hT
   rw[e]
   refine⟨hS,(Wr hT).symm,?_⟩
   obtain⟨t,t',e2,_⟩:=hS
   obtain⟨t2,_,_,_,_,_,_,_,_,_,e3,_⟩:=hT
   subst e3
   rfl
  have vals:∀l:List Value,(∀u∈l,nZ H (toV u) (kk u)/\br (kk u)=j4 s.heap u/\RelV (toV u) u)->Vals (l.map toV) l/\Paired (nZ H) (l.map toV) (l.map kk)/\(l.map kk).map br=l.map (j4 s.heap):=fun l=>by
   induction l with
   |nil=>intro _;exact⟨.nil,.nil,rfl⟩
   |cons u l ih=>
    intro hl
    obtain⟨i1,i2,i3⟩:=ih fun v hv=>hl v (Zan _ hv)
    obtain⟨a1,a2,a3⟩:=hl u Zas
    exact⟨.cons a3 i1,.cons a1 i2,by rw[ZbJ,ZbJ,ZbJ,i3,a2]⟩
  obtain⟨v1,v2,v3⟩:=vals out.toList rel
  obtain⟨e,he⟩:=sortedAll_at s.heap aa out
  have lo:out.toList.length=aa.length:=by rw[eo];exact po.length_eq
  have hlen:(out.toList.map toV).length<=sizeLine:=by rw[Zar,lo,ZaH];omega
  refine⟨.ref (s.heap.objs.size+1),_,I.laid (t':=s.toks) (a:=s.heap.objs.size+1) (o:=.lst (out.toList.map toV)) (fun b o=>sortedAll_old) (Nat.le_succ _) ⟨hlen,out.toList,e,v1,by simpa using he⟩,rfl,q _ _ (out.toList.map kk) (I.ak.fresh (Nat.le_succ _)) ?_ ?_ v2⟩
  ·rw[<-ek,eo]
   exact po.map _
  ·rw[v3,eo,List.map_map,Zdl]
   exact zX
end
end L2
namespace PyProof.Rows.fO
open PySem
def i5 (lt:Value->Value->Bool):Value->List Value->Value
 |b,[]=>b
 |b,v::r=>i5 lt (if lt v b=true then v else b) r
section
variable {prog:Program}{w:World}{A:Around}{R:Result->Shared->Prop}{lt:Value->Value->Bool}{vs:List Value}{h0:Heap}{kw:List (Str×Value)}
def Kp (h0 h:Heap):Prop:=∀b o,h0.get? b=some o->h.get? b=some o
theorem ZdY (hh:A.in1.handled=none) {I l S:Addr}(wm:l≠I) (nH:S≠I) (wI:S≠l) (zI:h0.get? I=none) (zS:h0.get? S=none)
  (AO:∀(s':Shared) u v (Q:Value->Shared->Prop) (E:Value->Shared->Prop),Kp h0 s'.heap->u∈vs->v∈vs->Q (.bool (lt u v)) s'->wpAny (model prog w) A.in1 (richCompare .Lt u v) Q E s'):
  ∀(k j:Nat) (s:Shared) (vb:Value) (c:Nat),vs.length - j=k->j<=vs.length->s.heap.IsListIter I l j->s.heap.IsList l vs.toArray->vb∈vs->Kp h0 s.heap->
  s.heap.get? S=some {cls:=.type "list",dict:=none,data:=.seq #[vb,vb] c,slots:= #[]}->
  (∀h' tk,Kp h0 h'->R (.ok (.ret (i5 lt vb (vs.drop j)))) {s with heap:=h',toks:=tk})->
  codeAny (model prog w) A (.builtin "min.loop" ⟨[.ref I,.none,.ref S],kw⟩) R s:=by
 have rY:(toString "min" ++toString ".loop" :String)= "min.loop" :=.d
 have W:=PySem.Walks.list (prog:=prog) (w:=w) (A:=A.in1) hh I l wm vs.toArray
 have hsz:vs.toArray.size=vs.length:=Zaj ..
 have ne:∀b o,h0.get? b=some o->b∉[I]/\b≠S:=fun b o e=> ⟨fun m=> (by rw[Zax.mp m,zI]at e;cases e),fun m=> (by rw[m,zS]at e;cases e)⟩
 intro k
 induction k with
 |zero=>
  intro j s vb c hk hj hit pP hb Av hS hR
  have su:j=vs.toArray.size:=.o
  refine Zck F.entry_min_loop ?_
  rw[Zb0 ZfU _]
  show wpAny _ A.in1 (seqItems? (.ref S) >>=_) _ _ s
  refine Zaa (Zb7 hS rfl ?_)
  show wpAny _ A.in1 (tryCatch (pyNext (.ref I)) _ >>=_) _ _ s
  refine Zaa (Zfe (W.done s _ _ (su▸⟨hit,pP⟩) fun h' tk aP=> ?_))
  have dY:=aP S _ (by simpa using nH) hS
  show wpAny _ A.in1 (updateSeq S (fun _=> #[]) >>=_) _ _ _
  refine Zaa ?_
  refine PySem.wpAny_updateSeq dY rfl (Zaa (Zf7 (Zaf ?_)))
  have e:vs.drop j=[]:=ZbX .o
  rw[e]at hR
  exact hR _ tk fun b o q=> (ZbP _ _ (ZdS (ne b o q).2)).trans (aP b o (ne b o q).1 (Av b o q))
 |succ k ih=>
  intro j s vb c hk hj hit pP hb Av hS hR
  have az:j<vs.length:=.o
  refine Zck F.entry_min_loop ?_
  rw[Zb0 ZfU _]
  show wpAny _ A.in1 (seqItems? (.ref S) >>=_) _ _ s
  refine Zaa (Zb7 hS rfl ?_)
  show wpAny _ A.in1 (tryCatch (pyNext (.ref I)) _ >>=_) _ _ s
  refine Zaa (Zfe (W.item j s _ _ .o ⟨hit,pP⟩ fun v h' tk hP ig aP=> ?_))
  have hv:vs[j]? =some v:=by simpa using hP
  have El:v∈vs:=ZaX hv
  have dY:=aP S _ (by simpa using nH) hS
  have rM:Kp h0 h':=fun b o q=>aP b o (ne b o q).1 (Av b o q)
  have ed:vs.drop j=v::vs.drop (j+1):=by
   have e2:vs[j]=v:=(Zad.mp hv).2
   rw[Zdt az,e2]
  rw[ed]at hR
  show wpAny _ A.in1 (tryCatch (holding [v,v] (richCompare .Lt v vb >>=_)) _ >>=_) _ _ _
  refine Zaa (Zfe (ZbS (Zaa (AO _ v vb _ _ rM El hb ?_))))
  refine Zaa (ZbS (Zdr ?_))
  refine Zaa (Zf7 (Zaf ?_))
  cases cw:lt v vb with
  |true=>
   simp only[Ze2]
   refine Zaa ?_
   refine PySem.wpAny_updateSeq dY rfl (Zaa (Zf7 ?_))
   rw[rY]
   have fr:=W.frame (j+1) _ (h'.update S (Obj.mapSeq fun _=> #[v,v])) ig fun b sO o e=> (ZbP _ _ (fun h:S=b=>by
    simp only[Zao,Zbc,Zdo]at sO
    rcases sO with q |q
    ·exact nH (h.trans q)
    ·exact wI (h.trans q))).trans e
   refine Zaf ⟨Zev ZfU _,ih (j+1) _ v _ .o az fr.1 fr.2 El (fun b o q=> (ZbP _ _ (ZdS (ne b o q).2)).trans (rM b o q)) (Zdi _ dY rfl) fun eX qG eV=> ?_⟩
   have z:=hR eX qG eV
   unfold i5 at z
   rw[ZaY cw]at z
   exact z
  |false=>
   simp only[Za1,Zdn]
   refine Zaa (Zf7 ?_)
   rw[rY]
   refine Zaf ⟨Zev ZfU _,ih (j+1) _ vb c .o az ig.1 ig.2 hb rM dY fun eX qG eV=> ?_⟩
   have z:=hR eX qG eV
   unfold i5 at z
   rw[ZaK (by rw[cw];exact Zaw)]at z
   exact z
theorem We (a v:Value):argsOk "min" ⟨[a],[(Str.ofString "default",v)]⟩:=by unfold argsOk;kernel_rfl
theorem Zc9 {E:Value->Shared->Prop}{s:Shared}{Q:Value->Shared->Prop}{l:Addr}(hh:A.in1.handled=none) (Aq:s.heap.IsList l vs.toArray)
  (AO:∀(s':Shared) u v (Q:Value->Shared->Prop) (E:Value->Shared->Prop),Kp s.heap s'.heap->u∈vs->v∈vs->Q (.bool (lt u v)) s'->wpAny (model prog w) A.in1 (richCompare .Lt u v) Q E s')
  (h1:∀h' tk,vs=[]->Kp s.heap h'->Q .none {s with heap:=h',toks:=tk}) (h2:∀v r h' tk,vs=v::r->Kp s.heap h'->Q (i5 lt v r) {s with heap:=h',toks:=tk}):
  wpAny (model prog w) A (call (.builtin "min") [.ref l] [(Str.ofString "default",.none)]) Q E s:=by
 have rY:(toString "min" ++toString ".loop" :String)= "min.loop" :=.d
 obtain⟨ol,we,_⟩:=id Aq
 have EL:l<s.heap.objs.size:=Zaq we
 refine kmk_tree PySem.F.kind_min PySem.F.plain_min PySem.F.entry_min (We _ _) ?_
 show wpAny _ A.in1 (Builtin.Builtins.bindParams "min" ["key", "default"] 0 ⟨[],[(Str.ofString "default",.none)]⟩ >>=_) _ _ s
 refine Zaa (PySem.wpAny_of_eq (show Builtin.Builtins.bindParams "min" ["key", "default"] 0 ⟨[],[(Str.ofString "default",.none)]⟩=pure [none,some .none] from rfl) ?_)
 refine Zaa (Zaf ?_)
 refine Zaa (Ze8 Aq ?_)
 refine Zaa (PySem.wpAny_newList ?_ (ZaV _))
 rw[rY]
 have hS:(s.heap.push {cls:=.type "list_iterator",data:=.fields #[.ref l,.int 0 0]}).objs.size=s.heap.objs.size+1:=size_push' ..
 have wm:l≠s.heap.objs.size:=ZaE EL
 have nH:(s.heap.push {cls:=.type "list_iterator",data:=.fields #[.ref l,.int 0 0]}).objs.size≠s.heap.objs.size:=by rw[hS];exact Nat.ne_of_gt (Nat.lt_succ_self _)
 have wI:(s.heap.push {cls:=.type "list_iterator",data:=.fields #[.ref l,.int 0 0]}).objs.size≠l:=by rw[hS];exact Nat.ne_of_gt (Zeh EL)
 have zI:s.heap.get? s.heap.objs.size=none:=PySem.Heap.get?_none_of_le (Zae _)
 have zS:s.heap.get? (s.heap.push {cls:=.type "list_iterator",data:=.fields #[.ref l,.int 0 0]}).objs.size=none:=PySem.Heap.get?_none_of_le (by rw[hS];exact Nat.le_succ _)
 refine Zaf ⟨Zev PySem.F.plain_min_loop _,?_⟩
 have zR:Kp s.heap ((s.heap.push {cls:=.type "list_iterator",data:=.fields #[.ref l,.int 0 0]}).push (seqObj "list" #[] 0)):=fun b o e=>Zab _ (Zab _ e)
 have gI:((s.heap.push {cls:=.type "list_iterator",data:=.fields #[.ref l,.int 0 0]}).push (seqObj "list" #[] 0)).get? s.heap.objs.size=some {cls:=.type "list_iterator",data:=.fields #[.ref l,.int 0 0]} :=
  Zab _ (Zat _ rfl)
 have gS:((s.heap.push {cls:=.type "list_iterator",data:=.fields #[.ref l,.int 0 0]}).push (seqObj "list" #[] 0)).get? (s.heap.push {cls:=.type "list_iterator",data:=.fields #[.ref l,.int 0 0]}).objs.size=some (seqObj "list" #[] 0):=Zat _ rfl
 have lH:((s.heap.push {cls:=.type "list_iterator",data:=.fields #[.ref l,.int 0 0]}).push (seqObj "list" #[] 0)).IsList l vs.toArray:=Aq.at fun o e=>zR _ _ e
 have W:=PySem.Walks.list (prog:=prog) (w:=w) (A:=A.in1) hh s.heap.objs.size l wm vs.toArray
 have hsz:vs.toArray.size=vs.length:=Zaj ..
 have ne:∀b o,s.heap.get? b=some o->b∉[s.heap.objs.size]/\b≠(s.heap.push {cls:=.type "list_iterator",data:=.fields #[.ref l,.int 0 0]}).objs.size:=fun b o e=> ⟨fun m=> (by rw[Zax.mp m,zI]at e;cases e),fun m=> (by rw[m,zS]at e;cases e)⟩
 refine Zck PySem.F.entry_min_loop ?_
 rw[Zb0 PySem.F.plain_min_loop _]
 show wpAny _ A.in1 (seqItems? (.ref _) >>=_) _ _ _
 refine Zaa (Zb7 gS rfl ?_)
 show wpAny _ A.in1 (tryCatch (pyNext (.ref s.heap.objs.size)) _ >>=_) _ _ _
 cases lI:vs with
 |nil=>
  refine Zaa (Zfe (W.done _ _ _ ⟨⟨_,gI,rfl,by rw[hsz,lI];rfl⟩,lH⟩ fun h' tk aP=> ?_))
  refine Zaa (Zee ?_)
  exact Zaf (h1 h' tk lI fun b o q=>aP b o (ne b o q).1 (zR b o q))
 |cons v0 r0=>
  refine Zaa (Zfe (W.item 0 _ _ _ (by rw[hsz,lI];exact Nat.succ_pos _) ⟨⟨_,gI,rfl,rfl⟩,lH⟩ fun v h' qH hP ig aP=> ?_))
  have hv:v0=v:=by
   rw[lI]at hP
   simpa using hP
  subst hv
  have FJ:=aP _ _ (by simpa using nH) gS
  have rM:Kp s.heap h':=fun b o q=>aP b o (ne b o q).1 (zR b o q)
  show wpAny _ A.in1 (updateSeq (s.heap.push {cls:=.type "list_iterator",data:=.fields #[.ref l,.int 0 0]}).objs.size (fun _=> #[v0,v0]) >>=_) _ _ _
  refine Zaa ?_
  refine PySem.wpAny_updateSeq FJ rfl ?_
  rw[rY]
  have fr:=W.frame (0+1) _ (h'.update (s.heap.push {cls:=.type "list_iterator",data:=.fields #[.ref l,.int 0 0]}).objs.size (Obj.mapSeq fun _=> #[v0,v0])) ig fun b sO o e=> (ZbP _ _ (fun h=>by
    simp only[Zao,Zbc,Zdo]at sO
    rcases sO with q |q
    ·exact nH (h.trans q)
    ·exact wI (h.trans q))).trans e
  refine Zaf ⟨Zev PySem.F.plain_min_loop _,ZdY (lt:=lt) (vs:=vs) (h0:=s.heap) hh wm nH wI zI zS AO _ 1 _ v0 _ rfl (by rw[lI];exact Nat.succ_le_succ (ZaV _)) fr.1 fr.2 (by rw[lI];exact Zas) (fun b o q=> (ZbP _ _ (ZdS (ne b o q).2)).trans (rM b o q)) (Zdi _ FJ rfl) fun eX qG eV=> ?_⟩
  have z:=h2 v0 r0 eX qG lI eV
  rw[lI]
  exact z
end
theorem Wg {lt:Value->Value->Bool} :∀{r:List Value}{b:Value},i5 lt b r∈b::r
 | [],b=>Zas
 |v::r,b=>by
  unfold i5
  rcases Zao.mp (Wg (lt:=lt) (r:=r) (b:=if lt v b=true then v else b)) with h |h
  ·rw[h]
   by_cases e:lt v b=true
   ·rw[ZaY e];exact Zan _ Zas
   ·rw[ZaK e];exact Zas
  ·exact Zan _ (Zan _ h)
theorem WU (key:Value->List Int):∀{r:List Value}{b:Value},∀v∈b::r,aK (key v) (key (i5 (fun a b=>aK (key a) (key b)) b r))=false
 | [],b,v,hv=>by
  rw[Zax.mp hv]
  cases h:aK (key b) (key (i5 (fun a b=>aK (key a) (key b)) b [])) with
  |false=>rfl
  |true=>
   have:=YR _ _ h
   exact absurd (h.symm.trans this) .d
 |w::r,b,v,hv=>by
  have ih:=fun v hv=>WU key (r:=r) (b:=if aK (key w) (key b)=true then w else b) v hv
  show aK (key v) (key (i5 (fun a b=>aK (key a) (key b)) (if aK (key w) (key b)=true then w else b) r))=false
  have hd:=ih _ Zas
  by_cases e:aK (key w) (key b)=true
  ·rw[ZaY e]at hd ih |-
   rcases Zao.mp hv with rfl |hv
   ·exact Y5 _ _ _ hd (YR _ _ e)
   ·exact ih v hv
  ·rw[ZaK e]at hd ih |-
   rcases Zao.mp hv with rfl |hv
   ·exact hd
   ·rcases Zao.mp hv with rfl |hv
    ·exact Y5 _ _ _ hd (by simpa using e)
    ·exact ih v (Zan _ hv)
end PyProof.Rows.fO
namespace L2
open PySem PySem.Spec PyProof.Rows PyProof.Rows.fO
theorem WO:∀a b:List Int,HT.lexLt a b=aK a b
 | [],[]=>rfl
 | [],_::_=>rfl
 |_::_,[]=>rfl
 |x::a,y::b=>by
  unfold aK
  rw[HT.DY,WO a b]
section
variable {X:Cx}
def Lo (K:ZhQ) (te:TE):TE:=fun σ H Q=>te σ H fun v H1=> ∃(a:Addr) (vs:List V) (ks:List (List Int)),v=.ref a/\ai K H1 a vs/\Paired (dc H1) vs ks/\(vs=[]->Q .ah H1)/\
 ∀v k,v∈vs->k∈ks->dc H1 v k->(∀k'∈ks,aK k' k=false)->Q v H1
theorem Xq {x:Str}{te:TE}{p px kp rL pos:Pos}(hc:X.calm=true) (hu:X.A.units+1<cLine) (hg:Gl X "min") (hm:X.mg "min" =none) (he:PE X (.Name x px) te)
  (da:(backToKw pos (keywordEach [⟨some "default",.Constant .none 0 kp,rL⟩] X.env)).filterMap (·.1)=[Str.ofString "default"]:=by rfl):
  PE X (.Call (.Name "min" p) [.Name x px] [⟨some "default",.Constant .none 0 kp,rL⟩] pos) (Lo X.K te):=by
 intro pins s σ H Q I h
 refine Zde (YD I hg hm PyProof.Rows.Boot.«min» ?_ .d .d)
 have pa:PA X [.Name x px] (oF te qI):=Za he Zb
 have pk:PK X [⟨some "default",.Constant .none 0 kp,rL⟩] (oF (tC .ah) qI):=Xs Yo T9
 refine PyProof.Rows.callWith_kw (ar (pa pos pins s σ H (fun us H1=>match us with
  | [v]=> ∃(a:Addr) (vs:List V) (ks:List (List Int)),v=.ref a/\ai X.K H1 a vs/\Paired (dc H1) vs ks/\(vs=[]->Q .ah H1)/\∀v k,v∈vs->k∈ks->dc H1 v k->(∀k'∈ks,aK k' k=false)->Q v H1
  |_=>False) I h) fun us s1 ⟨dB,H1,I1,r1,q1⟩=> ?_)
 match dB,q1 with
 | [v],q1=>
  obtain⟨a,vs,ks,rfl,hq,pr,q1,q2⟩:=q1
  refine ar (pk pos pins s1 σ H1 (fun zs H2=>zs=[.ah]/\H2=H1) I1 ⟨rfl,rfl⟩) fun ws s2 ⟨zs,H2,I2,rz,e1,e2⟩=> ?_
  subst e1 e2
  obtain⟨u,rfl,ru⟩:=Zgc r1
  obtain⟨z,rfl,Mr⟩:=Zgc rz
  cases ru
  have ez:z=.none:=Mr
  subst ez
  rw[da]
  show wpAny _ _ (call (.builtin "min") [.ref a] [(Str.ofString "default",.none)]) _ _ _
  obtain⟨aa,rv,pl,_⟩:=I2.list hq
  have key:∀{vs:List V}{ks:List (List Int)}{aa:List Value},Paired (dc H2) vs ks->Vals vs aa->∀u∈aa,∃v∈vs,∃k∈ks,RelV v u/\dc H2 v k/\aaa s2.heap u k:=by
   intro vs ks aa pr
   induction pr generalizing aa with
   |nil=>intro rv;cases rv;intro u hu;cases hu
   |cons hh _ ih=>
    intro rv
    cases rv with
    |cons r1 r2=>
     intro u hu
     rcases Zao.mp hu with rfl |hu
     ·obtain⟨t,e,ht⟩:=id hh
      obtain⟨items,ri,⟨o,go,oc,n,od⟩,_⟩:=I2.tuple (aj.of ht)
      refine⟨_,Zas,_,Zas,r1,hh,?_⟩
      subst e
      cases r1
      exact⟨t,o,_,n,rfl,go,oc,od,by simpa using Jx ri⟩
     ·obtain⟨v,hv,k,hk,w⟩:=ih r2 u hu
      exact⟨v,Zan _ hv,k,Zan _ hk,w⟩
  have OC:∀{vs:List V}{ks:List (List Int)}{aa:List Value},Paired (dc H2) vs ks->Vals vs aa->∀k∈ks,∃u∈aa,fw s2.heap u=k:=by
   intro vs ks aa pr
   induction pr generalizing aa with
   |nil=>intro rv k hk;cases hk
   |cons hh _ ih=>
    intro rv
    cases rv with
    |cons r1 r2=>
     intro k hk
     rcases Zao.mp hk with rfl |hk
     ·obtain⟨t,e,ht⟩:=id hh
      obtain⟨items,ri,⟨o,go,oc,n,od⟩,_⟩:=I2.tuple (aj.of ht)
      refine⟨_,Zas,?_⟩
      subst e
      cases r1
      exact Y6 go od (by simpa using Jx ri)
     ·obtain⟨u,hu,e⟩:=ih r2 k hk
      exact⟨u,Zan _ hu,e⟩
  refine Zc9 (lt:=fun u v=>aK (fw s2.heap u) (fw s2.heap v)) (I2.ok.hd hc) pl.isList (fun s' u v Q' E' kp O6 O4 dW=> ?_) (fun h' tk e kp=> ?_) (fun v0 r h' tk e kp=> ?_)
  ·obtain⟨_,_,ku,_,_,_,tu,ou,iu,nu,rfl,gu,cu,du,ju⟩:=key pr rv u O6
   obtain⟨_,_,kv,_,_,_,tv,ov,iv,nv,rfl,gv,cv,dv,jv⟩:=key pr rv v O4
   have e1:fw s2.heap (.ref tu)=ku:=Y6 gu du ju
   have e2:fw s2.heap (.ref tv)=kv:=Y6 gv dv jv
   try dsimp only at dW
   rw[e1,e2,<-WO]at dW
   exact HT.DU ⟨_,kp _ _ gu,cu,nu,du⟩ ⟨_,kp _ _ gv,cv,nv,dv⟩ ju jv hu dW
  ·subst e
   cases rv
   exact⟨.ah,H2,I2.kept kp,rfl,q1 rfl⟩
  ·have hm:=Wg (lt:=fun u v=>aK (fw s2.heap u) (fw s2.heap v)) (r:=r) (b:=v0)
   have hle:=WU (fw s2.heap) (r:=r) (b:=v0)
   generalize i5 (fun u v=>aK (fw s2.heap u) (fw s2.heap v)) v0 r=m at hm hle
   rw[<-e]at hm hle
   obtain⟨v,hv,k,hk,Mt,pI,tu,ou,iu,nu,e3,gu,cu,du,ju⟩:=key pr rv m hm
   have e1:fw s2.heap m=k:=by rw[e3];exact Y6 gu du ju
   refine⟨v,H2,I2.kept kp,Mt,q2 v k hv hk pI fun k' aP=> ?_⟩
   obtain⟨u',iP,e4⟩:=OC pr rv k' aP
   have:=hle u' iP
   rw[e1,e4]at this
   exact this
end
end L2
namespace L2
open PySem PySem.Spec PyProof.Rows
def xC (K:ZhQ) (l1 l2:Addr):It:=
 ⟨fun i H=> ∃xs ys x y,ai K H l1 xs/\ai K H l2 ys/\xs[i]? =some x/\ys[i]? =some y,
  fun i H v H'=> ∃(T:Addr) (x y:V),v=.ref T/\H T=none/\H'=upd H T (.par [x,y])/\∀xs ys,ai K H l1 xs->ai K H l2 ys->xs[i]? =some x/\ys[i]? =some y,
  fun i H=> ∃xs ys,ai K H l1 xs/\ai K H l2 ys/\min xs.length ys.length=i⟩
theorem Zcs {P:Program}{w:World}{K:ZhQ}{elts:List Expr}{kk:Nat}{pos:Pos}(z TI TO i1 i2 l1 l2:Addr) (D:ZipApart z TI TO i1 i2 l1 l2):
  Turn P w K (.Tuple elts kk pos) (xC K l1 l2) [z,TI,TO,i1,i2] z (fun i h=>IsZip h z TI TO .none/\IsPair h TI (.ref i1) (.ref i2)/\(∃a b,IsPair h TO a b)/\h.IsListIter i1 l1 i/\h.IsListIter i2 l2 i) where
 mem:=by simp
 obj:=fun i h st b hb=>by
  obtain⟨a1,a2,⟨u,v,a3⟩,⟨o4,h4,_,d4⟩,⟨o5,h5,_,d5⟩⟩:=st
  exact vF (P:=fun b=> ∃o,h.get? b=some o/\∀v,o.data≠.cell v) ⟨_,a1,fun v z=>by cases z⟩ ⟨_,a2,fun v z=>by cases z⟩ ⟨_,a3,fun v z=>by cases z⟩ ⟨_,h4,fun v z=>by rw[d4]at z;cases z⟩ ⟨_,h5,fun v z=>by rw[d5]at z;cases z⟩ b hb
 keep:=fun i h h' st k=>by
  obtain⟨a1,a2,⟨u,v,a3⟩,a4,a5⟩:=st
  exact⟨k z (by simp) _ a1,k TI (by simp) _ a2,⟨u,v,k TO (by simp) _ a3⟩,a4.at fun o q=>k i1 (by simp) o q,a5.at fun o q=>k i2 (by simp) o q⟩
 item:=by
  intro X hP hw hK hc i pins s σ H E I hf st hg
  subst hP hw hK
  obtain⟨xs,ys,x,y,fF,cV,hx,hy⟩:=hg
  obtain⟨eT,jj,dQ,fT⟩:=I.list fF
  obtain⟨fA,fq,df,cY⟩:=I.list cV
  obtain⟨u,hu,ru⟩:=jj.get hx
  obtain⟨v,hv,rv⟩:=fq.get hy
  have nE:i<min eT.toArray.size fA.toArray.size:=by
   have e1:=(Zad.mp hu).1
   have e2:=(Zad.mp hv).1
   simp only[Zaj]
   omega
  have W:=WalksT.zip2 (prog:=X.prog) (w:=X.w) (A:=X.A) (I.ok.hd hc) z TI TO i1 i2 l1 l2 D eT.toArray fA.toArray
  obtain⟨a1,a2,a3,a4,a5⟩:=st
  refine W.item i s _ _ nE ⟨a1,a2,a3,a4,a5,dQ.isList,df.isList⟩ fun T vals h' tk hP cW nG iQ hk=> ⟨_,rfl,W.go elts kk pos i T _ _ _ iQ fun eX dm eV=> ?_⟩
  obtain⟨x2,y2,j7,dU,rfl⟩:=hP
  have lG:eT[i]? =some x2:=by simpa using j7
  have Ei:fA[i]? =some y2:=by simpa using dU
  rw[hu]at lG
  rw[hv]at Ei
  cases lG
  cases Ei
  have both:∀b o,b∉[z,TI,TO,i1,i2]->s.heap.get? b=some o->eX.get? b=some o:=fun b o hb q=>eV b o (Y9 hb) (hk b o (Y9 hb) q)
  have sR:eX.IsTuple T #[u,v]:=nG.at fun o q=>eV T o (W.apart _ _ _ iQ) q
  refine⟨.ref T,upd H T (.par [x,y]),JP (s:=s) (h':=eX) (tk:=tk) I hf both cW sR ru rv,rfl,⟨T,x,y,rfl,I.ak.fresh cW,rfl,fun as bs ha hb=>by rw[I.vN ha fF,I.vN hb cV];exact⟨hx,hy⟩⟩,⟨dm.1,dm.2.1,dm.2.2.1,dm.2.2.2.1,dm.2.2.2.2.1⟩,Ke hf cW ?_⟩
  obtain⟨u',v',By⟩:=a3
  obtain⟨o4,h4,_,d4⟩:=a4
  obtain⟨o5,h5,_,d5⟩:=a5
  exact vF (P:=fun b=> ∃o,s.heap.get? b=some o/\∀v,o.data≠.cell v) ⟨_,a1,fun v z=>by cases z⟩ ⟨_,a2,fun v z=>by cases z⟩ ⟨_,By,fun v z=>by cases z⟩ ⟨_,h4,fun v z=>by rw[d4]at z;cases z⟩ ⟨_,h5,fun v z=>by rw[d5]at z;cases z⟩
 done:=by
  intro X hP hw hK hc i pins s σ H E I hf st hg
  subst hP hw hK
  obtain⟨xs,ys,fF,cV,hx⟩:=hg
  obtain⟨eT,jj,dQ,fT⟩:=I.list fF
  obtain⟨fA,fq,df,cY⟩:=I.list cV
  have e1:=jj.length
  have e2:=fq.length
  have W:=WalksT.zip2 (prog:=X.prog) (w:=X.w) (A:=X.A) (I.ok.hd hc) z TI TO i1 i2 l1 l2 D eT.toArray fA.toArray
  have hn:i=min eT.toArray.size fA.toArray.size:=by simp only[Zaj];omega
  obtain⟨a1,a2,a3,a4,a5⟩:=st
  rw[hn]at a4 a5
  exact W.done s _ _ ⟨a1,a2,a3,a4,a5,dQ.isList,df.isList⟩ fun h' tk hk=> ⟨rfl,Ws (s:=s) (h':=h') (tk:=tk) I hf fun b o hb q=>hk b o (Y9 hb) q⟩
 self:=fun A i s Q E st h=>Zfh st.1 h
section
variable {X:Cx}{elts:List Expr}{kk:Nat}{tp:Pos}
def OO (K:ZhQ) (ta:TA):TI:=fun σ H R=>ta σ H fun vs H1=> ∃l1 l2,vs=[.ref l1,.ref l2]/\(∃xs ys,ai K H1 l1 xs/\ai K H1 l2 ys)/\R (xC K l1 l2) H1
theorem Ia {a b:Expr}{ta:TA}{p pos:Pos}(hg:Gl X "zip") (hm:X.mg "zip" =none) (ha:PA X [a,b] ta) (hs:starEach [a,b] X.env=[(false,eval a X.env),(false,eval b X.env)]:=by rfl) (lN:starEach [b] X.env=[(false,eval b X.env)]:=by rfl):
  PI X (.Tuple elts kk tp) (.Call (.Name "zip" p) [a,b] [] pos) (OO X.K ta):=by
 intro pins s σ H R I h
 refine Call_ (YD I hg hm PyProof.Rows.Boot.«zip» (Zb3 (ar (ha pos pins s σ H _ I h) fun us s1 ⟨vs,H1,I1,r1,q1⟩=> ?_) (by rw[hs,lN]) (by rw[lN];rfl)))
 obtain⟨l1,l2,e,⟨xs,ys,fF,cV⟩,q⟩:=q1
 subst e
 obtain⟨u,v,rfl,ru,rv⟩:=vals2 r1
 cases ru
 cases rv
 obtain⟨eT,jj,dQ,fT⟩:=I1.list fF
 obtain⟨fA,fq,df,cY⟩:=I1.list cV
 have t1:l1<s1.heap.objs.size:=by obtain⟨o,ho,_⟩:=dQ.isList;exact Zaq ho
 have t2:l2<s1.heap.objs.size:=by obtain⟨o,ho,_⟩:=df.isList;exact Zaq ho
 have D:=Um s1.heap.objs.size l1 l2 t1 t2
 refine call_zip_2 dQ.isList df.isList fun h' b1 b2 b3 b4 b5 b6 hk=>Zfh b1 ?_
 have I2:Inv X pins σ H1 {s1 with heap:=h'} :=I1.kept (t':=s1.toks) hk
 refine⟨s1.heap.objs.size+4,[s1.heap.objs.size+4,s1.heap.objs.size+2,s1.heap.objs.size+3,s1.heap.objs.size,s1.heap.objs.size+1],_,_,H1,rfl,I2,
  Zcs _ _ _ _ _ l1 l2 D,⟨b1,b2,⟨_,_,b3⟩,b4,b5⟩,fun b hb=> ?_,q⟩
 have iU:s1.heap.objs.size<=b:=by
  simp only[Zao,Zbc,Zdo]at hb
  rcases hb with z |z |z |z |z<;>rw[z]<;>first |exact Zae _ |exact ZeS _ _
 exact I1.lU iU (I1.ak.fresh iU)
end
theorem UC {K:ZhQ}{l1 l2:Addr}{xs zs:List V}{g:TG}{tt:TT}{ti:TC}{ys:List V}{σ:St}{H:Hp}{Q:List V->St->Hp->Prop}(Pv:Nat->List V->St->Hp->Prop) (h0:Pv 0 ys σ H)
  (hl:∀i ys σ H,i<=min xs.length zs.length->Pv i ys σ H->ai K H l1 xs/\ai K H l2 zs)
  (hs:∀i x y T ys σ H,xs[i]? =some x->zs[i]? =some y->H T=none->Pv i ys σ H->g (.ref T) σ (upd H T (.par [x,y])) fun aT H2=>tt aT H2 fun b H3=>if b=true then ti ys aT H3 (Pv (i+1)) else Pv (i+1) ys aT H3)
  (hd:∀ys σ H,Pv (min xs.length zs.length) ys σ H->Q ys σ H):gR g tt ti (xC K l1 l2) ys σ H Q:=by
 refine⟨fun i m ys σ H=>m=min xs.length zs.length - i/\i<=min xs.length zs.length/\Pv i ys σ H,⟨min xs.length zs.length,by simp,ZaV _,h0⟩,?_⟩
 rintro i m ys σ H ⟨rfl,hi,p⟩
 obtain⟨q1,q2⟩:=hl i ys σ H hi p
 by_cases az:i<min xs.length zs.length
 ·have h1:i<xs.length:=.o
  have h2:i<zs.length:=.o
  refine .inr ⟨⟨xs,zs,xs[i],zs[i],q1,q2,by simp[h1],by simp[h2]⟩,Pv (i+1),fun bV ao H' p'=> ⟨min xs.length zs.length - (i+1),.o,rfl,az,p'⟩,fun x H' y=> ?_⟩
  obtain⟨T,a,b,e1,e2,e3,e4⟩:=y
  subst e1 e3
  obtain⟨f1,f2⟩:=e4 xs zs q1 q2
  exact hs i a b T ys σ H f1 f2 e2 p
 ·have e:i=min xs.length zs.length:=.o
  subst e
  exact .inl ⟨⟨xs,zs,q1,q2,rfl⟩,hd ys σ H p⟩
end L2
namespace L2
open PySem PySem.Spec PyProof.Rows SeqAt
end L2
namespace U
open PySem L2 PyProof.Rows
def gN (K:ZhQ) (H:Hp) (a:Addr) (ns:List Int):Prop:=(∃o,H a=some (.cb o (.lst (ns.map V.int))))∨∃(o:Obj) (aa:Array Value) (n:Nat),K.lookup a=some o/\o.cls=.type "list" /\o.dict=none/\o.data=.seq aa n/\aa.size<=sizeLine/\Vals (ns.map V.int) aa.toList
theorem gN.sq {K:ZhQ}{H:Hp}{a:Addr}{ns:List Int}(h:gN K H a ns):ai K H a (ns.map V.int):=by
 rcases h with ⟨o,h⟩ |h
 ·exact .inl (.inr ⟨o,h⟩)
 ·exact .inr h
theorem gN.same {K:ZhQ}{H H':Hp}{a:Addr}{ns:List Int}(h:gN K H a ns) (s:ag H H'):gN K H' a ns:=by
 rcases h with ⟨o,h⟩ |h
 ·exact .inl ⟨o,s _ _ h⟩
 ·exact .inr h
theorem gN.x {K:ZhQ}{H H':Hp}{a p:Addr}{ns:List Int}{o:HO}(h:gN K H a ns) (s:av p H H') (hp:H p=some o) (hn:∀ob u,o≠.cb ob u):gN K H' a ns:=by
 rcases h with ⟨ob,h⟩ |h
 ·exact .inl ⟨ob,s _ _ h fun z=>by rw[z,hp]at h;cases h;exact hn _ _ rfl⟩
 ·exact .inr h
end U
namespace U
open PySem L2 PyProof.Rows PySem.Spec
def tZ (mg:Str->Option Value) (h:Heap):Prop:=∃bm ob,mg "__builtins__" =some (.ref bm)/\bm≠builtinsNs/\h.get? bm=some ob/\ob.cls=.type "module" /\ob.dict=some builtinsNs/\ob.data=.plain
theorem Zbj {P:Program}{w:World}{K:ZhQ}{mg mb:Str->Option Value}{k:Nat}{fa a:Addr}{Pts:List Addr}{fd:FuncData}{x:Str}{sp:Sp}{aI:Shared}{vs:List Value}{ns:List Int}
  (KX:K.In aI.heap) (rX:aI.heap.Ns mainGlobals mg) (hb:aI.heap.Ns builtinsNs mb) (cq:∀x:Str,x≠ "__name__" ->mb x=bootBuiltins x) (P9:aI.heap.NoLimit) (hg:aI.gens= #[])
  (ha:aI.heap.get? a=some {cls:=.type "list",data:=.seq vs.toArray}) (hi:IntsAre vs ns) (hl:ns.length<=sizeLine) (hr:bK k callerA)
  (cW:∀Pt∈Pts,aI.heap.get? Pt=some (PySem.W.tabObj #[])) (Q8:∀Pt∈Pts,∃c,PySem.W.CodeHd aI.heap c Pt) (Q4:∀Pt∈Pts,K.lookup Pt=none) (pT:tZ mg aI.heap)
  (F:∀base:Heap,K.In base->base.Ns mainGlobals mg->tZ mg base->aA P w K mg base aE k fa fd [x] sp) (QH:∀(s:Shared) (u:Value),BindsTo s fd ⟨[u],[]⟩ [(x,u)])
  (dG:∀H:Hp,gN K H a ns->(∀Pt∈Pts,H Pt=some (.bM #[]))->sp [.ref a] H (fun v _=>v=.bl true) fun _ _ _=>False):
  codeAny (model P w) callerA (.call (.ref fa) ⟨[.ref a],[]⟩) (fun r s'=>r=.ok (.ret (.bool true))/\OldK aI.heap s'.heap/\s'.os=aI.os/\AllBare s'.gens) aI:=by
 have rv:=Up hi
 have Ou:=hi.length
 have sS:∀{Pt:Addr},Pt∈Pts->aI.heap.get? Pt=some {cls:=.none,data:=.fields #[]} :=fun h=>cW _ h
 have Fx:a∉Pts:=fun z=>by have h:=sS z;rw[ha]at h;cases h
 have core:∀H:Hp,(∀b,b∉Pts->H b=none∨∃o xs,H b=some (.cb o (.lst xs)))->gN K H a ns->(∀Pt∈Pts,H Pt=some (.bM #[]))->bD P w H aI.heap->(∀b,H b≠none->b=a∨b∈Pts)->(H a≠none->K.lookup a=none)->
   codeAny (model P w) callerA (.call (.ref fa) ⟨[.ref a],[]⟩) (fun r s'=>r=.ok (.ret (.bool true))/\OldK aI.heap s'.heap/\s'.os=aI.os/\AllBare s'.gens) aI:=by
  intro H hO hS hP ak hA hK
  have Bq:∀{b:Addr}{o:Obj},aI.heap.get? b=some o->H b=none->(ij aI.heap H).get? b=some o:=fun e n=>IV e n
  have bz:∀{b:Addr}{o:Obj},aI.heap.get? b=some o->(∀vs n,o.data≠.seq vs n)->(∀ps,o.data≠.fields ps)->H b=none:=fun {b o} e d1 d2=>by
   cases q:H b with
   |none=>rfl
   |some u=>
    rcases hA b (by rw[q];simp) with e' |e'
    ·subst e'
     rw[ha]at e;cases e
     exact absurd rfl (d1 _ _)
    ·rw[sS e']at e;cases e
     exact absurd rfl (d2 _)
  have vC:∀{b:Addr}{m:Str->Option Value},aI.heap.Ns b m->(ij aI.heap H).Ns b m:=fun {b m} ⟨o,es,ep,e,d,r⟩=> ⟨o,es,ep,Bq e (bz e (fun _ _ z=>by rw[d]at z;cases z) fun _ z=>by rw[d]at z;cases z),d,r⟩
  have FA:K.In (ij aI.heap H):=fun b o e=>Bq (KX b o e) (by
   cases q:H b with
   |none=>rfl
   |some u=>
    rcases hA b (by rw[q];simp) with e' |e'
    ·subst e'
     rw[hK (by rw[q];simp)]at e;cases e
    ·rw[Q4 _ e']at e;cases e)
  have hM:Mod K mg (ij aI.heap H):=⟨FA,vC rX,⟨mb,vC hb,cq⟩,let ⟨mc,h1,h2⟩:=P9;⟨mc,vC h1,h2⟩⟩
  have QG:tZ mg (ij aI.heap H):=let ⟨bm,ob,b1,b2,b3,b4,b5,b6⟩:=pT;⟨bm,ob,b1,b2,Bq b3 (bz b3 (fun _ _ z=>by rw[b6]at z;cases z) fun _ z=>by rw[b6]at z;cases z),b4,b5,b6⟩
  have e0:tT P w K mg (ij aI.heap H) callerA [] aI H:=⟨rfl,hM,fun b o e=>HR e,Nat.le_of_eq (UG _ _),trivial,fun b hb=>absurd (show b∈([]:List Addr) from hb) (by simp),ak,.of_eq hg⟩
  refine Zec ((F _ FA (vC rX) QG).run callerA [] aI H ⟨[.ref a],[]⟩ [.ref a] [.ref a] _ _ hr e0 (QH aI (.ref a)) (.cons rfl .nil) (dG H hS hP)) fun r s' h=> ?_
  cases r with
  |error e=>exact False.elim h
  |ok fl=>
   cases fl with
   |next=>exact False.elim h
   |brk=>exact False.elim h
   |cont=>exact False.elim h
   |ret u=>
    obtain⟨v,H',os,bare,un,EF,r',q⟩:=h
    have q':v=.bl true:=q
    subst q'
    obtain rfl:u=Value.bool true:=r'
    have old:∀b o,aI.heap.get? b=some o->asItWas aI.heap s'.heap b o:=fun b o e=>by
     cases q:H b with
     |none=>exact .inl (un.keep b o e q (by intro z;exact absurd (show b∈([]:List Addr) from z) (by simp)) (by simp))
     |some u=>
      by_cases nF:b∈Pts
      ·obtain⟨more,z⟩:=un.dD b _ (hP b nF)
       have e2:s'.heap.get? b=some {cls:=.none,data:=.fields (#[]++more)} :=EF b _ z
       rw[sS nF]at e
       cases e
       obtain⟨c,hC⟩:=Q8 b nF
       exact .inr (.inl ⟨(hC.tab (cW b nF)).isCodeTable,rfl, #[],more,rfl,e2⟩)
      ·rcases hO b nF with z |⟨ob,xs,z⟩
       ·rw[q]at z;cases z
       ·have z2:=un.dJ b ob _ z
        obtain⟨e1,_⟩:=ak b _ z
        obtain⟨e2,_⟩:=EF b _ z2
        rw[e]at e1;cases e1
        exact .inl e2
    exact⟨rfl,⟨old,fun b o e=>un.there b o e (by simp)⟩,os,bare⟩
 cases hk:K.lookup a with
 |some o=>
  have e:=KX a o hk
  rw[ha]at e
  cases e
  refine core (fun b=>if b∈Pts then some (.bM #[]) else none) (fun b n=> .inl (ZaK n)) (.inr ⟨_,vs.toArray,_,hk,rfl,rfl,rfl,by rw[Zaj,Ou];exact hl,by simpa using rv⟩) (fun Pt h=>ZaY h) (fun b u z=> ?_) (fun b z=> ?_) fun z=>absurd (ZaK Fx) z
  ·by_cases hb:b∈Pts
   ·have z':=(ZaY hb).symm.trans z
    cases z'
    exact sS hb
   ·have z':=(ZaK hb).symm.trans z
    cases z'
  ·by_cases hb:b∈Pts
   ·exact .inr hb
   ·exact absurd (ZaK hb) z
 |none=>
  refine core (fun b=>if b∈Pts then some (.bM #[]) else if b=a then some (.cb {cls:=.type "list",data:=.seq vs.toArray} (.lst (ns.map V.int))) else none) (fun b n=> ?_) (.inl ⟨{cls:=.type "list",data:=.seq vs.toArray},(ZaK Fx).trans (ZaY rfl)⟩) (fun Pt h=>ZaY h) (fun b u z=> ?_) (fun b z=> ?_) fun _=>hk
  ·by_cases hb:b=a
   ·exact .inr ⟨_,_,(ZaK n).trans (ZaY hb)⟩
   ·exact .inl ((ZaK n).trans (ZaK hb))
  ·by_cases hP:b∈Pts
   ·have z':=(ZaY hP).symm.trans z
    cases z'
    exact sS hP
   ·by_cases hb:b=a
    ·have z':=((ZaK hP).trans (ZaY hb)).symm.trans z
     cases z'
     subst hb
     exact⟨ha,by rw[Zar];exact hl,vs,_,rv,ha⟩
    ·have z':=((ZaK hP).trans (ZaK hb)).symm.trans z
     cases z'
  ·by_cases hP:b∈Pts
   ·exact .inr hP
   ·by_cases hb:b=a
    ·exact .inl hb
    ·exact absurd ((ZaK hP).trans (ZaK hb)) z
theorem KP {l:PySem.W.OpenLaw}{n k:Nat}{q:Program}{loose:List Str}{XP:(Str->Option Value)->Heap->Prop}{YP:World->Heap->Prop}{d:DefRec}{K:Params->ZhQ}{sp:ZhQ->Sp}{x:Str}{Pts:List Addr}
    (hn:l.most=some n) (wj:n<=sizeLine) (AL:d.params.defaults=[]) (hr:bK k callerA)
    (hY:∀(w:World) (h:Heap),YP w h->(K w.params).In h) (QP:∀(w:World) (h:Heap),YP w h->∀Pt∈Pts,h.get? Pt=some (PySem.W.tabObj #[]))
    (hC:∀(w:World) (h:Heap),(K w.params).In h->∀Pt∈Pts,∃c,PySem.W.CodeHd h c Pt) (Q5:∀w:World,∀Pt∈Pts,(K w.params).lookup Pt=none)
    (F:∀(w:World) (mg:Str->Option Value) (fa:Addr) (h:Heap),(K w.params).In h->h.Ns mainGlobals mg->mg d.name=some (.ref fa)->
      ∃fd:FuncData,(∀(s:Shared) (u:Value),BindsTo s fd ⟨[u],[]⟩ [(x,u)])/\
       ∀base:Heap,(K w.params).In base->base.Ns mainGlobals mg->tZ mg base->aA l.prog w (K w.params) mg base aE k fa fd [x] (sp (K w.params)))
    (dG:∀(K:ZhQ) (H:Hp) (a:Addr) (ns:List Int),ns.length<=n->gN K H a ns->(∀Pt∈Pts,H Pt=some (.bM #[]))->sp K [.ref a] H (fun v _=>v=.bl true) fun _ _ _=>False):
    PySem.W.WalkO q loose XP YP l.row.toRowW d [] (fun f vs=>PySem.call f vs):=by
  refine KJ.TB hn AL fun w cf aI mg mb fa o pm cd doc a vs ns G Y ho hd cH hmg An hints hlen hg=> ?_
  have KX:=hY w _ Y
  obtain⟨fd,hb,hF⟩:=F w mg fa _ KX G.T.g hmg
  exact Zbj KX G.T.g G.T.b G.T.builtins G.T.nolimit hg An hints (Zcd hlen wj) hr (QP w _ Y) (hC w _ KX) (Q5 w) G.T.bmain hF hb (fun H hS hP=>dG (K w.params) H a ns hlen hS hP)
def bo (K:ZhQ) (x:Str) (st:Stmt):Prop:=∃f fd,PySem.W.nsIn K mainGlobals x=some (some (.ref f))/\aG K x x st f fd
theorem bH {K:ZhQ}{x:Str}{st:Stmt}{f:Addr}{oc:Value}{od an:Option Addr}{eO:Array (Option Value)}{kV doc pm aq ct:Value}(e1:PySem.W.nsIn K mainGlobals x=some (some (.ref f)))
  (e2:K.lookup f=some ⟨oc,od,.func (PySem.W.fnOf x x (fo st) (cX st) (ay st) .none kV doc pm an aq ct),eO⟩) (e3:PySem.W.codeIn K aq x=true) (e4:PySem.W.keepIn K (.ref f)=true):bo K x st:=⟨f,_,e1,G0 e2 e3 e4⟩
section
variable {P:Program}{w:World}{K:ZhQ}{mg:Str->Option Value}{base:Heap}
abbrev ua (x:Str) (st:Stmt) (ps:List Str):Prop:=∀(kV doc pm:Value) (an:Option Addr) (aq ct:Value) (us:List Value),us.length=ps.length->bindArgs (PySem.W.fnOf x x (fo st) (cX st) (ay st) .none kV doc pm an aq ct) ⟨us,[]⟩=pure (ps.zip us)
theorem bo.to {h:Heap}{x:Str}{st:Stmt}{ps:List Str}{k:Nat}{sp:Sp}(d:bo K x st) (KX:K.In h) (G:h.Ns mainGlobals mg) (hb:ua x st ps) (ok:∀f fd,aG K x x st f fd->aA P w K mg base aE k f fd ps sp):Def P w K mg base k x ps sp:=by
 obtain⟨f,fd,e,F⟩:=d
 exact⟨f,fd,ok f fd F,Zcm KX G e,F.kp,F.binds hb⟩
theorem bo.fg {h:Heap}{x:Str}{st:Stmt}{ps:List Str}{k:Nat}{sp:Sp}(d:bo K x st) (KX:K.In h) (G:h.Ns mainGlobals mg) (hb:ua x st ps) (ok:∀f fd,aG K x x st f fd->aA P w K mg base (aC P w) k f fd ps sp):aW P w K mg base k x ps sp:=by
 obtain⟨f,fd,e,F⟩:=d
 exact⟨f,fd,ok f fd F,Zcm KX G e,F.kp,F.binds hb⟩
def vD (K:ZhQ) (x:Str):Bool:=match PySem.W.nsIn K mainGlobals x with |some none=>true |_=>false
theorem ZcI {h:Heap}{x:Str}(KX:K.In h) (G:h.Ns mainGlobals mg) (e:vD K x=true):mg x=none:=by
 unfold vD at e
 split at e
 ·rename_i q
  exact PySem.W.mg_none_of KX G q
 ·cases e
abbrev aao (x a:Str) (st:Stmt):Prop:=∀(kV doc pm:Value) (an:Option Addr) (aq ct u:Value),bindArgs (PySem.W.fnOf x x (fo st) (cX st) (ay st) .none kV doc pm an aq ct) ⟨[u],[]⟩=pure [(a,u)]
theorem b1 {x a:Str}{st:Stmt}(h:aao x a st):ua x st [a]:=fun kV doc pm an aq ct us hl=>match us,hl with | [u],_=>h kV doc pm an aq ct u
theorem b2 {x a b:Str}{st:Stmt}(h:∀(kV doc pm:Value) (an:Option Addr) (aq ct u v:Value),bindArgs (PySem.W.fnOf x x (fo st) (cX st) (ay st) .none kV doc pm an aq ct) ⟨[u,v],[]⟩=pure [(a,u),(b,v)]):ua x st [a,b]:=fun kV doc pm an aq ct us hl=>match us,hl with | [u,v],_=>h kV doc pm an aq ct u v
theorem b3 {x a b c:Str}{st:Stmt}(h:∀(kV doc pm:Value) (an:Option Addr) (aq ct u v w:Value),bindArgs (PySem.W.fnOf x x (fo st) (cX st) (ay st) .none kV doc pm an aq ct) ⟨[u,v,w],[]⟩=pure [(a,u),(b,v),(c,w)]):ua x st [a,b,c]:=fun kV doc pm an aq ct us hl=>match us,hl with | [u,v,w],_=>h kV doc pm an aq ct u v w
end
end U
namespace HS
open PySem PySem.SetTable
abbrev iw (l:List Nat):Prop:=l.Pairwise (· < ·)
theorem Hg {xs:Array Nat}(hr:iw xs.toList) {i k:Nat}(hi:i<xs.size) (hk:k<xs.size) (h:i<k):xs[i]<xs[k]:=by
 have:=List.pairwise_iff_getElem.mp hr i k (by simpa using hi) (by simpa using hk) h
 simpa using this
theorem Hh {xs:Array Nat}(hr:iw xs.toList) {i k:Nat}(hi:i<xs.size) (hk:k<xs.size) (h:i<=k):xs[i]<=xs[k]:=by
 rcases Nat.lt_or_eq_of_le h with h |h
 ·exact Zeb (Hg hr hi hk h)
 ·subst h;exact Zae _
theorem WZ {xs:Array Nat}{j:Nat}(hr:iw xs.toList):∀(fuel lo hi:Nat),hi<=xs.size->lo<=hi->hi - lo<=fuel->(∀i (h:i<xs.size),i<lo->xs[i]<j)->(∀i (h:i<xs.size),hi<=i->j<=xs[i])->
  below.go xs j fuel lo hi<=xs.size/\(∀i (h:i<xs.size),i<below.go xs j fuel lo hi->xs[i]<j)/\(∀i (h:i<xs.size),below.go xs j fuel lo hi<=i->j<=xs[i])
 |0,lo,hi,h1,h2,h3,h4,h5=>by
  have e:lo=hi:=.o
  subst e
  exact⟨h1,h4,h5⟩
 |fuel+1,lo,hi,h1,h2,h3,h4,h5=>by
  unfold below.go
  by_cases az:lo<hi
  ·rw[ZaY az]
   dsimp only
   have hm:(lo+hi)/2<xs.size:=.o
   have e:xs.getD ((lo+hi)/2) j=xs[(lo+hi)/2]:=by
    unfold Array.getD
    rw[dif_pos hm]
    rfl
   rw[e]
   by_cases hc:xs[(lo+hi)/2]<j
   ·rw[ZaY hc]
    refine WZ hr fuel _ hi h1 .o .o (fun i h ba=> ?_) h5
    exact Zet (Hh hr h hm .o) hc
   ·rw[ZaK hc]
    refine WZ hr fuel lo _ .o .o .o h4 (fun i h ba=> ?_)
    exact Zcd (Nat.le_of_not_lt hc) (Hh hr hm h ba)
  ·rw[ZaK az]
   have e:lo=hi:=.o
   subst e
   exact⟨h1,h4,h5⟩
theorem JA {xs:Array Nat}{j:Nat}(hr:iw xs.toList):below xs j<=xs.size/\(∀i (h:i<xs.size),i<below xs j->xs[i]<j)/\(∀i (h:i<xs.size),below xs j<=i->j<=xs[i]):=
 WZ hr _ _ _ (Zae _) (ZaV _) .o (fun i h z=>absurd z (ZeG _)) (fun i h z=>.o)
theorem Y8 {xs:Array Nat}{i j:Nat}(hr:iw xs.toList) (h:xs[i]? =some j):below xs j=i:=by
 obtain⟨hi,e⟩:=Zba.mp h
 obtain⟨h1,h2,h3⟩:=JA (j:=j) hr
 rcases Nat.lt_trichotomy (below xs j) i with q |q |q
 ·have a:=h3 (below xs j) .o (Zae _)
  have b:=Hg hr .o hi q
  omega
 ·exact q
 ·have:=h2 i hi q
  omega
theorem Ut {t:SetTable}{i j:Nat}(hr:iw t.place.toList) (h:t.place[i]? =some j):t.slot j=.live i:=by
 unfold slot
 rw[Y8 hr h]
 dsimp only
 rw[h,ZaY (by simp)]
theorem Za8 {t:SetTable}{j:Nat}(hd:t.dummies= #[]) (h:j∉t.place.toList):t.slot j=.empty:=by
 unfold slot
 dsimp only
 have h1:¬(t.place[below t.place j]? ==some j)=true:=by
  intro z
  have z':=eq_of_beq z
  obtain⟨hi,e⟩:=Zba.mp z'
  exact h (by rw[<-e];simp)
 have h2:¬has t.dummies j=true:=by
  rw[hd]
  unfold has
  simp
 rw[ZaK h1,ZaK h2]
theorem VC {xs:Array Nat}{j:Nat}(h:j∈xs.toList):∃i:Nat,xs[i]? =some j:=by
 obtain⟨i,hi,e⟩:=Zcl h
 exact⟨i,by rw[<-ZaP,Zag hi,e]⟩
theorem VZ {xs:Array Nat}{i j:Nat}(h:xs[i]? =some j):j∈xs.toList:=by
 rw[<-ZaP]at h
 exact ZaX h
theorem Uv {t:SetTable}{j:Nat} :(t.put j).1.place.toList=t.place.toList.take (below t.place j)++j::t.place.toList.drop (below t.place j):=by
 unfold put
 exact toList_insertAt _ _ _
theorem Xx {t:SetTable}{j:Nat}(hr:iw t.place.toList) (h:j∉t.place.toList):iw (t.put j).1.place.toList:=by
 rw[Uv]
 obtain⟨h1,h2,h3⟩:=JA (j:=j) hr
 generalize below t.place j=p at *
 have a:∀x∈t.place.toList.take p,x<j:=fun x hx=>by
  obtain⟨i,hi,e⟩:=Zcl hx
  rw[ZaS]at hi
  rw[List.getElem_take]at e
  rw[<-e]
  have:=h2 i (by simp at hi;omega) .o
  simpa using this
 have b:∀x∈t.place.toList.drop p,j<x:=fun x hx=>by
  obtain⟨i,hi,e⟩:=Zcl hx
  rw[ZbB]at hi
  rw[List.getElem_drop]at e
  have:=h3 (p+i) (by simp at hi;omega) .o
  have e':t.place[p+i]'(by simp at hi;omega)=x:=by simpa using e
  rw[e']at this
  rcases Nat.lt_or_eq_of_le this with q |q
  ·exact q
  ·exact absurd (ZbH hx) (by rw[<-q];exact h)
 refine Zbf.mpr ?_
 refine⟨hr.sublist (Zef ..),ZbU.mpr ⟨b,hr.sublist (Zei ..)⟩,fun x hx y hy=> ?_⟩
 rcases Zao.mp hy with rfl |hy
 ·exact a x hx
 ·exact Nat.lt_trans (a x hx) (b y hy)
abbrev tb (m:Nat):SetTable:= {mask:=m,place:= #[],dummies:= #[],finger:=0,led:=false,moves:=0,plain:=false}
def ee (m:Nat) (p:Probe):Probe:=(tb m).advance p
theorem VY (t:SetTable) (p:Probe):t.advance p=ee t.mask p:=rfl
def it (m:Nat) (p:Probe):Nat->Probe
 |0=>p
 |k+1=>ee m (it m p k)
theorem YG (m:Nat) (p:Probe):∀k,it m p (k+1)=it m (ee m p) k
 |0=>rfl
 |k+1=>by
  show ee m (it m p (k+1))=ee m (it m (ee m p) k)
  rw[YG m p k]
theorem WR (m:Nat) (p:Probe) (a:Nat):∀b,it m p (a+b)=it m (it m p a) b
 |0=>rfl
 |b+1=>by
  show ee m (it m p (a+b))=ee m (it m (it m p a) b)
  rw[WR m p a b]
theorem UU (m:Nat) (p:Probe):(ee m p).dummy=p.dummy:=by
 unfold ee advance
 split<;>rfl
theorem IW (m:Nat) (p:Probe):∀k,(it m p k).dummy=p.dummy
 |0=>rfl
 |k+1=> (UU m _).trans (IW m p k)
theorem HF {t:SetTable}{hashAt:Nat->Int}{h:Int}(hr:iw t.place.toList) (hd:t.dummies= #[]):∀(n fuel:Nat) (p:Probe),p.dummy=none->n<fuel->(∀k<n,(it t.mask p k).j∈t.place.toList)->(it t.mask p n).j∉t.place.toList->
  (probe.go t hashAt h fuel p=some (.empty (it t.mask p n).j none)/\∀k<n,∀i:Nat,t.place[i]? =some (it t.mask p k).j->hashAt i≠h)∨
  ∃k i:Nat,k<n/\t.place[i]? =some (it t.mask p k).j/\hashAt i=h/\probe.go t hashAt h fuel p=some (.candidate (it t.mask p k).j i (it t.mask p (k+1)))/\∀k'<k,∀i:Nat,t.place[i]? =some (it t.mask p k').j->hashAt i≠h
 |0,0,p,_,h1,_,_=>absurd h1 (ZbI _)
 |n+1,0,p,_,h1,_,_=>absurd h1 (ZeG _)
 |0,fuel+1,p,hp,h1,h2,h3=>by
  refine .inl ⟨?_,fun k hk=>absurd hk (ZeG _)⟩
  unfold probe.go
  have e:t.slot p.j=.empty:=Za8 hd h3
  rw[e]
  dsimp only
  rw[hp]
  rfl
 |n+1,fuel+1,p,hp,h1,h2,h3=>by
  obtain⟨i,hi⟩:=VC (h2 0 (Nat.succ_pos _))
  have e:t.slot p.j=.live i:=Ut hr hi
  unfold probe.go
  rw[e]
  dsimp only
  rw[VY]
  by_cases hh:hashAt i=h
  ·rw[ZaY (by simp[hh])]
   exact .inr ⟨0,i,Nat.succ_pos _,hi,hh,rfl,fun k' aP=>absurd aP (ZeG _)⟩
  ·rw[ZaK (by simp[hh])]
   have uniq:∀i':Nat,t.place[i']? =some (it t.mask p 0).j->hashAt i'≠h:=fun i' ba=>by
    have q1:=Y8 hr ba
    have q2:=Y8 hr hi
    have:i'=i:=q1.symm.trans q2
    subst this
    exact hh
   rcases HF (hashAt:=hashAt) (h:=h) hr hd n fuel (ee t.mask p) (by rw[UU];exact hp) .o (fun k hk=>by rw[<-YG];exact h2 (k+1) .o) (by rw[<-YG];exact h3) with ⟨g1,g2⟩ |⟨k,i2,g1,g2,g3,g4,g5⟩
   ·rw[<-YG]at g1
    refine .inl ⟨g1,fun k hk=> ?_⟩
    cases k with
    |zero=>exact uniq
    |succ k=>rw[YG];exact g2 k .o
   ·rw[<-YG]at g2 g4
    rw[<-YG]at g4
    refine .inr ⟨k+1,i2,.o,g2,g3,g4,fun k' aP=> ?_⟩
    cases k' with
    |zero=>exact uniq
    |succ k'=>rw[YG];exact g5 k' .o
abbrev fr (m i pt:Nat):Probe:= {j:=i,more:=runEnd m i - i,i,perturb:=pt,dummy:=none}
abbrev st (m:Nat) (h:Int):Probe:=fr m (bits h%(m+1)) (bits h)
def lp (m:Nat) (x:Nat×Nat):Nat×Nat:=leap m x.1 x.2
def cA (m:Nat) (x:Nat×Nat):Nat->Nat×Nat
 |0=>x
 |k+1=>lp m (cA m x k)
theorem WL (m:Nat) (x:Nat×Nat):∀k,cA m x (k+1)=cA m (lp m x) k
 |0=>rfl
 |k+1=>by
  show lp m (cA m x (k+1))=lp m (cA m (lp m x) k)
  rw[WL m x k]
theorem HM (m:Nat) (x:Nat×Nat) (a:Nat):∀b,cA m x (a+b)=cA m (cA m x a) b
 |0=>rfl
 |b+1=>by
  show lp m (cA m x (a+b))=lp m (cA m (cA m x a) b)
  rw[HM m x a b]
theorem Vd (m i:Nat):runEnd m i - i<=9:=by
 unfold runEnd
 split<;>omega
theorem WQ (m i pt:Nat):∀k,k<=runEnd m i - i->it m (fr m i pt) k= {j:=i+k,more:=runEnd m i - i - k,i:=i,perturb:=pt,dummy:=none}
 |0,_=>rfl
 |k+1,h=>by
  show ee m (it m (fr m i pt) k)=_
  rw[WQ m i pt k .o]
  unfold ee advance
  dsimp only
  rw[ZaY .o]
  have e:runEnd m i - i - k - 1=runEnd m i - i - (k+1):=.o
  rw[e,Nat.add_assoc]
theorem BP (m i pt:Nat):it m (fr m i pt) (runEnd m i - i+1)=fr m (lp m (i,pt)).1 (lp m (i,pt)).2:=by
 show ee m (it m (fr m i pt) (runEnd m i - i))=_
 rw[WQ m i pt _ (Zae _)]
 unfold ee advance
 dsimp only
 rw[ZaK .o]
 rfl
theorem IY (m:Nat):∀(k:Nat) (x:Nat×Nat),∃d,d<=10*k/\it m (fr m x.1 x.2) d=fr m (cA m x k).1 (cA m x k).2
 |0,x=> ⟨0,.o,rfl⟩
 |k+1,x=>by
  obtain⟨d,h1,h2⟩:=IY m k (lp m x)
  refine⟨runEnd m x.1 - x.1+1+d,by have:=Vd m x.1;omega,?_⟩
  rw[WR,BP m x.1 x.2]
  rw[WL]
  exact h2
theorem Hu (m:Nat) (x:Nat×Nat):∀k,(cA m x k).2=x.2/32^k
 |0=>by simp[cA]
 |k+1=>by
  show(cA m x k).2/32=_
  rw[Hu m x k,Nat.div_div_eq_div_mul,Nat.pow_succ]
theorem VA (m:Nat) (x:Nat×Nat) (h:x.1<m+1):∀k,(cA m x k).1<m+1
 |0=>h
 |k+1=>Nat.mod_lt _ (Nat.succ_pos _)
def nx (m i:Nat):Nat:=(i*5+1)%(m+1)
def dF (m:Nat):Nat->Nat
 |0=>0
 |k+1=>nx m (dF m k)
def vB (m:Nat):Nat->Nat->List Nat
 |0,_=> []
 |k+1,i=>i::vB m k (nx m i)
theorem Hr (m:Nat):∀(k n:Nat) (f:Nat),f∈vB m k (dF m n)->∃u,n<=u/\u<n+k/\dF m u=f
 |0,n,f,h=>by cases h
 |k+1,n,f,h=>by
  rcases Zao.mp h with rfl |h
  ·exact⟨n,Zae _,.o,rfl⟩
  ·obtain⟨u,h1,h2,h3⟩:=Hr m k (n+1) f h
   exact⟨u,.o,.o,h3⟩
def iz (m:Nat):Prop:=m=7∨m=31∨m=127∨m=511
def tD (m:Nat):Bool:=(List.range (m+1)).all fun f=> (vB m (m+1) 0).contains f
theorem Tb:tD 7=true/\dF 7 8=0:=by decide+kernel
theorem Td:tD 31=true/\dF 31 32=0:=by decide+kernel
theorem Te:tD 127=true/\dF 127 128=0:=by decide+kernel
theorem Tc:tD 511=true/\dF 511 512=0:=by decide+kernel
theorem Hz {m:Nat}(hm:iz m):tD m=true/\dF m (m+1)=0:=by
 rcases hm with rfl |rfl |rfl |rfl
 ·exact Tb
 ·exact Td
 ·exact Te
 ·exact Tc
theorem GX {m f:Nat}(hm:iz m) (hf:f<m+1):∃u,u<m+1/\dF m u=f:=by
 have:=ZaZ.mp (Hz hm).1 f (Zbr.mpr hf)
 obtain⟨u,_,h2,h3⟩:=Hr m (m+1) 0 f (show f∈vB m (m+1) 0 by simpa using this)
 exact⟨u,.o,h3⟩
theorem zO (m:Nat):∀(k s:Nat),cA m (dF m s,0) k=(dF m (s+k),0)
 |0,s=>rfl
 |k+1,s=>by
  show lp m (cA m (dF m s,0) k)=_
  rw[zO m k s]
  unfold lp leap
  simp[dF,nx]
theorem Ka {m a:Nat}(hm:iz m):∀k,dF m (m+1+k)=dF m k
 |0=> (Hz hm).2
 |k+1=>by
  show nx m (dF m (m+1+k))=nx m (dF m k)
  rw[Ka (a:=a) hm k]
theorem full {m a f:Nat}(hm:iz m) (ha:a<m+1) (hf:f<m+1):∃k,k<m+1/\(cA m (a,0) k).1=f:=by
 obtain⟨s,hs,rfl⟩:=GX hm ha
 obtain⟨u,hu,rfl⟩:=GX hm hf
 by_cases h:s<=u
 ·exact⟨u - s,.o,by rw[zO];show dF m (s+(u - s))=_;congr 1;omega⟩
 ·refine⟨m+1+u - s,.o,?_⟩
  rw[zO]
  show dF m (s+(m+1+u - s))=_
  rw[show s+(m+1+u - s)=m+1+u by omega,Ka (a:=0) hm]
theorem Hw (h:Int):bits h<2^64:=by
 unfold bits
 have h1:0<=h%(2^64:Int):=ZeH _ .d
 have h2:h%(2^64:Int)<2^64:=ZdK _ .d
 omega
theorem UL {m i pt f:Nat}(hm:iz m) (hi:i<m+1) (hp:pt<2^64) (hf:f<m+1):∃k,k<m+14/\(cA m (i,pt) k).1=f:=by
 have e:(cA m (i,pt) 13).2=0:=by
  rw[Hu]
  exact Nat.div_eq_of_lt (Zaz hp .d)
 have l:=VA m (i,pt) hi 13
 obtain⟨k,h1,h2⟩:=full hm l hf
 refine⟨13+k,.o,?_⟩
 rw[HM]
 have e2:cA m (i,pt) 13=((cA m (i,pt) 13).1,0):=by rw[<-e]
 rw[e2]
 exact h2
theorem cover {m f:Nat}(hm:iz m) (h:Int) (hf:f<m+1):∃n,n<10*turns m/\(it m (st m h) n).j=f:=by
 obtain⟨k,h1,h2⟩:=UL hm (Nat.mod_lt _ (Nat.succ_pos _)) (Hw h) hf (i:=bits h%(m+1))
 obtain⟨d,h3,h4⟩:=IY m k (bits h%(m+1),bits h)
 refine⟨d,by unfold turns;omega,?_⟩
 show(it m (fr m (bits h%(m+1)) (bits h)) d).j=f
 rw[h4]
 exact h2
def om (m:Nat) (dn:Nat->Prop) (p:Probe) (j:Nat):Prop:=∃n,(it m p n).j=j/\∀k<n,dn (it m p k).j
theorem om.mono {m:Nat}{dn Dy:Nat->Prop}{p:Probe}{j:Nat}(h:om m dn p j) (w:∀x,dn x->Dy x):om m Dy p j:=
 let ⟨n,a,b⟩:=h;⟨n,a,fun k hk=>w _ (b k hk)⟩
theorem Zbq {m f:Nat}{dn:Nat->Prop}(hm:iz m) (h:Int) (hf:f<m+1) (ho:¬dn f):∃n,n<10*turns m/\(∀k<n,dn (it m (st m h) k).j)/\¬dn (it m (st m h) n).j:=by
 obtain⟨n,h1,h2⟩:=cover hm h hf
 have key:∀n,n<10*turns m->¬dn (it m (st m h) n).j->∃n,n<10*turns m/\(∀k<n,dn (it m (st m h) k).j)/\¬dn (it m (st m h) n).j:=by
  intro n
  induction n using Nat.strongRecOn with
  |_ n ih=>
   intro g1 g2
   by_cases z:∀k<n,dn (it m (st m h) k).j
   ·exact⟨n,g1,z,g2⟩
   ·have:∃k,k<n/\¬dn (it m (st m h) k).j:=Zcc fun c=>z fun k hk=>Zcc fun o=>c ⟨k,hk,o⟩
    obtain⟨k,hk,o⟩:=this
    exact ih k hk .o o
 exact key n h1 (by rw[h2];exact ho)
theorem UH {m:Nat}{owner:Array (Option Nat)} :∀(fuel k:Nat) (i pt:Nat),k<fuel->((owner.getD (cA m (i,pt) k).1 (some 0)).isNone=true)->
  ∃j,layClean.free m owner fuel i pt=some j/\(owner.getD j (some 0)).isNone=true/\om m (fun x=> (owner.getD x (some 0)).isNone=false) (fr m i pt) j
 |0,k,i,pt,h,_=>absurd h (ZeG _)
 |fuel+1,k,i,pt,h,ho=>by
  unfold layClean.free
  cases hq:(List.range (runEnd m i+1 - i)).find? fun k=> (owner.getD (i+k) (some 0)).isNone with
  |some d=>
   dsimp only
   have h1:=List.find?_some hq
   have ck:=List.mem_of_find?_eq_some hq
   rw[Zbr]at ck
   refine⟨i+d,rfl,h1,d,?_,fun k hk=> ?_⟩
   ·rw[WQ m i pt d (by unfold runEnd at *;split at ck<;>split<;>omega)]
   ·rw[WQ m i pt k (by unfold runEnd at *;split at ck<;>split<;>omega)]
    obtain⟨as,bs,e,da⟩:=(List.find?_eq_some_iff_append.mp hq).2
    have EU:k∈as:=by
     have hp:(List.range (runEnd m i+1 - i)).Pairwise (· < ·):=List.pairwise_lt_range
     have ES:k∈List.range (runEnd m i+1 - i):=Zbr.mpr .o
     rw[e]at hp ES
     rcases ZaC.mp ES with q |q
     ·exact q
     ·rcases Zao.mp q with q |q
      ·omega
      ·have:=(ZbU.mp (Zbf.mp hp).2.1).1 k q
       omega
    have:=da k EU
    simpa using this
  |none=>
   dsimp only
   have da:=List.find?_eq_none.mp hq
   have pK:∀d,d<=runEnd m i - i->(owner.getD (i+d) (some 0)).isNone=false:=fun d hd=>by
    have:=da d (Zbr.mpr (by unfold runEnd at *;split at hd<;>split<;>omega))
    exact Bool.eq_false_iff.mpr this
   cases k with
   |zero=>
    have:=pK 0 (ZaV _)
    rw[show(cA m (i,pt) 0).1=i+0 from rfl,this]at ho
    cases ho
   |succ k=>
    rw[WL]at ho
    obtain⟨j,g1,g2,n,g3,g4⟩:=UH (m:=m) (owner:=owner) fuel k (lp m (i,pt)).1 (lp m (i,pt)).2 .o ho
    refine⟨j,g1,g2,runEnd m i - i+1+n,?_,fun d hd=> ?_⟩
    ·rw[WR,BP]
     exact g3
    ·by_cases hd2:d<=runEnd m i - i
     ·rw[WQ m i pt d hd2]
      exact pK d hd2
     ·obtain⟨c,rfl⟩:∃c,d=runEnd m i - i+1+c:=⟨d - (runEnd m i - i+1),.o⟩
      rw[WR,BP]
      exact g4 c .o
theorem Xf {m:Nat}{p:Probe}(h:p.j+p.more<=m):(ee m p).j+(ee m p).more<=m:=by
 unfold ee advance
 split
 ·dsimp only;omega
 ·dsimp only[leap,runEnd]
  have:=Nat.mod_lt (p.i*5+1+p.perturb/32) (show 0<m+1 by omega)
  split<;>omega
theorem HH {m:Nat}{p:Probe}(h:p.j+p.more<=m):∀k,(it m p k).j+(it m p k).more<=m
 |0=>h
 |k+1=>Xf (HH h k)
theorem GO {m:Nat}(h:Int) (k:Nat):(it m (st m h) k).j<m+1:=by
 have:=HH (m:=m) (p:=st m h) (by
  have:=Nat.mod_lt (bits h) (show 0<m+1 by omega)
  dsimp only[fr,runEnd]
  split<;>omega) k
 omega
structure T0 (t:SetTable) (es:Array (Int×Value)):Prop where
 sz:t.place.size=es.size
 mG:iw t.place.toList
 wW:t.dummies= #[]
 le:∀j∈t.place.toList,j<t.mask+1
 ld:∀z∈t.place.toList.zip es.toList,om t.mask (·∈t.place.toList) (st t.mask z.2.1) z.1
def i9 (m n:Nat):Prop:=(m=7/\n<=4)∨(m=31/\n<=18)∨(m=127/\n<=76)∨(m=511/\n<=306)
theorem i9.vE {m n:Nat}(h:i9 m n):iz m:=by
 rcases h with ⟨h,_⟩ |⟨h,_⟩ |⟨h,_⟩ |⟨h,_⟩
 ·exact .inl h
 ·exact .inr (.inl h)
 ·exact .inr (.inr (.inl h))
 ·exact .inr (.inr (.inr h))
theorem i9.lt {m n:Nat}(h:i9 m n):n+1<m:=by
 rcases h with ⟨h,_⟩ |⟨h,_⟩ |⟨h,_⟩ |⟨h,_⟩<;>omega
theorem i9.small {m n:Nat}(h:i9 m n):n<=306:=by
 rcases h with ⟨h,_⟩ |⟨h,_⟩ |⟨h,_⟩ |⟨h,_⟩<;>omega
theorem Uu {l:List Nat}(h:iw l):l.Nodup:=Zdm (fun h=>ZaE h) h
theorem T0.free {t:SetTable}{es:Array (Int×Value)}(T:T0 t es) (h:es.size<t.mask+1):∃f,f<t.mask+1/\f∉t.place.toList:=by
 refine Zcc fun c=> ?_
 have all:∀f,f<t.mask+1->f∈t.place.toList:=fun f hf=>Zcc fun n=>c ⟨f,hf,n⟩
 have p:(t.place.toList).Perm (List.range (t.mask+1)):=(Zeo (Uu T.mG) Zeq).mpr fun f=> ⟨fun hf=>Zbr.mpr (T.le f hf),fun hf=>all f (Zbr.mp hf)⟩
 have:=p.length_eq
 rw[Zcb,Zau,T.sz]at this
 omega
theorem T0.fits {t:SetTable}{es:Array (Int×Value)}(T:T0 t es) (h:es.size<=t.mask):t.fits es.size=true:=by
 unfold SetTable.fits SetTable.fill
 rw[T.wW,T.sz]
 simp[h]
theorem XG {α β:Type}{a:List α}{b:List β}(p:Nat) (x:α) (y:β) (h:a.length=b.length):(a.take p++x::a.drop p).zip (b.take p++y::b.drop p)=(a.zip b).take p++(x,y)::(a.zip b).drop p:=by
 rw[List.zip_append (by rw[ZaS,ZaS,h]),Zes]
 simp only[List.zip,List.take_zipWith,List.drop_zipWith]
theorem T0.put {t:SetTable}{es:Array (Int×Value)}(T:T0 t es) {h:Int}{x:Value}{n:Nat}(h1:∀k<n,(it t.mask (st t.mask h) k).j∈t.place.toList) (h2:(it t.mask (st t.mask h) n).j∉t.place.toList) (pl:Bool):
  T0 {(t.put (it t.mask (st t.mask h) n).j).1 with plain:=pl} (insertAt es (t.put (it t.mask (st t.mask h) n).j).2 (h,x)):=by
 have lt:=GO (m:=t.mask) h n
 generalize hf:(it t.mask (st t.mask h) n).j=f at *
 have dQ:=Uv (t:=t) (j:=f)
 have e2:(t.put f).2=below t.place f:=rfl
 have em:(t.put f).1.mask=t.mask:=rfl
 have dn:∀y,y∈t.place.toList->y∈(t.put f).1.place.toList:=fun y hy=>by
  rw[dQ]
  rw[<-Zbu (below t.place f) t.place.toList]at hy
  rcases ZaC.mp hy with q |q
  ·exact ZaW _ q
  ·exact Zav _ (Zan _ q)
 have lz:t.place.toList.length=es.toList.length:=by rw[Zau,Zau,T.sz]
 refine⟨?_,Xx T.mG h2,?_,fun j hj=> ?_,fun z hz=> ?_⟩
 ·have a:(t.put f).1.place.size=t.place.size+1:=by
   rw[<-Zau,dQ,Zap,Zbz,ZaS,ZbB,Zau]
   have:=(JA (j:=f) T.mG).1
   omega
  have b:(insertAt es (t.put f).2 (h,x)).size=es.size+1:=by
   rw[<-Zau,(insertAt_perm es _ (h,x)).length_eq,Zau,Array.size_push]
  show(t.put f).1.place.size=_
  rw[a,b,T.sz]
 ·show(if has t.dummies f then _ else t.dummies)= #[]
  rw[T.wW]
  simp[has]
 ·show j<t.mask+1
  have sj:j∈(t.put f).1.place.toList:=hj
  rw[dQ]at sj
  rcases ZaC.mp sj with q |q
  ·exact T.le j (Zce q)
  ·rcases Zao.mp q with q |q
   ·rw[q];exact lt
   ·exact T.le j (ZbH q)
 ·have fU:z∈(t.put f).1.place.toList.zip (insertAt es (t.put f).2 (h,x)).toList:=hz
  rw[dQ,toList_insertAt,e2,XG _ _ _ lz]at fU
  have old:∀z∈t.place.toList.zip es.toList,om t.mask (·∈(t.put f).1.place.toList) (st t.mask z.2.1) z.1:=fun z hz=> (T.ld z hz).mono dn
  rcases ZaC.mp fU with q |q
  ·exact old z (Zce q)
  ·rcases Zao.mp q with q |q
   ·rw[q]
    exact⟨n,hf,fun k hk=>dn _ (h1 k hk)⟩
   ·exact old z (ZbH q)
structure jG (m:Nat) (hs:List Int) (owner:Array (Option Nat)):Prop where
 sz:owner.size=m+1
 lt:∀(j k:Nat),owner[j]? =some (some k)->k<hs.length
 at_:∀(k:Nat) (h:Int),hs[k]? =some h->∃j:Nat,owner[j]? =some (some k)/\om m (fun x=> ∃k,owner[x]? =some (some k)) (st m h) j
 inj:∀(j j' k:Nat),owner[j]? =some (some k)->owner[j']? =some (some k)->j=j'
def live (m:Nat) (owner:Array (Option Nat)):List (Nat×Nat):=(List.range (m+1)).filterMap fun j=> (owner.getD j none).map (j, ·)
theorem getD_none {owner:Array (Option Nat)}{j k:Nat} :owner.getD j none=some k↔owner[j]? =some (some k):=by
 rw[Array.getD_eq_getD_getElem?]
 cases owner[j]? with
 |none=>simp
 |some o=>cases o<;>simp
theorem Yb {m:Nat}{owner:Array (Option Nat)}(hs:owner.size=m+1) {x:Nat×Nat} :x∈live m owner↔owner[x.1]? =some (some x.2):=by
 unfold live
 rw[Zcg]
 constructor
 ·rintro⟨j,hj,e⟩
  obtain⟨k,hk,rfl⟩:=Zbk.mp e
  exact getD_none.mp hk
 ·intro h
  obtain⟨hl,_⟩:=Zba.mp h
  exact⟨x.1,Zbr.mpr .o,by rw[getD_none.mpr h];rfl⟩
theorem WM (m:Nat) (owner:Array (Option Nat)):iw ((live m owner).map (·.1)):=by
 refine Zdl.mpr ?_
 unfold live
 refine ZeO.mpr (Zdm ?_ (List.pairwise_lt_range (n:=m+1)))
 intro a b sP x hx y hy
 obtain⟨_,_,rfl⟩:=Zbk.mp hx
 obtain⟨_,_,rfl⟩:=Zbk.mp hy
 exact sP
theorem UD {m:Nat}{hs:List Int}{owner:Array (Option Nat)}(L:jG m hs owner):((live m owner).map (·.2)).Perm (List.range hs.length):=by
 refine(Zeo ?_ Zeq).mpr fun k=> ?_
 ·refine ZbD.mpr (Zdl.mpr ?_)
  refine List.Pairwise.imp_of_mem ?_ (Zdl.mp (WM m owner))
  intro a b ha hb sP e
  have h1:=(Yb L.sz).mp ha
  have h2:=(Yb L.sz).mp hb
  rw[e]at h1
  have:=L.inj _ _ _ h1 h2
  omega
 ·rw[Zbr]
  constructor
  ·intro h
   obtain⟨x,hx,rfl⟩:=ZbF.mp h
   exact L.lt _ _ ((Yb L.sz).mp hx)
  ·intro h
   obtain⟨j,hj,_⟩:=L.at_ k _ (Zag h)
   exact ZbF.mpr ⟨(j,k),(Yb L.sz).mpr hj,rfl⟩
theorem I9 {m:Nat}{hs:List Int}{owner:Array (Option Nat)}(L:jG m hs owner):(live m owner).length=hs.length:=by
 have:=(UD L).length_eq
 rw[Zar,Zcb]at this
 exact this
theorem jG.free {m:Nat}{hs:List Int}{owner:Array (Option Nat)}(L:jG m hs owner) (h:hs.length<m+1):∃f,f<m+1/\owner[f]? =some none:=by
 refine Zcc fun c=> ?_
 have all:∀f,f<m+1->∃k,owner[f]? =some (some k):=fun f hf=>by
  have Fe:f<owner.size:=by rw[L.sz];exact hf
  cases e:owner[f] with
  |none=>exact absurd ⟨f,hf,by rw[ZbW Fe,e]⟩ c
  |some k=>exact⟨k,by rw[ZbW Fe,e]⟩
 have p:((live m owner).map (·.1)).Perm (List.range (m+1)):=(Zeo (Uu (WM m owner)) Zeq).mpr fun f=>by
  rw[Zbr,ZbF]
  constructor
  ·rintro⟨x,hx,rfl⟩
   obtain⟨hl,_⟩:=Zba.mp ((Yb L.sz).mp hx)
   rw[L.sz]at hl
   exact hl
  ·intro hf
   obtain⟨k,hk⟩:=all f hf
   exact⟨(f,k),(Yb L.sz).mpr hk,rfl⟩
 have:=p.length_eq
 rw[Zar,I9 L,Zcb]at this
 omega
theorem getD_some {owner:Array (Option Nat)}{j:Nat} :(owner.getD j (some 0)).isNone=true↔owner[j]? =some none:=by
 rw[Array.getD_eq_getD_getElem?]
 cases owner[j]? with
 |none=>simp
 |some o=>cases o<;>simp
theorem jG.step {m:Nat}{hs:List Int}{owner:Array (Option Nat)}(hm:iz m) (L:jG m hs owner) (hl:hs.length<m+1) (h:Int):
  ∃j,layClean.free m owner (turns m) (bits h%(m+1)) (bits h)=some j/\jG m (hs++[h]) (owner.setIfInBounds j (some hs.length)):=by
 obtain⟨f,hf,hn⟩:=L.free hl
 obtain⟨k,hk,e⟩:=UL hm (Nat.mod_lt (bits h) (show 0<m+1 by omega)) (Hw h) hf
 obtain⟨j,g1,g2,g3⟩:=UH (m:=m) (owner:=owner) (turns m) k (bits h%(m+1)) (bits h) (by unfold turns;omega) (by rw[e];exact getD_some.mpr hn)
 have ko:=getD_some.mp g2
 obtain⟨jl,_⟩:=Zba.mp ko
 have xb:(owner.setIfInBounds j (some hs.length))[j]? =some (some hs.length):=by simp[jl]
 have nX:∀{i:Nat},i≠j->(owner.setIfInBounds j (some hs.length))[i]? =owner[i]? :=fun {i} hi=>by
  rw[Array.getElem?_setIfInBounds]
  rw[ZaK (ZdS hi)]
 have Ym:∀{i k:Nat},owner[i]? =some (some k)->i≠j:=fun {i k} hi z=>by rw[z,ko]at hi;cases hi
 have dn:∀x:Nat,(∃k:Nat,owner[x]? =some (some k))->∃k:Nat,(owner.setIfInBounds j (some hs.length))[x]? =some (some k):=fun x hx=>by
  obtain⟨k,hk⟩:=hx
  exact⟨k,by rw[nX (Ym hk)];exact hk⟩
 refine⟨j,g1,⟨by rw[Array.size_setIfInBounds];exact L.sz,fun i k hi=> ?_,fun k h' aP=> ?_,fun i i' k hi ba=> ?_⟩⟩
 ·rw[Zap]
  by_cases dr:i=j
  ·rw[dr,xb]at hi
   cases hi
   simp
  ·rw[nX dr]at hi
   have:=L.lt _ _ hi
   simp;omega
 ·by_cases Qf:k<hs.length
  ·rw[Zds Qf]at aP
   obtain⟨i,hi,ld⟩:=L.at_ k h' aP
   exact⟨i,by rw[nX (Ym hi)];exact hi,ld.mono dn⟩
  ·rw[Zcn .o]at aP
   have ek:k=hs.length:=by
    have:=(Zad.mp aP).1
    simp at this
    omega
   subst ek
   simp at aP
   subst aP
   obtain⟨n,en,da⟩:=g3
   refine⟨j,xb,n,en,fun d hd=> ?_⟩
   have hx:=da d hd
   have az:(it m (fr m (bits h%(m+1)) (bits h)) d).j<owner.size:=by rw[L.sz];exact GO h d
   show ∃k:Nat,(owner.setIfInBounds j (some hs.length))[(it m (fr m (bits h%(m+1)) (bits h)) d).j]? =some (some k)
   generalize (it m (fr m (bits h%(m+1)) (bits h)) d).j=x at *
   have e:=ZbW az
   cases e2:owner[x] with
   |none=>
    rw[e2]at e
    rw[getD_some.mpr e]at hx
    cases hx
   |some k=>
    rw[e2]at e
    exact dn x ⟨k,e⟩
 ·by_cases dr:i=j
  ·by_cases sv:i'=j
   ·rw[dr,sv]
   ·rw[dr,xb]at hi
    rw[nX sv]at ba
    cases hi
    exact absurd (L.lt _ _ ba) (ZbI _)
  ·by_cases sv:i'=j
   ·rw[sv,xb]at ba
    rw[nX dr]at hi
    cases ba
    exact absurd (L.lt _ _ hi) (ZbI _)
   ·rw[nX dr]at hi
    rw[nX sv]at ba
    exact L.inj _ _ _ hi ba
def rH (m:Nat) (acc:Option (Array (Option Nat)×Nat)) (h:Int):Option (Array (Option Nat)×Nat):=do
 let (owner,k) <-acc
 let j <-layClean.free m owner (turns m) (bits h%(m+1)) (bits h)
 pure (owner.setIfInBounds j (some k),k+1)
theorem ZaO (m:Nat) (hs:Array Int):layClean m hs=(hs.toList.foldl (rH m) (some (Array.replicate (m+1) none,0))).map (·.1):=by
 unfold layClean
 rw[<-Array.foldl_toList]
 rfl
theorem UI {m:Nat}(hm:iz m):∀(rest hs:List Int) (owner:Array (Option Nat)),jG m hs owner->hs.length+rest.length<=m+1->
  ∃Dw,rest.foldl (rH m) (some (owner,hs.length))=some (Dw,(hs++rest).length)/\jG m (hs++rest) Dw
 | [],hs,owner,L,_=> ⟨owner,by rw[ZbT];rfl,by rw[ZbT];exact L⟩
 |h::rest,hs,owner,L,hl=>by
  rw[Zbz]at hl
  obtain⟨j,g1,g2⟩:=L.step hm .o h
  obtain⟨o',g3,g4⟩:=UI hm rest (hs++[h]) _ g2 (by rw[Zap,Zdw];omega)
  refine⟨o',?_,by rw[<-List.append_cons]at g4;exact g4⟩
  rw[Ze3]
  have e:rH m (some (owner,hs.length)) h=some (owner.setIfInBounds j (some hs.length),(hs++[h]).length):=by
   unfold rH
   simp[g1]
  rw[e,g3,<-List.append_cons]
theorem JS {es:Array (Int×Value)} :∀{L:List (Nat×Nat)},(∀x∈L,x.2<es.size)->(L.map (·.2)).filterMap (fun k=>es[k]?)=L.map fun x=> (es[x.2]?).getD (0,.none)
 | [],_=>rfl
 |x::L,h=>by
  have hx:=h x Zas
  rw[ZbJ,Zej,ZbJ,ZbW hx]
  dsimp only
  rw[JS fun y hy=>h y (Zan _ hy)]
  rfl
theorem ZcT {m:Nat}(hm:iz m) (es:Array (Int×Value)) (hl:es.size<=m+1) (fi mo:Nat) (le pl:Bool):
  ∃t order,laid m fi mo le pl (es.map (·.1))=some (t,order)/\t.mask=m/\T0 t (order.filterMap (es[·]?))/\(order.filterMap (es[·]?)).toList.Perm es.toList:=by
 have L0:jG m [] (Array.replicate (m+1) none):=by
  refine⟨Array.size_replicate ..,fun j k h=> ?_,fun k h hk=>by simp at hk,fun j j' k h=> ?_⟩<;>
  ·rw[Array.getElem?_replicate]at h
   split at h<;>cases h
 obtain⟨owner,e1,L⟩:=UI hm (es.map (·.1)).toList [] _ L0 (by simp;exact hl)
 rw[Zdx]at e1 L
 have hsz:((es.map (·.1)).toList).length=es.size:=by simp
 have e2:layClean m (es.map (·.1))=some owner:=by
  rw[ZaO]
  have wV:List.foldl (rH m) (some (Array.replicate (m+1) none,0)) (es.map (·.1)).toList=_:=e1
  rw[wV]
  rfl
 have az:∀x∈live m owner,x.2<es.size:=fun x hx=>by
  have:=L.lt _ _ ((Yb L.sz).mp hx)
  rw[hsz]at this
  exact this
 have Sg:(((live m owner).map (·.2)).toArray.filterMap (es[·]?)).toList=(live m owner).map fun x=> (es[x.2]?).getD (0,.none):=by
  rw[Array.toList_filterMap]
  exact JS az
 have perm:(((live m owner).map (·.2)).toArray.filterMap (es[·]?)).toList.Perm es.toList:=by
  rw[Array.toList_filterMap]
  have p:=(UD L).filterMap (fun i=>es[i]?)
  rw[hsz,filterMap_getElem?_range]at p
  exact p
 refine⟨{mask:=m,place:=((live m owner).map (·.1)).toArray,dummies:= #[],finger:=fi,led:=le,moves:=mo,plain:=pl},((live m owner).map (·.2)).toArray,?_,rfl,?_,perm⟩
 ·unfold laid
  rw[e2]
  rfl
 ·refine⟨?_,WM m owner,rfl,fun j hj=> ?_,fun z hz=> ?_⟩
  ·have:=perm.length_eq
   rw[Zau,Zau]at this
   rw[this]
   show((live m owner).map (·.1)).toArray.size=_
   rw[Zaj,Zar,I9 L,hsz]
  ·obtain⟨x,hx,rfl⟩:=ZbF.mp (show j∈(live m owner).map (·.1) from hj)
   obtain⟨hq,_⟩:=Zba.mp ((Yb L.sz).mp hx)
   rw[L.sz]at hq
   exact hq
  ·have fU:z∈((live m owner).map (·.1)).zip (((live m owner).map (·.2)).toArray.filterMap (es[·]?)).toList:=hz
   rw[Sg,List.zip_map',ZbF]at fU
   obtain⟨x,hx,rfl⟩:=fU
   have zX:=(Yb L.sz).mp hx
   have zY:=az x hx
   have eh:(es.map (·.1)).toList[x.2]? =some (es[x.2].1):=by simp[zY]
   obtain⟨j,g1,g2⟩:=L.at_ _ _ eh
   have ej:=L.inj _ _ _ g1 zX
   subst ej
   dsimp only
   rw[ZbW zY,ZeP]
   refine g2.mono fun y hy=> ?_
   obtain⟨k,hk⟩:=hy
   exact ZbF.mpr ⟨(y,k),(Yb L.sz).mpr hk,rfl⟩
theorem grow {m n:Nat}(h:i9 m n) (hn:n+1<=306):((n+1)*5>=m*3/\i9 (sizeAbove (grown (n+1)) - 1) (n+1)/\sizeAbove (grown (n+1))<=512)∨(¬(n+1)*5>=m*3/\i9 m (n+1)):=by
 rcases h with ⟨rfl,h⟩ |⟨rfl,h⟩ |⟨rfl,h⟩ |⟨rfl,h⟩
 ·by_cases q:n=4
  ·subst q
   exact .inl ⟨.d,.inr (.inl ⟨.d,.d⟩),.d⟩
  ·exact .inr ⟨.o,.inl ⟨rfl,.o⟩⟩
 ·by_cases q:n=18
  ·subst q
   exact .inl ⟨.d,.inr (.inr (.inl ⟨.d,.d⟩)),.d⟩
  ·exact .inr ⟨.o,.inr (.inl ⟨rfl,.o⟩)⟩
 ·by_cases q:n=76
  ·subst q
   exact .inl ⟨.d,.inr (.inr (.inr ⟨.d,.d⟩)),.d⟩
  ·exact .inr ⟨.o,.inr (.inr (.inl ⟨rfl,.o⟩))⟩
 ·exact .inr ⟨.o,.inr (.inr (.inr ⟨rfl,.o⟩))⟩
section
variable {prog:Program}{w:World}{K:Type} [DecidableEq K]
structure HK (knd:HeapKind prog w K):Prop where
 Tr:∀{A:Around}{E:Value->Shared->Prop}{s:Shared}{k:K}{a:Addr}{Q:Bool->Shared->Prop},knd.is s.heap k a->(∀b,Q b s)->wpAny (model prog w) A (hashByValue 8 (.ref a)) Q E s
 notCls:∀{A:Around}{E:Value->Shared->Prop}{s:Shared}{k:K}{a:Addr}{Q:Bool->Shared->Prop},knd.is s.heap k a->Q false s->wpAny (model prog w) A (ofAClassStatement 8 (.ref a)) Q E s
 OD:∀{h h':Heap}{k:K}{a d:Addr}{o:Obj}{es ep t},knd.is h k a->h.get? d=some o->o.data=.set es ep t->Heap.SameBut d h h'->knd.is h' k a
variable {knd:HeapKind prog w K}{A:Around}{E:Value->Shared->Prop}{s:Shared}
def iB (knd:HeapKind prog w K) (h:Heap) (k:K) (e:Int×Value):Prop:=∃a,e.2=.ref a/\knd.is h k a/\e.1=knd.hash k
theorem XF (hk:HK knd) {k:K}{x:Addr}(hx:knd.is s.heap k x):∀{ys:List Value}{Q:Bool->Shared->Prop},(∀y∈ys,∃k' b,y=.ref b/\knd.is s.heap k' b)->Q false s->wpAny (model prog w) A (searchCouldBeSeen (.ref x) ys) Q E s:=by
 intro ys Q hy hq
 unfold searchCouldBeSeen
 refine Zaa ?_
 refine ZfQ _ (fun rest r s'=>r.1=none/\s'=s/\∀y∈rest,∃k' b,y=.ref b/\knd.is s.heap k' b) _ ?_ ?_ _ _ ⟨rfl,rfl,hy⟩
 ·rintro v rest r s' ⟨hr,rfl,da⟩
  obtain⟨k',b,rfl,hb⟩:=da v Zas
  have Fp:∀y∈rest,∃k' b,y=Value.ref b/\knd.is s'.heap k' b:=fun y hy=>da y (Zan _ hy)
  dsimp only
  split
  ·exact Zaf ⟨rfl,rfl,Fp⟩
  ·refine Zaa (knd.quiet hx ?_)
   simp only[Bool.not_true,Za1,Zdn]
   refine Zaa (knd.quiet hb ?_)
   simp only[Bool.not_true,Za1,Zdn]
   refine Zaa (hk.notCls hx ?_)
   simp only[Za1,Zdn]
   refine Zaa (hk.notCls hb ?_)
   simp only[Za1,Zdn]
   exact Zaf ⟨rfl,rfl,Fp⟩
 ·rintro⟨r1,r2⟩ s' ⟨hr,rfl,_⟩
  simp only at hr
  subst hr
  exact Zaf hq
theorem V0 {t:SetTable}{es:Array (Int×Value)}(T:T0 t es) {i:Nat}{e:Int×Value}(h:es[i]? =some e):∃j,t.place[i]? =some j/\(j,e)∈t.place.toList.zip es.toList:=by
 obtain⟨hi,_⟩:=Zba.mp h
 have hp:i<t.place.size:=by rw[T.sz];exact hi
 refine⟨t.place[i],ZbW hp,ZaX (i:=i) ?_⟩
 rw[List.getElem?_zip_eq_some]
 exact⟨by rw[ZaP];exact ZbW hp,by rw[ZaP];exact h⟩
theorem TN {t:SetTable}{es:Array (Int×Value)}(T:T0 t es) {i j:Nat}(h:t.place[i]? =some j):∃e,es[i]? =some e:=by
 obtain⟨hi,_⟩:=Zba.mp h
 exact⟨es[i]'(by rw[<-T.sz];exact hi),ZbW _⟩
theorem Zbd {t:SetTable}{es:Array (Int×Value)}(T:T0 t es) {hashAt:Nat->Int}{h:Int}{p:Probe}{met:Option Met}{n:Nat}(hp:p.dummy=none) (hn:n<10*turns t.mask) (h1:∀k<n,(it t.mask p k).j∈t.place.toList) (h2:(it t.mask p n).j∉t.place.toList)
  (wc:t.probe hashAt h p=met) (hH:∀i:Nat,hashAt i=(es[i]?.map (·.1)).getD 0):
  (met=some (.empty (it t.mask p n).j none)/\∀k<n,∀(i:Nat) (e:Int×Value),t.place[i]? =some (it t.mask p k).j->es[i]? =some e->e.1≠h)∨
  ∃(k i:Nat) (e:Int×Value),k<n/\t.place[i]? =some (it t.mask p k).j/\es[i]? =some e/\e.1=h/\met=some (.candidate (it t.mask p k).j i (it t.mask p (k+1)))/\∀k'<k,∀(i:Nat) (e:Int×Value),t.place[i]? =some (it t.mask p k').j->es[i]? =some e->e.1≠h:=by
 have conv:∀{i:Nat}{e:Int×Value},es[i]? =some e->hashAt i=e.1:=fun {i e} he=>by rw[hH,he];rfl
 rcases HF (hashAt:=hashAt) (h:=h) T.mG T.wW n (10*turns t.mask) p hp hn h1 h2 with ⟨g1,g2⟩ |⟨k,i,g1,g2,g3,g4,g5⟩
 ·exact .inl ⟨wc.symm.trans g1,fun k hk i e hi he=>by rw[<-conv he];exact g2 k hk i hi⟩
 ·obtain⟨e,he⟩:=TN T g2
  exact .inr ⟨k,i,e,g1,g2,he,by rw[<-conv he];exact g3,wc.symm.trans g4,fun k' aP i e hi he=>by rw[<-conv he];exact g5 k' aP i hi⟩
theorem Uo (hk:HK knd) {S x:Addr}{k:K}{o:Obj}{es:Array (Int×Value)}{ep:Nat}{t:SetTable}{n:Nat}{Q:SetFound->Shared->Prop}
  (hroom:knd.room A) (hx:knd.is s.heap k x) (ho:s.heap.get? S=some o) (hd:o.data=.set es ep t) (T:T0 t es) (hm:t.mask%2=1) (hf:es.size<=t.mask)
  (pS:∀e∈es.toList,∃k',iB knd s.heap k' e)
  (hn:n<10*turns t.mask) (h1:∀i<n,(it t.mask (st t.mask (knd.hash k)) i).j∈t.place.toList) (h2:(it t.mask (st t.mask (knd.hash k)) n).j∉t.place.toList)
  (AW:(∃e∈es.toList,iB knd s.heap k e)->Q (.there none) s) (sW:(¬∃e∈es.toList,iB knd s.heap k e)->Q (.free (it t.mask (st t.mask (knd.hash k)) n).j false) s):
  ∀(d fuel m0:Nat) (uE:Option Probe),m0+d=n->d<fuel->uE.getD (t.probeStart (knd.hash k))=it t.mask (st t.mask (knd.hash k)) m0->
   (∀i'<m0,∀(i:Nat) (e:Int×Value),t.place[i]? =some (it t.mask (st t.mask (knd.hash k)) i').j->es[i]? =some e->¬iB knd s.heap k e)->
   wpAny (model prog w) A (setSearchFrom S (.ref x) (knd.hash k) true fuel uE) Q E s
 |d,0,m0,uE,_,Fb,_,_=>absurd Fb (ZeG _)
 |d,fuel+1,m0,uE,Fh,Fb,ka,hold=>by
  have lP:=T.fits hf
  unfold setSearchFrom
  refine Zaa (ZeI ho hd lP ?_)
  dsimp only
  have hg:t.gaveWay=false:=by unfold SetTable.gaveWay;rw[hm];rfl
  rw[hg]
  simp only[Za1,Zdn]
  rw[ka]
  generalize wc:t.probe _ (knd.hash k) _=met
  have Qw:(it t.mask (st t.mask (knd.hash k)) m0).dummy=none:=IW _ _ _
  have lh:∀i,it t.mask (it t.mask (st t.mask (knd.hash k)) m0) i=it t.mask (st t.mask (knd.hash k)) (m0+i):=fun i=> (WR _ _ _ _).symm
  rcases Zbd (es:=es) T Qw (n:=d) .o (fun i hi=>by rw[lh];exact h1 _ .o) (by rw[lh,Fh];exact h2) wc (fun i=>rfl) with ⟨rfl,g2⟩ |⟨c,i,e,g1,g2,g3,g4,rfl,g5⟩
  ·dsimp only
   rw[lh,Fh]
   refine Zaf (sW ?_)
   rintro⟨e,he,el⟩
   obtain⟨i,hi,rfl⟩:=Zcl he
   have ba:es[i]? =some es.toList[i]:=by rw[<-ZaP];exact Zag hi
   obtain⟨j,hj,hz⟩:=V0 T ba
   obtain⟨a,ea,nB,eh⟩:=id el
   obtain⟨nn,fV,pK⟩:=T.ld _ hz
   dsimp only at fV pK
   rw[eh]at fV pK
   have az:nn<n:=by
    rcases Nat.lt_trichotomy nn n with q |q |q
    ·exact q
    ·rw[q]at fV
     exact absurd (by rw[fV];exact VZ hj) h2
    ·exact absurd (pK n q) h2
   by_cases P5:nn<m0
   ·exact hold nn P5 i _ (by rw[fV];exact hj) ba el
   ·obtain⟨c,rfl⟩:∃c,nn=m0+c:=⟨nn - m0,.o⟩
    exact g2 c .o i _ (by rw[lh,fV];exact hj) ba eh
  ·have AF:e∈es.toList:=by rw[<-ZaP]at g3;exact ZaX g3
   obtain⟨k2,b,eb,nA,F2⟩:=pS e AF
   rw[lh]at g2
   have Pq:∀y∈List.map (fun x=>x.snd) (Array.filter (fun x=>x.fst==knd.hash k) es).toList,∃k' b,y=Value.ref b/\knd.is s.heap k' b:=fun y hy=>by
    obtain⟨z,hz,rfl⟩:=ZbF.mp hy
    have fU:z∈es.toList:=by
     rw[Array.toList_filter]at hz
     exact(ZbM.mp hz).1
    obtain⟨k3,b3,e3,h3,_⟩:=pS z fU
    exact⟨k3,b3,e3,h3⟩
   have Et:t.slot (it t.mask (it t.mask (st t.mask (knd.hash k)) m0) c).j=.live i:=Ut T.mG (by rw[lh];exact g2)
   have vY:¬k2=k->wpAny (model prog w) A (setSearchFrom S (.ref x) (knd.hash k) true fuel (some (it t.mask (it t.mask (st t.mask (knd.hash k)) m0) (c+1)))) Q E s:=fun cP=>by
    refine Uo hk hroom hx ho hd T hm hf pS hn h1 h2 AW sW (d - c - 1) fuel (m0+c+1) _ .o .o (by rw[lh];rfl) fun i' ba i2 e2 jo wD Bg=> ?_
    by_cases q1:i'<m0
    ·exact hold i' q1 i2 e2 jo wD Bg
    ·by_cases q2:i'<m0+c
     ·obtain⟨c',rfl⟩:∃c',i'=m0+c':=⟨i' - m0,.o⟩
      obtain⟨_,_,_,Se⟩:=Bg
      exact g5 c' .o i2 e2 (by rw[lh];exact jo) wD Se
     ·have e0:i'=m0+c:=.o
      subst e0
      have ei:i2=i:=(Y8 T.mG jo).symm.trans (Y8 T.mG g2)
      subst ei
      rw[g3]at wD
      cases wD
      obtain⟨b',Gd,Ax,_⟩:=Bg
      rw[eb]at Gd
      cases Gd
      exact cP (knd.inj nA Ax)
   dsimp only
   cases hl:t.led with
   |false=>
    simp only[Bool.not_false,Ze2]
    refine Zaa (XF hk hx Pq ?_)
    simp only[Za1,Zdn]
    rw[g3]
    dsimp only
    refine Zaa (ZbS ?_)
    rw[eb]
    refine knd.eqBool hroom nA hx ?_
    refine Zaa (ZeI ho hd lP ?_)
    by_cases hq:k2=k
    ·rw[ZaR hq]
     simp only[Bool.and_self,Ze2]
     refine Zaf (AW ⟨e,AF,b,eb,by rw[<-hq];exact nA,by rw[<-hq];exact F2⟩)
    ·rw[ZaA hq]
     simp only[ZeA,Za1,Zdn]
     have Af:t.sameMemory t.moves t.mask=some true:=by unfold SetTable.sameMemory;simp
     rw[Af]
     dsimp only
     rw[ZaY rfl,Et]
     dsimp only
     rw[g3]
     dsimp only
     rw[eb]
     refine Zaa (wpAny_isSame_ref_self ?_)
     refine Zaa (Zaf ?_)
     rw[ZaY rfl]
     dsimp only
     exact vY hq
   |true=>
    simp only[Bool.not_true,Za1,Zdn]
    rw[g3]
    dsimp only
    refine Zaa (ZbS ?_)
    rw[eb]
    refine knd.eqBool hroom nA hx ?_
    refine Zaa (ZeI ho hd lP ?_)
    by_cases hq:k2=k
    ·rw[ZaR hq]
     simp only[Bool.and_self,Ze2]
     refine Zaf (AW ⟨e,AF,b,eb,by rw[<-hq];exact nA,by rw[<-hq];exact F2⟩)
    ·rw[ZaA hq]
     simp only[ZeA,Za1,Zdn]
     have Af:t.sameMemory t.moves t.mask=some true:=by unfold SetTable.sameMemory;simp
     rw[Af]
     dsimp only
     rw[ZaY rfl,Et]
     dsimp only
     rw[g3]
     dsimp only
     rw[eb]
     refine Zaa (wpAny_isSame_ref_self ?_)
     refine Zaa (Zaf ?_)
     rw[ZaY rfl]
     dsimp only
     exact vY hq
end
section
variable {prog:Program}{w:World}{K:Type} [DecidableEq K] {knd:HeapKind prog w K}{A:Around}{E:Value->Shared->Prop}{s:Shared}
structure aad (knd:HeapKind prog w K) (h:Heap) (S:Addr) (ks:List K) (o:Obj) (es:Array (Int×Value)) (ep:Nat) (t:SetTable):Prop where
 ho:h.get? S=some o
 ex:o.ExactSet
 hd:o.data=.set es ep t
 T:T0 t es
 room:i9 t.mask es.size
 el:∀e∈es.toList,∃k∈ks,iB knd h k e
 all:∀k∈ks,∃e∈es.toList,iB knd h k e
 sz:es.size=ks.length
def jH (knd:HeapKind prog w K) (h:Heap) (S:Addr) (ks:List K):Prop:=∃o es ep t,aad knd h S ks o es ep t
theorem Ji (hk:HK knd) {h h':Heap}{S:Addr}{o:Obj}{es ep t} (ho:h.get? S=some o) (hd:o.data=.set es ep t) (hs:Heap.SameBut S h h') {k:K}{e:Int×Value}(x:iB knd h k e):iB knd h' k e:=by
 obtain⟨a,e1,e2,e3⟩:=x
 exact⟨a,e1,hk.OD e2 ho hd hs,e3⟩
theorem X9 {S:Addr}{o:Obj}{es:Array (Int×Value)}{ep:Nat}{t:SetTable}{Q:Unit->Shared->Prop}(ho:s.heap.get? S=some o) (hd:o.data=.set es ep t) (hf:t.fits es.size=true) {wanted:Nat}(hm:iz (sizeAbove wanted - 1)) (hw:sizeAbove wanted<=512) (hl:es.size<=sizeAbove wanted - 1)
  (h:∀gJ t',t'.mask=sizeAbove wanted - 1->T0 t' gJ->gJ.toList.Perm es.toList->Q () {s with heap:=s.heap.update S (Obj.putSet gJ t')}):wpAny (model prog w) A (setRelay S wanted) Q E s:=by
 unfold setRelay
 refine Zaa (ZeI ho hd hf ?_)
 dsimp only
 rw[ZaK (by rw[ZaH];omega)]
 obtain⟨t',order,e,em,T',pm⟩:=ZcT hm es .o t.finger (t.movedTo (sizeAbove wanted - 1)) t.led t.plain
 have er:t.relaid (es.map (·.1)) wanted=some (t',order):=e
 rw[er]
 refine Zaa ?_
 have hz:(order.filterMap (es[·]?)).size=es.size:=by rw[<-Zau,pm.length_eq,Zau]
 refine(show wpAny _ _ (if ((order.filterMap (es[·]?)).size !=es.size)=true then _ else pure _) _ _ s from ?_)
 rw[ZaK (by rw[hz];simp)]
 refine Zaf ?_
 dsimp only
 refine wpAny_storeSet_of ho hd (h _ _ em T' pm) (by rw[hz,ZaH];omega)
theorem Ig {h:Heap}{S:Addr}{o:Obj}{es:Array (Int×Value)}{ep:Nat}{t:SetTable}(ho:h.get? S=some o) (hd:o.data=.set es ep t) (gJ:Array (Int×Value)) (t':SetTable):(h.update S (Obj.putSet gJ t')).get? S=some {o with data:=.set gJ (ep+1) t'} :=by
 have:=Zdi (Obj.putSet gJ t') ho (by rw[putSet_of gJ t' hd];rfl)
 rw[putSet_of gJ t' hd]at this
 exact this
theorem Vj (hk:HK knd) {S x:Addr}{k:K}{ks:List K}{Q:Bool->Shared->Prop}(hroom:knd.room A) (hx:knd.is s.heap k x) (H:jH knd s.heap S ks) (hn:ks.length+1<=306)
  (h:∀h' b,Heap.SameBut S s.heap h'->jH knd h' S (if k∈ks then ks else ks++[k])->Q b {s with heap:=h'}):
  wpAny (model prog w) A (setAddHashed S (.ref x) (knd.hash k)) Q E s:=by
 obtain⟨o,es,ep,t,H⟩:=H
 have lP:=H.T.fits (Zeb (ZeJ H.room.lt))
 unfold setAddHashed setAddHashedIn
 refine ZbS (Zaa (ZeI H.ho H.hd lP ?_))
 dsimp only
 have hb:byScan (.ref x) es=false:=rfl
 rw[hb]
 simp only[Za1,Zdn]
 obtain⟨f,hf,wz⟩:=H.T.free (by have:=H.room.lt;omega)
 obtain⟨n,nk,wj,EJ⟩:=Zbq (dn:=(·∈t.place.toList)) H.room.vE (knd.hash k) hf wz
 have odd:t.mask%2=1:=by rcases H.room.vE with q |q |q |q<;>rw[q]
 unfold setSearch
 refine Zaa ?_
 refine Uo hk hroom hx H.ho H.hd H.T odd (by have:=H.room.lt;omega) (fun e he=>let ⟨k',_,el⟩:=H.el e he;⟨k',el⟩) nk wj EJ (fun Pa=> ?_) (fun fG=> ?_) n 100000 0 none .o ?_ rfl (fun i' ba=>absurd ba (ZeG _))
 ·dsimp only
  refine Zaf ?_
  have ck:k∈ks:=by
   obtain⟨e,he,a,ea,nB,_⟩:=Pa
   obtain⟨k',aP,a',Ge,Qi,_⟩:=H.el e he
   rw[ea]at Ge
   cases Ge
   rw[knd.inj nB Qi]
   exact aP
  have:=h s.heap false (Heap.SameBut.refl _ _) (by rw[ZaY ck];exact⟨o,es,ep,t,H⟩)
  exact this
 ·dsimp only
  have ck:k∉ks:=fun m=>fG (H.all k m)
  refine Zaa (ZeI H.ho H.hd lP ?_)
  dsimp only
  generalize Qs:(it t.mask (st t.mask (knd.hash k)) n).j=f'
  have Tp:=fun pl=>H.T.put (x:=.ref x) wj EJ pl
  rw[Qs]at Tp
  have nQ:(insertAt es (t.put f').2 (knd.hash k,.ref x)).size=es.size+1:=by rw[<-Zau,(insertAt_perm es _ _).length_eq,Zau,Array.size_push]
  have Be:∀e,e∈(insertAt es (t.put f').2 (knd.hash k,Value.ref x)).toList↔e∈es.toList∨e=(knd.hash k,Value.ref x):=fun e=>by
   rw[(insertAt_perm es _ _).mem_iff,ZbK,ZaC,Zax]
  have pS:∀e∈(insertAt es (t.put f').2 (knd.hash k,Value.ref x)).toList,∃k'∈ks++[k],iB knd s.heap k' e:=fun e he=>by
   rcases (Be e).mp he with q |q
   ·obtain⟨k',h1,h2⟩:=H.el e q
    exact⟨k',ZaW _ h1,h2⟩
   ·exact⟨k,by simp,x,by rw[q],hx,by rw[q]⟩
  have Fq:∀k'∈ks++[k],∃e∈(insertAt es (t.put f').2 (knd.hash k,Value.ref x)).toList,iB knd s.heap k' e:=fun k' aP=>by
   rcases ZaC.mp aP with q |q
   ·obtain⟨e,h1,h2⟩:=H.all k' q
    exact⟨e,(Be e).mpr (.inl h1),h2⟩
   ·rw[Zax.mp q]
    exact⟨_,(Be _).mpr (.inr rfl),x,rfl,hx,rfl⟩
  have ER:(insertAt es (t.put f').2 (knd.hash k,Value.ref x)).size=(ks++[k]).length:=by rw[nQ,Zap,Zdw,H.sz]
  have h':=fun h' b=>h h' b
  rw[ZaK ck]at h'
  generalize aaG:insertAt es (t.put f').2 (knd.hash k,Value.ref x)=pW at *
  have tail:∀t1,(∃pl,t1= {(t.put f').1 with plain:=pl})->wpAny (model prog w) A (storeSet S pW t1 >>=fun _=>if (!false&&t1.tooFull)=true then (setRelay S (grown (es.size+1)) >>=fun _=>pure true) else pure true) Q E s:=by
   rintro t1 ⟨pl,rfl⟩
   have T1:=Tp pl
   have g1:=Ig H.ho H.hd pW {(t.put f').1 with plain:=pl}
   have sb:=Zdg s.heap S (Obj.putSet pW {(t.put f').1 with plain:=pl})
   refine Zaa (wpAny_storeSet_of H.ho H.hd ?_ (by rw[nQ,ZaH];have:=H.room.small;omega))
   have fill:({(t.put f').1 with plain:=pl} :SetTable).tooFull=decide ((es.size+1)*5>=t.mask*3):=by
    unfold SetTable.tooFull SetTable.fill
    have a:({(t.put f').1 with plain:=pl} :SetTable).place.size=es.size+1:=by rw[T1.sz,nQ]
    have b:=T1.wW
    rw[b,a]
    rfl
   rw[fill]
   rcases grow H.room (by rw[H.sz];exact hn) with ⟨q1,q2,q3⟩ |⟨q1,q2⟩
   ·rw[ZaR q1]
    simp only[Bool.not_false,Bool.and_self,Ze2]
    refine Zaa (X9 g1 rfl (T1.fits (by rw[nQ];exact Zeb H.room.lt)) q2.vE q3 (by have:=q2.lt;rw[nQ];omega) fun wQ t2 R4 T2 zt=>Zaf (h' _ true (sb.trans (Zdg _ S _)) ?_))
    have aX:wQ.size=pW.size:=by rw[<-Zau,zt.length_eq,Zau]
    have oU:=sb.trans (Zdg _ S (Obj.putSet wQ t2))
    exact⟨_,wQ,ep+1+1,t2,Ig g1 rfl wQ t2,H.ex,rfl,T2,by rw[R4,aX,nQ];exact q2,fun e he=>let ⟨k',a,b⟩:=pS e (zt.mem_iff.mp he);⟨k',a,Ji hk H.ho H.hd oU b⟩,fun k' aP=>let ⟨e,a,b⟩:=Fq k' aP;⟨e,zt.mem_iff.mpr a,Ji hk H.ho H.hd oU b⟩,by rw[aX,ER]⟩
   ·rw[ZaA q1]
    simp only[Bool.not_false,ZeA,Za1,Zdn]
    refine Zaf (h' _ true sb ?_)
    exact⟨_,pW,ep+1,_,g1,H.ex,rfl,T1,by rw[nQ];exact q2,fun e he=>let ⟨k',a,b⟩:=pS e he;⟨k',a,Ji hk H.ho H.hd sb b⟩,fun k' aP=>let ⟨e,a,b⟩:=Fq k' aP;⟨e,a,Ji hk H.ho H.hd sb b⟩,ER⟩
  split
  ·refine Zaa (hk.Tr hx fun b=> ?_)
   cases b with
   |true=>exact tail _ ⟨(t.put f').1.plain,rfl⟩
   |false=>exact tail _ ⟨false,rfl⟩
  ·refine Zaa (Zaf ?_)
   exact tail _ ⟨(t.put f').1.plain,rfl⟩
 ·have:10*turns t.mask<=5260:=by
   unfold turns
   rcases H.room.vE with q |q |q |q<;>rw[q]<;>decide
  omega
end
end HS
namespace HS
open PySem PySem.SetTable PySem.Spec
theorem Xg (n:Nat) {v:Value}(h:carriedByValue v=true):∃b,hashByValue n v=pure b:=by
 cases n<;>cases v<;>first |exact⟨_,rfl⟩ |(simp[carriedByValue]at h)
theorem ZdR (n:Nat) {v:Value}(h:carriedByValue v=true):ofAClassStatement n v=pure false:=by
 cases n<;>cases v<;>first |rfl |(simp[carriedByValue]at h) |(unfold ofAClassStatement;rfl)
section
variable {prog:Program}{w:World}{K:Type} [DecidableEq K] {knd:KeyKind prog w K}{A:Around}{E:Value->Shared->Prop}{s:Shared}
theorem Za2 {ks:List K}{a:Addr}{Q:Bool->Shared->Prop}(hk:IsTupleKey knd s.heap ks a) (h:∀b,Q b s):wpAny (model prog w) A (hashByValue 8 (.ref a)) Q E s:=by
 have hT:=hk.typeIs
 obtain⟨o,items,n,ho,_,hd,hi⟩:=hk
 unfold hashByValue
 refine Zaa (wpAny_specialOf hT F.slot_tuple_hash.lookup ?_)
 refine(show wpAny _ _ (seqItems? (.ref a) >>=_) _ _ s from Zaa (Zb7 ho hd ?_))
 refine Zaa ?_
 show wpAny _ _ (forIn items _ _) _ _ s
 rw[<-Array.forIn_toList]
 refine ZfQ _ (fun rest r s'=>r.1=none/\s'=s/\∀v∈rest,carriedByValue v=true) _ ?_ ?_ _ _ ⟨rfl,rfl,hi.byValue⟩
 ·rintro v rest r s' ⟨hr,rfl,da⟩
  obtain⟨b,e⟩:=Xg 7 (da v Zas)
  rw[e]
  refine Zaa (Zaf ?_)
  cases b with
  |true=>
   simp only[Bool.not_true,Za1,Zdn]
   exact Zaf ⟨rfl,rfl,fun u iP=>da u (Zan _ iP)⟩
  |false=>
   simp only[Bool.not_false,Ze2]
   exact Zaf (Zaf (h false))
 ·rintro⟨r1,r2⟩ s' ⟨hr,rfl,_⟩
  simp only at hr
  subst hr
  exact Zaf (h true)
theorem U8 {ks:List K}{a:Addr}{Q:Bool->Shared->Prop}(hk:IsTupleKey knd s.heap ks a) (h:Q false s):wpAny (model prog w) A (ofAClassStatement 8 (.ref a)) Q E s:=by
 have hT:=hk.typeIs
 obtain⟨o,items,n,ho,_,hd,hi⟩:=hk
 unfold ofAClassStatement
 refine Zaa (Zfr hT ?_)
 dsimp only
 rw[ZaY .d]
 refine Zaa (Zaf ?_)
 simp only[Bool.not_true,Za1,Zdn]
 refine Zaa (Zb7 ho hd ?_)
 dsimp only
 refine Zaa ?_
 rw[<-Array.forIn_toList]
 refine ZfQ _ (fun rest r s'=>r.1=none/\s'=s/\∀v∈rest,carriedByValue v=true) _ ?_ ?_ _ _ ⟨rfl,rfl,hi.byValue⟩
 ·rintro v rest r s' ⟨hr,rfl,da⟩
  rw[ZdR 7 (da v Zas)]
  refine Zaa (Zaf ?_)
  simp only[Za1,Zdn]
  exact Zaf ⟨rfl,rfl,fun u iP=>da u (Zan _ iP)⟩
 ·rintro⟨r1,r2⟩ s' ⟨hr,rfl,_⟩
  simp only at hr
  subst hr
  exact Zaf h
theorem Xh (knd:KeyKind prog w K):HK (tupleKind knd):=by
 refine⟨fun hk h=>Za2 hk h,fun hk h=>U8 hk h,?_⟩
 intro h h' k a d o es ep t x ho hd hs
 obtain⟨o',items,n,cC,hc,iS,hi⟩:=x
 have cP:a≠d:=by
  rintro rfl
  obtain rfl:o'=o:=ZbE (cC.symm.trans ho)
  rw[hd]at iS
  exact nomatch iS
 exact⟨o',items,n,(hs.2 a cP).trans cC,hc,iS,hi⟩
end
section
variable {K:Type} [DecidableEq K]
def met (val:Nat->K):Nat->List K
 |0=> []
 |n+1=>if val n∈met val n then met val n else met val n++[val n]
theorem JL (val:Nat->K) (n:Nat):met val (n+1)=if val n∈met val n then met val n else met val n++[val n]:=rfl
theorem BS (val:Nat->K):∀n,(met val n).length<=n
 |0=>Zae _
 |n+1=>by
  rw[JL]
  have:=BS val n
  split
  ·omega
  ·rw[Zap,Zdw];omega
theorem HN (val:Nat->K):∀n k,k∈met val n↔k∈(List.range n).map val
 |0,k=>by simp[met]
 |n+1,k=>by
  rw[ZeF,ZbA,ZaC,<-HN val n k,JL]
  split
  ·rename_i h
   simp only[ZbJ,List.map_nil,Zax]
   exact⟨.inl,fun z=>z.elim id fun e=>by rw[e];exact h⟩
  ·simp
theorem DR (val:Nat->K):∀n,((met val n).length=n↔((List.range n).map val).Nodup)
 |0=>by simp[met]
 |n+1=>by
  have ih:=DR val n
  have le:=BS val n
  have mm:=HN val n (val n)
  rw[ZeF,ZbA]
  have nd:((List.range n).map val++List.map val [n]).Nodup↔((List.range n).map val).Nodup/\¬val n∈(List.range n).map val:=by
   rw[List.nodup_append]
   constructor
   ·rintro⟨h1,_,h3⟩
    exact⟨h1,fun m=>h3 _ m (val n) (by simp) rfl⟩
   ·rintro⟨h1,h2⟩
    refine⟨h1,by simp,fun a ha b hb q=>h2 ?_⟩
    have cw:b=val n:=by simpa using hb
    rw[<-cw,<-q];exact ha
  rw[nd,<-ih,<-mm,JL]
  split
  ·rename_i h
   constructor
   ·intro z;omega
   ·rintro⟨_,z⟩;exact absurd h z
  ·rename_i h
   rw[Zap,Zdw]
   constructor
   ·intro z;exact⟨.o,h⟩
   ·rintro⟨z,_⟩;omega
variable {prog:Program}{w:World}{kk:KeyKind prog w K}{A:Around}{E:Value->Shared->Prop}{s:Shared}{R:Result->Shared->Prop}{I:Addr}{fp wr:List Addr}{G:Array GenState->Array GenState->Prop}{n:Nat}{P:Nat->Value->Prop}{St:Nat->Shared->Prop}
def tO (h:Heap) (b:Addr):Prop:=∃o,h.get? b=some o/\o.cls≠.type "tuple"
theorem JN {h h':Heap}{ws:List Addr}{ks:List K}{a:Addr}(hw:∀b∈ws,tO h b) (wt:∀b o,b∉ws->h.get? b=some o->h'.get? b=some o) (x:IsTupleKey kk h ks a):IsTupleKey kk h' ks a:=by
 obtain⟨o',items,n,cC,hc,iS,hi⟩:=x
 have cP:a∉ws:=fun m=>by
  obtain⟨o,ho,hn⟩:=hw a m
  rw[cC]at ho
  cases ho
  exact hn hc
 exact⟨o',items,n,wt _ _ cP cC,hc,iS,hi⟩
theorem II {h h':Heap}{ws:List Addr}{S:Addr}{ks:List (List K)}(hw:∀b∈ws,tO h b) (hS:S∉ws) (wt:∀b o,b∉ws->h.get? b=some o->h'.get? b=some o) (x:jH (tupleKind kk) h S ks):jH (tupleKind kk) h' S ks:=by
 obtain⟨o,es,ep,t,X⟩:=x
 have ke:∀{k:List K}{e:Int×Value},iB (tupleKind kk) h k e->iB (tupleKind kk) h' k e:=fun⟨a,e1,e2,e3⟩=> ⟨a,e1,JN hw wt e2,e3⟩
 exact⟨o,es,ep,t,wt _ _ hS X.ho,X.ex,X.hd,X.T,X.room,fun e he=>let ⟨k,a,b⟩:=X.el e he;⟨k,a,ke b⟩,fun k hk=>let ⟨e,a,b⟩:=X.all k hk;⟨e,a,ke b⟩,X.sz⟩
theorem Zcw {h:Heap}{S:Addr}{ks:List (List K)}(x:jH (tupleKind kk) h S ks):tO h S:=by
 obtain⟨o,es,ep,t,X⟩:=x
 exact⟨o,X.ho,by rw[X.ex.1];decide⟩
theorem Oo (hroom:A.in1.units<cLine) (W:WalksS prog w A.in1 I fp wr G n P St) (S:Addr) (Fw:S∉fp) (val:Nat->List K) (hb:n<=305) (hI:∀i s,St i s->∀b∈wr,tO s.heap b):
  ∀(k i:Nat) (s:Shared),n - i=k->i<=n->St i s->jH (tupleKind kk) s.heap S (met val i)->(∀i v,P i v->∃a,v=.ref a/\IsTupleKey kk s.heap (val i) a)->
   (∀s',Moved (S::wr) G s s'->jH (tupleKind kk) s'.heap S (met val n)->R (.ok (.ret .none)) s')->
   codeAny (model prog w) A (.builtin "set.update.loop" ⟨[.ref S,.ref I],[]⟩) R s:=by
 have Fv:S∉wr:=fun h=>Fw (W.sub _ h)
 have lK:∀b∈wr,b∈S::wr:=fun b hb=>Zan _ hb
 intro k
 induction k with
 |zero=>
  intro i s aP hi ig hS wJ hR
  have su:i=n:=.o
  subst su
  refine Zck PyProof.Rows.F.entry_set_update_loop ?_
  rw[Zb0 Zed _]
  show wpAny _ A.in1 (pyNext (.ref I) >>=_) _ _ s
  refine Zaa (W.done s _ _ ig fun s' hm=> ?_)
  show wpAny _ A.in1 (ret Value.none) _ _ s'
  exact Zaf (hR s' (hm.mono lK) (II (hI _ _ ig) Fv (fun b o hb e=>hm.heap b o hb e) hS))
 |succ k ih=>
  intro i s aP hi ig hS wJ hR
  have az:i<n:=.o
  refine Zck PyProof.Rows.F.entry_set_update_loop ?_
  rw[Zb0 Zed _]
  show wpAny _ A.in1 (pyNext (.ref I) >>=_) _ _ s
  refine Zaa (W.item i s _ _ az ig fun v s' hP Po hm=> ?_)
  have kp:∀b o,b∉wr->s.heap.get? b=some o->s'.heap.get? b=some o:=fun b o hb e=>hm.heap b o hb e
  have dY:=II (hI _ _ ig) Fv kp hS
  have Fz:∀i v,P i v->∃a,v=.ref a/\IsTupleKey kk s'.heap (val i) a:=fun i v hv=>let ⟨a,e,x⟩:=wJ i v hv;⟨a,e,JN (hI _ _ ig) kp x⟩
  obtain⟨a,rfl,nB⟩:=Fz i v hP
  show wpAny _ A.in1 (holding [Value.ref a] (setAdd S (.ref a)) >>=_) _ _ s'
  refine Zaa (ZbS ?_)
  unfold setAdd
  refine ZbS ?_
  refine Zaa ((tupleKind kk).pyHash hroom nB ?_)
  refine Vj (s:= {s' with toks:=s'.toks+(tupleKind kk).draws (val i)}) (Xh kk) hroom nB dY (by have:=BS val i;omega) fun h' b sb QU=> ?_
  have Mi:∀b o,b∉[S]->s'.heap.get? b=some o->h'.get? b=some o:=fun b o hb e=>by
   rw[sb.2 b (fun z=>hb (by rw[z];exact Zax.mpr rfl))];exact e
  have nS:∀b∈[S],tO s'.heap b:=fun b hb=>by rw[Zax.mp hb];exact Zcw dY
  refine Zaf ⟨Zev Zed _,ih (i+1) _ .o az (W.frame _ s' _ _ Po (ZeS _ _) fun b hb o e=> ?_) (by rw[JL];exact QU) (fun i v hv=>let ⟨a,e,x⟩:=Fz i v hv;⟨a,e,JN nS Mi x⟩) fun fh P6 QW=> ?_⟩
  ·rw[sb.2 b (fun h:b=S=>Fw (by rw[<-h];exact hb))];exact e
  ·refine hR fh (Moved.trans W.gtrans ((hm.mono lK).then_heap (ZeS _ _) fun b o hb e=> ?_) P6) QW
   rw[sb.2 b (fun h:b=S=>hb (by rw[h];exact Zas))];exact e
end
section
variable {K:Type} [DecidableEq K] {prog:Program}{w:World}{kk:KeyKind prog w K}{A:Around}{E:Value->Shared->Prop}{s:Shared}
abbrev jX (led:Bool):Obj:= {cls:=.type "set",dict:=none,data:=.set #[] 0 (.fresh 0 0 led)}
theorem Zc2 {h:Heap}{S:Addr}(led:Bool) (g:h.get? S=some (jX led)):jH (tupleKind kk) h S []:=by
 refine⟨_, #[],0,_,g,⟨rfl,rfl,rfl⟩,rfl,⟨rfl,.nil,rfl,fun j hj=> ?_,fun z hz=> ?_⟩,.inl ⟨rfl,ZaV _⟩,fun e he=> ?_,fun k hk=> ?_,rfl⟩
 ·exact absurd hj (by simp[SetTable.fresh])
 ·exact absurd hz (by simp[SetTable.fresh])
 ·exact absurd he (by simp)
 ·exact absurd hk (by simp)
set_option maxHeartbeats 8000000 in
theorem Tq {l:Addr}{items:Array Value}{val:Nat->List K}{Q:Value->Shared->Prop}
  (hh:A.handled=none) (hu:A.in1.in1.in1.units<cLine) (hl:s.heap.IsList l items) (hi:∀i v,items[i]? =some v->∃a,v=.ref a/\IsTupleKey kk s.heap (val i) a) (hb:items.size<=305)
  (h:∀(h':Heap) (tk:Nat),jH (tupleKind kk) h' s.heap.objs.size (met val items.size)->(∀b o,b<s.heap.objs.size->s.heap.get? b=some o->h'.get? b=some o)->Q (.ref s.heap.objs.size) {s with heap:=h',toks:=tk}):
  wpAny (model prog w) A (call (.type "set") [.ref l]) Q E s:=by
 have cS:=F.called_set
 obtain⟨c0,tl0,aaw⟩:=cS.mro
 have aax:=cS.made;have aas:=cS.sub
 refine PySem.wpAny_call (PySem.codeAny_of_tree (show wpAny _ _ (callAny (.type "set") _) _ _ _ from ?_))
 refine Zaf ⟨Code.quiet_builtin _ (by decide+kernel),Zck F.entry_type_call ?_⟩
 rw[Around.under_plain (weight_type_call_type "set" [.ref l] []) rfl]
 have k1:=cS.notType;have k2:=cS.canCreate;have k3:=F.typeCall_set_1 (.ref l)
 repeat (any_goals (first |assumption |wp_step))
 refine Zec (code_set_new_1 (.ref l) (E:=E) (Q₁:=fun ob aI=> ∃led:Bool,ob=.ref s.heap.objs.size/\aI= {s with heap:=s.heap.push (jX led)}) fun led=> ⟨led,rfl,rfl⟩) fun Mq aI A1=> ?_
 cases Mq with
 |error e=>exact A1
 |ok RH=>
  cases RH with
  |ret ob=>
   obtain⟨led,rfl,rfl⟩:=A1
   have gS:(s.heap.push (jX led)).get? s.heap.objs.size=some (jX led):=Zat _ rfl
   have tS:Shared.TypeIs {s with heap:=s.heap.push (jX led)} (.ref s.heap.objs.size) "set" :=⟨_,gS,rfl⟩
   have li0:=cS.init.lookup;have bi0:=cS.init.bind (.ref s.heap.objs.size)
   repeat (any_goals (first |assumption |wp_step))
   refine Zec (PySem.codeAny_call_builtin (R:=wants (fun r oG=>r=.none/\∃h' tk,oG= {s with heap:=h',toks:=tk}/\jH (tupleKind kk) h' s.heap.objs.size (met val items.size)/\(∀b o,b<s.heap.objs.size->s.heap.get? b=some o->h'.get? b=some o)) E) cS.init.plain F.entry_set_init (check_set_init_1 tS ?_)) fun Mp oG A0=> ?_
   ·obtain⟨⟨lc,ld,lt,ls⟩,we,cZ,nl,sJ⟩:=hl
    simp only at cZ sJ
    subst cZ;subst sJ
    have PU:=Zab (jX led) we
    have yK:=F.sub_list_set;have gW:=F.sub_list_frozenset
    have ne0:(Value.type "list" ==Value.type "dict")=false:=.d
    have nz:(s.heap.push (jX led)).IsList l items:=⟨_,PU,rfl,nl,rfl⟩
    unfold Builtin.«set.__init__» noKeywords Builtin.Frozenset.updateFrom
    generalize QY:pyIter=PI
    wp_walk
    subst QY
    refine Ze8 nz (Zaa (wpAny_runValue ?_))
    have DW:l<s.heap.objs.size:=Zaq we
    have Ql:A.in1.in1.in1.handled=none:=by simp[hh]
    have nI:l≠(s.heap.push (jX led)).objs.size:=by rw[Zdp];exact ZaE (Zeh DW)
    have Sf:s.heap.objs.size∉[(s.heap.push (jX led)).objs.size,l]:=by
     rw[Zdp]
     simp only[Zao,Zax,Zbc,Zdo,not_or]
     exact⟨ZaE (Nat.lt_succ_self _),Nat.ne_of_gt DW⟩
    refine Oo (kk:=kk) ?hroom ((PySem.Walks.list Ql _ l nI items).toS) s.heap.objs.size Sf val hb ?hI (items.size - 0) 0 _ .o (ZaV _) ⟨⟨_,Zat _ rfl,rfl,rfl⟩,(nz.push _)⟩ ?QV ?wJ ?hR
    case hroom=>exact hu
    case hI=>
     rintro i s1 ⟨⟨o1,e1,e2,_⟩,_⟩ b hb
     rw[Zax.mp hb]
     exact⟨o1,e1,by rw[e2];decide⟩
    case QV=>exact Zc2 led (Zab _ gS)
    case wJ=>
     intro i v hv
     obtain⟨a,e,x⟩:=hi i v hv
     refine⟨a,e,JN (ws:=[]) (fun b hb=>absurd hb (by simp)) (fun b o _ eb=>Zab _ (Zab _ eb)) x⟩
    case hR=>
     rintro⟨h',g',d',qH,zx⟩ hm dY
     obtain rfl:g'=s.gens:=hm.gens
     obtain rfl:d'=s.drawn:=hm.drawn
     obtain rfl:zx=s.os:=hm.os
     show wpAny _ _ _ _ _ _
     refine Zaf (show wpAny _ _ (ret Value.none) _ _ _ from Zaf ⟨rfl,h',qH,rfl,dY,fun b o hb e=> ?_⟩)
     refine hm.heap b o ?_ (Zab _ (Zab _ e))
     simp only[Zao,Zax,Zbc,Zdo,not_or]
     exact⟨ZaE hb,by rw[Zdp];exact ZaE (Zeh hb)⟩
   ·cases Mp with
    |error e=>exact A0
    |ok RG=>
     cases RG with
     |ret r=>
      obtain⟨rfl,h',tk,rfl,dY,aP⟩:=A0
      repeat (any_goals (first |assumption |wp_step))
      exact h _ _ dY aP
     |_=>exact A0.elim
  |_=>exact A1.elim
end
end HS
namespace L2
open PySem PySem.Spec PyProof.Rows
def iJ (ks:List (List Int)):Nat:=(HS.met (fun i=>ks.getD i []) ks.length).length
theorem XN (ks:List (List Int)):iJ ks=ks.length↔ks.Nodup:=by
 unfold iJ
 rw[HS.DR]
 have e:(List.range ks.length).map (fun i=>ks.getD i [])=ks:=by
  refine List.ext_getElem (by simp) fun i h1 h2=> ?_
  rw[List.getElem_map,List.getElem_range,ZbL,Zag h2,ZeP]
 rw[e]
theorem items_int {prog:Program}{w:World} :∀{ks:List Int}{us:List Value},Vals (ks.map V.int) us->ItemsAre (intKind prog w) ks us
 | [],_,.nil=> .nil
 |k::ks,_,.cons r rs=>by
  obtain⟨t,rfl⟩:=r
  exact .cons (intKind_is _ _ _ _) (items_int rs)
section
variable {X:Cx}
theorem K4 {pins:List (Addr×Obj)}{σ:St}{H:Hp}{s:Shared}{v:V}{u:Value}{k:List Int}(I:Inv X pins σ H s) (h:dc H v k) (r:RelV v u):∃a,u=.ref a/\IsTupleKey (intKind X.prog X.w) s.heap k a:=by
 obtain⟨t,rfl,ht⟩:=h
 cases r
 obtain⟨us,rv,⟨o,ho,hc,n,hd⟩,_⟩:=I.tuple (aj.of ht)
 exact⟨t,rfl,o,us.toArray,n,ho,hc,hd,by simpa using items_int rv⟩
def Lp (K:ZhQ) (te:TE):TE:=fun σ H Q=>te σ H fun v H1=> ∃(l:Addr) (ts:List V) (ks:List (List Int)),v=.ref l/\ai K H1 l ts/\Paired (dc H1) ts ks/\ts.length<=305/\Q (.int (iJ ks)) H1
theorem ZcD {e:Expr}{te:TE}{p p2 pos rD:Pos}(hc:X.calm=true) (hu:X.A.units+4<cLine) (hg:Gl X "len") (hm:X.mg "len" =none) (AD:Gl X "set") (r6:X.mg "set" =none) (he:PE X e te)
  (Eu:starEach [.Call (.Name "set" p2) [e] [] rD] X.env=[(false,eval (.Call (.Name "set" p2) [e] [] rD) X.env)]:=by rfl) (lN:starEach [e] X.env=[(false,eval e X.env)]:=by rfl):
  PE X (.Call (.Name "len" p) [.Call (.Name "set" p2) [e] [] rD] [] pos) (Lp X.K te):=by
 intro pins s σ H Q I h
 refine Zde (YD I hg hm Zfb ?_)
 refine PyProof.Rows.callWith_builtin1 ?_ Eu rfl
 rw[Eu]
 show wpAny _ _ (spliced ((false,eval (.Call (.Name "set" p2) [e] [] rD) X.env)::backTo pos (starEach [] X.env))) _ _ s
 refine PySem.Calls.spliced_cons ?_
 refine Zde (YD I AD r6 boot_set ?_)
 have h2:oF te qI σ H fun vs H1=> ∃v,vs=[v]/\∃(l:Addr) (ts:List V) (ks:List (List Int)),v=.ref l/\ai X.K H1 l ts/\Paired (dc H1) ts ks/\ts.length<=305/\Q (.int (iJ ks)) H1:=by
  have e0:(fun(v:V) (H1:Hp)=> ∃v':V,[v]=[v']/\∃(l:Addr) (ts:List V) (ks:List (List Int)),v'=.ref l/\ai X.K H1 l ts/\Paired (dc H1) ts ks/\ts.length<=305/\Q (.int (iJ ks)) H1)=(fun(v:V) (H1:Hp)=> ∃(l:Addr) (ts:List V) (ks:List (List Int)),v=.ref l/\ai X.K H1 l ts/\Paired (dc H1) ts ks/\ts.length<=305/\Q (.int (iJ ks)) H1):=by
   funext v H1
   refine propext ⟨fun⟨v',z,q⟩=> ?_,fun q=> ⟨v,rfl,q⟩⟩
   cases z
   exact q
  show te σ H (fun(v:V) (H1:Hp)=> ∃v':V,[v]=[v']/\∃(l:Addr) (ts:List V) (ks:List (List Int)),v'=.ref l/\ai X.K H1 l ts/\Paired (dc H1) ts ks/\ts.length<=305/\Q (.int (iJ ks)) H1)
  rw[e0]
  exact h
 refine Zb3 (ar (Za he Zb lN rD pins s σ H _ I h2) fun us s1 ⟨vs,H1,I1,r1,q1⟩=> ?_) lN rfl
 obtain⟨v,rfl,l,ts,ks,rfl,hl,pr,hn,q⟩:=q1
 obtain⟨u,rfl,ru⟩:=Zgc r1
 cases ru
 obtain⟨aa,rv,pl,hz⟩:=I1.list hl
 have ll:=rv.length
 have lk:=Zcf pr
 refine HS.Tq (kk:=intKind X.prog X.w) (val:=fun i=>ks.getD i []) (items:=aa.toArray) (I1.ok.hd hc) (by show X.A.units+1+1+1<cLine;omega) pl.isList (fun i u iP=> ?_) (by rw[Zaj];omega) fun h' tk hS hk=> ?_
 ·have En:aa[i]? =some u:=by simpa using iP
  have hi:i<ts.length:=by rw[ll];exact(Zad.mp En).1
  obtain⟨u',e1,r2⟩:=rv.get (Zag hi)
  rw[En]at e1
  cases e1
  obtain⟨k,hk,tp⟩:=Jn pr (Zag hi)
  obtain⟨a,e,x⟩:=K4 I1 tp r2
  refine⟨a,e,?_⟩
  show IsTupleKey _ _ (ks.getD i []) a
  rw[ZbL,hk]
  exact x
 ·have I2:Inv X pins σ H1 {s1 with heap:=h',toks:=tk} :=I1.kept fun b o eb=>hk b o (Zaq eb) eb
  refine PySem.Calls.spliced_nil ?_
  obtain⟨o,es,ep,t,SH⟩:=hS
  have sm:=SH.room.small
  refine call_len_set SH.ho SH.ex SH.hd (SH.T.fits (Zeb (ZeJ SH.room.lt))) .o ?_
  have ez:(es.size:Int)=(iJ ks:Int):=by
   rw[SH.sz]
   unfold iJ
   rw[Zaj,<-ll,lk]
  exact⟨.int (iJ ks),H1,I2.tok _,⟨_,by rw[<-ez]⟩,q⟩
end
end L2
namespace L2
open PySem PySem.Spec PyProof.Rows SeqAt
end L2
namespace L2
open PySem PySem.Spec PyProof.Rows
def tQ (K:ZhQ) (t:Addr):It:=
 ⟨fun i H=> ∃xs x,ai K H t xs/\xs[i]? =some x,fun i H x H'=> ∃(T:Addr) (y:V),x=.ref T/\H T=none/\H'=upd H T (.par [.int (i:Int),y])/\∀xs,ai K H t xs->xs[i]? =some y,fun i H=> ∃xs,ai K H t xs/\xs.length=i⟩
theorem Za7 {P:Program}{w:World}{K:ZhQ}{elts:List Expr}{kk:Nat}{pos:Pos}(t e j:Addr) (kh:e≠j) (rP:t≠e) (rO:t≠j):
  Turn P w K (.Tuple elts kk pos) (tQ K t) [e,j] e (fun i h=> (∃old,IsEnum h e j i old)/\h.IsListIter j t i) where
 mem:=by simp
 obj:=fun i h st b hb=>by
  obtain⟨⟨old,he⟩,o,ho,hc,hd⟩:=st
  rcases Zao.mp hb with rfl |hb
  ·exact⟨_,he,fun v z=>by cases z⟩
  ·rw[Zax.mp hb]
   exact⟨o,ho,fun v z=>by rw[hd]at z;cases z⟩
 keep:=fun i h h' st k=> ⟨let ⟨old,he⟩:=st.1;⟨old,k e (by simp) _ he⟩,st.2.at fun o q=>k j (by simp) o q⟩
 item:=by
  intro X hP hw hK hc i pins s σ H E I hf st hg
  subst hP hw hK
  obtain⟨xs,x,hq,hx⟩:=hg
  obtain⟨aa,rv,p,hz⟩:=I.list hq
  obtain⟨u,hu,ru⟩:=rv.get hx
  have hl:=rv.length
  have nE:i<aa.toArray.size:=by
   have:=(Zad.mp hu).1
   simpa using this
  have W:=ZfH (prog:=X.prog) (w:=X.w) (A:=X.A) (Draws.list (A:=X.A.in1) (show X.A.in1.handled=none from I.ok.hd hc) j t rO aa.toArray) e kh (by simp[kh,rP.symm]) (by simp)
  have hT:s.heap.IsList t aa.toArray:=p.isList
  refine W.item i s _ _ nE ⟨st.1,st.2,hT⟩ fun T vals h' tk hP cW nG iQ hk=> ⟨_,rfl,W.go elts kk pos i T _ _ _ iQ fun eX dm eV=> ?_⟩
  obtain⟨xS,x2,j7,rfl⟩:=hP
  have lG:aa[i]? =some x2:=by simpa using j7
  rw[hu]at lG
  cases lG
  have sQ:T∉[e,j]:=W.apart _ _ _ iQ
  refine⟨.ref T,upd H T (.par [.int (i:Int),x]),JP (s:=s) (h':=eX) (tk:=tk) I hf (fun b o hb q=>eV b o hb (hk b o hb q)) cW (nG.at fun o q=>eV T o sQ q) ⟨xS,rfl⟩ ru,rfl,⟨T,x,rfl,I.ak.fresh cW,rfl,fun ys hy=>by rw[I.vN hy hq];exact hx⟩,⟨dm.1,dm.2.1⟩,fun b hb=> ?_⟩
  rw[Zh (fun z=>sQ (by rw[<-z];exact hb))]
  exact(hf b hb).1
 done:=by
  intro X hP hw hK hc i pins s σ H E I hf st hg
  subst hP hw hK
  obtain⟨xs,hq,hx⟩:=hg
  obtain⟨aa,rv,p,hz⟩:=I.list hq
  have hl:=rv.length
  have W:=ZfH (prog:=X.prog) (w:=X.w) (A:=X.A) (Draws.list (A:=X.A.in1) (show X.A.in1.handled=none from I.ok.hd hc) j t rO aa.toArray) e kh (by simp[kh,rP.symm]) (by simp)
  have hn:i=aa.toArray.size:=by rw[Zaj];omega
  have hT:s.heap.IsList t aa.toArray:=p.isList
  rw[hn]at st
  exact W.done s _ _ ⟨st.1,st.2,hT⟩ fun h' tk hk=> ⟨rfl,Ws (s:=s) (h':=h') (tk:=tk) I hf hk⟩
 self:=fun A i s Q E st h=>let ⟨old,he⟩:=st.1;ZfI he h
section
variable {X:Cx}{elts:List Expr}{kk:Nat}{tp:Pos}
def OR (K:ZhQ) (ta:TA):TI:=fun σ H R=>ta σ H fun vs H1=> ∃t,vs=[.ref t]/\(∃xs,ai K H1 t xs)/\R (tQ K t) H1
theorem ZdC {a:Expr}{ta:TA}{p pos:Pos}(hg:Gl X "enumerate") (hm:X.mg "enumerate" =none) (ha:PA X [a] ta) (hs:starEach [a] X.env=[(false,eval a X.env)]:=by rfl):PI X (.Tuple elts kk tp) (.Call (.Name "enumerate" p) [a] [] pos) (OR X.K ta):=by
 intro pins s σ H R I h
 refine Call_ (YD I hg hm boot_enumerate (Zb3 (ar (ha pos pins s σ H _ I h) fun us s1 ⟨vs,H1,I1,r1,q1⟩=> ?_) hs rfl))
 obtain⟨t,e,⟨xs,hq⟩,q⟩:=q1
 subst e
 obtain⟨u,rfl,ru⟩:=Zgc r1
 cases ru
 obtain⟨aa,rv,pl,hz⟩:=I1.list hq
 have hT:s1.heap.IsList t aa.toArray:=pl.isList
 have ht:t<s1.heap.objs.size:=by obtain⟨o,ho,_⟩:=hT;exact Zaq ho
 refine call_enumerate_list hT fun h' he hj cY hk=>ZfI he ?_
 have I2:Inv X pins σ H1 {s1 with heap:=h'} :=I1.kept (t':=s1.toks) hk
 refine⟨s1.heap.objs.size+1,[s1.heap.objs.size+1,s1.heap.objs.size],_,_,H1,rfl,I2,Za7 t _ _ (Nat.succ_ne_self _) (ZaE (Zeh ht)) (ZaE ht),⟨⟨_,he⟩,hj⟩,fun b hb=> ?_,q⟩
 have iU:s1.heap.objs.size<=b:=by
  rcases Zao.mp hb with z |z
  ·rw[z];exact Nat.le_succ _
  ·rw[Zax.mp z];exact Zae _
 exact I1.lU iU (I1.ak.fresh iU)
end
theorem Zc3 {K:ZhQ}{a:Addr}{xs:List V}{g:TG}{tb:TS}{D:Ends}{σ:St}{H:Hp}(Pv:Nat->St->Hp->Prop) (h0:Pv 0 σ H) (hl:∀i σ H,i<=xs.length->Pv i σ H->ai K H a xs)
  (hs:∀i x T σ H,xs[i]? =some x->H T=none->Pv i σ H->g (.ref T) σ (upd H T (.par [.int (i:Int),x])) fun aT H2=>tb {D with nx:=Pv (i+1),ct:=Pv (i+1),bk:=D.nx} aT H2) (hd:∀σ H,Pv xs.length σ H->D.nx σ H):
  ∃W:Nat->Nat->St->Hp->Prop,(∃m,W 0 m σ H)/\∀i m σ H,W i m σ H->
   ((tQ K a).stop i H/\D.nx σ H)∨((tQ K a).go i H/\∃N:St->Hp->Prop,(∀ao H',N ao H'->∃m',m'<m/\W (i+1) m' ao H')/\∀x H',(tQ K a).mq i H x H'->g x σ H' fun aT H2=>tb {D with nx:=N,ct:=N,bk:=D.nx} aT H2):=by
 refine⟨fun i m σ H=>m=xs.length - i/\i<=xs.length/\Pv i σ H,⟨xs.length,by simp,ZaV _,h0⟩,?_⟩
 rintro i m σ H ⟨rfl,hi,p⟩
 have q:=hl i σ H hi p
 by_cases az:i<xs.length
 ·refine .inr ⟨⟨xs,xs[i],q,by simp[az]⟩,Pv (i+1),fun ao H' p'=> ⟨xs.length - (i+1),.o,rfl,az,p'⟩,fun x H' y=> ?_⟩
  obtain⟨T,z,e1,e2,e3,e4⟩:=y
  subst e1 e3
  exact hs i z T σ H (e4 xs q) e2 p
 ·have e:i=xs.length:=.o
  subst e
  exact .inl ⟨⟨xs,q,rfl⟩,hd σ H p⟩
end L2
namespace L2
open PySem PySem.Spec PyProof.Rows SeqAt
end L2
namespace L2
open PySem PySem.Spec PyProof.Rows
section
variable {prog:Program}{w:World}{A:Around}{E:Value->Shared->Prop}{s:Shared}
theorem Uh {Q:List Value->Shared->Prop}{r:Addr}{a b c:Int}{t u v:Tok}{n:Nat}(hh:A.handled=none) (hr:IsRange s.heap r a b c t u v) (Ae:Builtin.Range.small a b c=true)
  (hn:Builtin.Range.rangeSize a b c=n) (hlen:n<=2^24)
  (hQ:∀(h':Heap) (tk:Nat) (acc:Array Value),(∀b o,s.heap.get? b=some o->h'.get? b=some o)->ItemsOf (fun i v=> ∃t,v=.int (a+i*c) t) acc n->Q acc.toList {s with heap:=h',toks:=tk}):wpAny (model prog w) A (collect (.ref r)) Q E s:=by
 unfold collect
 refine Zaa (wpAny_runValue (Zck F.entry_proto_collect ?_))
 rw[Zb0 F.plain_proto_collect _]
 show wpAny _ A.in1 (newList [] >>=fun l=>again (.builtin "list.__iadd__" ⟨[l,.ref r],[]⟩)) _ _ s
 refine Zaa (ZbR ?_)
 refine Zaf ⟨Zev F.plain_list_iadd _,Zck F.entry_list_iadd ?_⟩
 rw[Zb0 F.plain_list_iadd _]
 have QT:(s.heap.push {cls:=.type "list",data:=.seq ([]:List Value).toArray}).get? s.heap.objs.size=some {cls:=.type "list",data:=.seq ([]:List Value).toArray} :=Zat _ rfl
 show wpAny _ A.in1 (Builtin.List.listExtendWith (.ref s.heap.objs.size) (.ref r) (.ref s.heap.objs.size)) _ _ _
 refine Zbs (wpAny_extend_range (A:=A) (R:=fun r s'=> ∃(h':Heap) (tk:Nat) (acc:Array Value) (c':Nat),r=.ok (.ret (.ref s.heap.objs.size))/\s'= {s with heap:=h',toks:=tk}/\(∀b o,s.heap.get? b=some o->h'.get? b=some o)/\h'.get? s.heap.objs.size=some {cls:=.type "list",dict:=none,data:=.seq acc c',slots:= #[]}/\ItemsOf (fun i v=> ∃t,v=.int (a+i*c) t) acc n)
  (s:= {s with heap:=s.heap.push {cls:=.type "list",data:=.seq ([]:List Value).toArray} }) hh (Zab _ hr) Ae hn hlen s.heap.objs.size (.ref s.heap.objs.size) 0 QT fun h' tk TL c' hk dY fX=> ⟨h',tk,TL,c',rfl,rfl,fun b o e=>hk b o (ZaE (Zaq e)) (Zab _ e),dY,fX⟩) (fun fin s' h=> ?_) (fun e s' h=> ?_)
 ·cases fin with
  |done f=>
   obtain⟨h',tk,acc,c',e,rfl,hk,dY,fX⟩:=h
   cases e
   show wpAny _ A (load s.heap.objs.size >>=_) _ _ _
   refine Zaa (wpAny_load dY ?_)
   exact Zaf (hQ h' tk acc hk fX)
  |again c'=>
   refine⟨h.1,Zec h.2 fun r fh hr=> ?_⟩
   obtain⟨h',tk,acc,c',rfl,rfl,hk,dY,fX⟩:=hr
   show wpAny _ A (load s.heap.objs.size >>=_) _ _ _
   refine Zaa (wpAny_load dY ?_)
   exact Zaf (hQ h' tk acc hk fX)
 ·obtain⟨_,_,_,_,e,_⟩:=h
  cases e
theorem Wd {Q:Value->Shared->Prop}{r:Addr}{a b c:Int}{t u v:Tok}{n:Nat}(hh:A.handled=none) (hr:IsRange s.heap r a b c t u v) (Ae:Builtin.Range.small a b c=true)
  (hn:Builtin.Range.rangeSize a b c=n) (hlen:n<=2^24)
  (hQ:∀(h':Heap) (tk:Nat) (acc:Array Value),(∀b o,s.heap.get? b=some o->h'.get? b=some o)->ItemsOf (fun i v=> ∃t,v=.int (a+i*c) t) acc n->Q (.ref h'.objs.size) {s with heap:=h'.push {cls:=.type "tuple",data:=.seq acc},toks:=tk}):
  wpAny (model prog w) A (call (.type "tuple") [.ref r]) Q E s:=by
 refine callType_codes (Q₁:=fun obj aI=>aI.TypeIs obj "tuple" /\Q obj aI) PySem.F.called_tuple (F.typeCall_tuple_1 _) F.entry_object_init ?_ fun obj aI fS=> ?_
 ·refine PySem.codeAny_of_tree ?_
  show wpAny _ A.in1.in1 (do checkBuiltinCall "tuple.__new__" ⟨[.type "tuple",.ref r],[]⟩;again (.builtin "tuple.__new__" ⟨[.type "tuple",.ref r],[]⟩)) _ _ s
  refine Zaa (PySem.wpAny_of_eq (F.newCall_tuple_1 _) (Zaf ⟨Zev F.plain_tuple_new _,Zck F.entry_tuple_new ?_⟩))
  rw[Zb0 F.plain_tuple_new _]
  have lK:=sub_tuple_self
  have aaF:=init_tuple_lookup
  have hmh:=madeHere_tuple
  have QS:s.TypeIs (.ref r) "range" :=⟨_,hr,rfl⟩
  wp_walk using wpAny_typeOf QS,Uh (A:=A.in1.in1) hh hr Ae hn hlen
  intro h' tk acc hk fX
  show wpAny _ _ (Builtin.Tuple.tupleExact acc.toList.toArray >>=fun v=>ret v) _ _ _
  unfold Builtin.Tuple.tupleExact
  refine Zaa (ZbR ?_ (by show acc.toList.toArray.size<=sizeLine;simp only[Array.toArray_toList];rw[fX.1,ZaH];exact hlen))
  refine Zaf ?_
  have e:acc.toList.toArray=acc:=by simp
  rw[e]
  exact⟨⟨_,Zat _ rfl,rfl⟩,hQ h' tk acc hk fX⟩
 ·exact⟨fS.1,F.args_object_init_2 obj _,object_init_meets PySem.F.called_tuple.init.lookup PySem.F.called_tuple.made .d prog w A.in1 _ aI ⟨fS.1,rfl,fS.2⟩⟩
end
section
variable {X:Cx}
theorem WX (hc:X.calm=true:=by rfl):dA X (.type "tuple") (fun xs H Q=> ∃(p:Addr) (j:Int),xs=[.ref p]/\H p=some (.fj 0 j)/\0<=j/\j<=1000/\∀q,H q=none->Q (.ref q) (upd H q (.tup (upTo j.toNat)))):=by
 intro pins s σ H xs us Q I r h
 obtain⟨p,j,rfl,hp,h0,h1,q⟩:=h
 obtain⟨u,rfl,ru⟩:=Zgc r
 cases ru
 obtain⟨t,u,v,e⟩:=(show bu X.prog X.w H s.heap p (.fj 0 j) from I.ak p _ hp)
 refine Wd (n:=j.toNat) (I.ok.hd hc) e (small_one .o .o .o .o) (by rw[PySem.rangeSize_one];split<;>omega) .o fun h' tk acc hk fX=> ?_
 have r2:=JO fX
 have hlen:(upTo j.toNat).length<=sizeLine:=by unfold upTo;rw[Zar,Zcb,ZaH];omega
 have I1:Inv X pins σ H {s with heap:=h',toks:=tk} :=I.kept hk
 have ea:acc=acc.toList.toArray:=by simp
 have I2:Inv X pins σ (upd H h'.objs.size (.tup (upTo j.toNat))) {s with heap:=h'.push {cls:=.type "tuple",data:=.seq acc},toks:=tk} :=by
  rw[ea]
  exact I1.laid (t':=tk) (fun b o e=>Zab _ e) (Zae _) (show bu X.prog X.w _ _ _ (.tup (upTo j.toNat)) from ⟨hlen,acc.toList,r2,IsTup.new _ _,_,Zat _ rfl,rfl⟩)
 exact⟨.ref h'.objs.size,_,I2,rfl,q _ (I1.ak.fresh (Zae _))⟩
end
end L2
namespace L2
open PySem PySem.Spec PyProof.Rows PyProof.Rows.fO
end L2
namespace L2
open PySem PySem.Spec PyProof.Rows
def kC (X:Cx) (N':List Str) (scope:Scope) (C:Addr) (s2:Shared) (H2:Hp) (fp:List Addr) (XE:Value->Shared->Prop):Cx:= {aR X N' scope C s2 H2 fp with xe:=XE}
theorem Vt {X:Cx}{pins:List (Addr×Obj)}{σ:St}{H:Hp}{s:Shared}{XE:Value->Shared->Prop}(I:Inv X pins σ H s):Inv {X with xe:=XE} pins σ H s:=
 ⟨⟨I.ok.mod,I.ok.kind,I.ok.glob,I.ok.blt,I.ok.above,I.ok.inj,I.ok.has,I.ok.kB,I.ok.hd,I.ok.frames,I.ok.mz,I.ok.kA,I.ok.bs,I.ok.i8,I.ok.kW,I.ok.kr,I.ok.dI,I.ok.fZ⟩,
  I.os,I.bare,I.base,I.loc,I.cell,I.free,I.fI,I.pin,I.ak,I.len⟩
section
variable {M:Model}{A:Around}{E:Value->Shared->Prop}{s:Shared}{base:Heap}{e:Addr}{cls a0 fl:Value}
theorem Zbn {l:List Env}{fr:Option Addr}{Q:Unit->Shared->Prop}(kb:base.StaysIn s.heap) (ff:s.heap.FunFrames base l) (tr:s.heap.TracedAtW base e cls a0 fl)
  (q:∀h',base.StaysIn h'->h'.FunFrames base l->h'.TracedAtW base e cls a0 (fr.elim .none fun f=>rawInt f)->(∀b o,s.heap.get? b=some o->(∀vs,o.data≠.fields vs)->h'.get? b=some o)->Q () {s with heap:=h'}):wpAny M A (setFlight (.ref e) fr) Q E s:=by
 obtain⟨oe,vs,T,oT,ts,ge,gc,gd,g1,gn,nK,gT,iX,g3⟩:=tr
 have sz:3<ts.size:=(Zba.mp g3).1
 generalize hu:(fr.elim Value.none fun f=>rawInt f)=u at q
 have jU:∀b,b≠T->(s.heap.update T (Obj.mapFields (·.setIfInBounds 3 u))).get? b=s.heap.get? b:=fun b z=>ZbP s.heap _ (ZdS z)
 have nT:∀b o,s.heap.get? b=some o->(∀vs,o.data≠.fields vs)->b≠T:=fun b o hb nf z=>by
  rw[z,gT]at hb
  cases hb
  exact nf ts iX
 unfold setFlight
 refine Zaa (ZbQ ge gd g1 ?_)
 rw[ZaY (by simp),hu]
 refine Zfd gT iX sz (q _ (fun b o hb=> (jU b fun z=> ?_).trans (kb b o hb)) (ff.of_keeps fun b o hb nf=> ⟨o,(jU b (nT b o hb nf)).trans hb,rfl⟩) ?_ fun b o hb nf=> (jU b (nT b o hb nf)).trans hb)
 ·rw[z,gn]at hb
  cases hb
 ·exact⟨oe,vs,T,_,_,(jU e (ZdS nK)).trans ge,gc,gd,g1,gn,nK,Zdi _ gT (PySem.Obj.isFreed_of_fields (Zeu iX _)),Zeu iX _,by simp[sz]⟩
theorem ZdT {env:Env}{outer:List Env}{L:Addr}{Q:Unit->Shared->Prop}(fr:A.frames=some (env::outer)) (ff:s.heap.FunFrames base (env::outer)) (ef:env.frame=some L) (tr:s.heap.TracedAtW base e cls a0 fl) (kb:base.StaysIn s.heap) (en:base.get? e=none)
  (q:∀h',Heap.NotedW base (env::outer) e cls a0 (rawInt L) s.heap h'->Q () {s with heap:=h'}):wpAny M A (noteFrame (.ref e) env) Q E s:=by
 by_cases z:fl=rawInt L
 ·subst z
  exact wpAny_noteFrame_againW ef tr (q s.heap ⟨kb,ff,tr,fun b o hb _=> ⟨o.slots,hb⟩⟩)
 ·obtain⟨oe,vs,T,oT,ts,ge,⟨rfl,g0⟩,gd,g1,gn,nK,gT,iX,g3⟩:=tr
  have jU:∀b,b≠T->(s.heap.update T (Obj.mapFields (·.setIfInBounds 3 Value.none))).get? b=s.heap.get? b:=fun b z=>ZbP s.heap _ (ZdS z)
  have nT:∀b o,s.heap.get? b=some o->(∀vs,o.data≠.fields vs)->b≠T:=fun b o hb nf z=>by
   rw[z,gT]at hb
   cases hb
   exact nf ts iX
  unfold noteFrame
  simp only[ef]
  refine Zaa (ZbQ ge gd g1 ?_)
  rw[ZaY (by simp)]
  refine Zaa (ZbQ gT iX g3 ?_)
  rw[ZaK (by simpa using z)]
  refine Zaa (Zfd gT iX (Zba.mp g3).1 ?_)
  refine wpAny_entryW fr (ff.of_keeps fun b o hb nf=> ⟨o,(jU b (nT b o hb nf)).trans hb,rfl⟩) ef ((jU e (ZdS nK)).trans ge) (fun b o hb=> (jU b fun z=> ?_).trans (kb b o hb)) en gd (Zba.mp g1).1 g0
   fun h' ⟨x1,x2,x3,x4⟩=>q h' ⟨x1,x2,x3,fun b o hb nf=>x4 b o ((jU b (nT b o hb nf)).trans hb) nf⟩
  rw[z,gn]at hb
  cases hb
theorem WT {C:Addr}{h h' bf:Heap}(sb:Heap.SameBut C h h') (hb:∀b,base.get? b=none->bf.get? b=none):∀{l:List Env},C∉aQ l->h.FunFrames base l->h'.FunFrames bf l
 | [],_,_=>trivial
 |env::r,nc,⟨k,⟨L,o,ef,n,ho,nd⟩,rest⟩=>by
  have hm:aQ (env::r)=L::aQ r:=Zdj (f:=fun(x:Env)=>x.frame) ef
  rw[hm]at nc
  exact⟨k,⟨L,o,ef,hb L n,(sb.2 L fun z=>nc (by rw[z];exact Zas)).trans ho,nd⟩,WT sb hb (fun z=>nc (Zan _ z)) rest⟩
end
theorem Vi {fs:List Addr}{H0 H1:Hp}{h0 h1 h' B:Heap}(u:Un fs [] H0 H1 h0 h1) (fz:∀b∈fs,H0 b=none) (bA:∀b o,h0.get? b=some o->b∉fs->∃v,B.get? b=some v) (k1:B.StaysIn h1) (k2:B.StaysIn h')
  (up:∀b∈fs,∀o,h1.get? b=some o->∃sl,h'.get? b=some {o with slots:=sl}):Un fs [] H0 H1 h0 h':=by
 have kp:∀b o u,h1.get? b=some o->B.get? b=some u->h'.get? b=some o:=fun b o u h hu=>by
  have e1:=k1 b u hu
  rw[h]at e1
  cases e1
  exact k2 b _ hu
 refine⟨fun b o h n hf hx=> ?_,fun b o h n hf hx=> ?_,u.free,fun b o h hx=> ?_,u.dM,u.dJ,u.dD⟩
 ·obtain⟨v,hv⟩:=bA b o h hf
  exact kp b o v (u.keep b o h n hf hx) hv
 ·obtain⟨sl,q⟩:=u.slot b o h n hf hx
  obtain⟨oQ,q'⟩:=up b hf _ q
  exact⟨oQ,q'⟩
 ·by_cases hf:b∈fs
  ·obtain⟨sl,q⟩:=u.slot b o h (fz b hf) hf hx
   obtain⟨oQ,q'⟩:=up b hf _ q
   exact⟨_,q'⟩
  ·obtain⟨v,hv⟩:=bA b o h hf
   exact⟨v,k2 b v hv⟩
section
variable {P:Program}{w:World}{K:ZhQ}{mg:Str->Option Value}{base:Heap}{N:List Str}{qual:Str}{scope:Scope}{f:Addr}{cd:Value}{A:Around}{outer:List Env}{s:Shared}{H:Hp}{E:XK}
abbrev Gy (P:Program) (w:World) (K:ZhQ) (mg:Str->Option Value) (base:Heap) (N:List Str) (qual:Str) (scope:Scope) (f:Addr) (cd:Value) (A:Around) (outer:List Env) (s:Shared) (H:Hp) (E:XK) (RX:Env) (C:Addr):Value->Shared->Prop:=
 notedBy (model P w) (A.deeper (envOfC qual scope s.heap.objs.size f cd)) RX fun x s'=> ∃m,s'.heap.Ns C m/\∀h',Heap.SameBut C s'.heap h'->∀nW:Env,nW.locals=C->wpAny (model P w) (A.deeper (envOfC qual scope s.heap.objs.size f cd)) (PySem.passOn "comprehension.variables-let-go" x nW:Sem Value) (fun _ _=>False) (aF (aC P w) P w K mg base N qual scope f cd A outer s H E).xe {s' with heap:=h'}
theorem M9 {N':List Str}{sc:Scope}{C:Addr}{s2:Shared}{H2:Hp}{fp:List Addr}{pins:List (Addr×Obj)}{σ:St}(I2:Inv (aF (aC P w) P w K mg base N qual scope f cd A outer s H E) pins σ H2 s2) (hf:∀b∈fp,bE (aF (aC P w) P w K mg base N qual scope f cd A outer s H E) pins H2 b) (hC:s2.heap.objs.size<=C):
  Passes (aC P w) (kC (aF (aC P w) P w K mg base N qual scope f cd A outer s H E) N' sc C s2 H2 fp (Gy P w K mg base N qual scope f cd A outer s H E (aR (aF (aC P w) P w K mg base N qual scope f cd A outer s H E) N' sc C s2 H2 fp).env C)) E:=by
 intro pl Cs H1 s1 ev s3 J h
 obtain⟨e,Cc,H',rfl,F,hE⟩:=h
 obtain⟨B,a0,fl,bA,eY⟩:=F.wO
 generalize hX:envOfC qual scope s.heap.objs.size f cd=env at *
 have ef:env.frame=some s.heap.objs.size:=by rw[<-hX];rfl
 have u1:Un (aQ (env::outer)) fp H2 H1 s2.heap s1.heap:=by rw[<-hX];exact J.base
 have u3:Un (aQ (env::outer)) [] H1 H' s1.heap s3.heap:=by rw[<-hX];exact F.un
 have IX:Inv (aF (aC P w) P w K mg base N qual scope f cd A outer s H E) pins σ H' s3:=by
  refine I2.Bn (ch:=fp) (F.os.trans J.os) ?_ F.ak F.bare fun b hb=> ?_
  ·have u:=u1.trans (u3.mono (fun _ z=>z) fun b z=>absurd z (by simp))
   rw[<-hX]at u
   exact u
  ·obtain⟨f0,f1,f2,f3,f4,f5⟩:=hf b hb
   exact⟨f3,f1,f4,f5⟩
 have nC:C∉aQ (env::outer):=fun z=>by
  rw[<-hX]at z
  obtain⟨_,o,ho,_⟩:=I2.stack.mem z
  exact absurd (Zaz (Zaq ho) hC) (ZbI _)
 have FV:H1 C=none:=J.free
 obtain⟨m,zD,_⟩:=J.loc
 have zD:s1.heap.Ns C m:=zD
 obtain⟨oC,es,ep,gC,dC,rC⟩:=zD
 have FU:H' C=none:=u3.free C oC gC FV (by simp)
 have Rv:=u3.keep C oC gC FV nC (by simp)
 have Ti:=bA C oC gC (by show C∉aQ ((aF (aC P w) P w K mg base N qual scope f cd A outer s H E).stack);rw[show(aF (aC P w) P w K mg base N qual scope f cd A outer s H E).stack=env::outer by rw[<-hX];rfl];exact nC)
 obtain⟨uC,bC⟩:=Ti
 have FO:(A.deeper env).frames=some (env::outer):=by have:=I2.ok.frames;rw[<-hX];exact this
 have fl:Heap.FlyingW B (env::outer) e (.ref Cc) a0 s3.heap:=by rw[<-hX];exact fl
 have RY:noteFrame (.ref e) (aR (aF (aC P w) P w K mg base N qual scope f cd A outer s H E) N' sc C s2 H2 fp).env=noteFrame (.ref e) env:=by rw[<-hX];rfl
 show wpAny (model P w) (A.deeper (envOfC qual scope s.heap.objs.size f cd)) (noteFrame (.ref e) (aR (aF (aC P w) P w K mg base N qual scope f cd A outer s H E) N' sc C s2 H2 fp).env) _ _ s3
 rw[RY,hX]
 refine wpAny_looks_onW FO ef fl fun h1 hh up1=> ?_
 obtain⟨kc,nk,Qt,j9⟩:=hh
 have Rw:h1.get? C=some oC:=by
  have e1:=fl.1 C uC bC
  rw[Rv]at e1
  cases e1
  exact kc C _ bC
 refine⟨m,⟨oC,es,ep,Rw,dC,rC⟩,fun h2 sb nW _=> ?_⟩
 have bN:∀b,B.get? b=none->(PySem.W.hideAll B [C]).get? b=none:=fun b z=>by
  cases hq:(PySem.W.hideAll B [C]).get? b with
  |none=>rfl
  |some o=>rw[Zer _ hq]at z;cases z
 have bS:∀b o,(PySem.W.hideAll B [C]).get? b=some o->b≠C/\B.get? b=some o:=fun b o z=>by
  refine⟨fun y=> ?_,Zer _ z⟩
  rw[y,PySem.W.hideAll_none [C] (by simp)]at z
  cases z
 have bG:∀b u,B.get? b=some u->b≠C->(PySem.W.hideAll B [C]).get? b=some u:=fun b u z y=>PySem.W.hideAll_get [C] z (by simpa using y)
 have eQ:∀b,B.get? b=none->b≠C:=fun b z y=>by rw[y,bC]at z;cases z
 have k2:(PySem.W.hideAll B [C]).StaysIn h2:=fun b o z=>by
  obtain⟨y1,y2⟩:=bS b o z
  exact(sb.2 b y1).trans (kc b o y2)
 have k3:(PySem.W.hideAll B [C]).StaysIn s3.heap:=fun b o z=>fl.1 b o (bS b o z).2
 have t2:h2.TracedAtW (PySem.W.hideAll B [C]) e (.ref Cc) a0 (rawInt s.heap.objs.size):=by
  obtain⟨oe,vs,T,oT,ts,ge,gc,gd,g1,gn,nK,gT,iX,g3⟩:=j9
  exact⟨oe,vs,T,oT,ts,(sb.2 e (eQ e nk)).trans ge,gc,gd,g1,bN T gn,nK,(sb.2 T (eQ T gn)).trans gT,iX,g3⟩
 have RN:h2.FunFrames (PySem.W.hideAll B [C]) (env::outer):=WT sb bN nC Qt
 have go:wpAny (model P w) (A.deeper env) (setFlight (.ref e) nW.frame) (fun _ s'=> (aF (aC P w) P w K mg base N qual scope f cd A outer s H E).xe (.ref e) s') (aF (aC P w) P w K mg base N qual scope f cd A outer s H E).xe {s3 with heap:=h2} :=by
  refine Zbn (s:= {s3 with heap:=h2}) k2 RN t2 fun h4 k4 RM t4 uk=> ?_
  show wpAny (model P w) (A.deeper (envOfC qual scope s.heap.objs.size f cd)) (leaving (envOfC qual scope s.heap.objs.size f cd) (.ref e)) _ _ _
  rw[hX]
  unfold leaving
  refine Zaa (ZdT (s:= {s3 with heap:=h4}) FO RM ef t4 k4 (bN e nk) fun h5 ⟨k5,RL,t5,uj⟩=> ?_)
  refine wpAny_setFlight_noneW (s:= {s3 with heap:=h5}) k5 RL t5 fun h6 k6 RK t6 xK=> ?_
  have pQ:aQ (env::outer)=s.heap.objs.size::aQ outer:=Zdj (f:=fun(x:Env)=>x.frame) ef
  have Gx:∀b o,s.heap.get? b=some o->b∉aQ outer->∃v,(PySem.W.hideAll B [C]).get? b=some v:=fun b o hb hn=>by
   obtain⟨o2,e2⟩:=I2.base.there b o hb (by simp[aF])
   have lt:b<s.heap.objs.size:=Zaq hb
   have mK:b∉fp:=fun z=>by
    rcases (hf b z).2.2.2.1 with y |y
    ·exact absurd (show b∈([]:List Addr) from y) (by simp)
    ·exact absurd (Zaz lt y) (ZbI _)
   obtain⟨o1,e1⟩:=u1.there b o2 e2 mK
   obtain⟨u,hu⟩:=bA b o1 e1 (by
    show b∉aQ ((aF (aC P w) P w K mg base N qual scope f cd A outer s H E).stack)
    rw[show(aF (aC P w) P w K mg base N qual scope f cd A outer s H E).stack=env::outer by rw[<-hX];rfl,pQ]
    intro z
    rcases Zao.mp z with y |y
    ·exact absurd lt (by rw[y];exact ZbI _)
    ·exact hn y)
   exact⟨u,bG b u hu fun y=>absurd (Zaz (Zaq e2) hC) (by rw[y];exact ZbI _)⟩
  refine⟨e,Cc,H',rfl,⟨IX.os,F.bare,Vi IX.base I2.ok.fZ (B:=PySem.W.hideAll B [C]) (fun b o hb hn=> ?_) k3 k6 (fun b hb o ho=> ?_),YS F.ak (fun b o hb=> ?_) k3 k6,PySem.W.hideAll B [C],a0,⟨k6,bN e nk,RK.2.2,t6⟩,fun b o hb hn=> ?_,fun b o hb=> ?_⟩,hE⟩
  ·exact Gx b o hb hn
  ·have cw:b∈aQ (env::outer):=by rw[pQ];exact Zan _ hb
   have bc:b≠C:=fun z=>nC (by rw[<-z];exact cw)
   obtain⟨_,o3,pL,nf⟩:=fl.2.2.1.mem cw
   rw[ho]at pL
   cases pL
   obtain⟨yK,q1⟩:=up1 b o ho nf
   have q2:=(sb.2 b bc).trans q1
   have q4:=uk b _ q2 nf
   obtain⟨L7,q5⟩:=uj b _ q4 nf
   exact⟨L7,xK b _ q5 nf⟩
  ·obtain⟨u,hu⟩:=eY b o hb
   exact⟨u,bG b u hu (Zg hb FU)⟩
  ·exact Gx b o hb hn
  ·obtain⟨u,hu⟩:=eY b o hb
   exact⟨u,bG b u hu (Zg hb FU)⟩
 obtain⟨oe,vs,T,oT,ts,ge,gc,gd,g1,gn,nK,gT,iX,g3⟩:=t2
 unfold PySem.passOn
 refine Zaa (ZbQ (s:= {s3 with heap:=h2}) ge gd g1 ?_)
 rw[ZaK (by simp)]
 first
  |exact Zaa (Zaf (Zaa (Zbs go (fun _ _ q=>PySem.wpAny_throw q) fun _ _ z=>z)))
  |exact Zaa (Zbs go (fun _ _ q=>PySem.wpAny_throw q) fun _ _ z=>z)
end
def LD (wi:TI) (ts:Nat) (aY:List Nat) (g:TG) (tt:TT):TE:=fun σ H _=>wi σ H fun J H1=>J.go 0 H1/\∀x H',J.mq 0 H1 x H'->g x (i7 ts aY σ) H' fun aT H2=>tt aT H2 fun _ _=>False
section
variable {P:Program}{w:World}{K:ZhQ}{mg:Str->Option Value}{base:Heap}{N:List Str}{qual:Str}{scope:Scope}{f:Addr}{cd:Value}{A:Around}{outer:List Env}{s0:Shared}{H0:Hp}{E:XK}
theorem ZdG {elt tg iter:Expr}{ifs:List Expr}{rest:List Comprehension}{sc:Scope}{pos:Pos}{wi:TI}{g:TG}{tt:TT}(N':List Str) (ts:Nat) (aY:List Nat) (hi:PI (aF (aC P w) P w K mg base N qual scope f cd A outer s0 H0 E) tg iter wi)
  (pg:∀C s2 H2 fp XE,PG (kC (aF (aC P w) P w K mg base N qual scope f cd A outer s0 H0 E) N' sc C s2 H2 fp XE) tg g)
  (pt:∀C s2 H2 fp XE,Passes (aC P w) (kC (aF (aC P w) P w K mg base N qual scope f cd A outer s0 H0 E) N' sc C s2 H2 fp XE) E->kF (kC (aF (aC P w) P w K mg base N qual scope f cd A outer s0 H0 E) N' sc C s2 H2 fp XE) ifs tt)
  (ok:qk (aF (aC P w) P w K mg base N qual scope f cd A outer s0 H0 E).env.scope sc (aF (aC P w) P w K mg base N qual scope f cd A outer s0 H0 E).N N' ts aY=true:=by rfl) (h2:∀g',(Comprehension.mk tg iter ifs 0::rest)[0+1]? =some g'->g'.is_async=0:=by(intro g' h;cases h<;>rfl))
  (hs:∀x,foldedSetIterable iter (aF (aC P w) P w K mg base N qual scope f cd A outer s0 H0 E).env x=pure x:=by intro _;rfl):
  PE (aF (aC P w) P w K mg base N qual scope f cd A outer s0 H0 E) (.ListComp elt (⟨tg,iter,ifs,0⟩::rest) sc pos) (LD wi ts aY g tt):=by
 intro pins s' σ H' Q I' h
 have S:=JT ok
 rw[PySem.eval_ListComp]
 refine ZeD (use:=none) rfl hs (Yc fun y hy e=>I'.ok.has _ (S.free y hy e)) S.kind S.names (ar (hi pins s' σ H' _ I' h) fun v s1 h1=>ar h1 fun iK s ik=> ?_)
 obtain⟨it,fp,tn,J,H,e,I,T,st,hf,q2⟩:=ik
 subst e
 refine ZbR (PySem.wpAny_newFunctionEnv S.gp (by intro y hy;simp at hy) (fun fS nj lL=> ?_) S.kind)
 dsimp only at nj lL |-
 generalize kj:s.heap.push {cls:=.type "list",dict:=none,data:=.seq ([]:List Value).toArray} =h0 at nj lL |-
 have hC:h0.objs.size=s.heap.objs.size+1:=by rw[<-kj,Zdp]
 have nJ:s.heap.objs.size<=h0.objs.size:=by rw[hC];exact Nat.le_succ _
 have eQ:∀b o,s.heap.get? b=some o->b≠h0.objs.size:=fun b o e=>ZaE (Zaz (Zaq e) nJ)
 have old:∀b o,s.heap.get? b=some o->fS.get? b=some o:=fun b o e=>lL.extBut b o (eQ b o e) (Zab _ (kj▸Zab _ e))
 have ho:∀b∈fp,∃o,s.heap.get? b=some o:=fun b hb=>let ⟨o,e,_⟩:=T.obj _ _ st b hb;⟨o,e⟩
 have aw:tn 0 fS:=T.keep _ _ _ st fun b _ o e=>old b o e
 have ps:=M9 (N':=N') (sc:=sc) I hf nJ
 generalize QQ:Gy P w K mg base N qual scope f cd A outer s0 H0 E (aR (aF (aC P w) P w K mg base N qual scope f cd A outer s0 H0 E) N' sc h0.objs.size s H fp).env h0.objs.size=XE at ps
 have I1:Inv (kC (aF (aC P w) P w K mg base N qual scope f cd A outer s0 H0 E) N' sc h0.objs.size s H fp XE) [] (i7 ts aY σ) H {s with heap:=fS,toks:=s.toks+([]:List (Str×Value)).length} :=Vt (Iq S I hf ho nJ nj old)
 have A8:∀b∈fp,bE (kC (aF (aC P w) P w K mg base N qual scope f cd A outer s0 H0 E) N' sc h0.objs.size s H fp XE) [] H b:=fun b hb=>by
  obtain⟨f0,f1,f2,f3,f4,f5⟩:=hf b hb
  refine⟨f0,(I1.ok.kA b hb).1,I1.ok.kr b hb,.inl hb,(I1.ok.kA b hb).2,fun p hp=>absurd (show p∈([]:List (Addr×Obj)) from hp) (by simp)⟩
 obtain⟨go,step⟩:=q2
 refine Jy rfl T aw ?_
 refine codeAny_loop rfl (fun n s'=>s'= {s with heap:=fS,toks:=s.toks+([]:List (Str×Value)).length}) (fun n s3 e3=> ?_) 0 rfl
 subst e3
 show wpAny _ _ ((compTurn (.ListComp elt (⟨tg,iter,ifs,0⟩::rest) sc pos) 0 (.ref it) (.ref s.heap.objs.size) (aR (aF (aC P w) P w K mg base N qual scope f cd A outer s0 H0 E) N' sc h0.objs.size s H fp).env).onRaise (fun x=>do noteFrame x (aR (aF (aC P w) P w K mg base N qual scope f cd A outer s0 H0 E) N' sc h0.objs.size s H fp).env;theTreesLotGoes x)) _ _ _
 refine wpAny_noted (Zbs (E:=XE) ?_ (fun _ _ q=>q) fun x s4 z=>by rw[<-QQ]at z;exact z)
 rw[Wh elt tg iter ifs _ sc pos 0 (.ref it) _ _ rfl h2]
 refine Zaa (ZeN (Zaa ?_))
 refine Zbs (T.item (kC (aF (aC P w) P w K mg base N qual scope f cd A outer s0 H0 E) N' sc h0.objs.size s H fp XE) rfl rfl rfl rfl 0 _ _ _ _ XE I1 A8 aw go) (fun r s4 ⟨u,hr,h4⟩=> ?_) fun _ _ z=>z
 subst hr
 refine Zaa (Zbs h4 (fun _ s5 ⟨x,H5,I5,r5,y5,cT,wM⟩=> ?_) fun _ _ z=>z)
 refine Zaa (Zbs (pg _ _ _ _ XE _ s5 _ H5 x u _ I5 r5 (step x H5 y5)) (fun _ s6 ⟨mj,H6,I6,q6⟩=> ?_) fun _ _ z=>z)
 refine Zaa (Zbs (pt _ _ _ _ XE ps _ s6 mj H6 _ I6 q6) (fun b s7 ⟨H7,I7,q7⟩=>q7.elim) fun _ _ z=>z)
end
end L2
namespace PyProof.Rows.fO
open PySem
end PyProof.Rows.fO
namespace L2
open PySem PySem.Spec PyProof.Rows PyProof.Rows.fO
end L2
namespace L2
open PySem PySem.Spec PyProof.Rows
structure aaJ (X:Cx) (N':List Str) (ts:Nat) (aY:List Nat) (scope:Scope) (zc:Str):Prop where
 kind:scope.kind=.function
 one:(scope.names.filter fun y=>y.2==.cell)=[(zc,.cell)]
 own:scope.names.lookup zc=some .cell
 names:∀y∈scope.names,y.2=.local->scope.names.lookup y.1=some .local
 free:∀y∈scope.names,y.2=.free->X.env.kindOf y.1=some .cell∨X.env.kindOf y.1=some .free
 nd:N'.Nodup
 len:N'.length=ts+aY.length
 GB:∀k j,aY[k]? =some j->∃x,N'[ts+k]? =some x/\X.N[j]? =some x/\X.env.kindOf x≠some .local/\scope.names.lookup x=some .free
end L2
namespace L2
open PySem PySem.Spec PyProof.Rows SeqAt
def aah (A:Around) (s:Shared) (y x:Value) (b:Bool):Prop:=
 ∀(prog:Program) (w:World) (E:Value->Shared->Prop) (Q:Value->Shared->Prop),Q (.bool b) s->wpAny (model prog w) A (richCompare .Lt y x) Q E s
inductive qt (A:Around) (s:Shared):List Value->List Value->Bool->Prop where
 |nn:qt A s [] [] false
 |nc {y:Value}{ys:List Value} :qt A s [] (y::ys) true
 |cn {x:Value}{xs:List Value} :qt A s (x::xs) [] false
 |eq {x y:Value}{xs ys:List Value}{r:Bool} :EqAt A s x y true->qt A s xs ys r->qt A s (x::xs) (y::ys) r
 |lt {x y:Value}{xs ys:List Value}{r:Bool} :EqAt A s x y false->aah A s x y r->qt A s (x::xs) (y::ys) r
section
open PySem.AutoSeq1 (wpAny_loadPart')
open PySem.MeetsSeq PySem.MeetsSeq2 PySem.MeetsSeq3 PySem.SeqRoads2
end
end L2
namespace L2
open PySem PySem.Spec PyProof.Rows
end L2
namespace L2
open PySem PySem.Spec PyProof.Rows PyProof.Rows.fO SeqAt
end L2
namespace HS
open PySem PySem.SetTable PySem.Spec
structure aac (prog:Program) (w:World) (h:Heap) (S:Addr) (ns:List Int) (o:Obj) (es:Array (Int×Value)) (ep:Nat) (t:SetTable):Prop where
 ho:h.get? S=some o
 ex:o.ExactSet
 hd:o.data=.set es ep t
 T:T0 t es
 R:i9 t.mask es.size
 pl:t.plain=true
 ld:t.led= !(w.params.followText "set-order")
 el:ElemsOf (intKind prog w) es.toList
 vs:PyProof.Rows.IntsAre (es.toList.map (·.2)) ns
def aai (prog:Program) (w:World) (h:Heap) (S:Addr) (m:Int->Prop) (c:Nat):Prop:=∃ns o es ep t,aac prog w h S ns o es ep t/\ns.Nodup/\ns.length<=c/\∀k,k∈ns↔m k
end HS
namespace HS
open PySem PySem.SetTable PySem.Spec L2
end HS
namespace L2
open PySem PySem.Spec PyProof.Rows
end L2
namespace HS
open PySem PySem.SetTable PySem.Spec
end HS
namespace L2.SC
open PySem PySem.Spec PyProof.Rows
def AccAt (P:Program) (w:World) (h:Heap) (D:Addr) (ys:List V):Prop:=∃ks:List Int,ys=ks.map V.int/\(∀k∈ks,0<=k/\k<63)/\HS.aai P w h D (·∈ks) 63
def kG (Y:Cx) (D:Addr) (m:Sem PySem.Fin->Sem PySem.Fin) (t:TC):Prop:=
 ∀(pins:List (Addr×Obj)) (s:Shared) (σ:St) (H:Hp) (ys:List V) (Q:List V->St->Hp->Prop) (k:Sem PySem.Fin) (R:PySem.Fin->Shared->Prop),Inv Y pins σ H s->bE Y pins H D->AccAt Y.prog Y.w s.heap D ys->t ys σ H Q->
  (∀s' bV ao H',Inv Y pins ao H' s'->bE Y pins H' D->AccAt Y.prog Y.w s'.heap D bV->Q bV ao H'->wpAny (model Y.prog Y.w) Y.A k R (fun _ _=>False) s')->wpAny (model Y.prog Y.w) Y.A (m k) R (fun _ _=>False) s
section
variable {Y:Cx}{D:Addr}
def CF (te:TE):TC:=fun ys σ H Q=>te σ H fun v H1=> ∃k:Int,v=.int k/\0<=k/\k<63/\Q (ys++[v]) σ H1
def inner (elt:Expr) (gens:List Comprehension) (scope:Scope) (pos:Pos) (d:Nat) (acc:Value) (env:Env) (k:Sem PySem.Fin):Sem PySem.Fin:=
 match gens[d+1]? with
 |some g'=>eval g'.iter env >>=fun x=>standAt g'.iter.pos >>=fun _=>foldedSetIterable g'.iter env x >>=fun x=>holding [x] (pyIter x) >>=fun iK=>
  runOwn (.compStart (.SetComp elt gens scope pos) (d+1) iK acc env) env >>=fun _=>k
 |none=> (do let v <-eval elt env;standAt elt.pos;let _ <-call (.builtin "set.add") [acc,v]) >>=fun _=>k
end
end L2.SC
namespace L2
open PySem PySem.Spec PyProof.Rows
end L2
namespace U
open PySem L2 PyProof.Rows
def top (i:Nat):Stmt:=PySem.Challenge.pw_unlikesteps_k71_corners_put_to.main.body.getD i (.Pass ⟨0,0,0,0⟩)
structure Gs (mg:Str->Option Value):Prop where
 isinstance:mg "isinstance" =none
 int:mg "int" =none
 bool:mg "bool" =none
 tuple:mg "tuple" =none
 list:mg "list" =none
 len:mg "len" =none
 all:mg "all" =none
 set:mg "set" =none
 range:mg "range" =none
 max:mg "max" =none
 min:mg "min" =none
 enumerate:mg "enumerate" =none
 zip:mg "zip" =none
 sorted:mg "sorted" =none
 dict:mg "dict" =none
 longest:∃t,mg "LONGEST_SIDE" =some (.int 12 t)
 last:∃t,mg "LAST_CORNER" =some (.int 3 t)
section
theorem Zp {H:Hp}{p:Addr}{o:HO}(h:H p=none):ag H (upd H p o):=fun b u hb=>by rw[Zh (Zg hb h)];exact hb
theorem aH {H:Hp}{t:Addr}{o:HO}(h:H t=none):∃H',upd H t o=H'/\ag H H'/\H' t=some o:=⟨_,rfl,Zp h,Ze⟩
theorem X2 {H H1:Hp}{a:Addr}{o:HO}(s:ag H H1) (n:H a=none):ag H (upd H1 a o):=fun b u e=>by
 rw[Zh fun z=>by rw[z,n]at e;cases e]
 exact s _ _ e
theorem Yd {D:Ends}{σ:L2.St}{H:Hp}(h:D.nx σ H):CC D σ H:=h
theorem Vg {t u:TS}{D:Ends}{σ:L2.St}{H:Hp}(h:t {D with nx:=u D} σ H):gQ t u D σ H:=h
theorem Zj {t u:TS}{D:Ends}{σ:L2.St}{H:Hp}(h:∀U:L2.St->Hp->Prop,(∀ao H',u D ao H'->U ao H')->t {D with nx:=U} σ H):gQ t u D σ H:=h _ fun _ _ q=>q
theorem er {α:Sort _}{v:α}{A P:α->Prop}(a:A v) (h:P v):∃v,A v/\P v:=⟨v,a,h⟩
theorem Zz {te:TE}{g:TG}{D:Ends}{σ:L2.St}{H:Hp}(h:te σ H fun v H1=>g v σ H1 D.nx):uy te g D σ H:=h
theorem Zt {i:Nat}{v:V}{σ:L2.St}{H:Hp}{Q:L2.St->Hp->Prop}(h:Q (σ.set i (some v)) H):bP i v σ H Q:=h
end
section
variable {P:Program}{w:World}{K:ZhQ}{mg:Str->Option Value}{base:Heap}
abbrev yS:Stmt:=top 19
def yf (K:ZhQ):Sp:=fun vs H Q _=> ∃x,vs=[x]/\bJ K H x/\Q (.bl (whole x)) H
theorem Mb:aZ ["thing"] ["thing"] (ay yS):=ZL (by decide+kernel)
theorem ZdL {f:Addr}{fd:FuncData}(F:aG K "is_whole" "is_whole" yS f fd) (G:Gs mg):aA P w K mg base aE 1 f fd ["thing"] (yf K):=by
 refine F.ok Mb (fun vs H Q E h=> ?_) (fun aq A outer s H vs Q E hr h=> ?_)
 ·obtain⟨x,rfl,_⟩:=h
  rfl
 ·obtain⟨x,rfl,⟨T,t⟩,q⟩:=h
  refine⟨_,Zi (Zw (YB (Zn (ZC (c:= "int")) rfl G.isinstance Zbw (Za (pv 0) (Za (ZI (v:=.ty "int") rfl G.int boot_int rfl) Zb)))
   (Yz (VS (Zn (ZC (c:= "bool")) rfl G.isinstance Zbw (Za (pv 0) (Za (ZI (v:=.ty "bool") rfl G.bool boot_bool rfl) Zb))))))),?_⟩
  refine⟨x,rfl,x,_,_,rfl,t,XJ t,_,rfl,?_⟩
  rw[ZaT]at q
  cases e:zW x with
  |false=>rw[e]at q;exact aO q
  |true=>rw[e]at q;exact aV ⟨x,rfl,x,_,_,rfl,t,Zd9 t,_,rfl,q⟩
abbrev yR:Stmt:=top 20
def oI (K:ZhQ):Sp:=fun vs H Q _=> ∃x a b,vs=[x,.int a,.int b]/\bJ K H x/\Q (.bl (bh x a b)) H
theorem Ma:aZ ["thing", "least", "most"] ["thing", "least", "most"] (ay yR):=ZL (by decide+kernel)
theorem ZcF {f:Addr}{fd:FuncData}(F:aG K "is_whole_within" "is_whole_within" yR f fd) (D1:Def P w K mg base 1 "is_whole" ["thing"] (yf K)):aA P w K mg base aE 2 f fd ["thing", "least", "most"] (oI K):=by
 refine F.ok Ma (fun vs H Q E h=> ?_) (fun aq A outer s H vs Q E hr h=> ?_)
 ·obtain⟨x,a,b,rfl,_⟩:=h
  rfl
 ·obtain⟨x,a,b,rfl,t,q⟩:=h
  refine⟨_,Zi (Zw (YB (Zf D1 hr (Za (pv 0) Zb)) (Yz (ZdH GP GP (pv 1) (pv 0) (pv 2))))),?_⟩
  refine⟨x,rfl,x,rfl,t,_,rfl,?_⟩
  cases x with
  |int i=>
   refine aV ⟨_,rfl,_,rfl,_,_,rfl,rfl,_,rfl,?_⟩
   have e:bh (.int i) a b=(decide (a<=i)&&decide (i<=b)):=rfl
   rw[e]at q
   cases e1:decide (a<=i) with
   |false=>rw[e1]at q;exact aO q
   |true=>rw[e1]at q;exact aV ⟨_,rfl,_,_,rfl,rfl,q⟩
  |_=>exact aO q
abbrev yT:Stmt:=top 22
def uJ (K:ZhQ):Sp:=fun vs H Q _=> ∃x n,vs=[x,.int n]/\bJ K H x/\Q (.bl (match bj H x with |some xs=>decide ((xs.length:Int)=n) |none=>false)) H
theorem Mc:aZ ["thing", "many"] ["thing", "many"] (ay yT):=ZL (by decide+kernel)
theorem ZdM {f:Addr}{fd:FuncData}(F:aG K "is_tuple_of" "is_tuple_of" yT f fd) (G:Gs mg):aA P w K mg base aE 1 f fd ["thing", "many"] (uJ K):=by
 refine F.ok Mc (fun vs H Q E h=> ?_) (fun aq A outer s H vs Q E hr h=> ?_)
 ·obtain⟨x,n,rfl,_⟩:=h
  rfl
 ·obtain⟨x,n,rfl,⟨T,t⟩,q⟩:=h
  refine⟨_,Zi (Zw (YB (Zn (ZC (c:= "tuple")) rfl G.isinstance Zbw (Za (pv 0) (Za (ZI (v:=.ty "tuple") rfl G.tuple ZeK rfl) Zb)))
   (Yz (Z7 Y3 (Zn ZF rfl G.len Zfb (Za (pv 0) Zb)) (pv 1) (bF _))))),?_⟩
  refine⟨x,rfl,x,_,_,rfl,t,ZcU t,_,rfl,?_⟩
  cases e:bj H x with
  |none=>rw[e]at q;exact aO q
  |some xs=>
   rw[e]at q
   obtain⟨a,rfl,ha⟩:=Zu e
   refine aV ⟨_,rfl,a,xs,rfl,.inr (aj.of ha),_,rfl,rfl,?_⟩
   have z:decide (V.int (xs.length:Int)=V.int n)=decide ((xs.length:Int)=n):=by simp
   rw[z]
   exact q
abbrev zi:Stmt:=top 23
def mV:Option (List V)->Bool
 |some [a,b]=>bh a 1 12&&bh b 1 12
 |_=>false
def eC (K:ZhQ) (H:Hp) (x:V):Prop:=bJ K H x/\∀xs,bj H x=some xs->∀y∈xs,bJ K H y
def uP (K:ZhQ):Sp:=fun vs H Q _=> ∃x,vs=[x]/\eC K H x/\∀H',ag H H'->Q (.bl (mV (bj H x))) H'
theorem Mg:aZ ["thing"] ["thing"] (ay zi):=ZL (by decide+kernel)
theorem ZdQ {f:Addr}{fd:FuncData}(F:aG K "is_board" "is_board" zi f fd) (G:Gs mg) (D1:Def P w K mg base 1 "is_tuple_of" ["thing", "many"] (uJ K)) (D2:Def P w K mg base 2 "is_whole_within" ["thing", "least", "most"] (oI K)):
  aA P w K mg base aE 3 f fd ["thing"] (uP K):=by
 obtain⟨tk,hL⟩:=G.longest
 refine F.ok Mg (fun vs H Q E h=> ?_) (fun aq A outer s H vs Q E hr h=> ?_)
 ·obtain⟨x,rfl,_⟩:=h
  rfl
 ·obtain⟨x,rfl,⟨t,hi⟩,q⟩:=h
  refine⟨_,Zi (Zw (YB (Zf D1 (hr.mono .d) (Za (pv 0) (Za Zd Zb)))
   (Yz (Zn JY rfl G.all boot_all (Za (Ye ["side"] 1 [] (BK (pv 0)) (fun C s H fp=>pb 0) (fun C s H fp=>Ya)
    (fun C s H fp D=>ZH rfl (Zf D2 (hr.mono .d) (Za (pv 0) (Za Zd (Za (Yi (v:=.int 12) rfl hL ⟨_,rfl⟩) Zb)))))) Zb))))),?_⟩
  refine⟨x,rfl,x,2,rfl,t,_,rfl,?_⟩
  cases e:bj H x with
  |none=>rw[e]at q;exact aO (q H (ag.refl H))
  |some xs=>
   rw[e]at q
   obtain⟨a,rfl,ha⟩:=Zu e
   show if decide ((xs.length:Int)=2)=true then _ else _
   by_cases h2:xs.length=2
   ·rw[ZaR (show(xs.length:Int)=2 by omega)]
    refine aV ⟨_,rfl,a,rfl,⟨xs,aj.of ha⟩,?_⟩
    refine WH (xs:=xs) (fun i ys σ H2=>ys=(xs.take i).map (fun y=>V.bl (bh y 1 12))/\H2=H/\∃v,σ=[v]) ⟨rfl,rfl,none,rfl⟩ (fun i ys σ H2 _ ⟨_,e2,_⟩=>by rw[e2];exact aj.of ha) ?_ ?_
    ·rintro i y ys σ H2 hy ⟨rfl,rfl,v,rfl⟩
     have my:y∈xs:=ZaX hy
     refine⟨y,rfl,y,1,12,rfl,hi xs e y my,?_,?_⟩
     ·rw[Zar,ZaH,ZaS];omega
     ·refine⟨?_,rfl,_,rfl⟩
      rw[ZbO,hy,ZbA]
      rfl
    ·rintro ys σ H2 ⟨rfl,rfl,v,rfl⟩ p hp
     rw[Zb2]
     refine⟨p,xs.map (fun y=>bh y 1 12),rfl,?_,?_⟩
     ·rw[List.map_map];exact ai.of Ze
     ·have e3:mV (some xs)=(xs.map (fun y=>bh y 1 12)).all id:=by
       match xs,h2 with
       | [a,b],_=>simp[mV]
      rw[<-e3]
      exact q _ fun b o hb=>by rw[Zh (Zg hb hp)];exact hb
   ·rw[ZaA (show ¬(xs.length:Int)=2 by omega)]
    have e3:mV (some xs)=false:=by
     match xs,h2 with
     | [],_=>rfl
     | [a],_=>rfl
     | [a,b],h=>exact absurd rfl h
     |a::b::c::r,_=>rfl
    rw[e3]at q
    exact aO (q H (ag.refl H))
abbrev zg:Stmt:=top 43
def yI (K:ZhQ):Sp:=fun vs H Q _=> ∃(a:Addr) (ns:List Int) (k:Nat),vs=[.ref a,.int k]/\ai K H a (ns.map V.int)/\∀n:Int,Q (.int n) H
theorem Mf:aZ ["_law_script", "_law_k"] ["_law_script", "_law_k"] (ay zg):=ZL (by decide+kernel)
theorem XT {f:Addr}{fd:FuncData}(F:aG K "_law_cell_at" "_law_cell_at" zg f fd) (G:Gs mg):aA P w K mg base aE 1 f fd ["_law_script", "_law_k"] (yI K):=by
 refine F.ok Mf (fun vs H Q E h=> ?_) (fun aq A outer s H vs Q E hr h=> ?_)
 ·obtain⟨a,ns,k,rfl,_⟩:=h
  rfl
 ·obtain⟨a,ns,k,rfl,hs,q⟩:=h
  refine⟨_,Zc (ZO (ZM xm (pv 1) (Zn ZF rfl G.len Zfb (Za (pv 0) Zb)) (bF _)) (Zi (Zw (ZE ZZ (pv 0) (pv 1) (fun _ _=>rfl)))) Zv) (Zi (Zw Zd)),?_⟩
  refine⟨_,rfl,_,rfl,a,ns.map V.int,rfl,.inl hs,_,_,rfl,rfl,_,rfl,?_⟩
  by_cases hk:k<ns.length
  ·rw[ZaR (by rw[Zar];omega)]
   refine aV ⟨_,rfl,_,rfl,a,ns.map V.int,k,V.int ns[k],rfl,rfl,hs,Yv ?_,q _⟩
   rw[ZbG,Zag hk]
   rfl
  ·rw[ZaA (by rw[Zar];omega)]
   exact aO (q 0)
def bQ (H:Hp) (p:Addr):Prop:=∃u v:Int,H p=some (.lst [.int u,.int v])/\0<=u/\0<=v/\v<2147483647
abbrev yW:Stmt:=top 44
def yh (K:ZhQ):Sp:=fun vs H Q _=> ∃(a:Addr) (ns:List Int) (k:Nat),vs=[.ref a,.int k]/\ai K H a (ns.map V.int)/\∀p H',H p=none->ag H H'->bQ H' p->Q (.ref p) H'
theorem C0:aZ ["_law_script", "_law_k", "_law_cell"] ["_law_script", "_law_k"] (ay yW):=ZL (by decide+kernel)
theorem ZdN {f:Addr}{fd:FuncData}(F:aG K "_law_state" "_law_state" yW f fd) (G:Gs mg) (D1:Def P w K mg base 1 "_law_cell_at" ["_law_script", "_law_k"] (yI K)):aA P w K mg base aE 2 f fd ["_law_script", "_law_k"] (yh K):=by
 refine F.ok C0 (fun vs H Q E h=> ?_) (fun aq A outer s H vs Q E hr h=> ?_)
 ·obtain⟨a,ns,k,rfl,_⟩:=h
  rfl
 ·obtain⟨a,ns,k,rfl,hs,q⟩:=h
  refine⟨_,Zc (Zx (i:=2) C0.nd rfl (Or.inl rfl) (Zf D1 hr (Za (pv 0) (Za (pv 1) Zb))))
   (Zi (Zw (ZG (Za (Zn (UO rfl) rfl G.max boot_max (Za Zd (Za (Zm ZU (pv 2) (Zm WD Zd Zd)) Zb))) (Za (Zm Jv (pv 2) Zd) Zb))))),?_⟩
  refine⟨_,rfl,_,rfl,a,ns,k,rfl,hs,fun n=> ?_⟩
  refine⟨_,rfl,_,_,rfl,rfl,⟨.d,.d,.d⟩,_,_,rfl,rfl,_,_,rfl,?_⟩
  refine⟨_,rfl,_,_,rfl,rfl,(by show(0:Int)<2147483647;decide),aX,fun p hp=>q p _ hp (fun b o hb=>by rw[Zh (Zg hb hp)];exact hb) ?_⟩
  refine⟨_,_,Ze,?_,ZeH _ .d,ZdK _ .d⟩
  split<;>omega
abbrev yV:Stmt:=top 45
def jP:Sp:=fun vs H Q _=> ∃(p:Addr) (m:Int),vs=[.ref p,.int m]/\bQ H p/\0<m/\m<1073741824/\∀r o,0<=r->r<m->bQ (upd H p o) p->Q (.int r) (upd H p o)
theorem uR:aZ ["_law_state_here", "_law_many", "_law_found", "_law_mixed"] ["_law_state_here", "_law_many"] (ay yV):=ZL (by decide+kernel)
theorem f9 {x y:V} :fN [x,y] 0=some x:=rfl
theorem bI {x y:V} :fN [x,y] 1=some y:=rfl
theorem Xj {f:Addr}{fd:FuncData}(F:aG K "_law_take" "_law_take" yV f fd):aA P w K mg base aE 1 f fd ["_law_state_here", "_law_many"] jP:=by
 refine F.ok uR (fun vs H Q E h=> ?_) (fun aq A outer s H vs Q E hr h=> ?_)
 ·obtain⟨p,m,rfl,_⟩:=h
  rfl
 ·obtain⟨p,m,rfl,⟨u,v,hp,hu,hv,O3⟩,hm,r6,q⟩:=h
  refine⟨_,Zc (ZO (ZM VV (ZE ZZ (pv 0) Zd (fun _ _=>rfl)) (pv 1) (bF _))
    (Zc (Zx (i:=2) uR.nd rfl (Or.inl rfl) (Zm Jv (ZE ZZ (pv 0) Zd (fun _ _=>rfl)) (pv 1)))
    (Zc (YK (Zm HW (ZE ZZ (pv 0) Zd (fun _ _=>rfl)) (pv 1)) (Ht (pv 0) Zd IJ)) (Zi (Zw (pv 2))))) Zv)
   (Zc (YK (Zm Jv (Zm ZT (Zm WE (ZE ZZ (pv 0) Zd (fun _ _=>rfl)) Zd) Zd) Zd) (Ht (pv 0) Zd IJ))
   (Zc (Zx (i:=3) uR.nd rfl (Or.inl rfl) (Zm Jv (Zm ZT (Zm ZT (Zm WE (ZE ZZ (pv 0) Zd (fun _ _=>rfl)) (ZE ZZ (pv 0) Zd (fun _ _=>rfl))) (Zm WE Zd (ZE ZZ (pv 0) Zd (fun _ _=>rfl)))) Zd) Zd))
   (Zc (Zx (i:=3) uR.nd rfl (Or.inl rfl) (Zm Jv (Zm ZT (Zm WE (pv 3) (pv 3)) (Zm WE Zd (pv 3))) Zd))
   (Zi (Zw (Zm Jv (Zm HW (pv 3) Zd) (pv 1))))))),?_⟩
  have s0:=ai.of (K:=K) hp
  refine⟨_,rfl,p,_,_,_,rfl,rfl,s0,f9,_,rfl,_,_,rfl,rfl,_,rfl,?_⟩
  by_cases h0:m<=u
  ·rw[ZaR h0]
   refine aV ?_
   refine⟨_,rfl,p,_,_,_,rfl,rfl,s0,f9,_,rfl,_,_,rfl,rfl,hm,?_⟩
   refine⟨_,rfl,p,_,_,_,rfl,rfl,s0,f9,_,rfl,_,_,rfl,rfl,⟨hm,.o⟩,?_⟩
   refine⟨_,rfl,p,_,0,0,rfl,rfl,hp,rfl,?_⟩
   refine⟨_,rfl,q _ _ (ZeH _ .o) (ZdK _ hm) ?_⟩
   exact⟨u/m,v,Ze,Int.ediv_nonneg hu .o,hv,O3⟩
  ·rw[ZaA h0]
   refine aO ?_
   refine⟨_,rfl,p,_,_,_,rfl,rfl,s0,bI,_,_,rfl,rfl,.inr ⟨.d,.d⟩,_,_,rfl,rfl,_,_,rfl,rfl,(by show(0:Int)<2147483647;decide),?_⟩
   refine⟨_,rfl,p,_,1,1,rfl,rfl,hp,rfl,?_⟩
   have b1:0<=((v*48271+29)%2147483647):=ZeH _ .d
   have b2:((v*48271+29)%2147483647)<2147483647:=ZdK _ .d
   have s1:ai K (upd H p (.lst (([V.int u,V.int v]:List V).set 1 (V.int ((v*48271+29)%2147483647))))) p [.int u,.int ((v*48271+29)%2147483647)]:=ai.of Ze
   have lo:∀{t:Int},0<=t-> -(2^64)<t:=fun h=>Int.lt_of_lt_of_le .d h
   have hi:∀{t:Int},t<2147483647->t<2^64:=fun h=>Int.lt_trans h .d
   refine⟨_,rfl,p,_,_,_,rfl,rfl,s1,bI,_,rfl,p,_,_,_,rfl,rfl,s1,bI,_,_,rfl,rfl,.inl ⟨lo b1,hi b2⟩,?_⟩
   refine⟨_,rfl,p,_,_,_,rfl,rfl,s1,bI,_,_,rfl,rfl,.inl ⟨.d,.d⟩,_,_,rfl,rfl,_,_,rfl,rfl,_,_,rfl,rfl,(by show(0:Int)<2147483629;decide),?_⟩
   have c1:0<=((((v*48271+29)%2147483647)*((v*48271+29)%2147483647)+39373*((v*48271+29)%2147483647)+7)%2147483629):=ZeH _ .d
   have c2:((((v*48271+29)%2147483647)*((v*48271+29)%2147483647)+39373*((v*48271+29)%2147483647)+7)%2147483629)<2147483647:=Int.lt_trans (ZdK _ .d) .d
   refine⟨_,rfl,_,rfl,_,_,rfl,rfl,.inl ⟨lo c1,hi c2⟩,_,rfl,_,_,rfl,rfl,.inl ⟨.d,.d⟩,_,_,rfl,rfl,_,_,rfl,rfl,(by show(0:Int)<2147483587;decide),?_⟩
   refine⟨_,rfl,_,_,rfl,rfl,⟨.d,.d⟩,_,rfl,_,_,rfl,rfl,hm,?_⟩
   refine q _ _ (ZeH _ .o) (ZdK _ hm) ?_
   exact⟨u,_,Ze,hu,b1,b2⟩
end
section
theorem Y7 (val:Nat->Int):∀n,((PyProof.Rows.firstMet val n).length=n↔((List.range n).map val).Nodup)
 |0=>by simp[PyProof.Rows.firstMet_zero]
 |n+1=>by
  have ih:=Y7 val n
  have le:=PyProof.Rows.firstMet_length_le val n
  rw[PyProof.Rows.firstMet_succ,PyProof.Rows.step_length,PyProof.Rows.firstMet_any,ZeF,ZbA]
  have e:(((List.range n).map val).any (· ==val n))=true↔val n∈(List.range n).map val:=by
   rw[List.any_eq_true]
   constructor
   ·rintro⟨x,hx,q⟩
    have:x=val n:=by simpa using q
    rw[<-this];exact hx
   ·intro h;exact⟨_,h,by simp⟩
  have nd:((List.range n).map val++List.map val [n]).Nodup↔((List.range n).map val).Nodup/\¬val n∈(List.range n).map val:=by
   rw[List.nodup_append]
   constructor
   ·rintro⟨h1,_,h3⟩
    exact⟨h1,fun m=>h3 _ m (val n) (by simp) rfl⟩
   ·rintro⟨h1,h2⟩
    refine⟨h1,by simp,fun a ha b hb q=>h2 ?_⟩
    have cw:b=val n:=by simpa using hb
    rw[<-cw,<-q];exact ha
  rw[nd,<-ih]
  by_cases m:val n∈(List.range n).map val
  ·rw[ZaY (e.mpr m)]
   constructor
   ·intro h;omega
   ·rintro⟨_,h⟩;exact absurd m h
  ·rw[ZaK (fun z=>m (e.mp z))]
   constructor
   ·intro h;exact⟨.o,m⟩
   ·rintro⟨h,_⟩;omega
theorem Za9 (ns:List Int):oR ns=ns.length↔ns.Nodup:=by
 unfold oR
 rw[Y7]
 have e:(List.range ns.length).map (fun i=>ns.getD i 0)=ns:=by
  refine List.ext_getElem (by simp) fun i h1 h2=> ?_
  rw[List.getElem_map,List.getElem_range,ZbL,Zag h2,ZeP]
 rw[e]
def rowsOf (xs:List V):List V:=xs.filter fun x=> !decide (x=.ah)
def bw (wd hg:Int):Option (List V)->Bool
 |some xs=>decide ((xs.length:Int)=wd)&&((rowsOf xs).all fun r=>bh r 0 (hg - 1))&&decide (rowsOf xs).Nodup
 |none=>false
def bR (H:Hp) (x:V) (wd hg:Int):Prop:=bj H x=some [.int wd,.int hg]/\1<=wd/\wd<=12/\1<=hg/\hg<=12
theorem bR.same {H H':Hp}{x:V}{wd hg:Int}(b:bR H x wd hg) (s:ag H H'):bR H' x wd hg:=⟨s.bj b.1,b.2⟩
theorem bR.is {H:Hp}{x:V}{wd hg:Int}(b:bR H x wd hg):mV (bj H x)=true:=by
 obtain⟨h,h1,h2,h3,h4⟩:=b
 rw[h]
 show(decide (1<=wd)&&decide (wd<=12)&&(decide (1<=hg)&&decide (hg<=12)))=true
 simp[h1,h2,h3,h4]
theorem bR.pl {K:ZhQ}{H:Hp}{x:V}{wd hg:Int}(b:bR H x wd hg):eC K H x:=by
 obtain⟨a,rfl,ha⟩:=Zu b.1
 refine⟨⟨_,.tup ha⟩,fun xs e y hy=> ?_⟩
 rw[b.1]at e
 cases e
 rcases Zao.mp hy with z |hy
 ·rw[z];exact⟨_,.int wd⟩
 ·rw[Zax.mp hy];exact⟨_,.int hg⟩
theorem ZaU {xs:List V}{lo hi:Int}(h:(xs.all fun r=>bh r lo hi)=true):∃ns:List Int,xs=ns.map V.int:=by
 induction xs with
 |nil=>exact⟨[],rfl⟩
 |cons x xs ih=>
  rw[List.all_cons,ZaL]at h
  obtain⟨ns,e⟩:=ih h.2
  cases x with
  |int i=>exact⟨i::ns,by rw[e];rfl⟩
  |_=>cases h.1
theorem UA (ns:List Int):(ns.map V.int).Nodup↔ns.Nodup:=by
 induction ns with
 |nil=>simp
 |cons n ns ih=>rw[ZbJ,Zdu,Zdu,ih];simp
end
section
variable {P:Program}{w:World}{K:ZhQ}{mg:Str->Option Value}{base:Heap}
abbrev u6:Stmt:=top 24
def yp (K:ZhQ):Sp:=fun vs H Q _=> ∃x wd hg,vs=[x]/\bR H x wd hg/\∀H',ag H H'->Q .ah H'
theorem C4:aZ ["board"] ["board"] (ay u6):=ZL (by decide+kernel)
theorem U7 {f:Addr}{fd:FuncData}(F:aG K "need_board" "need_board" u6 f fd) (D1:Def P w K mg base 3 "is_board" ["thing"] (uP K)):aA P w K mg base aE 4 f fd ["board"] (yp K):=by
 refine F.ok C4 (fun vs H Q E h=> ?_) (fun aq A outer s H vs Q E hr h=> ?_)
 ·obtain⟨x,wd,hg,rfl,_⟩:=h
  rfl
 ·obtain⟨x,wd,hg,rfl,b,q⟩:=h
  refine⟨_,Zi (ZO (Z0 (ZK (Zf D1 hr (Za (pv 0) Zb)))) Zr Zv),?_⟩
  refine⟨x,rfl,x,rfl,b.pl,fun H' sm=> (er rfl (?_))⟩
  rw[b.is]
  exact aO (q H' sm)
abbrev ve:Stmt:=top 26
def oN (K:ZhQ):Sp:=fun vs H Q _=> ∃x y wd hg,vs=[x,y]/\bR H x wd hg/\eC K H y/\∀H',ag H H'->Q (.bl (bw wd hg (bj H y))) H'
theorem ra:aZ ["board", "thing", "wide", "high", "rows"] ["board", "thing"] (ay ve):=ZL (by decide+kernel)
theorem VF {f:Addr}{fd:FuncData}(F:aG K "is_lay" "is_lay" ve f fd) (G:Gs mg) (D1:Def P w K mg base 4 "need_board" ["board"] (yp K)) (D2:Def P w K mg base 1 "is_tuple_of" ["thing", "many"] (uJ K))
  (D3:Def P w K mg base 2 "is_whole_within" ["thing", "least", "most"] (oI K)):aA P w K mg base aE 5 f fd ["board", "thing"] (oN K):=by
 refine F.ok ra (fun vs H Q E h=> ?_) (fun aq A outer s H vs Q E hr h=> ?_)
 ·obtain⟨x,y,wd,hg,rfl,_⟩:=h
  rfl
 ·obtain⟨x,y,wd,hg,rfl,b,⟨ty,hy⟩,q⟩:=h
  refine⟨_,Zc (Zy (Zf D1 hr (Za (pv 0) Zb)))
   (Zc (YK (pv 0) (Z3 rfl (Zk (ZD (i:=2) ra.nd rfl (Or.inl rfl)) (Zk (ZD (i:=3) ra.nd rfl (Or.inr rfl)) ZP))))
   (Zc (ZO (Z0 (ZK (Zf D2 (hr.mono .d) (Za (pv 1) (Za (pv 2) Zb))))) (Zi (Zw Wf)) Zv)
   (Zc (Jc ["row"] 1 [] (i:=4) ra.nd rfl (Or.inl rfl) (BK (pv 1)) (fun C s H fp=>pb 0) (fun C s H fp=>Yr (YJ (Wp (pv 0)))) (fun C s H fp D=>ZH rfl (pv 0)))
   (Zi (Zw (YB (Zn JY rfl G.all boot_all (Za (Ye ["row", "high"] 1 [3] (Ys (pv 4)) (fun C s H fp=>pb 0) (fun C s H fp=>Ya)
     (fun C s H fp D=>ZH rfl (Zf D3 (hr.mono .d) (Za (pv 0) (Za Zd (Za (Zm ZU (pv 1) Zd) Zb)))))) Zb))
    (Yz (Z7 Y3 (Zn Uk rfl G.len Zfb (Za (Z4 Ui rfl G.set boot_set (Za (pv 4) Zb)) Zb)) (Zn ZF rfl G.len Zfb (Za (pv 4) Zb)) (bF _))))))))),?_⟩
  refine⟨x,rfl,x,wd,hg,rfl,b,fun H1 s1=> ?_⟩
  have b1:=b.same s1
  obtain⟨a,rfl,ha⟩:=Zu b1.1
  refine(er rfl ⟨a,_,rfl,aj.of ha,rfl,_,_,rfl,_,_,rfl,rfl,?_⟩)
  refine⟨y,rfl,_,rfl,y,wd,rfl,s1.g8 ty,_,rfl,?_⟩
  cases e:bj H y with
  |none=>
   have e1:bj H1 y=none:=by
    obtain⟨T,t⟩:=ty
    cases t with
    |tup e2=>rw[Zl e2]at e;cases e
    |lst e2=>rw[ZA,s1 _ _ e2];rfl
    |cb e2=>rw[ZA,s1 _ _ e2];rfl
    |dK e2=>rw[ZA,s1 _ _ e2];rfl
    |dT e2=>rw[ZA,s1 _ _ e2];rfl
    |_=>rfl
   rw[e1]
   rw[e]at q
   exact aV (q H1 s1)
  |some xs=>
   have e1:=s1.bj e
   rw[e1]
   rw[e]at q
   obtain⟨l,rfl,hl⟩:=Zu e1
   by_cases hw:(xs.length:Int)=wd
   ·refine(show if (!decide ((xs.length:Int)=wd))=true then _ else _ from ?_)
    rw[ZaR hw]
    refine aO ?_
    have hwd:=b.2.2.1
    have hlen:xs.length<=12:=.o
    refine(er rfl ⟨l,rfl,⟨xs,aj.of hl⟩,?_⟩)
    refine WH (xs:=xs) (fun i ys σ H2=>ys=rowsOf (xs.take i)/\H2=H1/\∃v,σ=[v]) ⟨rfl,rfl,none,rfl⟩ (fun i ys σ H2 _ ⟨_,e2,_⟩=>by rw[e2];exact aj.of hl) ?_ ?_
    ·rintro i r ys σ H2 cO ⟨rfl,rfl,v,rfl⟩
     have et:rowsOf (xs.take (i+1))=rowsOf (xs.take i)++(if (!decide (r=V.ah))=true then [r] else []):=by
      unfold rowsOf
      rw[ZbO,cO,Zey]
      cases hh:(!decide (r=V.ah)) with
      |true=>simp[hh]
      |false=>simp[hh]
     refine⟨r,rfl,_,rfl,?_⟩
     cases hh:(!decide (r=V.ah)) with
     |true=>
      rw[hh]at et
      refine aV ?_
      refine⟨r,rfl,?_,?_⟩
      ·have:=List.length_filter_le (fun x=> !decide (x=V.ah)) (xs.take i)
       unfold rowsOf
       rw[ZaH]
       rw[ZaS]at this
       omega
      ·exact⟨by rw[et,ZaY rfl],rfl,_,rfl⟩
     |false=>
      rw[hh]at et
      exact aO ⟨by rw[et,ZaK Zaw,ZbT],rfl,_,rfl⟩
    ·rintro ys σ H2 ⟨rfl,rfl,v,rfl⟩ p hp
     rw[Zb2]
     have hrl:(rowsOf xs).length<=12:=Zcd (List.length_filter_le _ _) hlen
     have s2:ag H2 (upd H2 p (.lst (rowsOf xs))):=fun b o hb=>by rw[Zh (Zg hb hp)];exact hb
     refine(er rfl ⟨p,rfl,⟨rowsOf xs,ai.of Ze⟩,?_⟩)
     generalize FC:upd H2 p (HO.lst (rowsOf xs))=H3 at s2
     have rW:H3 p=some (.lst (rowsOf xs)):=by rw[<-FC];exact Ze
     refine Yg (xs:=rowsOf xs) (fun i ys σ H4=>ys=((rowsOf xs).take i).map (fun r=>V.bl (bh r 0 (hg - 1)))/\H4=H3/\∃v,σ=[v,some (.int hg)]) ⟨rfl,rfl,none,rfl⟩ (fun i ys σ H4 _ ⟨_,e2,_⟩=>by rw[e2];exact ai.of rW) ?_ ?_
     ·rintro i r ys σ H4 cO ⟨rfl,rfl,v,rfl⟩
      have mr:r∈xs:=(ZbM.mp (ZaX cO)).1
      refine⟨r,rfl,_,rfl,_,_,rfl,rfl,r,0,hg - 1,rfl,(s1.trans s2).g8 (hy xs e r mr),?_,?_⟩
      ·rw[Zar,ZaH,ZaS];omega
      ·refine⟨?_,rfl,_,rfl⟩
       rw[ZbO,cO,ZbA]
       rfl
     ·rintro ys σ H4 ⟨rfl,rfl,v,rfl⟩ p' Al
      rw[Zb2]
      have s3:∀o,ag H4 (upd H4 p' o):=fun o b u hb=>by rw[Zh (Zg hb Al)];exact hb
      refine⟨p',(rowsOf xs).map (fun r=>bh r 0 (hg - 1)),rfl,?_,?_⟩
      ·rw[List.map_map];exact ai.of Ze
      ·have Sz:((rowsOf xs).map (fun r=>bh r 0 (hg - 1))).all id=(rowsOf xs).all fun r=>bh r 0 (hg - 1):=by rw[List.all_map];rfl
       rw[Sz]
       have Sa:bw wd hg (some xs)=(((rowsOf xs).all fun r=>bh r 0 (hg - 1))&&decide (rowsOf xs).Nodup):=by
        show(decide ((xs.length:Int)=wd)&&_&&_)=_
        rw[ZaR hw,Bool.true_and]
       rw[Sa]at q
       refine(er rfl (?_))
       cases da:((rowsOf xs).all fun r=>bh r 0 (hg - 1)) with
       |false=>
        rw[da]at q
        exact aO (q _ (s1.trans (s2.trans (s3 _))))
       |true=>
        rw[da,Bool.true_and]at q
        obtain⟨ns,en⟩:=ZaU da
        have dX:(upd H4 p' (.lst (((rowsOf xs).map (fun r=>V.bl (bh r 0 (hg - 1))))))) p=some (.lst (rowsOf xs)):=s3 _ _ _ rW
        refine aV ?_
        have hnl:ns.length=(rowsOf xs).length:=by rw[en,Zar]
        refine(er rfl ⟨p,ns,rfl,by rw[<-en];exact ai.of dX,.o,fun q2 S cV=> ⟨q2,S,oR ns,rfl,Ze,_,rfl,p,rowsOf xs,rfl,.inl (ai.of ?_),rfl,?_⟩⟩)
        ·rw[Zh (Zg dX cV)];exact dX
        ·have ed:decide (V.int (oR ns:Int)=V.int ((rowsOf xs).length:Int))=decide (rowsOf xs).Nodup:=by
          rw[decide_eq_decide]
          rw[en,UA,<-Za9,Zar]
          constructor
          ·intro h;injection h with h;omega
          ·intro h;rw[h]
         rw[ed]
         exact q _ (s1.trans (s2.trans ((s3 _).trans fun b o hb=>by rw[Zh (Zg hb cV)];exact hb)))
   ·refine(show if (!decide ((xs.length:Int)=wd))=true then _ else _ from ?_)
    rw[ZaA hw]
    have e3:bw wd hg (some xs)=false:=by
     show(decide ((xs.length:Int)=wd)&&_&&_)=false
     rw[ZaA hw,Zez,Zez]
    rw[e3]at q
    exact aV (q H1 s1)
end
section
abbrev tF:List Value:=[.type "ValueError",.type "Exception",.type "BaseException",.type "object"]
structure Exc (K:ZhQ) (mg:Str->Option Value) (n:Str) (c:Addr):Prop where
 m:mg n=some (.ref c)
 x:PySem.W.excIn K c tF "ValueError.__new__" =true
def iD (K:ZhQ) (H:Hp) (x:V):Prop:=eC K H x/\mV (bj H x)=false
theorem Wl {K:ZhQ}{H H1:Hp}{y:V}(ty:bJ K H y) (s1:ag H H1) (e:bj H y=none):bj H1 y=none:=by
 obtain⟨T,t⟩:=ty
 cases t with
 |tup e2=>rw[Zl e2]at e;cases e
 |lst e2=>rw[ZA,s1 _ _ e2];rfl
 |cb e2=>rw[ZA,s1 _ _ e2];rfl
 |dK e2=>rw[ZA,s1 _ _ e2];rfl
 |dT e2=>rw[ZA,s1 _ _ e2];rfl
 |_=>rfl
theorem Jr {K:ZhQ}{H H1:Hp}{y:V}(ty:bJ K H y) (s1:ag H H1):bj H1 y=bj H y:=by
 cases e:bj H y with
 |none=>exact Wl ty s1 e
 |some xs=>exact s1.bj e
theorem eC.same {K:ZhQ}{H H1:Hp}{y:V}(p:eC K H y) (s1:ag H H1):eC K H1 y:=by
 refine⟨s1.g8 p.1,fun xs e z hz=>s1.g8 (p.2 xs ?_ z hz)⟩
 rw[<-Jr p.1 s1];exact e
theorem iD.same {K:ZhQ}{H H1:Hp}{x:V}(b:iD K H x) (s1:ag H H1):iD K H1 x:=⟨b.1.same s1,by rw[Jr b.1.1 s1];exact b.2⟩
end
section
variable {P:Program}{w:World}{K:ZhQ}{mg:Str->Option Value}{base:Heap}{cB cL:Addr}
def yw (K:ZhQ) (cB:Addr):Sp:=fun vs H _ E=> ∃x,vs=[x]/\iD K H x/\∀e H',ag H H'->E (.ref e) (some cB) H'
theorem Ud {f:Addr}{fd:FuncData}(F:aG K "need_board" "need_board" u6 f fd) (G:Gs mg) (X:Exc K mg "NoBoard" cB) (D1:Def P w K mg base 3 "is_board" ["thing"] (uP K)):aA P w K mg base (aC P w) 4 f fd ["board"] (yw K cB):=by
 obtain⟨tk,hL⟩:=G.longest
 refine F.fk C4 (fun vs H Q E h=> ?_) (fun aq A outer s H vs Q E hr h=> ?_)
 ·obtain⟨x,rfl,_⟩:=h
  rfl
 ·obtain⟨x,rfl,b,q⟩:=h
  refine⟨_,Zi (ZO (Z0 (ZK (Zf D1 hr (Za (pv 0) Zb)))) (Zi (YO Zdc X.m X.x rfl (Za (Xp ZS (Yi (v:=.int 12) rfl hL ⟨_,rfl⟩)) Zb))) Zv),?_⟩
  refine⟨x,rfl,x,rfl,b.1,fun H' sm=> (er rfl (?_))⟩
  rw[b.2]
  exact aV (er rfl ⟨.d,12,rfl,.d,.d,fun z=> ⟨bO,fun e=>q e H' sm⟩⟩)
def uM (K:ZhQ) (cB:Addr):Sp:=fun vs H _ E=> ∃x y,vs=[x,y]/\iD K H x/\∀e H',ag H H'->E (.ref e) (some cB) H'
theorem XU {f:Addr}{fd:FuncData}(F:aG K "is_lay" "is_lay" ve f fd) (D1:aW P w K mg base 4 "need_board" ["board"] (yw K cB)):aA P w K mg base (aC P w) 5 f fd ["board", "thing"] (uM K cB):=by
 refine F.fk ra (fun vs H Q E h=> ?_) (fun aq A outer s H vs Q E hr h=> ?_)
 ·obtain⟨x,y,rfl,_⟩:=h
  rfl
 ·obtain⟨x,y,rfl,b,q⟩:=h
  refine⟨_,Zc (Zy (ZX D1 hr (Za (pv 0) Zb))) Zr,?_⟩
  exact⟨x,rfl,x,rfl,b,q⟩
abbrev kP:Stmt:=top 27
def kM (K:ZhQ):Sp:=fun vs H Q _=> ∃x y wd hg,vs=[x,y]/\bR H x wd hg/\eC K H y/\bw wd hg (bj H y)=true/\∀H',ag H H'->Q .ah H'
theorem qZ:aZ ["board", "lay"] ["board", "lay"] (ay kP):=ZL (by decide+kernel)
theorem zC {f:Addr}{fd:FuncData}(F:aG K "need_lay" "need_lay" kP f fd) (D1:Def P w K mg base 5 "is_lay" ["board", "thing"] (oN K)):aA P w K mg base aE 6 f fd ["board", "lay"] (kM K):=by
 refine F.ok qZ (fun vs H Q E h=> ?_) (fun aq A outer s H vs Q E hr h=> ?_)
 ·obtain⟨x,y,wd,hg,rfl,_⟩:=h
  rfl
 ·obtain⟨x,y,wd,hg,rfl,b,p,fu,q⟩:=h
  refine⟨_,Zi (ZO (Z0 (ZK (Zf D1 hr (Za (pv 0) (Za (pv 1) Zb))))) Zr Zv),?_⟩
  refine(er rfl (er rfl ⟨x,y,wd,hg,rfl,b,p,fun H1 s1=> (er rfl (?_))⟩))
  rw[fu]
  exact aO (q H1 s1)
def KG (K:ZhQ) (cB cL:Addr) (H:Hp) (x y:V) (C:Addr):Prop:=
 (C=cB/\iD K H x)∨(C=cL/\∃wd hg,bR H x wd hg/\eC K H y/\bw wd hg (bj H y)=false)
def yt (K:ZhQ) (cB cL:Addr):Sp:=fun vs H _ E=> ∃x y C,vs=[x,y]/\KG K cB cL H x y C/\∀e H',ag H H'->E (.ref e) (some C) H'
theorem zB {f:Addr}{fd:FuncData}(F:aG K "need_lay" "need_lay" kP f fd) (X:Exc K mg "NoLay" cL) (D1:Def P w K mg base 5 "is_lay" ["board", "thing"] (oN K)) (R1:aW P w K mg base 5 "is_lay" ["board", "thing"] (uM K cB)):aA P w K mg base (aC P w) 6 f fd ["board", "lay"] (yt K cB cL):=by
 refine F.fk qZ (fun vs H Q E h=> ?_) (fun aq A outer s H vs Q E hr h=> ?_)
 ·obtain⟨x,y,C,rfl,_⟩:=h
  rfl
 ·obtain⟨x,y,C,rfl,b,q⟩:=h
  rcases b with ⟨rfl,b⟩ |⟨rfl,wd,hg,b,p,fu⟩
  ·refine⟨_,Zi (ZO (Z0 (ZK (ZX R1 hr (Za (pv 0) (Za (pv 1) Zb))))) Zr Zv),?_⟩
   exact⟨x,rfl,y,rfl,x,y,rfl,b,q⟩
  ·refine⟨_,Zi (ZO (Z0 (ZK (Zf D1 hr (Za (pv 0) (Za (pv 1) Zb))))) (Zi (YO Zdc X.m X.x rfl (Za ZS Zb))) Zv),?_⟩
   refine(er rfl (er rfl ⟨x,y,wd,hg,rfl,b,p,fun H1 s1=> (er rfl (?_))⟩))
   rw[fu]
   exact aV ⟨bO,fun e=>q e H1 s1⟩
end
section
theorem bQ.same {H H':Hp}{p:Addr}(h:bQ H p) (s:ag H H'):bQ H' p:=by
 obtain⟨u,v,e,r⟩:=h
 exact⟨u,v,s _ _ e,r⟩
def mD:V->Bool
 | .int _=>true
 | .bl _=>true
 | .str _=>true
 | .ah=>true
 |_=>false
theorem Ic {K:ZhQ}{H:Hp} :∀{v:V},mD v=true->bJ K H v
 | .int i,_=> ⟨_,.int i⟩
 | .bl b,_=> ⟨_,.bl b⟩
 | .str x,_=> ⟨_,.str x⟩
 | .ah,_=> ⟨_,.ah⟩
end
section
variable {P:Program}{w:World}{K:ZhQ}{mg:Str->Option Value}{base:Heap}
abbrev oV:Stmt:=top 54
def gU (R:Hp->V->V->Prop):Sp:=fun vs H Q _=> ∃x y,vs=[x,y]/\R H x y/\∀H',ag H H'->Q (.bl true) H'
def R0 (_:Hp) (x y:V):Prop:=∃i:Int,x=.int i/\y=.int i
theorem R0.same {H H':Hp}{x y:V}(r:R0 H x y) (_:ag H H'):R0 H' x y:=r
theorem uS:aZ ["_law_found", "_law_due_here"] ["_law_found", "_law_due_here"] (ay oV):=ZL (by decide+kernel)
theorem ZdP {f:Addr}{fd:FuncData}(F:aG K "_law_same" "_law_same" oV f fd) (G:Gs mg):aA P w K mg base aE 1 f fd ["_law_found", "_law_due_here"] (gU R0):=by
 refine F.ok uS (fun vs H Q E h=> ?_) (fun aq A outer s H vs Q E hr h=> ?_)
 ·obtain⟨x,y,rfl,_⟩:=h
  rfl
 ·obtain⟨x,y,rfl,⟨i,rfl,rfl⟩,q⟩:=h
  refine⟨_,Zc (ZO (ZK (Zn (Zai (a:= "list") (b:= "tuple")) rfl G.isinstance Zbw (Za (pv 1) (Za (Zs (Za (ZI (v:=.ty "list") rfl G.list Zfz rfl) (Za (ZI (v:=.ty "tuple") rfl G.tuple ZeK rfl) Zb))) Zb)))) Zr Zv)
   (Zc (ZO (PW.pt (Jm (YJ (YL (pv 1))) (YI (YJ (YL (pv 0)))))) Zr Zv)
   (Zi (Zw (YB (Z7 Y3 (Zn (ZC (c:= "bool")) rfl G.isinstance Zbw (Za (pv 0) (Za (ZI (v:=.ty "bool") rfl G.bool boot_bool rfl) Zb)))
     (Zn (ZC (c:= "bool")) rfl G.isinstance Zbw (Za (pv 1) (Za (ZI (v:=.ty "bool") rfl G.bool boot_bool rfl) Zb))) (bF _))
    (Yz (Z7 Y3 (pv 0) (pv 1) (bF _))))))),?_⟩
  refine(er rfl ⟨aX,fun t ht=> ?_⟩)
  have s1:=Zp (o:=.tup [V.ty "list",V.ty "tuple"]) ht
  refine⟨_,t,_,_,rfl,aj.of Ze,.inl ⟨i,rfl,rfl⟩,(show _=some false from rfl),_,rfl,aO ?_⟩
  refine(er rfl (er rfl (aO (er rfl (er rfl (aO ?_))))))
  refine(er rfl ⟨_,_,_,rfl,.int i,(show _=some false from rfl),_,rfl,_,_,_,rfl,.int i,(show _=some false from rfl),rfl,_,rfl,?_⟩)
  refine aV (er rfl (er rfl ⟨rfl,?_⟩))
  have e:decide (V.int i=V.int i)=true:=ZaR rfl
  rw[e]
  exact q _ s1
def BZ (R:Hp->V->V->Prop) (H:Hp) (x y:V):Prop:=∃(a b:Addr) (xs ys:List V),x=.ref a/\y=.ref b/\H a=some (.tup xs)/\H b=some (.tup ys)/\Paired (R H) xs ys/\xs.length<=100
theorem ZcG {R:Hp->V->V->Prop}{k:Nat}(hR:∀{H H':Hp}{x y:V},R H x y->ag H H'->R H' x y) {f:Addr}{fd:FuncData}(F:aG K "_law_same" "_law_same" oV f fd) (G:Gs mg) (D:Def P w K mg base k "_law_same" ["_law_found", "_law_due_here"] (gU R)):
  aA P w K mg base aE (k+1) f fd ["_law_found", "_law_due_here"] (gU (BZ R)):=by
 refine F.ok uS (fun vs H Q E h=> ?_) (fun aq A outer s H vs Q E hr h=> ?_)
 ·obtain⟨x,y,rfl,_⟩:=h
  rfl
 ·obtain⟨x,y,rfl,⟨a,b,xs,ys,rfl,rfl,ha,hb,pr,hl⟩,q⟩:=h
  refine⟨_,Zc (ZO (ZK (Zn (YM (a:= "list") (b:= "tuple")) rfl G.isinstance Zbw (Za (pv 1) (Za (Zs (Za (ZI (v:=.ty "list") rfl G.list Zfz rfl) (Za (ZI (v:=.ty "tuple") rfl G.tuple ZeK rfl) Zb))) Zb))))
    (Zc (ZO (PW.pt (Jm (ZM Ux (Zn (ZC (c:= "list")) rfl G.isinstance Zbw (Za (pv 0) (Za (ZI (v:=.ty "list") rfl G.list Zfz rfl) Zb))) (Zn (ZC (c:= "list")) rfl G.isinstance Zbw (Za (pv 1) (Za (ZI (v:=.ty "list") rfl G.list Zfz rfl) Zb))) (bF _))
      (YI (ZM Ux (Zn (ZC (c:= "tuple")) rfl G.isinstance Zbw (Za (pv 0) (Za (ZI (v:=.ty "tuple") rfl G.tuple ZeK rfl) Zb))) (Zn (ZC (c:= "tuple")) rfl G.isinstance Zbw (Za (pv 1) (Za (ZI (v:=.ty "tuple") rfl G.tuple ZeK rfl) Zb))) (bF _))))) Zr Zv)
    (Zi (Zw (YB (Z7 Y3 (Zn ZF rfl G.len Zfb (Za (pv 0) Zb)) (Zn ZF rfl G.len Zfb (Za (pv 1) Zb)) (bF _))
     (Yz (Zn JY rfl G.all boot_all (Za (Ye ["_law_one", "_law_other"] 2 [] (Xr rfl G.zip (Za (pv 0) (Za (pv 1) Zb)))
      (fun C s H fp=>show PG (aR _ _ _ C s H fp) _ (iY K 2 (cz (bP 0) (cz (bP 1) iZ))) from Z3 rfl (Zk (pb 0) (Zk (pb 1) ZP))) (fun C s H fp=>Ya)
      (fun C s H fp D'=>ZH rfl (Zf D hr (Za (pv 0) (Za (pv 1) Zb))))) Zb))))))) Zv) Zr,?_⟩
  refine(er rfl ⟨aX,fun t ht=> ?_⟩)
  obtain⟨H1,zz,s1,e1⟩:=aH (o:=.tup [V.ty "list",V.ty "tuple"]) ht
  rw[zz]
  have fY:=s1 _ _ ha
  have dj:=s1 _ _ hb
  refine⟨_,t,_,_,rfl,aj.of e1,.inr (.inr (.inr ⟨b,ys,rfl,dj,rfl⟩)),(show _=some true from rfl),_,rfl,aV ?_⟩
  refine(er rfl ⟨_,_,_,rfl,.tup fY,(show _=some false from rfl),_,rfl,_,_,_,rfl,.tup dj,(show _=some false from rfl),rfl,_,rfl,aO ?_⟩)
  refine(er rfl ⟨_,_,_,rfl,.tup fY,(show _=some true from rfl),_,rfl,_,_,_,rfl,.tup dj,(show _=some true from rfl),rfl,_,rfl,aO ?_⟩)
  have hlen:xs.length=ys.length:=Zcf pr
  refine(er rfl ⟨a,xs,rfl,.inr (aj.of fY),_,rfl,b,ys,rfl,.inr (aj.of dj),rfl,_,rfl,?_⟩)
  have el:decide (V.int (xs.length:Int)=V.int (ys.length:Int))=true:=ZaR (by rw[hlen])
  rw[el]
  refine aV (er rfl (er rfl ⟨a,b,rfl,⟨xs,ys,aj.of fY,aj.of dj⟩,?_⟩))
  refine ZcK (xs:=xs) (zs:=ys) hlen (fun i zs σ H2=> ∃v0 v1,σ=[v0,v1]/\ag H1 H2/\zs=List.replicate i (V.bl true)) ⟨_,_,rfl,ag.refl _,rfl⟩ (fun i zs σ H2 _ ⟨_,_,_,s2,_⟩=> ⟨aj.of (s2 _ _ fY),aj.of (s2 _ _ dj)⟩) ?_ ?_
  ·rintro i x y T zs σ H2 hx hy hT ⟨v0,v1,rfl,s2,rfl⟩
   obtain⟨y',iM,r⟩:=Jn pr hx
   rw[hy]at iM
   cases iM
   have sT:=Zp (o:=.par [x,y]) hT
   have hi:i<xs.length:=(Zad.mp hx).1
   refine⟨T,_,rfl,aj.pe Ze,rfl,_,_,rfl,_,_,rfl,rfl,?_⟩
   refine⟨x,rfl,y,rfl,x,y,rfl,hR r (s1.trans (s2.trans sT)),fun H3 s3=> ⟨by rw[Zcj,ZaH];omega,_,_,rfl,s2.trans (sT.trans s3),?_⟩⟩
   rw[List.replicate_succ']
  ·rintro zs σ H2 ⟨v0,v1,rfl,s2,rfl⟩ p hp
   refine⟨p,List.replicate xs.length true,rfl,?_,?_⟩
   ·rw[List.map_replicate]
    exact ai.of Ze
   ·have e:(List.replicate xs.length true).all id=true:=by simp
    rw[e]
    exact q _ (s1.trans (s2.trans (Zp hp)))
end
section
def DJ:List Str:=["NoBoard", "NoLay", "NoNumber", "NoPoints", "NoPoint", "NoPaper", "NoUnlike", "NoPrime", "NoRoot", "NoTurn", "TooFew", "TooMany", "NoText", "NoLine", "NoDeed"]
def qz:List Str:=["board", "lay", "number", "points", "point", "paper", "unlike", "prime"]
def qy:List Str:=["root", "turn", "few", "many", "text", "line", "deed"]
def wordOf (i:Nat):Str:=(qz++qy).getD i ""
structure gO (K:ZhQ) (mg:Str->Option Value) (cS C:Addr) (iC:Nat):Prop where
 z:mi K C
 ms:mg "StepError" =some (.ref cS)
 xs:PySem.W.exmOne K (.ref C) (.ref cS)=some true
 m:∀i,i<15->∃c,mg (DJ.getD i "")=some (.ref c)/\PySem.W.kitOne K (.ref C) (.ref c)=some (decide (i=iC))
 mv:mg "ValueError" =none
 xv:PySem.W.kitOne K (.ref C) (.type "ValueError")=some true
 lt:iC<15
def bT (iC n:Nat):List V:=(List.range n).map fun i=>V.bl (decide (i=iC))
theorem WK (iC n:Nat):(bT iC n).all fK=true:=by
 unfold bT
 rw[List.all_map,ZaZ]
 exact fun _ _=>rfl
theorem ZaI:∀iC,iC<15->(bT iC 15).countP (fun y=>dZ y (.bl true))=1:=by decide+kernel
theorem Zd1 {iC:Nat}(h:iC<15):(bT iC 15)[iC]? =some (.bl true):=by
 unfold bT
 rw[ZbG,List.getElem?_range h]
 show some (V.bl (decide (iC=iC)))=_
 rw[ZaR rfl]
theorem Zd0 {iC m:Nat}{y:V}(h:m<iC) (e:(bT iC 15)[m]? =some y):dZ y (.bl true)=false:=by
 unfold bT at e
 rw[ZbG]at e
 obtain⟨k,hk,rfl⟩:=Zbk.mp e
 have:k=m:=by
  have:=Zad.mp hk
  simpa using this.2.symm
 subst this
 show(decide (k=iC)==true)=false
 rw[ZaA .o]
 rfl
def Lu (K:ZhQ) (i:Nat) (u:Value):TE:=fun σ H Q=> ∃e C b,σ[i]? =some (some (.ref e))/\H e=some (jz e C)/\mi K C/\PySem.W.kitOne K (.ref C) u=some b/\Q (.bl b) H
theorem YA {X:Cx}{i:Nat}{y n:Str}{c:Addr}{p1 p2 p3 p4:Pos}(hi:X.mg "isinstance" =none) (hx:PE X (.Name y p2) (jN i)) (hm:X.mg n=some (.ref c)) (g1:Gl X "isinstance" :=by rfl) (g2:Gl X n:=by rfl) (hd:(n==("__debug__" :Str))=false:=by decide):
  PE X (.Call (.Name "isinstance" p1) [.Name y p2,.Name n p3] [] p4) (Lu X.K i (.ref c)):=by
 intro pins s σ H Q I h
 obtain⟨e,C,b,h1,h2,h3,h4,h5⟩:=h
 have z:PE X (.Call (.Name "isinstance" p1) [.Name y p2,.Name n p3] [] p4) _:=Zn JX g1 hi Zbw (Za hx (Za (Yi (v:=.ref c) g2 hm rfl hd) Zb))
 exact z pins s σ H Q I ⟨_,h1,e,C,_,_,_,rfl,h2,h3,fun _ h=>h,h4,h5⟩
end
section
variable {P:Program}{w:World}{K:ZhQ}{mg:Str->Option Value}{base:Heap}
abbrev yQ:Stmt:=top 46
def mC (P:Program) (w:World) (K:ZhQ) (mg:Str->Option Value) (base:Heap) (cS:Addr) (k:Nat):Sp:=fun vs H Q _=> ∃f fd sp C iC,vs=[.ref f]/\gO K mg cS C iC/\(∀s,bD P w H s->PySem.W.FnAt f s)/\aA P w K mg base (aC P w) k f fd [] sp/\
 (∀s,BindsTo s fd ⟨[],[]⟩ [])/\(∀Q' E',(∀e H',ag H H'->E' (.ref e) (some C) H')->sp [] H Q' E')/\∀H',ag H H'->Q (.str (wordOf iC)) H'
abbrev NY:List Str:=["_law_call", "_law_error", "e", "_law_marks", "_law_more", "_law_words"]
theorem gX:aZ NY ["_law_call"] (ay yQ):=ZL (by decide+kernel)
theorem Xk {k:Nat}{f:Addr}{fd:FuncData}{cS:Addr}(F:aG K "_law_word" "_law_word" yQ f fd) (G:Gs mg):aA P w K mg base aE (k+1) f fd ["_law_call"] (mC P w K mg base cS k):=by
 refine F.ok gX (fun vs H Q E h=> ?_) (fun aq A outer s H vs Q E hr h=> ?_)
 ·obtain⟨f,fd,sp,C,iC,rfl,_⟩:=h
  rfl
 ·obtain⟨f,fd,sp,C,iC,rfl,M,eW,Fl,AS,dG,q⟩:=h
  obtain⟨c0,m0,k0⟩:=M.m 0 .d
  obtain⟨c1,m1,k1⟩:=M.m 1 .d
  obtain⟨c2,m2,k2⟩:=M.m 2 .d
  obtain⟨c3,m3,k3⟩:=M.m 3 .d
  obtain⟨c4,m4,k4⟩:=M.m 4 .d
  obtain⟨c5,m5,k5⟩:=M.m 5 .d
  obtain⟨c6,m6,k6⟩:=M.m 6 .d
  obtain⟨c7,m7,k7⟩:=M.m 7 .d
  obtain⟨c8,m8,k8⟩:=M.m 8 .d
  obtain⟨c9,m9,k9⟩:=M.m 9 .d
  obtain⟨c10,Oi,mT⟩:=M.m 10 .d
  obtain⟨c11,mP,OI⟩:=M.m 11 .d
  obtain⟨c12,Oh,OH⟩:=M.m 12 .d
  obtain⟨c13,Og,pF⟩:=M.m 13 .d
  obtain⟨c14,Of,OG⟩:=M.m 14 .d
  have gi:=G.isinstance
  refine⟨_,Zc (Zx (i:=1) gX.nd rfl (Or.inl rfl) Yo)
   (Zc (Zbb (ic:=0) (ie:=2) rfl rfl rfl gX.nd rfl (Or.inl rfl) rfl rfl M.ms rfl hr (fun e=>Zi (Zx (i:=1) gX.nd rfl (Or.inl rfl) (pv 2))))
   (Zc (Zx (i:=3) gX.nd rfl (Or.inl rfl) (ZG (Za (YA gi (pv 1) m0) (Za (YA gi (pv 1) m1) (Za (YA gi (pv 1) m2) Zb)))))
   (Zc (Zx (i:=4) gX.nd rfl (Or.inl rfl) (ZG (Za (YA gi (pv 1) m3) (Za (YA gi (pv 1) m4) (Za (YA gi (pv 1) m5) Zb)))))
   (Zc (Zx (i:=3) gX.nd rfl (Or.inl rfl) (Zm YZ (Zm YZ (pv 3) (pv 4)) (ZG (Za (YA gi (pv 1) m6) (Za (YA gi (pv 1) m7) Zb)))))
   (Zc (Zx (i:=3) gX.nd rfl (Or.inl rfl) (Zm YZ (pv 3) (ZG (Za (YA gi (pv 1) m8) (Za (YA gi (pv 1) m9) Zb)))))
   (Zc (Zx (i:=3) gX.nd rfl (Or.inl rfl) (Zm YZ (pv 3) (ZG (Za (YA gi (pv 1) Oi) (Za (YA gi (pv 1) mP) Zb)))))
   (Zc (Zx (i:=3) gX.nd rfl (Or.inl rfl) (Zm YZ (pv 3) (ZG (Za (YA gi (pv 1) Oh) (Za (YA gi (pv 1) Og) Zb)))))
   (Zc (Zy (Yq Za0 Zbx Zby ZW (pv 3) (Za (YA gi (pv 1) Of) Zb)))
   (Zc (ZO (YJ (YL (pv 1))) Zr Zv)
   (Zc (ZO (PW.pt (Jm (ZM Ux (Yq Za0 PySem.F.slot_list_count PySem.F.type_list_count ZdX (pv 3) (Za Wf Zb)) Zd (bF _))
     (YI (Z0 (ZK (Zn JX rfl gi Zbw (Za (pv 1) (Za (ZI (v:=.ty "ValueError") rfl M.mv PyProof.Rows.Boot.«ValueError» rfl) Zb)))))))) Zr Zv)
   (Zc (Zx (i:=5) gX.nd rfl (Or.inl rfl) (ZG (WC (vs:=qz.map V.str) rfl)))
   (Zc (Zx (i:=5) gX.nd rfl (Or.inl rfl) (Zm YZ (pv 5) (ZG (WC (vs:=qy.map V.str) rfl))))
   (Zi (Zw (ZE ZZ (pv 5) (Yq Za0 PySem.F.slot_list_index PySem.F.type_list_index ZcN (pv 3) (Za Wf Zb)) (fun _ _=>rfl)))))))))))))))),?_⟩
  refine⟨f,fd,sp,rfl,eW,Fl,AS,dG _ _ fun e H1 s1=> ⟨e,C,rfl,rfl,M.xs,fun Qv=> (er rfl (?_))⟩⟩
  have s2:ag H1 (upd H1 e (jz e C)):=Zp Qv
  have he:upd H1 e (jz e C) e=some (jz e C):=Ze
  generalize upd H1 e (jz e C)=H2 at s2 he
  have sA:=s1.trans s2
  dsimp only[List.set]
  (try refine hZ _ _ ?_);refine Zj fun Z hZ=> (Zz ⟨e,C,_,rfl,he,M.z,k0,e,C,_,rfl,he,M.z,k1,e,C,_,rfl,he,M.z,k2,yd,fun l1 nz=>Zt ?_⟩)
  dsimp only
  refine hZ _ _ ?_
  show gQ _ _ _ [some (.ref f),some (.ref e),none,some (.ref l1),none,none] (upd H2 l1 (.lst (bT iC 3)))
  obtain⟨H3,zz,t1,g1⟩:=aH (o:=.lst (bT iC 3)) nz
  rw[zz]
  have wC:=t1 _ _ he
  (try refine hZ _ _ ?_);refine Zj fun Z hZ=> (Zz ⟨e,C,_,rfl,wC,M.z,k3,e,C,_,rfl,wC,M.z,k4,e,C,_,rfl,wC,M.z,k5,yd,fun l2 gF=>Zt ?_⟩)
  dsimp only
  refine hZ _ _ ?_
  show gQ _ _ _ [some (.ref f),some (.ref e),none,some (.ref l1),some (.ref l2),none] (upd H3 l2 (.lst [V.bl (decide (3=iC)),V.bl (decide (4=iC)),V.bl (decide (5=iC))]))
  obtain⟨H4,zz,t2,g2⟩:=aH (o:=.lst [V.bl (decide (3=iC)),V.bl (decide (4=iC)),V.bl (decide (5=iC))]) gF
  rw[zz]
  have Qu:=t2 _ _ wC
  (try refine hZ _ _ ?_);refine Zj fun Z hZ=> (Zz (er rfl (er rfl ⟨l1,l2,bT iC 3,_,rfl,rfl,t2 _ _ g1,g2,(by show 3+3<=sizeLine;decide),fun l3 lO=> ?_⟩)))
  show yc _ _ (upd H4 l3 (.lst (bT iC 6))) _
  obtain⟨H5,zz,t3,g3⟩:=aH (o:=.lst (bT iC 6)) lO
  rw[zz]
  have AJ:=t3 _ _ Qu
  refine⟨e,C,_,rfl,AJ,M.z,k6,e,C,_,rfl,AJ,M.z,k7,aX,fun l4 wq=> ?_⟩
  obtain⟨H6,zz,t4,g4⟩:=aH (o:=.lst [V.bl (decide (6=iC)),V.bl (decide (7=iC))]) wq
  rw[zz]
  refine⟨l3,l4,bT iC 6,_,rfl,rfl,t4 _ _ g3,g4,(by show 6+2<=sizeLine;decide),fun l5 r9=>Zt ?_⟩
  dsimp only
  refine hZ _ _ ?_
  show gQ _ _ _ [some (.ref f),some (.ref e),none,some (.ref l5),some (.ref l2),none] (upd H6 l5 (.lst (bT iC 8)))
  obtain⟨H7,zz,t5,g5⟩:=aH (o:=.lst (bT iC 8)) r9
  rw[zz]
  have AI:=t5 _ _ (t4 _ _ AJ)
  (try refine hZ _ _ ?_);refine Zj fun Z hZ=> (Zz (er rfl ⟨e,C,_,rfl,AI,M.z,k8,e,C,_,rfl,AI,M.z,k9,aX,fun a8 QL=> ?_⟩))
  obtain⟨Ha8,zz,uq,Rq⟩:=aH (o:=.lst [V.bl (decide (8=iC)),V.bl (decide (9=iC))]) QL
  rw[zz]
  refine⟨l5,a8,bT iC 8,_,rfl,rfl,uq _ _ g5,Rq,(by show 8+2<=sizeLine;decide),fun b8 QJ=>Zt ?_⟩
  dsimp only
  refine hZ _ _ ?_
  show gQ _ _ _ [some (.ref f),some (.ref e),none,some (.ref b8),some (.ref l2),none] (upd Ha8 b8 (.lst (bT iC 10)))
  obtain⟨Hb8,zz,mw,Rn⟩:=aH (o:=.lst (bT iC 10)) QJ
  rw[zz]
  have AG:=mw _ _ (uq _ _ AI)
  (try refine hZ _ _ ?_);refine Zj fun Z hZ=> (Zz (er rfl ⟨e,C,_,rfl,AG,M.z,mT,e,C,_,rfl,AG,M.z,OI,aX,fun a10 QO=> ?_⟩))
  obtain⟨aak,zz,uu,Rt⟩:=aH (o:=.lst [V.bl (decide (10=iC)),V.bl (decide (11=iC))]) QO
  rw[zz]
  refine⟨b8,a10,bT iC 10,_,rfl,rfl,uu _ _ Rn,Rt,(by show 10+2<=sizeLine;decide),fun b10 QK=>Zt ?_⟩
  dsimp only
  refine hZ _ _ ?_
  show gQ _ _ _ [some (.ref f),some (.ref e),none,some (.ref b10),some (.ref l2),none] (upd aak b10 (.lst (bT iC 12)))
  obtain⟨aaI,zz,xT,Ro⟩:=aH (o:=.lst (bT iC 12)) QK
  rw[zz]
  have AH:=xT _ _ (uu _ _ AG)
  (try refine hZ _ _ ?_);refine Zj fun Z hZ=> (Zz (er rfl ⟨e,C,_,rfl,AH,M.z,OH,e,C,_,rfl,AH,M.z,pF,aX,fun a12 QN=> ?_⟩))
  obtain⟨aaj,zz,ur,Rr⟩:=aH (o:=.lst [V.bl (decide (12=iC)),V.bl (decide (13=iC))]) QN
  rw[zz]
  refine⟨b10,a12,bT iC 12,_,rfl,rfl,ur _ _ Ro,Rr,(by show 12+2<=sizeLine;decide),fun b12 Fn=>Zt ?_⟩
  dsimp only
  refine hZ _ _ ?_
  show gQ _ _ _ [some (.ref f),some (.ref e),none,some (.ref b12),some (.ref l2),none] (upd aaj b12 (.lst (bT iC 14)))
  obtain⟨qq,zz,CA,A4⟩:=aH (o:=.lst (bT iC 14)) Fn
  rw[zz]
  have wB:=CA _ _ (ur _ _ AH)
  have sB:ag H qq:=s1.trans (s2.trans (t1.trans (t2.trans (t3.trans (t4.trans (t5.trans (uq.trans (mw.trans (uu.trans (xT.trans (ur.trans (CA))))))))))))
  (try refine hZ _ _ ?_);refine Zj fun Z hZ=> (er rfl ⟨.inl ⟨rfl,_,ai.of A4⟩,e,C,_,rfl,wB,M.z,OG,b12,_,_,rfl,rfl,A4,(by show 14<sizeLine;decide),?_⟩)
  refine hZ _ _ ?_
  show gQ _ _ _ [some (.ref f),some (.ref e),none,some (.ref b12),some (.ref l2),none] (upd qq b12 (.lst (bT iC 15)))
  have NV:H b12=none:=(s1.trans (s2.trans (t1.trans (t2.trans (t3.trans (t4.trans (t5.trans (uq.trans (mw.trans (uu.trans (xT.trans ur))))))))))).free Fn
  have sC:ag H (upd qq b12 (.lst (bT iC 15))):=X2 sB NV
  have Ff:upd qq b12 (.lst (bT iC 15)) e=some (jz e C):=by rw[Zh (fun z=>by rw[z,A4]at wB;cases wB)];exact wB
  have gc:upd qq b12 (.lst (bT iC 15)) b12=some (.lst (bT iC 15)):=Ze
  generalize upd qq b12 (HO.lst (bT iC 15))=Hc at sC Ff gc
  (try refine hZ _ _ ?_);refine Zj fun Z hZ=> (er rfl (er rfl (aO ?_)))
  refine Yd ?_
  dsimp only
  (try refine hZ _ _ ?_);refine Zj fun Z hZ=> (er rfl ⟨.inl ⟨rfl,_,ai.of gc⟩,b12,_,_,rfl,rfl,ai.of gc,rfl,WK _ _,?_⟩)
  rw[ZaI iC M.lt]
  refine⟨rfl,_,rfl,aO (er rfl ⟨e,C,_,_,_,rfl,Ff,M.z,fun _ h=>h,M.xv,_,rfl,aO ?_⟩)⟩
  refine Yd ?_
  dsimp only
  (try refine hZ _ _ ?_);refine Zj fun Z hZ=> (Zz ⟨LU,fun d1 QC=>Zt ?_⟩)
  dsimp only
  refine hZ _ _ ?_
  show gQ _ _ _ [some (.ref f),some (.ref e),none,some (.ref b12),some (.ref l2),some (.ref d1)] _
  obtain⟨Hd,zz,u1,v1⟩:=aH (o:=.lst (qz.map V.str)) QC
  rw[zz]
  (try refine hZ _ _ ?_);refine Zj fun Z hZ=> (Zz (er rfl ⟨CI,fun d2 hd2=> ?_⟩))
  obtain⟨He,zz,u2,v2⟩:=aH (o:=.lst (qy.map V.str)) hd2
  rw[zz]
  refine⟨d1,d2,_,_,rfl,rfl,u2 _ _ v1,v2,(by show 8+7<=sizeLine;decide),fun d3 QB=>Zt ?_⟩
  dsimp only
  refine hZ _ _ ?_
  show xY _ _ [some (.ref f),some (.ref e),none,some (.ref b12),some (.ref l2),some (.ref d3)] _
  obtain⟨Hf,zz,u3,v3⟩:=aH (o:=.lst (qz.map V.str++qy.map V.str)) QB
  rw[zz]
  have gf:=u3 _ _ (u2 _ _ (u1 _ _ gc))
  refine(er rfl (er rfl ⟨.inl ⟨rfl,_,ai.of gf⟩,b12,_,_,iC,rfl,rfl,ai.of gf,rfl,WK _ _,⟨_,Zd1 M.lt,rfl⟩,fun m y h e=>Zd0 h e,?_⟩))
  refine⟨d3,_,_,_,rfl,rfl,ai.of v3,Yv (v:=.str (wordOf iC)) ?_,q _ (sC.trans (u1.trans (u2.trans u3)))⟩
  rw[<-ZbA,ZbG]
  unfold wordOf
  have hl:iC< (qz++qy).length:=M.lt
  rw[Zag hl,ZbL,Zag hl]
  rfl
end
section
def vv:Lit->Bool
 | .sc v=>mD v
 | .tup xs=>xs.all mD
 |_=>true
def DX:Lit->Option (List V)
 | .tup xs=>some xs
 |_=>none
theorem BR {H:Hp}{v:V} :∀{l:Lit},vv l=true->jF H v l->bj H v=DX l
 | .sc u,hp,h=>by
  have h':v=u:=h
  subst h'
  cases v with
  |ref a=>cases hp
  |_=>rfl
 | .tup xs,_,⟨a,e,h⟩=>by rw[e,Zl h];rfl
 | .lst xs,_,⟨a,e,h⟩=>by rw[e,ZA,h];rfl
 | .i6,_,⟨a,e,h⟩=>by rw[e,ZA,h];rfl
theorem Vz {K:ZhQ}{H:Hp}{v:V} :∀{l:Lit},vv l=true->jF H v l->eC K H v
 | .sc u,hp,h=>by
  have h':v=u:=h
  subst h'
  refine⟨Ic hp,fun xs e y hy=> ?_⟩
  rw[BR (l:=.sc v) hp rfl]at e
  cases e
 | .tup xs,hp,⟨a,e,h⟩=>by
  subst e
  refine⟨⟨_,.tup h⟩,fun ys e y hy=> ?_⟩
  rw[Zl h]at e
  cases e
  exact Ic (ZaZ.mp hp y hy)
 | .lst xs,hp,⟨a,e,h⟩=>by
  subst e
  refine⟨⟨_,.lst h⟩,fun ys e y hy=> ?_⟩
  rw[ZA,h]at e
  cases e
 | .i6,hp,⟨a,e,h⟩=>by
  subst e
  refine⟨⟨_,.dK h⟩,fun ys e y hy=> ?_⟩
  rw[ZA,h]at e
  cases e
def jE (p:Addr) (H:Hp) (v:V):Prop:=v≠.ref p/\∀xs,bj H v=some xs->∀y∈xs,y≠.ref p
theorem JE {K:ZhQ}{H H':Hp}{p:Addr}{v:V}(t:bJ K H v) (s:av p H H') (hn:v≠.ref p):bj H' v=bj H v:=by
 obtain⟨T,t⟩:=t
 cases t with
 |tup e=>rw[Zl e,Zl (s _ _ e fun z=>hn (by rw[z]))]
 |lst e=>rw[ZA,ZA,e,s _ _ e fun z=>hn (by rw[z])]
 |cb e=>rw[ZA,ZA,e,s _ _ e fun z=>hn (by rw[z])]
 |dK e=>rw[ZA,ZA,e,s _ _ e fun z=>hn (by rw[z])]
 |dT e=>rw[ZA,ZA,e,s _ _ e fun z=>hn (by rw[z])]
 |_=>rfl
theorem YQ {K:ZhQ}{H H':Hp}{p:Addr}{v:V}(t:bJ K H v) (s:av p H H') (hn:v≠.ref p):bJ K H' v:=by
 obtain⟨T,t⟩:=t
 cases t with
 |tup e=>exact⟨_,.tup (s _ _ e fun z=>hn (by rw[z]))⟩
 |lst e=>exact⟨_,.lst (s _ _ e fun z=>hn (by rw[z]))⟩
 |cb e=>exact⟨_,.cb (s _ _ e fun z=>hn (by rw[z]))⟩
 |dK e=>exact⟨_,.dK (s _ _ e fun z=>hn (by rw[z]))⟩
 |dT e=>exact⟨_,.dT (s _ _ e fun z=>hn (by rw[z]))⟩
 |ah=>exact⟨_,.ah⟩
 |bl b=>exact⟨_,.bl b⟩
 |int i=>exact⟨_,.int i⟩
 |str x=>exact⟨_,.str x⟩
 |gH x=>exact⟨_,.gH x⟩
theorem BD {K:ZhQ}{H H':Hp}{p:Addr}{v:V}(t:eC K H v) (s:av p H H') (n:jE p H v):eC K H' v:=by
 refine⟨YQ t.1 s n.1,fun xs e y hy=> ?_⟩
 rw[JE t.1 s n.1]at e
 exact YQ (t.2 xs e y hy) s (n.2 xs e y hy)
theorem HQ {K:ZhQ}{H H':Hp}{p q:Addr}{v:V}(t:bJ K H v) (s:av q H H') (hq:v≠.ref q) (n:jE p H v):jE p H' v:=⟨n.1,fun xs e=>n.2 xs (by rw[<-JE t s hq];exact e)⟩
theorem BG {K:ZhQ}{H H':Hp}{p:Addr}{v:V}(b:iD K H v) (s:av p H H') (n:jE p H v):iD K H' v:=⟨BD b.1 s n,by rw[JE b.1.1 s n.1];exact b.2⟩
end
section
variable {P:Program}{w:World}{K:ZhQ}{mg:Str->Option Value}{base:Heap}
abbrev oW:Stmt:=top 51
def zF:List Lit:=[.sc .ah,.tup [.int 0,.int 3],.tup [.int 3,.int 13],.tup [.int 13,.int 13],.lst [.int 3,.int 3],.tup [.int 3],.tup [.int 3,.int 3,.int 3],.tup [.bl true,.int 3],.tup [.int 3,.str "3"],.sc (.int 7)]
def GJ (l:Lit):Bool:=vv l&& !mV (DX l)
theorem XQ:zF.all GJ=true:=by decide+kernel
def yo (K:ZhQ):Sp:=fun vs H Q _=> ∃p:Addr,vs=[.ref p]/\bQ H p/\∀v H',av p H H'->bQ H' p->iD K H' v->jE p H' v->Q v H'
def zE:List Expr:=match cX oW with | .Assign _ (.List es _) _::_=>es |_=> []
def NL (a:List Expr):List Stmt:=match cX oW with
 | .Assign x (.List _ p1) p2::r=> .Assign x (.List a p1) p2::r
 |_=> []
theorem XS:cX oW=NL zE:=by kernel_rfl
theorem XR:litsOf zE=some zF:=by kernel_rfl
theorem C3:aZ ["_law_state_here", "_law_some"] ["_law_state_here"] (ay oW):=ZL (by decide+kernel)
theorem Zd4 {H H':Hp}{p:Addr}{v:V} :∀{l:Lit},jF H v l->(∀a:Addr,v=.ref a->a≠p)->av p H H'->jF H' v l
 | .sc _,h,_,_=>h
 | .tup _,⟨a,e,h⟩,n,s=> ⟨a,e,s _ _ h (n a e)⟩
 | .lst _,⟨a,e,h⟩,n,s=> ⟨a,e,s _ _ h (n a e)⟩
 | .i6,⟨a,e,h⟩,n,s=> ⟨a,e,s _ _ h (n a e)⟩
theorem ZcS {H:Hp}{p:Addr}{v:V}{l:Lit}(hp:vv l=true) (h:jF H v l) (n:∀a:Addr,v=.ref a->a≠p):jE p H v:=by
 refine⟨fun z=>n p z rfl,fun xs e y hy z=> ?_⟩
 rw[BR hp h]at e
 cases l with
 |tup ys=>
  cases e
  have:=ZaZ.mp (show xs.all mD=true from hp) y hy
  rw[z]at this
  cases this
 |_=>cases e
theorem VH {f:Addr}{fd:FuncData}(F:aG K "_law_no_board" "_law_no_board" oW f fd) (D1:Def P w K mg base 1 "_law_take" ["_law_state_here", "_law_many"] jP):aA P w K mg base aE 2 f fd ["_law_state_here"] (yo K):=by
 refine F.ok C3 (fun vs H Q E h=> ?_) (fun aq A outer s H vs Q E hr h=> ?_)
 ·obtain⟨p,rfl,_⟩:=h
  rfl
 ·obtain⟨p,rfl,st,q⟩:=h
  rw[XS]
  have i1:=XR
  generalize zE=pW at i1
  refine⟨_,Zc (Zx (i:=1) C3.nd rfl (Or.inl rfl) (ZG (HX (ls:=zF) i1))) (Zi (Zw (ZE ZZ (Zm YZ (pv 1) (ZG (Za (Zs (Za (Zs (Za Zd Zb)) (Za Zd Zb))) (Za (Zs (Za Zd (Za Yo Zb))) Zb)))) (Zf D1 hr (Za (pv 0) (Za Zd Zb))) (fun _ _=>rfl)))),?_⟩
  (try refine hZ _ _ ?_);refine Zj fun Z hZ=> (Zz fun dB H1 s1 Dm n1=> ?_)
  have l1:dB.length=10:=Zcf Dm
  refine⟨by rw[l1];decide,fun L1 fH=>Zt ?_⟩
  have s2:ag H1 (upd H1 L1 (.lst dB)):=Zp fH
  have eL:upd H1 L1 (.lst dB) L1=some (.lst dB):=Ze
  generalize upd H1 L1 (HO.lst dB)=H2 at s2 eL
  dsimp only[List.set]
  refine hZ _ _ ?_
  refine(er rfl ⟨bO,fun a1 fY=> ?_⟩)
  obtain⟨H3,zz,s3,e3⟩:=aH (o:=.tup [V.int 1]) fY
  rw[zz]
  refine⟨aX,fun a2 Fu=> ?_⟩
  obtain⟨H4,zz,s4,e4⟩:=aH (o:=.tup [V.ref a1,V.int 2]) Fu
  rw[zz]
  refine⟨aX,fun a3 Ft=> ?_⟩
  obtain⟨H5,zz,s5,e5⟩:=aH (o:=.tup [V.int 2,V.ah]) Ft
  rw[zz]
  refine⟨aX,fun L2' iW=> ?_⟩
  obtain⟨H6,zz,s6,e6⟩:=aH (o:=.lst [V.ref a2,V.ref a3]) iW
  rw[zz]
  refine⟨L1,L2',_,_,rfl,rfl,s6 _ _ (s5 _ _ (s4 _ _ (s3 _ _ eL))),e6,by rw[l1];show 10+2<=sizeLine;decide,fun L3 fm=> ?_⟩
  obtain⟨H7,zz,s7,e7⟩:=aH (o:=.lst (dB++[V.ref a2,V.ref a3])) fm
  rw[zz]
  have Mo:=s3.trans (s4.trans (s5.trans (s6.trans s7)))
  have Df:=s2.trans Mo
  have kQ:ag H H7:=s1.trans Df
  have qN:=st.same kQ
  refine(er rfl ⟨p,12,rfl,qN,.d,.d,fun r o h0 wK qM=> ?_⟩)
  obtain⟨u0,v0,fL,_⟩:=id st
  have ep7:=kQ _ _ fL
  have mM:∀{c:Addr}{G G':Hp},ag H G->G c=none->c≠p:=fun s h z=>by rw[z,s _ _ fL]at h;cases h
  have zL:=mM (s1.trans (s2.trans (s3.trans (s4.trans (s5.trans s6))))) (G':=H) fm
  have DO:=mM (s1.trans s2) (G':=H) fY
  have zJ:=mM (s1.trans (s2.trans s3)) (G':=H) Fu
  have DN:=mM (s1.trans (s2.trans (s3.trans s4))) (G':=H) Ft
  have OA:(dB++[V.ref a2,V.ref a3]).length=12:=by rw[Zap,l1];rfl
  have az:r.toNat< (dB++[V.ref a2,V.ref a3]).length:=by rw[OA];omega
  have sr:=Zag az
  have jw:=Yv sr
  rw[Zca h0]at jw
  have x8:av p H7 (upd H7 p o):=av.upd
  refine⟨L3,_,_,_,rfl,rfl,ai.of (x8 _ _ e7 zL),jw,?_⟩
  have hm:(dB++[V.ref a2,V.ref a3])[r.toNat]∈dB++[V.ref a2,V.ref a3]:=ZeR az
  generalize (dB++[V.ref a2,V.ref a3])[r.toNat]=v at hm
  have good:iD K (upd H7 p o) v/\jE p (upd H7 p o) v:=by
   rcases ZaC.mp hm with hm |hm
   ·obtain⟨k,hk,ek⟩:=Zcl hm
    obtain⟨l,hl,bI⟩:=Jn Dm (Zag hk)
    rw[ek]at bI
    have hb:=ZaZ.mp XQ l (ZaX hl)
    unfold GJ at hb
    rw[ZaL]at hb
    have n:∀a:Addr,v=.ref a->a≠p:=fun a e z=>by
     have:=n1 a (by rw[<-e];exact hm)
     rw[z,fL]at this
     cases this
    have Bv:=Zd4 (bI.same Df) n x8
    refine⟨⟨Vz hb.1 Bv,?_⟩,ZcS hb.1 Bv n⟩
    rw[BR hb.1 Bv]
    simpa using hb.2
   ·simp only[Zao,Zbc,Zdo]at hm
    rcases hm with rfl |rfl
    ·have g2:=x8 _ _ ((s5.trans (s6.trans s7)) _ _ e4) zJ
     have g1:=x8 _ _ ((s4.trans (s5.trans (s6.trans s7))) _ _ e3) DO
     refine⟨⟨⟨⟨_,.tup g2⟩,fun xs e y hy=> ?_⟩,by rw[Zl g2];rfl⟩,fun z=>zJ (by cases z;rfl),fun xs e y hy z=> ?_⟩
     ·rw[Zl g2]at e
      cases e
      simp only[Zao,Zbc,Zdo]at hy
      rcases hy with rfl |rfl
      ·exact⟨_,.tup g1⟩
      ·exact⟨_,.int 2⟩
     ·rw[Zl g2]at e
      cases e
      simp only[Zao,Zbc,Zdo]at hy
      rcases hy with rfl |rfl
      ·exact DO (by cases z;rfl)
      ·cases z
    ·have g3:=x8 _ _ ((s6.trans s7) _ _ e5) DN
     refine⟨⟨⟨⟨_,.tup g3⟩,fun xs e y hy=> ?_⟩,by rw[Zl g3];rfl⟩,fun z=>DN (by cases z;rfl),fun xs e y hy z=> ?_⟩
     ·rw[Zl g3]at e
      cases e
      simp only[Zao,Zbc,Zdo]at hy
      rcases hy with rfl |rfl
      ·exact⟨_,.int 2⟩
      ·exact⟨_,.ah⟩
     ·rw[Zl g3]at e
      cases e
      simp only[Zao,Zbc,Zdo]at hy
      rcases hy with rfl |rfl<;>cases z
  exact q v _ (fun c u hc hn=>x8 _ _ (kQ _ _ hc) hn) qM good.1 good.2
end
section
def jS (K:ZhQ):R2:=fun x y H Q=> (∃a b ys,x=.ref a/\y=.ref b/\aj K H a []/\aj K H b ys/\Q (.ref b) H)∨zp K x y H Q
theorem jV {X:Cx} :bg X (binaryOp .Add) (jS X.K):=Kd.or HU
theorem ql {K:ZhQ}{H:Hp}{a b:Addr}{xs ys:List V}{Q:VK}(ha:H a=some (.tup xs)) (hb:H b=some (.tup ys)) (hl:xs.length+ys.length<=sizeLine) (q:∀(c:Addr) H',ag H H'->H' c=some (.tup (xs++ys))->Q (.ref c) H'):jS K (.ref a) (.ref b) H Q:=by
 by_cases hx:xs=[]
 ·subst hx
  exact .inl ⟨a,b,ys,rfl,rfl,aj.of ha,aj.of hb,q b H (ag.refl _) hb⟩
 ·refine .inr ⟨a,b,xs,ys,rfl,rfl,aj.of ha,aj.of hb,hx,hl,fun hy=> ?_,fun _ c hc=>q c _ (Zp hc) Ze⟩
  subst hy
  exact q a H (ag.refl _) (by rw[ZbT];exact ha)
theorem Bl {xs:List V}{k:Nat}(h:k<=xs.length):cI xs (some (k:Int)) none=xs.drop k:=by
 unfold cI
 have e1:HT.aJ xs.length 0 (some (k:Int))=k:=by rw[HT.vh];omega
 rw[e1,HT.vg,ZbZ (by rw[ZbB];exact Zae _)]
theorem HJ {b a c:Int}(h0:a<=b) (h1:b<=c):bh (.int b) a c=true:=by
 show(decide (a<=b)&&decide (b<=c))=true
 rw[ZaR h0,ZaR h1];rfl
structure bB (K:ZhQ) (H:Hp) (x:V) (l:Addr) (xs:List V) (wd hg:Int):Prop where
 bd:bR H x wd hg
 at_:H l=some (.tup xs)
 ly:bw wd hg (some xs)=true
theorem Yj {xs:List V}{wd hg:Int}(h:bw wd hg (some xs)=true):(xs.length:Int)=wd:=by
 unfold bw at h
 rw[ZaL,ZaL]at h
 exact Zdh h.1.1
theorem Yk {xs:List V}{wd hg:Int}{v:V}(h:bw wd hg (some xs)=true) (hv:v∈xs):v=.ah∨∃i:Int,v=.int i/\0<=i/\i<hg:=by
 unfold bw at h
 rw[ZaL,ZaL]at h
 by_cases e:v=.ah
 ·exact .inl e
 ·have:=ZaZ.mp h.1.2 v (ZbM.mpr ⟨hv,by simp[e]⟩)
  cases v with
  |int i=>
   have z:(decide (0<=i)&&decide (i<=hg - 1))=true:=this
   rw[ZaL]at z
   have z1:=Zdh z.1
   have z2:=Zdh z.2
   exact .inr ⟨i,rfl,z1,.o⟩
  |_=>cases this
theorem bB.pl {K:ZhQ}{H:Hp}{x:V}{l:Addr}{xs:List V}{wd hg:Int}(a:bB K H x l xs wd hg):eC K H (.ref l):=by
 refine⟨⟨_,.tup a.at_⟩,fun ys e y hy=> ?_⟩
 rw[Zl a.at_]at e
 cases e
 rcases Yk a.ly hy with rfl |⟨i,rfl,_⟩
 ·exact⟨_,.ah⟩
 ·exact⟨_,.int i⟩
theorem Zcq (n:Nat):L2.upTo n=(il 0 n).map V.int:=by
 unfold L2.upTo il
 rw[List.map_map]
 refine List.map_congr_left fun k _=> ?_
 show V.int (k:Int)=V.int (0+(k:Int))
 rw[Ze7]
theorem Xe {n:Nat}{i:Int} :i∈il 0 n↔0<=i/\i<n:=by
 unfold il
 rw[ZbF]
 constructor
 ·rintro⟨k,hk,rfl⟩
  have:=Zbr.mp hk
  omega
 ·rintro⟨h1,h2⟩
  exact⟨i.toNat,Zbr.mpr .o,.o⟩
theorem Xd (n:Nat):(il 0 n).length=n:=by unfold il;rw[Zar,Zcb]
theorem Zbm (n:Nat):(il 0 n).Nodup:=by
 unfold il
 refine List.Pairwise.map _ (fun a b h=> ?_) Zeq
 omega
theorem WV:∀{ls:List Int}{k:Nat}(h:k<ls.length),(ls[k]::ls.eraseIdx k).Perm ls
 |_::_,0,_=> .refl _
 |a::ls,k+1,h=> ((List.Perm.swap _ _ _).trans (List.Perm.cons a (WV (ls:=ls) (k:=k) (by simpa using h))))
theorem IK {t u:TS}{D:Ends}{σ:L2.St}{H:Hp}(R:L2.St->Hp->Prop) (h2:∀ao H',R ao H'->u D ao H') (h1:∀D':Ends,(∀ao H',R ao H'->D'.nx ao H')->t D' σ H):gQ t u D σ H:=h1 _ h2
theorem Wx {p L:Addr}{H H1:Hp}{o:HO}(x:av p H H1) (hp:H1 p=some o) (hL:H1 L=none):H L=none/\L≠p:=by
 have n:L≠p:=fun e=>by rw[e,hp]at hL;cases hL
 refine⟨?_,n⟩
 cases h:H L with
 |none=>rfl
 |some u=>rw[x _ _ h n]at hL;cases hL
theorem Js {p L:Addr}{H H1:Hp}{o:HO}(x:av p H H1) (n:H L=none):av p H (upd H1 L o):=fun b u h nb=>by
 rw[Zh (Zg h n)]
 exact x b u h nb
theorem Ip {p L:Addr}{H:Hp}{o:HO}(s:bQ H p) (n:L≠p):bQ (upd H L o) p:=by
 obtain⟨u,v,e,r⟩:=s
 exact⟨u,v,by rw[Zh n.symm];exact e,r⟩
theorem UJ {α β:Type}(f:α->β):∀(xs:List α) (k:Nat),(xs.map f).eraseIdx k=(xs.eraseIdx k).map f
 | [],_=>rfl
 |_::_,0=>rfl
 |a::xs,k+1=>by
  show f a::(xs.map f).eraseIdx k=f a::(xs.eraseIdx k).map f
  rw[UJ f xs k]
theorem Vh {t:TE}{σ:L2.St}{H:Hp}{Q:VK}(R:V->Hp->Prop) (h2:∀v H',R v H'->Q v H') (h1:∀Q':VK,(∀v H',R v H'->Q' v H')->t σ H Q'):t σ H Q:=h1 Q h2
theorem XA {te:TE}{t:TA}{σ:L2.St}{H:Hp}{Q:List V->Hp->Prop}(h:te σ H fun v H1=>t σ H1 fun vs H2=>Q (v::vs) H2):oF te t σ H Q:=h
theorem Hy {xs:List V}{lo hi:Option Int}{y:V}(h:y∈cI xs lo hi):y∈xs:=ZbH (Zce h)
theorem BE {i b:Int}(h:i<0∨b<i):bh (.int i) 0 b=false:=by
 show(decide (0<=i)&&decide (i<=b))=false
 rcases h with h |h
 ·rw[ZaA .o,Zez]
 ·rw[ZaA (show ¬i<=b by omega),ZeA]
theorem X1 {fs:List V} :rowsOf (fs++[.ah])=rowsOf fs:=by
 unfold rowsOf
 rw[Zey]
 simp
theorem X0 {fs:List V}{i:Int} :rowsOf (fs++[.int i])=rowsOf fs++[.int i]:=by
 unfold rowsOf
 rw[Zey]
 simp
theorem ZaN {fs:List V}{is ls:List Int}{wd hg:Int}(EZ:1<=hg) (h1:rowsOf fs=is.map V.int) (h2:(is++ls).Perm (il 0 hg.toNat)) (h3:(fs.length:Int)=wd):bw wd hg (some fs)=true:=by
 unfold bw
 dsimp only
 rw[h1,ZaR h3]
 have a1:((is.map V.int).all fun r=>bh r 0 (hg - 1))=true:=by
  rw[ZaZ]
  intro x hx
  obtain⟨i,hi,rfl⟩:=ZbF.mp hx
  have:=Xe.mp (h2.mem_iff.mp (ZaW _ hi))
  exact HJ this.1 .o
 have a2:(is.map V.int).Nodup:=(UA is).mpr (List.nodup_append.mp ((List.Perm.nodup_iff h2).mpr (Zbm _))).1
 rw[a1,ZaR a2]
 rfl
end
section
variable {P:Program}{w:World}{K:ZhQ}{mg:Str->Option Value}{base:Heap}
abbrev za:Stmt:=top 49
def yD (K:ZhQ):Sp:=fun vs H Q _=> ∃(p b:Addr) (wd hg:Int),vs=[.ref p,.ref b]/\bQ H p/\bR H (.ref b) wd hg/\∀(l:Addr) H' (xs:List V),av p H H'->bQ H' p->H' l=some (.tup xs)->bw wd hg (some xs)=true->Q (.ref l) H'
theorem oS:aZ ["_law_state_here", "_law_board", "_law_left", "_law_found", "_law_line", "_law_row"] ["_law_state_here", "_law_board"] (ay za):=ZL (by decide+kernel)
theorem T6 {f:Addr}{fd:FuncData}(F:aG K "_law_lay" "_law_lay" za f fd) (G:Gs mg) (D1:Def P w K mg base 1 "_law_take" ["_law_state_here", "_law_many"] jP):aA P w K mg base aE 2 f fd ["_law_state_here", "_law_board"] (yD K):=by
 refine F.ok oS (fun vs H Q E h=> ?_) (fun aq A outer s H vs Q E hr h=> ?_)
 ·obtain⟨p,b,wd,hg,rfl,_⟩:=h
  rfl
 ·obtain⟨p,b,wd,hg,rfl,st,bd,q⟩:=h
  obtain⟨_,w1,w2,g1,g2⟩:=id bd
  obtain⟨a',eb,hb⟩:=Zu bd.1
  cases eb
  refine⟨_,Zc (BL (i:=2) (j:=3) rfl oS.nd rfl rfl .d rfl rfl (Za (Z4 Uj rfl G.list Zfz (Za (Z4 Wi rfl G.range boot_range (Za (ZE ZN (pv 1) Zd (fun _ _=>rfl)) Zb)) Zb)) (Za (Zs Zb) Zb)) rfl)
   (Zc (Ju ZeL rfl (Z2 rfl G.range (Za (ZE ZN (pv 1) Zd (fun _ _=>rfl)) Zb)) (ZD (i:=4) oS.nd rfl (Or.inl rfl))
    (Zc (Zx (i:=5) oS.nd rfl (Or.inl rfl) Yo)
    (Zc (ZO (PW.pt (BM (ZM (VO hr.xP) (pv 2) (ZG Zb) (bF _)) (UZ (ZM Uy (Zf D1 hr (Za (pv 0) (Za Zd Zb))) Zd (bF _)))))
     (Zi (Zx (i:=5) oS.nd rfl (Or.inl rfl) (Yq Za0 PySem.F.slot_list_pop PySem.F.type_list_pop ZdW (pv 2) (Za (Zf D1 hr (Za (pv 0) (Za (Zn ZF rfl G.len Zfb (Za (pv 2) Zb)) Zb))) Zb)))) Zv)
    (Zi (Zx (i:=3) oS.nd rfl (Or.inl rfl) (Zm jV (pv 3) (Zs (Za (pv 5) Zb))))))))
   (Zi (Zw (pv 3)))),?_⟩
  obtain⟨u0,v0,fL,_⟩:=id st
  have gq:b≠p:=Ym hb fL (by intro z;cases z)
  (try refine hZ _ _ ?_);refine Zj fun Z hZ=> (er rfl ⟨b,_,_,_,rfl,rfl,aj.of hb,bI,hg,rfl,fun rg Py=> ⟨rg,hg,rfl,Ze,.o,.o,fun L hL=> ⟨ZaV _,fun f0 pQ=> ⟨_,_,rfl,?_⟩⟩⟩⟩)
  dsimp only[List.set]
  have sA:=Zp (o:=.fj 0 hg) Py
  have sB:=Zp (o:=.lst (L2.upTo hg.toNat)) hL
  have sC:=Zp (o:=.tup []) pQ
  have eL:=sC _ _ (Ze (H:=upd H rg (.fj 0 hg)) (a:=L) (o:=.lst (L2.upTo hg.toNat)))
  have eF:upd (upd (upd H rg (.fj 0 hg)) L (.lst (L2.upTo hg.toNat))) f0 (.tup []) f0=some (.tup []):=Ze
  have kQ:=sA.trans (sB.trans sC)
  have Q0:H L=none/\L≠p:=Wx (p:=p) sA.x (sA _ _ fL) hL
  generalize upd (upd (upd H rg (.fj 0 hg)) L (.lst (L2.upTo hg.toNat))) f0 (.tup [])=H1 at kQ eL eF
  obtain⟨QZ,AX⟩:=Q0
  rw[Zcq]at eL
  have dj:=kQ _ _ hb
  (try refine hZ _ _ ?_);refine Zj fun Z hZ=> (er rfl ⟨b,_,_,_,rfl,rfl,aj.of dj,f9,wd,rfl,.o,.o,?_⟩)
  refine YU (n:=wd.toNat) (fun i σ H2=> ∃(fa:Addr) (fs:List V) (is ls:List Int) (x4 x5:Option V),σ=[some (.ref p),some (.ref b),some (.ref L),some (.ref fa),x4,x5]/\av p H H2/\bQ H2 p/\H2 L=some (.lst (ls.map V.int))/\H2 fa=some (.tup fs)/\fs.length=i/\rowsOf fs=is.map V.int/\(is++ls).Perm (il 0 hg.toNat))
   ⟨f0,[],[],il 0 hg.toNat,none,none,rfl,kQ.x,st.same kQ,eL,eF,rfl,rfl,.refl _⟩ ?_ ?_
  ·rintro i σ H2 hi ⟨fa,fs,is,ls,x4,x5,rfl,x2,au,wU,tj,fl,vq,pm⟩
   have hlen:=pm.length_eq
   rw[Zap,Xd]at hlen
   obtain⟨u2,v2,RW,_⟩:=id au
   have mK:fa≠p:=Ym tj RW (by intro z;cases z)
   have NQ:fa≠L:=Ym tj wU (by intro z;cases z)
   refine Zt (Vg (Zz (Zt ?_)))
   dsimp only[List.set]
   (try refine hZ _ _ ?_);refine IK (fun σ H3=> ∃(row:V) (vT vL:List Int),σ=[some (.ref p),some (.ref b),some (.ref L),some (.ref fa),some (.int (0+(i:Int))),some row]/\av p H H3/\bQ H3 p/\H3 L=some (.lst (vL.map V.int))/\H3 fa=some (.tup fs)/\rowsOf (fs++[row])=vT.map V.int/\(vT++vL).Perm (il 0 hg.toNat)) ?_ ?_
   ·rintro σ H3 ⟨row,vT,vL,rfl,x3,cK,sY,tf,Ms,M6⟩
    refine Zz (er rfl (er rfl ⟨bO,fun t ht=> ?_⟩))
    have s4:=Zp (o:=.tup [row]) ht
    refine ql (s4 _ _ tf) Ze (by rw[ZaH];show fs.length+1<=_;omega) fun c H5 s5 e5=>Zt ?_
    have zk:=s4.trans s5
    exact⟨c,fs++[row],vT,vL,_,_,rfl,x3.trans zk.x,cK.same zk,zk _ _ sY,e5,by rw[Zap,fl];rfl,Ms,M6⟩
   ·intro D' hD
    refine(er rfl ⟨ZaV _,fun e he=> ⟨L,e,ls.map V.int,rfl,rfl,ai.of (Zp he _ _ wU),ai.of Ze,_,rfl,?_⟩⟩)
    have se:=Zp (o:=.lst []) he
    have cK:=au.same se
    have x3:=x2.trans se.x
    have sY:=se _ _ wU
    have tf:=se _ _ tj
    generalize upd H2 e (.lst [])=H3 at se cK x3 sY tf
    have none_:∀{H4:Hp},av p H H4->bQ H4 p->H4 L=some (.lst (ls.map V.int))->H4 fa=some (.tup fs)->D'.nx [some (.ref p),some (.ref b),some (.ref L),some (.ref fa),some (.int (0+(i:Int))),some .ah] H4:=fun x s e1 e2=>hD _ _ ⟨.ah,is,ls,rfl,x,s,e1,e2,by rw[X1];exact vq,pm⟩
    cases ls with
    |nil=>exact aO (aO (Yd (none_ x3 cK sY tf)))
    |cons l0 lr=>
     refine aV (er rfl ⟨p,4,rfl,cK,.d,.d,fun r o r0 r4 de=> ⟨_,_,rfl,rfl,_,rfl,?_⟩⟩)
     have xJ:av p H (upd H3 p o):=x3.trans av.upd
     have jA:upd H3 p o L=some (.lst ((l0::lr).map V.int)):=by rw[Zh AX];exact sY
     have Bi:upd H3 p o fa=some (.tup fs):=by rw[Zh mK];exact tf
     generalize upd H3 p o=H4 at de xJ jA Bi
     by_cases rS:(0:Int)<r
     ·rw[ZaR rS]
      refine aV (Zz (er rfl ⟨.inl ⟨rfl,_,ai.of jA⟩,_,rfl,_,rfl,L,_,rfl,.inl (ai.of jA),p,_,rfl,de,by rw[Zar];simp,by rw[Zar];omega,fun r' o' MS Dl cT=> ?_⟩))
      rw[Zar]at Dl
      have e5:upd H4 p o' L=some (.lst ((l0::lr).map V.int)):=by rw[Zh AX];exact jA
      have cO:r'.toNat< (l0::lr).length:=.o
      refine⟨L,_,r',r'.toNat,.int ((l0::lr)[r'.toNat]),rfl,rfl,e5,.o,.o,PySem.seqIndex_of MS (by rw[Zar];exact Dl),by rw[ZbG,Zag cO];rfl,Zt ?_⟩
      refine hD _ _ ⟨_,is++[(l0::lr)[r'.toNat]],(l0::lr).eraseIdx r'.toNat,rfl,Js (xJ.trans av.upd) QZ,Ip cT AX,?_,?_,?_,?_⟩
      ·rw[Ze,UJ]
      ·rw[Zh NQ,Zh mK];exact Bi
      ·rw[X0,vq,ZbA];rfl
      ·rw[Za3]
       exact((WV cO).append_left is).trans pm
     ·rw[ZaA rS]
      exact aO (Yd (none_ xJ de jA Bi))
  ·rintro σ H2 ⟨fa,fs,is,ls,x4,x5,rfl,x2,au,wU,tj,fl,vq,pm⟩
   refine hZ _ _ ?_
   exact(er rfl (q fa H2 fs x2 au tj (ZaN g1 vq pm .o)))
end
section
theorem To {K:ZhQ}{σ:L2.St}{H:Hp}{Q:VK}{l:Addr}{ls:List V}{a:Int}{tm:TE}{i j:Nat}(Pm:List V->Hp->Prop) (pk:∀{ms H1 H2},ag H1 H2->Pm ms H1->Pm ms H2) (h1:σ[i]? =some (some (.ref l))) (h3:σ[j]? =some (some (.int a))) (hl:H l=some (.tup ls)) (ll:ls.length<=12)
  (hm:∀H1 (Q1:VK),ag H H1->(∀(c:Addr) (ms:List V) H2,ag H1 H2->H2 c=some (.tup ms)->ms.length<=12->Pm ms H2->Q1 (.ref c) H2)->tm σ H1 Q1)
  (q:∀(c:Addr) (ms:List V) H',ag H H'->H' c=some (.tup ((cI ls none (some a)++ms)++cI ls (some (a+1)) none))->ms.length<=12->Pm ms H'->Q (.ref c) H'):
  kL (jS K) (kL (jS K) (xX (zo K) (jN i) ya (xZ (jN j))) tm) (xX (zo K) (jN i) (xZ (kL (jR fun i j=> .int (i+j)) (jN j) (tC (.int 1)))) ya) σ H Q:=by
 refine⟨_,h1,_,h3,_,rfl,l,_,rfl,hl,fun c1 H1 s1 e1=> ?_⟩
 refine hm H1 _ s1 fun c2 ms H2 s2 e2 nq pm=> ?_
 have l1:=YH ls none (some a)
 have l3:=YH ls (some (a+1)) none
 refine ql (s2 _ _ e1) e2 (by rw[ZaH];omega) fun c3 H3 s3 e3=> ?_
 refine⟨_,h1,_,h3,_,_,rfl,rfl,_,rfl,l,_,rfl,(s1.trans (s2.trans s3)) _ _ hl,fun c4 H4 s4 e4=> ?_⟩
 refine ql (s4 _ _ e3) e4 (by rw[ZaH,Zap];omega) fun c5 H5 s5 e5=> ?_
 exact q c5 ms H5 (s1.trans (s2.trans (s3.trans (s4.trans s5)))) e5 nq (pk (s3.trans (s4.trans s5)) pm)
def dw (K:ZhQ) (p:Addr) (wd hg:Int) (H:Hp) (v:V):Prop:=(eC K H v/\bw wd hg (bj H v)=false)/\jE p H v
theorem HG {K:ZhQ}{p:Addr}{wd hg:Int}{H H':Hp}{v:V}(g:dw K p wd hg H v) (s:av p H H'):dw K p wd hg H' v:=
 ⟨⟨BD g.1.1 s g.2,by rw[JE g.1.1.1 s g.2.1];exact g.1.2⟩,HQ g.1.1.1 s g.2.1 g.2⟩
theorem Yf {K:ZhQ}{p:Addr}{wd hg:Int}{H H':Hp}{v:V}(g:dw K p wd hg H v) (s:ag H H'):dw K p wd hg H' v:=HG g s.x
theorem YT {K:ZhQ}{p a:Addr}{wd hg:Int}{H:Hp}{xs:List V}(h:H a=some (.tup xs)) (st:bQ H p) (hx:∀y∈xs,bJ K H y/\y≠.ref p) (nf:bw wd hg (some xs)=false):dw K p wd hg H (.ref a):=by
 obtain⟨u,v,e,_⟩:=st
 have NW:a≠p:=Ym h e (by intro z;cases z)
 refine⟨⟨⟨⟨_,.tup h⟩,fun ys e y hy=> ?_⟩,?_⟩,fun z=>NW (by cases z;rfl),fun ys e y hy=> ?_⟩
 ·rw[Zl h]at e
  cases e
  exact(hx y hy).1
 ·rw[Zl h]
  exact nf
 ·rw[Zl h]at e
  cases e
  exact(hx y hy).2
theorem YE {K:ZhQ}{p:Addr}{wd hg:Int}{H:Hp}{v:V}(h:bj H v=none) (t:bJ K H v) (hn:v≠.ref p):dw K p wd hg H v:=by
 refine⟨⟨⟨t,fun ys e y hy=> ?_⟩,?_⟩,hn,fun ys e y hy=> ?_⟩
 ·rw[h]at e;cases e
 ·rw[h];rfl
 ·rw[h]at e;cases e
theorem Hq {wd hg:Int}{xs:List V}(h:(xs.length:Int)≠wd):bw wd hg (some xs)=false:=by
 unfold bw
 dsimp only
 rw[ZaA h,Zez,Zez]
theorem HP {wd hg:Int}{xs:List V}{y:V}(hy:y∈xs) (e:y≠.ah) (h:bh y 0 (hg - 1)=false):bw wd hg (some xs)=false:=by
 unfold bw
 dsimp only
 have:((rowsOf xs).all fun r=>bh r 0 (hg - 1))=false:=by
  cases hh:(rowsOf xs).all fun r=>bh r 0 (hg - 1) with
  |false=>rfl
  |true=>
   have:=ZaZ.mp hh y (ZbM.mpr ⟨hy,by simp[e]⟩)
   rw[h]at this
   cases this
 rw[this,ZeA,Zez]
theorem ZdU {wd hg:Int}{x:V}{r:List V}(e:x≠.ah):bw wd hg (some (x::x::r))=false:=by
 unfold bw
 dsimp only
 have:¬(rowsOf (x::x::r)).Nodup:=fun h=>by
  unfold rowsOf at h
  rw[Zd3 (by simp[e]),Zd3 (by simp[e])]at h
  exact(Zdu.mp h).1 Zas
 rw[ZaA this,ZeA]
theorem JZ {H:Hp}{Z:Addr}{as bs:List V}(h:H Z=some (.lst as)) (v:V):bj (upd H Z (.lst bs)) v=bj H v:=by
 cases v with
 |ref c=>
  rw[ZA,ZA]
  by_cases e:c=Z
  ·rw[e,Ze,h];rfl
  ·rw[Zh e]
 |_=>rfl
theorem Ib {K:ZhQ}{H:Hp}{Z:Addr}{as bs:List V}{v:V}(h:H Z=some (.lst as)) (t:bJ K H v):bJ K (upd H Z (.lst bs)) v:=by
 obtain⟨T,t⟩:=t
 have ne:∀{a:Addr}{o:HO},H a=some o->(∀xs,o≠.lst xs)->upd H Z (.lst bs) a=some o:=fun {a o} e n=>by
  rw[Zh (fun z=>by rw[z,h]at e;cases e;exact n _ rfl)]
  exact e
 cases t with
 |tup e=>exact⟨_,.tup (ne e (by intro xs z;cases z))⟩
 |lst e=>
  rename_i a xs
  by_cases z:a=Z
  ·rw[z];exact⟨_,.lst Ze⟩
  ·exact⟨_,.lst (by rw[Zh z];exact e)⟩
 |cb e=>exact⟨_,.cb (ne e (by intro xs z;cases z))⟩
 |dK e=>exact⟨_,.dK (ne e (by intro xs z;cases z))⟩
 |dT e=>exact⟨_,.dT (ne e (by intro xs z;cases z))⟩
 |ah=>exact⟨_,.ah⟩
 |bl b=>exact⟨_,.bl b⟩
 |int i=>exact⟨_,.int i⟩
 |str x=>exact⟨_,.str x⟩
 |gH x=>exact⟨_,.gH x⟩
theorem Zc1 {K:ZhQ}{p:Addr}{wd hg:Int}{H:Hp}{Z:Addr}{as bs:List V}{v:V}(h:H Z=some (.lst as)) (g:dw K p wd hg H v):dw K p wd hg (upd H Z (.lst bs)) v:=by
 refine⟨⟨⟨Ib h g.1.1.1,fun xs e y hy=>Ib h (g.1.1.2 xs (by rw[<-JZ (bs:=bs) h v];exact e) y hy)⟩,by rw[JZ h v];exact g.1.2⟩,g.2.1,fun xs e y hy=>g.2.2 xs (by rw[<-JZ (bs:=bs) h v];exact e) y hy⟩
theorem ZaQ {K:ZhQ}{p:Addr}{H:Hp}{xs:List V}{wd hg:Int}{y:V}(l:bw wd hg (some xs)=true) (h:y∈xs):bJ K H y/\y≠.ref p:=by
 rcases Yk l h with rfl |⟨i,rfl,_⟩
 ·exact⟨⟨_,.ah⟩,by intro z;cases z⟩
 ·exact⟨⟨_,.int i⟩,by intro z;cases z⟩
end
section
variable {P:Program}{w:World}{K:ZhQ}{mg:Str->Option Value}{base:Heap}
abbrev yZ:Stmt:=top 52
def yu (K:ZhQ):Sp:=fun vs H Q _=> ∃(p b l:Addr) (xs:List V) (wd hg:Int),vs=[.ref p,.ref b,.ref l]/\bQ H p/\bB K H (.ref b) l xs wd hg/\∀v H',av p H H'->bQ H' p->dw K p wd hg H' v->Q v H'
theorem q0:aZ ["_law_state_here", "_law_board", "_law_lay_here", "_law_way", "_law_at", "_law_odd", "_law_bent", "_law_some"] ["_law_state_here", "_law_board", "_law_lay_here"] (ay yZ):=ZL (by decide+kernel)
theorem T8 {f:Addr}{fd:FuncData}(F:aG K "_law_no_lay" "_law_no_lay" yZ f fd) (G:Gs mg) (D1:Def P w K mg base 1 "_law_take" ["_law_state_here", "_law_many"] jP):aA P w K mg base aE 2 f fd ["_law_state_here", "_law_board", "_law_lay_here"] (yu K):=by
 refine F.ok q0 (fun vs H Q E h=> ?_) (fun aq A outer s H vs Q E hr h=> ?_)
 ·obtain⟨p,b,l,xs,wd,hg,rfl,_⟩:=h
  rfl
 ·obtain⟨p,b,l,xs,wd,hg,rfl,st,la,q⟩:=h
  refine⟨_,Zc (BL (i:=3) (j:=4) rfl q0.nd rfl rfl .d rfl rfl (Za (Zf D1 hr (Za (pv 0) (Za Zd Zb))) (Za (Zf D1 hr (Za (pv 0) (Za (ZE ZN (pv 1) Zd (fun _ _=>rfl)) Zb))) Zb)) rfl)
   (Zc (Zx (i:=5) q0.nd rfl (Or.inl rfl) (ZE ZZ (ZG (Za (ZE ZN (pv 1) Zd (fun _ _=>rfl)) (Za (GR Hk Zd) (Za Wf (Za ZS (Za (Zs (Za Zd Zb)) (Za (Zm WD Zd Zd) (Za (ZG (Za Zd Zb)) Zb)))))))) (Zf D1 hr (Za (pv 0) (Za Zd Zb))) (fun _ _=>rfl)))
   (Zc (Zx (i:=6) q0.nd rfl (Or.inl rfl) (Zm jV (Zm jV (Yy JG (pv 2) YW (YV (pv 4))) (Zs (Za (pv 5) Zb))) (Yy JG (pv 2) (YV (Zm ZT (pv 4) Zd)) YW)))
   (Zc (Zx (i:=7) q0.nd rfl (Or.inl rfl) (ZG (Za (pv 6) (Za (pv 6) (Za (pv 6) (Za (Zm jV (pv 2) (Zs (Za Yo Zb))) (Za (Yy JG (pv 2) (YV Zd) YW) (Za (Z4 Zah rfl G.list Zfz (Za (pv 2) Zb)) (Za Yo (Za IB (Za ZS (Za Zd Zb))))))))))))
   (Zc (Zy (Yq Za0 Zbx Zby ZW (pv 7) (Za (Wz (ZM Uy (ZE ZN (pv 1) Zd (fun _ _=>rfl)) Zd (bF _)) (Zm U5 (Zs (Za Zd Zb)) (ZE ZN (pv 1) Zd (fun _ _=>rfl))) (Zs (Za (pv 2) Zb))) Zb)))
   (Zi (Zw (ZE ZZ (pv 7) (pv 3) (fun _ _=>rfl)))))))),?_⟩
  obtain⟨u0,v0,fL,_⟩:=id st
  obtain⟨_,w1,w2,g1,g2⟩:=id la.bd
  have ph:l≠p:=Ym la.at_ fL (by intro z;cases z)
  obtain⟨b',eb,hb⟩:=Zu la.bd.1
  cases eb
  have gq:b≠p:=Ym hb fL (by intro z;cases z)
  have ll:=Yj la.ly
  have hl:=la.at_
  (try refine jx _ _ ?_);refine Zj fun Zq jx=> (er rfl ⟨p,11,rfl,st,.d,.d,fun way o1 w0 je aw=> ?_⟩)
  have x1:av p H (upd H p o1):=av.upd
  have nz:=x1 _ _ hl ph
  have dj:=x1 _ _ hb gq
  generalize upd H p o1=H1 at nz dj x1 aw
  refine(er rfl (er rfl ⟨b,_,_,_,rfl,rfl,aj.of dj,f9,p,wd,rfl,aw,.o,.o,fun a o2 a0 a1 au=> ⟨_,_,rfl,?_⟩⟩))
  have x2:av p H (upd H1 p o2):=x1.trans av.upd
  have gF:=x2 _ _ hl ph
  have ki:=x2 _ _ hb gq
  generalize upd H1 p o2=H2 at gF ki x2 au
  dsimp only[List.set]
  (try refine jx _ _ ?_);refine Zj fun Zq jx=> (Zz (er rfl ⟨b,_,_,_,rfl,rfl,aj.of ki,bI,_,rfl,bO,fun t ht=> ?_⟩))
  obtain⟨H3,zz,s3,e3⟩:=aH (o:=.tup [V.int 0]) ht
  rw[zz]
  refine⟨_,_,rfl,rfl,⟨.d,.d,.d⟩,bO,fun m hm=> ?_⟩
  obtain⟨Kq,zz,vk,lZ⟩:=aH (o:=.lst [V.int 0]) hm
  rw[zz]
  refine⟨CI,fun L hL=> ?_⟩
  generalize hS:[V.int hg,V.int (-1),V.bl true,V.str "0",V.ref t,V.int (10^(39:Int).toNat),V.ref m]=S
  have lS:S.length=7:=by rw[<-hS];rfl
  obtain⟨H4,zz,s4,e4⟩:=aH (o:=.lst S) hL
  rw[zz]
  have rj:=s3.trans (vk.trans s4)
  have de:=au.same rj
  refine(er rfl ⟨p,7,rfl,de,.d,.d,fun r o5 r0 r1 cT=> ?_⟩)
  obtain⟨u4,v4,wR,_⟩:=id de
  have N0:L≠p:=Ym e4 wR (by intro z;cases z;cases lS)
  have DA:t≠p:=Ym ((vk.trans s4) _ _ e3) wR (by intro z;cases z)
  have DI:m≠p:=Ym (s4 _ _ lZ) wR (by intro z;cases z)
  obtain⟨H5,zz,x5⟩:=newX H4 p o5
  rw[zz]at cT |-
  have az:r.toNat<S.length:=.o
  have jw:=Yv (Zag az)
  rw[Zca r0]at jw
  refine⟨L,_,_,_,rfl,rfl,ai.of (x5 _ _ e4 N0),jw,Zt ?_⟩
  dsimp only[List.set]
  have uh:av p H H5:=x2.trans (rj.x.trans x5)
  have bZ:S[r.toNat]∈S:=ZeR az
  generalize S[r.toNat]=odd at bZ
  have zu:(1000:Int)<=10^(39:Int).toNat:=.d
  have good:(bJ K H5 odd/\odd≠.ref p)/\odd≠.ah/\bh odd 0 (hg - 1)=false:=by
   rw[<-hS]at bZ
   generalize (10:Int)^(39:Int).toNat=LO at bZ zu
   simp only[Zao,Zbc,Zdo]at bZ
   rcases bZ with rfl |rfl |rfl |rfl |rfl |rfl |rfl
   ·exact⟨⟨⟨_,.int _⟩,fun z=>by cases z⟩,(fun z=>by cases z),BE .o⟩
   ·exact⟨⟨⟨_,.int _⟩,fun z=>by cases z⟩,(fun z=>by cases z),BE .o⟩
   ·exact⟨⟨⟨_,.bl _⟩,fun z=>by cases z⟩,(fun z=>by cases z),rfl⟩
   ·exact⟨⟨⟨_,.str _⟩,fun z=>by cases z⟩,(fun z=>by cases z),rfl⟩
   ·exact⟨⟨⟨_,.tup (x5 _ _ ((vk.trans s4) _ _ e3) DA)⟩,fun z=>DA (by cases z;rfl)⟩,(fun z=>by cases z),rfl⟩
   ·exact⟨⟨⟨_,.int _⟩,fun z=>by cases z⟩,(fun z=>by cases z),BE .o⟩
   ·exact⟨⟨⟨_,.lst (x5 _ _ (s4 _ _ lZ) DI)⟩,fun z=>DI (by cases z;rfl)⟩,(fun z=>by cases z),rfl⟩
  have r9:=uh _ _ hl ph
  have wH:=uh _ _ hb gq
  clear x5 e4 s4 s3 vk gF x2 au nz x1 aw de wR e3 lZ dj ki
  have Oq:xs.length<=12:=.o
  have it:∀{H':Hp}{y:V},y∈xs->bJ K H' y/\y≠.ref p:=fun h=>ZaQ la.ly h
  (try refine jx _ _ ?_);refine Zj fun Zq jx=> (Zz (To (l:=l) (ls:=xs) (a:=a) (fun ms H'=>ms=[odd]) (fun _ h=>h) rfl rfl r9 Oq (fun H6 Q6 s6 k6=> (er rfl ⟨bO,fun c hc=>k6 c _ _ (Zp hc) Ze (by show 1<=12;decide) rfl⟩)) fun bt ms H6 s6 e6 _ em=> ?_))
  subst em
  refine Zt ?_
  dsimp only[List.set]
  have gb:dw K p wd hg H6 (.ref bt):=by
   refine YT e6 (cT.same s6) (fun y hy=> ?_) (HP (y:=odd) (by simp) good.2.1 good.2.2)
   rcases ZaC.mp hy with hy |hy
   ·rcases ZaC.mp hy with hy |hy
    ·exact it (Hy hy)
    ·cases Zax.mp hy
     exact⟨s6.g8 good.1.1,good.1.2⟩
   ·exact it (Hy hy)
  have EN:=s6 _ _ r9
  have qO:=cT.same s6
  (try refine jx _ _ ?_);refine Zj fun Zq jx=> (Zz (er rfl (er rfl (er rfl (er rfl ⟨bO,fun t9 Ph=> ?_⟩)))))
  obtain⟨H9,zz,s9,e9⟩:=aH (o:=.tup [V.ah]) Ph
  rw[zz]
  refine ql (s9 _ _ EN) e9 (by rw[ZaH];show xs.length+1<=_;omega) fun c10 fP gm e10=> ?_
  have EO:=gm _ _ (s9 _ _ EN)
  have qR:=qO.same (s9.trans gm)
  have g4:dw K p wd hg fP (.ref c10):=YT e10 qR (fun y hy=>by
   rcases ZaC.mp hy with hy |hy
   ·exact it hy
   ·cases Zax.mp hy
    exact⟨⟨_,.ah⟩,fun z=>by cases z⟩) (Hq (by rw[Zap];show((xs.length+1:Nat):Int)≠wd;omega))
  refine(er rfl (er rfl ⟨l,_,rfl,EO,fun c13 xD vm e13=> ?_⟩))
  have Qd:=vm _ _ EO
  have qP:=qR.same vm
  have KL:cI xs (some 1) none=xs.drop 1:=Bl (k:=1) .o
  rw[KL]at e13
  have g5:dw K p wd hg xD (.ref c13):=YT e13 qP (fun y hy=>it (ZbH hy)) (Hq (by rw[ZbB];omega))
  refine(er rfl ⟨l,_,rfl,.inr (aj.of Qd),fun mP Ap=> ?_⟩)
  obtain⟨xF,zz,ji,e11⟩:=aH (o:=.lst xs) Ap
  rw[zz]
  have qQ:=qP.same ji
  have NN:mP≠p:=fun z=>by
   obtain⟨u,v,e,_⟩:=id qP
   rw[z,e]at Ap
   cases Ap
  have g6:dw K p wd hg xF (.ref mP):=YE (by rw[ZA,e11];rfl) ⟨_,.lst e11⟩ (fun z=>NN (by cases z;rfl))
  refine fun d hd=> ?_
  obtain⟨iA,zz,iG,e12⟩:=aH (o:=.dK []) hd
  rw[zz]
  have uI:=qQ.same iG
  have jY:d≠p:=fun z=>by
   obtain⟨u,v,e,_⟩:=id qQ
   rw[z,e]at hd
   cases hd
  have g7:dw K p wd hg iA (.ref d):=YE (by rw[ZA,e12];rfl) ⟨_,.dK e12⟩ (fun z=>jY (by cases z;rfl))
  have gn:dw K p wd hg iA .ah:=YE rfl ⟨_,.ah⟩ (fun z=>by cases z)
  have gi:dw K p wd hg iA (.int 5):=YE rfl ⟨_,.int 5⟩ (fun z=>by cases z)
  have gs:dw K p wd hg iA (.str "lay"):=YE rfl ⟨_,.str _⟩ (fun z=>by cases z)
  have RA:=Yf g6 iG
  have RC:=Yf g5 (ji.trans iG)
  have RD:=Yf g4 (vm.trans (ji.trans iG))
  have sA:=s9.trans (gm.trans (vm.trans (ji.trans iG)))
  have A5:=Yf gb sA
  refine⟨(by show 10<=sizeLine;decide),fun Z hZ=>Zt ?_⟩
  dsimp only[List.set]
  have all:∀v∈[V.ref bt,V.ref bt,V.ref bt,V.ref c10,V.ref c13,V.ref mP,V.ah,V.ref d,V.str "lay",V.int 5],dw K p wd hg iA v:=
   Zb1.mpr ⟨A5,Zb1.mpr ⟨A5,Zb1.mpr ⟨A5,Zb1.mpr ⟨RD,Zb1.mpr ⟨RC,Zb1.mpr ⟨RA,Zb1.mpr ⟨gn,Zb1.mpr ⟨g7,Zb1.mpr ⟨gs,Zb1.mpr ⟨gi,fun _ h=>by cases h⟩⟩⟩⟩⟩⟩⟩⟩⟩⟩
  have lA:([V.ref bt,V.ref bt,V.ref bt,V.ref c10,V.ref c13,V.ref mP,V.ah,V.ref d,V.str "lay",V.int 5]:List V).length=10:=rfl
  generalize [V.ref bt,V.ref bt,V.ref bt,V.ref c10,V.ref c13,V.ref mP,V.ah,V.ref d,V.str "lay",V.int 5]=zs at all lA
  have rm:=Zp (o:=.lst zs) hZ
  have e16:upd iA Z (.lst zs) Z=some (.lst zs):=Ze
  have sF:=s6.trans (sA.trans rm)
  have sW:H Z=none/\Z≠p:=by
   obtain⟨u,v,e,_⟩:=id uI
   exact Wx (uh.trans (s6.trans sA).x) e hZ
  generalize upd iA Z (.lst zs)=Ku at rm e16 sF
  have Qc:=sF _ _ r9
  have Fm:=sF _ _ wH
  have ye:=cT.same sF
  (try refine jx _ _ ?_);refine Zj fun Zq jx=> (er rfl ⟨.inl ⟨rfl,_,ai.of e16⟩,XA (Vh (t:=CD _ _ _) (fun v H'=>ag Ku H'/\dw K p wd hg H' v) ?_ ?_)⟩)
  ·rintro v10 ow ⟨jQ,RF⟩
   refine⟨Z,_,v10,rfl,rfl,jQ _ _ e16,by rw[lA,ZaH];decide,?_⟩
   dsimp only
   have xE:av p H (upd ow Z (.lst (zs++[v10]))):=Js (uh.trans (sF.trans jQ).x) sW.1
   have LY:bQ (upd ow Z (.lst (zs++[v10]))) p:=Ip (ye.same jQ) sW.2
   have lW:(zs++[v10]).length=11:=by rw[Zap,lA];rfl
   have EK:way.toNat< (zs++[v10]).length:=.o
   have Fo:=Yv (Zag EK)
   rw[Zca w0]at Fo
   refine jx _ _ ?_
   refine(er rfl (er rfl ⟨Z,_,_,_,rfl,rfl,ai.of Ze,Fo,?_⟩))
   refine q _ _ xE LY ?_
   have gv:dw K p wd hg ow (zs++[v10])[way.toNat]:=by
    rcases ZaC.mp (ZeR EK) with hy |hy
    ·exact Yf (all _ hy) (rm.trans jQ)
    ·rw[Zax.mp hy];exact RF
   exact Zc1 (jQ _ _ e16) gv
  ·intro Q' hQ
   refine(er rfl ⟨b,_,_,_,rfl,rfl,aj.of Fm,f9,_,_,rfl,rfl,_,rfl,?_⟩)
   by_cases wy:(1:Int)<wd
   ·rw[ZaR wy]
    refine aV ⟨bO,fun t0 vX=> (er rfl ⟨b,_,_,_,rfl,rfl,aj.of (Zp vX _ _ Fm),f9,t0,wd,_,rfl,rfl,Ze,(by simp),.o,.o,(by show 1*wd.toNat<=1000;omega),fun c ow jQ e17=> ?_⟩)⟩
    have s0:=(Zp (o:=.tup [V.int 0]) vX).trans jQ
    obtain⟨k,ek⟩:∃k,wd.toNat=k+2:=⟨wd.toNat - 2,.o⟩
    rw[ek]at e17
    have SJ:ow c=some (.tup (V.int 0::V.int 0::(List.replicate k [V.int 0]).flatten)):=e17
    refine hQ _ _ ⟨s0,YT SJ (ye.same s0) (fun y hy=> ?_) (ZdU (by intro z;cases z))⟩
    have:y=.int 0:=by
     rcases Zao.mp hy with h |hy
     ·exact h
     ·rcases Zao.mp hy with h |hy
      ·exact h
      ·obtain⟨zz,h1,h2⟩:=List.mem_flatten.mp hy
       rw[(List.mem_replicate.mp h1).2]at h2
       exact Zax.mp h2
    rw[this]
    exact⟨⟨_,.int 0⟩,fun z=>by cases z⟩
   ·rw[ZaA wy]
    refine aO (er rfl ⟨bO,fun c hc=> ?_⟩)
    have sc:=Zp (o:=.tup [V.ref l]) hc
    exact hQ _ _ ⟨sc,YT Ze (ye.same sc) (fun y hy=>by
     cases Zax.mp hy
     exact⟨⟨_,.tup (sc _ _ Qc)⟩,fun z=>ph (by cases z;rfl)⟩) (HP (y:=.ref l) Zas (by intro z;cases z) rfl)⟩
def R1 (_:Hp) (x y:V):Prop:=(∃i:Int,x=.int i/\y=.int i)∨(x=.ah/\y=.ah)
theorem R1.same {H H':Hp}{x y:V}(r:R1 H x y) (_:ag H H'):R1 H' x y:=r
theorem ZdO {f:Addr}{fd:FuncData}(F:aG K "_law_same" "_law_same" oV f fd) (G:Gs mg):aA P w K mg base aE 1 f fd ["_law_found", "_law_due_here"] (gU R1):=by
 refine F.ok uS (fun vs H Q E h=> ?_) (fun aq A outer s H vs Q E hr h=> ?_)
 ·obtain⟨x,y,rfl,_⟩:=h
  rfl
 ·obtain⟨x,y,rfl,r,q⟩:=h
  refine⟨_,Zc (ZO (ZK (Zn (YM (a:= "list") (b:= "tuple")) rfl G.isinstance Zbw (Za (pv 1) (Za (Zs (Za (ZI (v:=.ty "list") rfl G.list Zfz rfl) (Za (ZI (v:=.ty "tuple") rfl G.tuple ZeK rfl) Zb))) Zb)))) Zr Zv)
   (Zc (ZO (PW.pt (Jm (YJ (YL (pv 1))) (YI (YJ (YL (pv 0)))))) (Zi (Zw (YB (U0 (YL (pv 0))) (Yz (U0 (YL (pv 1))))))) Zv)
   (Zi (Zw (YB (Z7 Y3 (Zn (ZC (c:= "bool")) rfl G.isinstance Zbw (Za (pv 0) (Za (ZI (v:=.ty "bool") rfl G.bool boot_bool rfl) Zb)))
     (Zn (ZC (c:= "bool")) rfl G.isinstance Zbw (Za (pv 1) (Za (ZI (v:=.ty "bool") rfl G.bool boot_bool rfl) Zb))) (bF _))
    (Yz (Z7 Y3 (pv 0) (pv 1) (bF _))))))),?_⟩
  refine(er rfl ⟨aX,fun t ht=> ?_⟩)
  have s1:=Zp (o:=.tup [V.ty "list",V.ty "tuple"]) ht
  rcases r with ⟨i,rfl,rfl⟩ |⟨rfl,rfl⟩
  ·refine⟨_,t,_,_,rfl,aj.of Ze,.inl ⟨i,rfl,rfl⟩,(show _=some false from rfl),_,rfl,aO ?_⟩
   refine(er rfl (er rfl (aO (er rfl (er rfl (aO ?_))))))
   refine(er rfl ⟨_,_,_,rfl,.int i,(show _=some false from rfl),_,rfl,_,_,_,rfl,.int i,(show _=some false from rfl),rfl,_,rfl,?_⟩)
   refine aV (er rfl (er rfl ⟨rfl,?_⟩))
   have e:decide (V.int i=V.int i)=true:=ZaR rfl
   rw[e]
   exact q _ s1
  ·refine⟨_,t,_,_,rfl,aj.of Ze,.inr (.inl ⟨rfl,rfl⟩),(show _=some false from rfl),_,rfl,aO ?_⟩
   refine(er rfl (er rfl (aV (aV (er rfl (er rfl (aV (er rfl (?_)))))))))
   have e:decide (V.ah=V.ah)=true:=ZaR rfl
   exact q _ s1
end
section
def tY (Y:Cx) (cl:List (Str×Addr)) (x:Str) (v:V) (H:Hp) (s:Shared):Prop:=∃c u,cl.lookup x=some c/\s.heap.IsCell c (some u)/\RelV v u/\H c=none/\c∉aQ Y.stack
def Ot (so si:Scope):Bool:=si.names.all fun z=>z.2 !=.free||so.names.lookup z.1==some .cell||so.names.lookup z.1==some .free
theorem Z9 {X:Cx}{scope:Scope}(h:Ot X.env.scope scope=true):∀z∈scope.names,z.2=.free->X.env.kindOf z.1=some .cell∨X.env.kindOf z.1=some .free:=fun z hz e=>by
 have:=ZaZ.mp h z hz
 simp only[Bool.or_eq_true,bne_iff_ne,ne_eq,Zdk]at this
 rcases this with (h |h) |h
 ·exact absurd e h
 ·exact .inl h
 ·exact .inr h
end
section
variable {Y:Cx}{pins:List (Addr×Obj)}{σ:L2.St}{H:Hp}{s:Shared}
theorem Kh {i:Nat}{x:Str}{v:V}{scope:Scope}(I:Inv Y pins σ H s) (hi:Y.N[i]? =some x) (j6:σ[i]? =some (some v)) (hk:Y.env.scope.names.lookup x=some .cell) (eW:Y.fn x=true) (fG:(x,NameKind.free)∈scope.names):tY Y (cJ scope Y.env) x v H s:=by
 obtain⟨m,hn,hl⟩:=I.loc
 obtain⟨u,r,l⟩:=hl i x v hi j6 (.inr (.inl hk))
 obtain⟨c,hc⟩:=WW (env:=Y.env) fG
 have e1:=(Yl hc).1
 rcases l with ⟨aP,_⟩ |⟨_,c',cm,lT⟩
 ·have:Y.env.scope.names.lookup x=some .local:=aP
  rw[hk]at this
  cases this
 ·rw[cm]at e1
  have e2:c=c':=e1
  subst e2
  refine⟨c,u,hc,lT,r,I.fI x c cm,fun hm=> ?_⟩
  rcases Zao.mp (I.uA c hm) with z |z
  ·exact I.iq x c cm z
  ·obtain⟨_,o,ho,_⟩:=I.ok.dI.mem z
   exact absurd (Zaz (Zaq ho) (I.ok.kB x c eW cm)) (ZbI _)
theorem GW {scope:Scope}{env:Env}{z:Str}{c:Addr}(h:(cJ scope env).lookup z=some c):(z,NameKind.free)∈scope.names:=(Yl h).2
end
section
variable {X:Cx}{cS c P fR:Addr}{fn:Str}{kf:Nat}{ps:List Str}{sp:Sp}
abbrev lq (X:Cx):Str:=X.env.qual++ "<lambda>"
theorem Y0 {H H':Hp}{P:Addr}{q:Str}(h:TabAt H P q) (s:ag H H'):TabAt H' P q:=by
 obtain⟨ps,h1,h2,h3⟩:=h
 exact⟨ps,s _ _ h1,h2,fun pos cv z=>by obtain⟨d,e,g⟩:=h3 pos cv z;exact⟨d,e,s _ _ g⟩⟩
structure LCtx (X:Cx) (cS c P fR:Addr) (fn:Str) (kf:Nat) (ps:List Str) (sp:Sp):Prop where
 lam:xy X c P
 hR:∀b',Def X.prog X.w X.K X.mg b' (kf+2) "_law_word" ["_law_call"] (mC X.prog X.w X.K X.mg b' cS (kf+1))
 hU:∀b',aW X.prog X.w X.K X.mg b' kf fn ps sp
 room:bK (kf+2) X.A
 mR:X.mg "_law_word" =some (.ref fR)
 kR:PySem.W.keepIn X.K (.ref fR)=true
def cB (fn x y z:Str) (p1 p2 p3 p4 p5:Pos):Expr:=.Call (.Name fn p1) [.Name x p2,.Name y p3,.Name z p4] [] p5
structure LN (X:Cx) (x:Str) (i:Nat):Prop where
 nx:X.N[i]? =some x
 kx:X.env.scope.names.lookup x=some .cell
 fx:X.fn x=true
def og (sp:Sp) (vs:List V) (C:Addr) (H:Hp):Prop:=∀Q' E',(∀e H',ag H H'->E' (.ref e) (some C) H')->sp vs H Q' E'
end
section
theorem xk {H H':Hp}{P p:Addr}{q:Str}{o:HO}(h:TabAt H P q) (s:av p H H') (hp:H p=some o) (h1:∀ps,o≠.bM ps) (h2:∀c,o≠gL c q):TabAt H' P q:=by
 obtain⟨ps,e,t,f⟩:=h
 refine⟨ps,s _ _ e fun z=>by rw[z,hp]at e;cases e;exact h1 _ rfl,t,fun pos cv z=> ?_⟩
 obtain⟨d,e1,e2⟩:=f pos cv z
 exact⟨d,e1,s _ _ e2 fun z=>by rw[z,hp]at e2;cases e2;exact h2 _ rfl⟩
theorem YX {K:ZhQ}{H:Hp}{P:Addr}{ps:Array Value}{v:V}(t:bJ K H v) (h:H P=some (.bM ps)):v≠.ref P:=fun z=>by
 obtain⟨T,ty⟩:=t
 subst z
 cases ty with
 |lst e=>rw[h]at e;cases e
 |cb e=>rw[h]at e;cases e
 |tup e=>rw[h]at e;cases e
 |dK e=>rw[h]at e;cases e
 |dT e=>rw[h]at e;cases e
end
section
variable {X:Cx}{cS c P fR:Addr}{fn:Str}{kf:Nat}{ps:List Str}{sp:Sp}
structure mf (params:Arguments) (body:Expr) (scope:Scope) (N:List Str):Prop where
 kind:scope.kind=.function
 co:scope.isCoroutine=false
 gen:scope.isGenerator=false
 gp:∀z∈scope.names,z.2≠.cell
 only:∀z∈scope.names,z.2=.free->z.1∈N
 free:∀x∈N,scope.names.lookup x=some .free
 bind:∀(q:Str) (cl:List (Str×Addr)) (pm:Value) (c:Addr) (ct:Value),bindArgs (PySem.W.kla_fn "<lambda>" q params body scope cl pm (.ref c) ct) ⟨[],[]⟩=pure []
def jK (X:Cx) (kf:Nat) (C:Addr) (f:Addr) (q:Str) (bd:Expr) (scope:Scope) (cl:List (Str×Addr)) (N:List Str) (ws:List V) (Pre:Hp->Prop):Prop:=
 ∀(bf:Heap) (cc:Addr) (A:Around) (outer:List Env) (s2:Shared) (H2:Hp) (Q2:VK) (E2:XK),bK kf (A.deeper (PySem.W.envX q scope s2.heap.objs.size f (.ref cc) cl))->Pre H2->(∀e H',ag H2 H'->E2 (.ref e) (some C) H')->
  ∃t,PE (fM X.prog X.w X.K X.mg bf N q scope f (.ref cc) cl A outer s2 H2 E2) bd t/\t (ws.map some) H2 Q2
theorem Zcz {pins:List (Addr×Obj)}{σ:L2.St}{H:Hp}{s:Shared}{f C:Addr}{iC:Nat}{q:Str}{params:Arguments}{bd:Expr}{scope:Scope}{cl:List (Str×Addr)}{Q:VK}{N:List Str}{ws:List V}{Pre:Hp->Prop}(L:LCtx X cS c P fR fn kf ps sp)
  (LS:mf params bd scope N) (I:Inv X pins σ H s) (hl:jb H f q params bd scope cl) (hlen:ws.length=N.length) (cZ:∀(i:Nat) x v,N[i]? =some x->ws[i]? =some v->tY X cl x v H s) (ck:∀z c,cl.lookup z=some c->(z,NameKind.free)∈scope.names)
  (Az:∀a b c,cl.lookup a=some c->cl.lookup b=some c->a=b) (M:gO X.K X.mg cS C iC) (bad:jK X kf C f q bd scope cl N ws Pre) (pre:Pre H) (hq:∀H',ag H H'->Q (.str (wordOf iC)) H'):
  wpAny (model X.prog X.w) X.A (call (.ref fR) [.ref f]) (EP X pins σ Q) X.xe s:=by
 obtain⟨bf,st,e0,bA⟩:=I.rebase
 obtain⟨pm,cc,ct,hf,hc⟩:=hl
 have T:Cells bf scope cl N ws:=⟨hlen,fun u hu=>by
   rcases hu with hu |hu
   ·exact absurd rfl (LS.gp _ (ZbV hu))
   ·exact LS.only _ (ZbV hu) rfl,fun i a v h1 h2=>by
   obtain⟨ax,ux,lx,⟨ox,gx,dx⟩,rx,nx,fx⟩:=cZ i a v h1 h2
   exact⟨LS.free a (ZaX h1),ax,ux,lx,⟨ox,bA _ _ gx nx fx,dx⟩,rx⟩,fun u c h=>LS.only _ (ck u c h) rfl,Az⟩
 have FL:aA X.prog X.w X.K X.mg bf (aC X.prog X.w) (kf+1) f (PySem.W.kla_fn "<lambda>" q params bd scope cl pm (.ref cc) ct) []
   (fun vs H2 Q2 E2=> (vs=[]/\H2 f=some (mQ f q params bd scope cl pm cc ct)/\H2 cc=some (gL cc q))/\Pre H2/\∀e H',ag H2 H'->E2 (.ref e) (some C) H'):=by
  refine Iv (k:=kf) T LS.kind LS.co LS.gen LS.gp (fun vs H2 Q2 E2 h=>h.1) fun A outer s2 H2 Q2 E2 gD h=> ?_
  exact bad bf cc A outer s2 H2 Q2 E2 gD h.2.1 h.2.2
 obtain⟨RO,FT,FR,bZ,hk,hb⟩:=L.hR bf
 rw[L.mR]at bZ
 cases bZ
 refine PySem.wpAny_call (Zec (FR.run X.A X.stack s H ⟨[.ref f],[]⟩ [.ref f] [.ref f] Q E0 L.room e0 (hb s [.ref f] I.bX rfl) (.cons rfl .nil)
  ⟨f,_,_,C,iC,rfl,M,fun h ak=> ?_,FL,fun s2=> .of_eq (LS.bind q cl pm cc ct),fun Q' E' hE=> ⟨⟨rfl,hf,hc⟩,pre,hE⟩,hq⟩) fun r s' h=> ?_)
 ·have z:h.get? f=some _:=(ak f _ hf).1
  exact⟨_,_,_,_,z⟩
 ·cases r with
  |error e=>exact h.elim
  |ok fl=>
   cases fl with
   |ret u=>exact I.after h
   |next=>exact False.elim h
   |brk=>exact False.elim h
   |cont=>exact False.elim h
def La (X:Cx) (P:Addr) (iC:Nat) (idx:List Nat) (Pre:List V->Hp->Prop):TE:=fun σ H Q=> ∃ws:List V,ws.length=idx.length/\(∀(k i:Nat) v,idx[k]? =some i->ws[k]? =some v->σ[i]? =some (some v))/\TabAt H P (lq X)/\(∀H',av P H H'->Pre ws H')/\∀H',av P H H'->TabAt H' P (lq X)->Q (.str (wordOf iC)) H'
theorem ZdE {params:Arguments}{scope:Scope}{bd:Expr}{p lp pos:Pos}{C:Addr}{iC:Nat}{N:List Str}{idx:List Nat}{Pre:List V->Hp->Prop}(L:LCtx X cS c P fR fn kf ps sp) (LS:mf params bd scope N) (hN:idx.length=N.length) (LNs:∀(k:Nat) x i,N[k]? =some x->idx[k]? =some i->LN X x i) (hg:Gl X "_law_word") (AM:defaultsOf params X.env=([],[]))
  (fG:∀z∈scope.names,z.2=.free->X.env.kindOf z.1=some .cell∨X.env.kindOf z.1=some .free) (M:gO X.K X.mg cS C iC) (bad:∀f ws,ws.length=N.length->jK X kf C f (lq X) bd scope (cJ scope X.env) N ws (Pre ws)):
  PE X (.Call (.Name "_law_word" p) [.Lambda params bd scope lp] [] pos) (La X P iC idx Pre):=by
 intro pins s σ H Q I h
 obtain⟨ws,vU,j6,tab,pre,q⟩:=h
 refine Zde (Jf I hg L.mR ?_ .d)
 have ha:PA X [.Lambda params bd scope lp] _:=Za (Yp L.lam AM fG) Zb
 refine PySem.W.callWith_K (h₀:=X.base) I.ok.mod.mS L.kR (ar (ha pos pins s σ H (fun vs H1=> ∃f,vs=[.ref f]/\av P H H1/\TabAt H1 P (lq X)/\jb H1 f (lq X) params bd scope (cJ scope X.env)) I ⟨tab,fun f H1 sx nf t1 l1=> ⟨f,rfl,sx,t1,l1⟩⟩) fun us s1 ⟨vs,H1,I1,r,f,ev,sx,t1,l1⟩=> ⟨I1.bX,?_⟩) rfl rfl
 subst ev
 obtain⟨u,rfl,ru⟩:=Zgc r
 cases ru
 refine Zcz L LS I1 l1 (by rw[vU,hN]) (fun i x v h1 h2=> ?_) (fun z c h=>GW h) (fun a b c h1 h2=> ?_) M (bad f ws (by rw[vU,hN])) (pre H1 sx) fun H2 s2=>q H2 (sx.trans s2.x) (Y0 t1 s2)
 ·have hi:i<idx.length:=by
   have:=(Zad.mp h1).1
   omega
  have ei:=Zag hi
  have n:=LNs i x _ h1 ei
  exact Kh I1 n.nx (j6 i _ v ei h2) n.kx n.fx (ZbV (LS.free x (ZaX h1)))
 obtain⟨e1,m1⟩:=Yl h1
 obtain⟨e2,m2⟩:=Yl h2
 obtain⟨c1,g1⟩:=I1.ok.has a (fG _ m1 rfl)
 obtain⟨c2,g2⟩:=I1.ok.has b (fG _ m2 rfl)
 rw[g1]at e1
 rw[g2]at e2
 have z1:c1=c2:=by
  have y1:_=c1:=e1
  have y2:_=c2:=e2
  rw[<-y1,<-y2]
 subst z1
 exact I1.ok.inj _ _ _ g1 g2
end
section
variable {Y:Cx}{cS fR:Addr}{kf:Nat}
theorem Zcy {pins:List (Addr×Obj)}{σ:L2.St}{H:Hp}{s:Shared}{f C:Addr}{iC:Nat}{q:Str}{params:Arguments}{bd:Expr}{scope:Scope}{cl:List (Str×Addr)}{Q:VK}{N:List Str}{ws:List V}{Pre:Hp->Prop}
  (hR:∀b',Def Y.prog Y.w Y.K Y.mg b' (kf+2) "_law_word" ["_law_call"] (mC Y.prog Y.w Y.K Y.mg b' cS (kf+1))) (room:bK (kf+2) Y.A) (mR:Y.mg "_law_word" =some (.ref fR))
  (LS:mf params bd scope N) (I:Inv Y pins σ H s) (hl:jb H f q params bd scope cl) (hlen:ws.length=N.length) (cZ:∀(i:Nat) x v,N[i]? =some x->ws[i]? =some v->tY Y cl x v H s) (ck:∀z c,cl.lookup z=some c->(z,NameKind.free)∈scope.names)
  (Az:∀a b c,cl.lookup a=some c->cl.lookup b=some c->a=b) (M:gO Y.K Y.mg cS C iC) (bad:jK Y kf C f q bd scope cl N ws Pre) (pre:Pre H) (hq:∀H',ag H H'->Q (.str (wordOf iC)) H'):
  wpAny (model Y.prog Y.w) Y.A (call (.ref fR) [.ref f]) (EP Y pins σ Q) Y.xe s:=by
 obtain⟨bf,st,e0,bA⟩:=I.rebase
 obtain⟨pm,cc,ct,hf,hc⟩:=hl
 have T:Cells bf scope cl N ws:=⟨hlen,fun u hu=>by
   rcases hu with hu |hu
   ·exact absurd rfl (LS.gp _ (ZbV hu))
   ·exact LS.only _ (ZbV hu) rfl,fun i a v h1 h2=>by
   obtain⟨ax,ux,lx,⟨ox,gx,dx⟩,rx,nx,fx⟩:=cZ i a v h1 h2
   exact⟨LS.free a (ZaX h1),ax,ux,lx,⟨ox,bA _ _ gx nx fx,dx⟩,rx⟩,fun u c h=>LS.only _ (ck u c h) rfl,Az⟩
 have FL:aA Y.prog Y.w Y.K Y.mg bf (aC Y.prog Y.w) (kf+1) f (PySem.W.kla_fn "<lambda>" q params bd scope cl pm (.ref cc) ct) []
   (fun vs H2 Q2 E2=> (vs=[]/\H2 f=some (mQ f q params bd scope cl pm cc ct)/\H2 cc=some (gL cc q))/\Pre H2/\∀e H',ag H2 H'->E2 (.ref e) (some C) H'):=by
  refine Iv (k:=kf) T LS.kind LS.co LS.gen LS.gp (fun vs H2 Q2 E2 h=>h.1) fun A outer s2 H2 Q2 E2 gD h=> ?_
  exact bad bf cc A outer s2 H2 Q2 E2 gD h.2.1 h.2.2
 obtain⟨RO,FT,FR,bZ,hk,hb⟩:=hR bf
 rw[mR]at bZ
 cases bZ
 refine PySem.wpAny_call (Zec (FR.run Y.A Y.stack s H ⟨[.ref f],[]⟩ [.ref f] [.ref f] Q E0 room e0 (hb s [.ref f] I.bX rfl) (.cons rfl .nil)
  ⟨f,_,_,C,iC,rfl,M,fun h ak=> ?_,FL,fun s2=> .of_eq (LS.bind q cl pm cc ct),fun Q' E' hE=> ⟨⟨rfl,hf,hc⟩,pre,hE⟩,hq⟩) fun r s' h=> ?_)
 ·have z:h.get? f=some _:=(ak f _ hf).1
  exact⟨_,_,_,_,z⟩
 ·cases r with
  |error e=>exact h.elim
  |ok fl=>
   cases fl with
   |ret u=>exact I.after h
   |next=>exact False.elim h
   |brk=>exact False.elim h
   |cont=>exact False.elim h
end
section
variable {X:Cx}{cS c P fR:Addr}{kf:Nat}
theorem XI {pins:List (Addr×Obj)}{σ:L2.St}{H:Hp}{s:Shared}{N':List Str}{scope Dc:Scope}{C:Addr}{s0:Shared}{H0:Hp}{fp:List Addr}{x:Str}{v:V}{p0:List (Addr×Obj)}{kJ:L2.St}(I0:Inv X p0 kJ H0 s0) (hf:∀b∈fp,bE X p0 H0 b) (c0:tY X (cJ Dc X.env) x v H0 s0) (hk:X.env.scope.names.lookup x=some .cell)
  (J:Inv (aR X N' scope C s0 H0 fp) pins σ H s):tY (aR X N' scope C s0 H0 fp) (cJ Dc X.env) x v H s:=by
 obtain⟨c,u,h1,⟨o,h2,h3⟩,h4,h5,h6⟩:=c0
 have u0:Un (aQ X.stack) fp H0 H s0.heap s.heap:=J.base
 have mK:c∉fp:=fun hm=>by
  obtain⟨a,ha⟩:=I0.ok.has x (.inl hk)
  have e1:=(Yl h1).1
  rw[ha]at e1
  have z:c=a:=e1
  subst z
  obtain⟨_,_,_,_,f4,_⟩:=hf c hm
  exact f4 x c ha rfl
 exact⟨c,u,h1,⟨o,u0.keep c o h2 h5 h6 mK,h3⟩,h4,u0.free c o h2 h5 mK,h6⟩
structure Cr (X:Cx) (cS:Addr) (kf:Nat) (kJ:L2.St) (H:Hp) (f:Addr) (iC:Nat) (params:Arguments) (bd:Expr) (scope:Scope) (N:List Str) (idx:List Nat) (ws:List V) (C:Addr) (Pre:Hp->Prop):Prop where
 ls:mf params bd scope N
 hN:idx.length=N.length
 ln:∀(k:Nat) x i,N[k]? =some x->idx[k]? =some i->LN X x i
 vU:ws.length=idx.length
 j6:∀(k i:Nat) v,idx[k]? =some i->ws[k]? =some v->kJ[i]? =some (some v)
 fr:∀z∈scope.names,z.2=.free->X.env.kindOf z.1=some .cell∨X.env.kindOf z.1=some .free
 lam:jb H f (lq X) params bd scope (cJ scope X.env)
 mr:gO X.K X.mg cS C iC
 body:jK X kf C f (lq X) bd scope (cJ scope X.env) N ws Pre
 pre:Pre H
def Lb (X:Cx) (cS:Addr) (kf:Nat) (kJ:L2.St):TE:=fun σ H Q=> ∃f iC,σ[0]? =some (some (.ref f))/\(∃params bd scope N idx ws C Pre,Cr X cS kf kJ H f iC params bd scope N idx ws C Pre)/\∀H',ag H H'->Q (.str (wordOf iC)) H'
theorem ID {N':List Str}{bs:Scope}{B:Addr}{s0:Shared}{H0:Hp}{fp:List Addr}{p0:List (Addr×Obj)}{kJ:L2.St}{p p' pos:Pos}{cn:Str}
  (hR:∀b',Def X.prog X.w X.K X.mg b' (kf+2) "_law_word" ["_law_call"] (mC X.prog X.w X.K X.mg b' cS (kf+1))) (room:bK (kf+2) X.A) (mR:X.mg "_law_word" =some (.ref fR)) (kR:PySem.W.keepIn X.K (.ref fR)=true) (I0:Inv X p0 kJ H0 s0) (hf:∀b∈fp,bE X p0 H0 b)
  (hg:Gl (aR X N' bs B s0 H0 fp) "_law_word") (hv:PE (aR X N' bs B s0 H0 fp) (.Name cn p') (jN 0)):
  PE (aR X N' bs B s0 H0 fp) (.Call (.Name "_law_word" p) [.Name cn p'] [] pos) (Lb X cS kf kJ):=by
 intro pins s σ H Q J h
 obtain⟨f,iC,j6,⟨params,bd,scope,N,idx,ws,C,Pre,ask⟩,q⟩:=h
 refine Zde (Jf J hg mR ?_ .d)
 have ha:PA (aR X N' bs B s0 H0 fp) [.Name cn p'] _:=Za hv Zb
 refine PySem.W.callWith_K (h₀:=X.base) J.ok.mod.mS kR (ar (ha pos pins s σ H (fun vs H1=>vs=[.ref f]/\H1=H) J ⟨_,j6,rfl,rfl⟩) fun us s3 ⟨vs,H1,J1,r,ev,eh⟩=> ⟨J1.bX,?_⟩) rfl rfl
 subst ev eh
 obtain⟨u,rfl,ru⟩:=Zgc r
 cases ru
 refine Zcy (Y:=aR X N' bs B s0 H0 fp) (kf:=kf) hR room mR ask.ls J1 ask.lam (by rw[ask.vU,ask.hN]) (fun i x v h1 h2=> ?_) (fun z c h=>GW h) (fun a b c h1 h2=> ?_) ask.mr ask.body ask.pre q
 ·have hi:i<idx.length:=by
   have:=(Zad.mp h1).1
   rw[ask.hN]
   exact this
  have ei:=Zag hi
  have n:=ask.ln i x _ h1 ei
  exact XI I0 hf (Kh I0 n.nx (ask.j6 i _ v ei h2) n.kx n.fx (ZbV (ask.ls.free x (ZaX h1)))) n.kx J1
 obtain⟨e1,m1⟩:=Yl h1
 obtain⟨e2,m2⟩:=Yl h2
 obtain⟨c1,g1⟩:=I0.ok.has a (ask.fr _ m1 rfl)
 obtain⟨c2,g2⟩:=I0.ok.has b (ask.fr _ m2 rfl)
 rw[g1]at e1
 rw[g2]at e2
 have z1:c1=c2:=by
  have y1:_=c1:=e1
  have y2:_=c2:=e2
  rw[<-y1,<-y2]
 subst z1
 exact I0.ok.inj _ _ _ g1 g2
def qm (fn x y:Str) (p1 p2 p3 p4:Pos):Expr:=.Call (.Name fn p1) [.Name x p2,.Name y p3] [] p4
theorem wZ {k':Nat}{fn x y z:Str}{ps:List Str}{sp:Sp}{scope:Scope}{C f:Addr}{q:Str}{cl:List (Str×Addr)}{vx vy vz:V}{p1 p2 p3 p4 p5:Pos}(aP:k'<=kf) (hU:∀b',aW X.prog X.w X.K X.mg b' k' fn ps sp) (gl:scope.names.lookup fn=some .globalImplicit)
  (kx:scope.names.lookup x=some .free) (ky:scope.names.lookup y=some .free) (kz:scope.names.lookup z=some .free) (dx:(x==("__debug__" :Str))=false) (dy:(y==("__debug__" :Str))=false) (dz:(z==("__debug__" :Str))=false)
  (ex:(x==("__classdict__" :Str))=false) (ey:(y==("__classdict__" :Str))=false) (ez:(z==("__classdict__" :Str))=false) (iR:(fn==("__debug__" :Str))=false):
  jK X kf C f q (cB fn x y z p1 p2 p3 p4 p5) scope cl [x,y,z] [vx,vy,vz] (og sp [vx,vy,vz] C):=by
 intro bf cc A outer s2 H2 Q2 E2 hr pre hE
 obtain⟨g,fd,F,hg,hk,hb⟩:=hU bf
 refine⟨_,Yt (X:=fM X.prog X.w X.K X.mg bf [x,y,z] q scope f (.ref cc) cl A outer s2 H2 E2) F (hr.mono aP) gl hg hk hb .nil (E:=E2) (o9 (X:=fM X.prog X.w X.K X.mg bf [x,y,z] q scope f (.ref cc) cl A outer s2 H2 E2) (fun e s' z=>z) rfl rfl rfl)
  (Za (Yh (i:=0) rfl (.inr (.inr kx)) dx ex) (Za (Yh (i:=1) rfl (.inr (.inr ky)) dy ey) (Za (Yh (i:=2) rfl (.inr (.inr kz)) dz ez) Zb))) iR,?_⟩
 exact⟨vx,rfl,vy,rfl,vz,rfl,pre Q2 E2 hE⟩
theorem w6 {k':Nat}{fn x y:Str}{ps:List Str}{sp:Sp}{scope:Scope}{C f:Addr}{q:Str}{cl:List (Str×Addr)}{vx vy:V}{p1 p2 p3 p4:Pos}(aP:k'<=kf) (hU:∀b',aW X.prog X.w X.K X.mg b' k' fn ps sp) (gl:scope.names.lookup fn=some .globalImplicit)
  (kx:scope.names.lookup x=some .free) (ky:scope.names.lookup y=some .free) (dx:(x==("__debug__" :Str))=false) (dy:(y==("__debug__" :Str))=false)
  (ex:(x==("__classdict__" :Str))=false) (ey:(y==("__classdict__" :Str))=false) (iR:(fn==("__debug__" :Str))=false):
  jK X kf C f q (qm fn x y p1 p2 p3 p4) scope cl [x,y] [vx,vy] (og sp [vx,vy] C):=by
 intro bf cc A outer s2 H2 Q2 E2 hr pre hE
 obtain⟨g,fd,F,hg,hk,hb⟩:=hU bf
 refine⟨_,Yt (X:=fM X.prog X.w X.K X.mg bf [x,y] q scope f (.ref cc) cl A outer s2 H2 E2) F (hr.mono aP) gl hg hk hb .nil (E:=E2) (o9 (X:=fM X.prog X.w X.K X.mg bf [x,y] q scope f (.ref cc) cl A outer s2 H2 E2) (fun e s' z=>z) rfl rfl rfl)
  (Za (Yh (i:=0) rfl (.inr (.inr kx)) dx ex) (Za (Yh (i:=1) rfl (.inr (.inr ky)) dy ey) Zb)) iR,?_⟩
 exact⟨vx,rfl,vy,rfl,pre Q2 E2 hE⟩
abbrev bz:Arguments:= {posonlyargs:=[],args:=[],vararg:=none,kwonlyargs:=[],kw_defaults:=[],kwarg:=none,defaults:=[]}
def kH (X:Cx) (H:Hp) (v:V) (b:Expr×Scope):Prop:=∃f:Addr,v=.ref f/\jb H f (lq X) bz b.1 b.2 (cJ b.2 X.env)
theorem kH.same {H H':Hp}{v:V}{b:Expr×Scope}(h:kH X H v b) (s:ag H H'):kH X H' v b:=by
 obtain⟨f,e,l⟩:=h
 exact⟨f,e,l.same s⟩
theorem kH.x {H H':Hp}{v:V}{b:Expr×Scope}{p:Addr}{o:HO}(h:kH X H v b) (s:av p H H') (hp:H p=some o) (ho:∀F,o≠.ext F):kH X H' v b:=by
 obtain⟨f,e,pm,c,ct,h1,h2⟩:=h
 exact⟨f,e,pm,c,ct,s _ _ h1 (fun z=>by rw[z,hp]at h1;cases h1;exact ho _ rfl),s _ _ h2 (fun z=>by rw[z,hp]at h2;cases h2;exact ho _ rfl)⟩
structure me (X:Cx) (P L:Addr) (H0 H:Hp) (bs:List (Expr×Scope)):Prop where
 sx:av P H0 H
 fr:H0 L=none
 tb:TabAt H P (lq X)
 ls:∃vs,H L=some (.lst vs)/\Paired (kH X H) vs bs
theorem me.lst {L:Addr}{H0 H:Hp}{bs:List (Expr×Scope)}(h:me X P L H0 H bs):∃vs,H L=some (.lst vs)/\vs.length=bs.length:=by
 obtain⟨vs,hL,pr⟩:=h.ls
 exact⟨vs,hL,Zcf pr⟩
theorem me.bI {L:Addr}{H0 H H1:Hp}{bs:List (Expr×Scope)}{vs:List V}(h:me X P L H0 H bs) (hv:H L=some (.lst vs)) (s1:av P H H1):H1 L=some (.lst vs):=by
 obtain⟨tp,lV,_⟩:=h.tb
 exact s1 _ _ hv fun z=>by rw[z,lV]at hv;cases hv
theorem me.app {L f:Addr}{H0 H H1:Hp}{bs:List (Expr×Scope)}{bd:Expr}{sc:Scope}{vs:List V}(h:me X P L H0 H bs) (hv:H L=some (.lst vs)) (s1:av P H H1) (t1:TabAt H1 P (lq X)) (l1:jb H1 f (lq X) bz bd sc (cJ sc X.env)):me X P L H0 (upd H1 L (.lst (vs++[.ref f]))) (bs++[(bd,sc)]):=by
 have fH:=h.bI hv s1
 obtain⟨sx,fr,tb,oE,hL,pr⟩:=h
 rw[hv]at hL
 cases hL
 obtain⟨tp,lV,_⟩:=id tb
 have x2:av L H1 (upd H1 L (.lst (vs++[.ref f]))):=av.upd
 have p1:Paired (kH X (upd H1 L (.lst (vs++[.ref f])))) vs bs:=Paired.dq pr fun v b h=> (h.x s1 lV (fun _ z=>by cases z)).x x2 fH (fun _ z=>by cases z)
 exact⟨Js (sx.trans s1) fr,fr,xk t1 x2 fH (fun _ z=>by cases z) (fun _ z=>by cases z),_,Ze,Zfm p1 (kH.x (b:=(bd,sc)) ⟨f,rfl,l1⟩ x2 fH (fun _ z=>by cases z))⟩
theorem HL {H0 H1:Hp}{L f:Addr}{bd:Expr}{sc:Scope}(tb:TabAt H0 P (lq X)) (s1:av P H0 H1) (t1:TabAt H1 P (lq X)) (l1:jb H1 f (lq X) bz bd sc (cJ sc X.env)) (hL:H1 L=none):me X P L H0 (upd H1 L (.lst [.ref f])) [(bd,sc)]:=by
 obtain⟨tp1,RV,_⟩:=id t1
 have s2:=Zp (o:=.lst [V.ref f]) hL
 have N6:L≠P:=fun z=>by rw[z,RV]at hL;cases hL
 have fr:H0 L=none:=by
  cases h:H0 L with
  |none=>rfl
  |some u=>rw[s1 _ _ h N6]at hL;cases hL
 exact⟨s1.trans s2.x,fr,Y0 t1 s2,_,Ze,.cons ⟨f,rfl,l1.same s2⟩ .nil⟩
end
section
def jD (ps:List Addr) (H H':Hp):Prop:=∀b o,H b=some o->b∉ps->H' b=some o
theorem jD.trans {ps:List Addr}{H H1 H2:Hp}(a:jD ps H H1) (b:jD ps H1 H2):jD ps H H2:=fun c o h n=>b c o (a c o h n) n
theorem ag.xs {ps:List Addr}{H H1:Hp}(a:ag H H1):jD ps H H1:=fun c o h _=>a c o h
theorem av.xs {p:Addr}{ps:List Addr}{H H1:Hp}(a:av p H H1) (h:p∈ps):jD ps H H1:=fun c o e n=>a c o e fun z=>n (by rw[z];exact h)
theorem UB {K:ZhQ}{H:Hp}{Pt:Addr}{ps:Array Value}{v:V}(t:eC K H v) (h:H Pt=some (.bM ps)):jE Pt H v:=⟨YX t.1 h,fun xs e y hy=>YX (t.2 xs e y hy) h⟩
theorem bR.x {H H':Hp}{p:Addr}{x:V}{wd hg:Int}(b:bR H x wd hg) (s:av p H H') (hn:x≠.ref p):bR H' x wd hg:=by
 obtain⟨a,e,h⟩:=Zu b.1
 subst e
 exact⟨Zl (s _ _ h fun z=>hn (by rw[z])),b.2⟩
theorem bR.bM {H:Hp}{Pt:Addr}{ps:Array Value}{x:V}{wd hg:Int}(b:bR H x wd hg) (h:H Pt=some (.bM ps)):x≠.ref Pt:=by
 obtain⟨a,e,h'⟩:=Zu b.1
 subst e
 intro z
 cases z
 rw[h]at h'
 cases h'
theorem bB.xt {K:ZhQ}{H H':Hp}{Pt:Addr}{ps:Array Value}{x:V}{l:Addr}{xs:List V}{wd hg:Int}(a:bB K H x l xs wd hg) (s:av Pt H H') (hp:H Pt=some (.bM ps)):bB K H' x l xs wd hg:=
 ⟨a.bd.x s (a.bd.bM hp),s _ _ a.at_ (fun z=>by have h:=a.at_;rw[z,hp]at h;cases h),a.ly⟩
end
section
variable {P:Program}{w:World}{K:ZhQ}{mg:Str->Option Value}{base:Heap}
theorem vJ {fn x y z:Str}{p1 p2 p3 p4 p5:Pos}{scope:Scope}(h:(decide (scope.kind=.function)&& !scope.isCoroutine&& !scope.isGenerator&&scope.names.all (fun z=>z.2 !=.cell)&&scope.names.all (fun u=>u.2 !=.free||(u.1==x||(u.1==y||u.1==z)))&&(scope.names.lookup x==some .free)&&(scope.names.lookup y==some .free)&&(scope.names.lookup z==some .free))=true):mf bz (cB fn x y z p1 p2 p3 p4 p5) scope [x,y,z]:=by
 simp only[ZaL,Zb6,Zb5,Zdk,ZaZ,bne_iff_ne,ne_eq,Bool.or_eq_true]at h
 obtain⟨⟨⟨⟨⟨⟨⟨h1,h2⟩,h3⟩,h4⟩,h5⟩,h6⟩,h7⟩,h8⟩:=h
 refine⟨h1,h2,h3,h4,fun u hu e=> ?_,fun u hu=> ?_,fun _ _ _ _ _=>rfl⟩
 ·rcases h5 u hu with z |z
  ·exact absurd e z
  ·simpa using z
 ·simp only[Zao,Zbc,Zdo]at hu
  rcases hu with rfl |rfl |rfl
  ·exact h6
  ·exact h7
  ·exact h8
theorem vK {fn x y:Str}{p1 p2 p3 p4:Pos}{scope:Scope}(h:(decide (scope.kind=.function)&& !scope.isCoroutine&& !scope.isGenerator&&scope.names.all (fun z=>z.2 !=.cell)&&scope.names.all (fun u=>u.2 !=.free||(u.1==x||u.1==y))&&(scope.names.lookup x==some .free)&&(scope.names.lookup y==some .free))=true):mf bz (qm fn x y p1 p2 p3 p4) scope [x,y]:=by
 simp only[ZaL,Zb6,Zb5,Zdk,ZaZ,bne_iff_ne,ne_eq,Bool.or_eq_true]at h
 obtain⟨⟨⟨⟨⟨⟨h1,h2⟩,h3⟩,h4⟩,h5⟩,h6⟩,h7⟩:=h
 refine⟨h1,h2,h3,h4,fun u hu e=> ?_,fun u hu=> ?_,fun _ _ _ _ _=>rfl⟩
 ·rcases h5 u hu with z |z
  ·exact absurd e z
  ·simpa using z
 ·simp only[Zao,Zbc,Zdo]at hu
  rcases hu with rfl |rfl
  ·exact h6
  ·exact h7
theorem vM {X:Cx}{x y z:Str}{i j l:Nat}(a:LN X x i) (b:LN X y j) (c:LN X z l):∀(k:Nat) u m,([x,y,z]:List Str)[k]? =some u->([i,j,l]:List Nat)[k]? =some m->LN X u m
 |0,_,_,h1,h2=>by cases h1;cases h2;exact a
 |1,_,_,h1,h2=>by cases h1;cases h2;exact b
 |2,_,_,h1,h2=>by cases h1;cases h2;exact c
theorem rG {X:Cx}{x y:Str}{i j:Nat}(a:LN X x i) (b:LN X y j):∀(k:Nat) u m,([x,y]:List Str)[k]? =some u->([i,j]:List Nat)[k]? =some m->LN X u m
 |0,_,_,h1,h2=>by cases h1;cases h2;exact a
 |1,_,_,h1,h2=>by cases h1;cases h2;exact b
theorem xf {σ:L2.St}{x y z:V}{i j l:Nat}(a:σ[i]? =some (some x)) (b:σ[j]? =some (some y)) (c:σ[l]? =some (some z)):∀(k m:Nat) (v:V),([i,j,l]:List Nat)[k]? =some m->([x,y,z]:List V)[k]? =some v->σ[m]? =some (some v)
 |0,_,_,h1,h2=>by cases h1;cases h2;exact a
 |1,_,_,h1,h2=>by cases h1;cases h2;exact b
 |2,_,_,h1,h2=>by cases h1;cases h2;exact c
theorem at2 {σ:L2.St}{x y:V}{i j:Nat}(a:σ[i]? =some (some x)) (b:σ[j]? =some (some y)):∀(k m:Nat) (v:V),([i,j]:List Nat)[k]? =some m->([x,y]:List V)[k]? =some v->σ[m]? =some (some v)
 |0,_,_,h1,h2=>by cases h1;cases h2;exact a
 |1,_,_,h1,h2=>by cases h1;cases h2;exact b
end
section
variable {P:Program}{w:World}{K:ZhQ}{mg:Str->Option Value}{base:Heap}{cB cL:Addr}
abbrev u7:Stmt:=top 21
def yr (K:ZhQ):Sp:=fun vs H Q _=> ∃x a b,vs=[x,.int a,.int b]/\bJ K H x/\bh x a b=true/\Q .ah H
theorem C5:aZ ["number", "least", "most"] ["number", "least", "most"] (ay u7):=ZL (by decide+kernel)
theorem VJ {f:Addr}{fd:FuncData}(F:aG K "need_whole_within" "need_whole_within" u7 f fd) (D1:Def P w K mg base 2 "is_whole_within" ["thing", "least", "most"] (oI K)):aA P w K mg base aE 3 f fd ["number", "least", "most"] (yr K):=by
 refine F.ok C5 (fun vs H Q E h=> ?_) (fun aq A outer s H vs Q E hr h=> ?_)
 ·obtain⟨x,a,b,rfl,_⟩:=h
  rfl
 ·obtain⟨x,a,b,rfl,t,hw,q⟩:=h
  refine⟨_,Zi (ZO (Z0 (ZK (Zf D1 hr (Za (pv 0) (Za (pv 1) (Za (pv 2) Zb)))))) Zr Zv),?_⟩
  refine⟨x,rfl,_,rfl,_,rfl,x,a,b,rfl,t,_,rfl,?_⟩
  rw[hw]
  exact aO q
def yq (K:ZhQ) (cN:Addr):Sp:=fun vs H _ E=> ∃x b,vs=[x,.int 0,.int b]/\0<=b/\b<=12/\bJ K H x/\bh x 0 b=false/\∀e H',ag H H'->E (.ref e) (some cN) H'
theorem XW {cN:Addr}{f:Addr}{fd:FuncData}(F:aG K "need_whole_within" "need_whole_within" u7 f fd) (X:Exc K mg "NoNumber" cN) (D1:Def P w K mg base 2 "is_whole_within" ["thing", "least", "most"] (oI K)):aA P w K mg base (aC P w) 3 f fd ["number", "least", "most"] (yq K cN):=by
 refine F.fk C5 (fun vs H Q E h=> ?_) (fun aq A outer s H vs Q E hr h=> ?_)
 ·obtain⟨x,b,rfl,_⟩:=h
  rfl
 ·obtain⟨x,b,rfl,b0,b1,t,hw,q⟩:=h
  refine⟨_,Zi (ZO (Z0 (ZK (Zf D1 hr (Za (pv 0) (Za (pv 1) (Za (pv 2) Zb)))))) (Zi (YO Zdc X.m X.x rfl (Za (IC ZS (pv 1) ZS (pv 2) ZS) Zb))) Zv),?_⟩
  refine⟨x,rfl,_,rfl,_,rfl,x,0,b,rfl,t,_,rfl,?_⟩
  rw[hw]
  have c:b=0∨b=1∨b=2∨b=3∨b=4∨b=5∨b=6∨b=7∨b=8∨b=9∨b=10∨b=11∨b=12:=by
   obtain⟨n,rfl⟩:=Int.eq_ofNat_of_zero_le b0
   exact(show ∀n:Nat,n<13->((n:Int)=0∨(n:Int)=1∨(n:Int)=2∨(n:Int)=3∨(n:Int)=4∨(n:Int)=5∨(n:Int)=6∨(n:Int)=7∨(n:Int)=8∨(n:Int)=9∨(n:Int)=10∨(n:Int)=11∨(n:Int)=12) by decide) n (Int.ofNat_lt.mp (Int.lt_add_one_of_le b1))
  refine aV ⟨_,rfl,.d,_,rfl,0,rfl,.d,.d,_,rfl,.d,_,rfl,b,rfl,?_,?_,_,rfl,?_,fun z=> ⟨bO,fun e=>q e H (ag.refl H)⟩⟩<;>
   rcases c with rfl |rfl |rfl |rfl |rfl |rfl |rfl |rfl |rfl |rfl |rfl |rfl |rfl<;>decide
end
section
def bY (wd c:Int):Int:=if c<2 then 0 else wd - 1
def cD (hg c:Int):Int:=if c%2=0 then 0 else hg - 1
end
section
variable {P:Program}{w:World}{K:ZhQ}{mg:Str->Option Value}{base:Heap}{aB aL aN:Addr}
abbrev vc:Stmt:=top 37
def uL (K:ZhQ):Sp:=fun vs H Q _=> ∃(x:V) (l:Addr) (xs:List V) (wd hg c:Int),vs=[x,.ref l,.int c]/\bB K H x l xs wd hg/\0<=c/\c<=3/\∀H',ag H H'->Q .ah H'
theorem C7:aZ ["board", "lay", "corner"] ["board", "lay", "corner"] (ay vc):=ZL (by decide+kernel)
theorem T7 {f:Addr}{fd:FuncData}{tk:Tok}(hL:mg "LAST_CORNER" =some (.int 3 tk)) (F:aG K "need_corner" "need_corner" vc f fd) (D1:Def P w K mg base 6 "need_lay" ["board", "lay"] (kM K)) (D2:Def P w K mg base 3 "need_whole_within" ["number", "least", "most"] (yr K)):aA P w K mg base aE 7 f fd ["board", "lay", "corner"] (uL K):=by
 refine F.ok C7 (fun vs H Q E h=> ?_) (fun aq A outer s H vs Q E hr h=> ?_)
 ·obtain⟨x,l,xs,wd,hg,c,rfl,_⟩:=h
  rfl
 ·obtain⟨x,l,xs,wd,hg,c,rfl,la,c0,c3,q⟩:=h
  refine⟨_,Zc (Zy (Zf D1 hr (Za (pv 0) (Za (pv 1) Zb))))
   (Zi (Zy (Zf D2 (hr.mono .d) (Za (pv 2) (Za Zd (Za (Yi (v:=.int 3) rfl hL ⟨_,rfl⟩) Zb)))))),?_⟩
  (try refine hZ _ _ ?_);refine Zj fun Z hZ=> (er rfl (er rfl ⟨x,.ref l,wd,hg,rfl,la.bd,la.pl,by rw[Zl la.at_];exact la.ly,fun H1 s1=> ?_⟩))
  dsimp only
  refine hZ _ _ ?_
  exact(er rfl ⟨.int c,0,3,rfl,⟨_,.int c⟩,HJ c0 c3,q H1 s1⟩)
def KH (K:ZhQ) (aB aL aN:Addr) (H:Hp) (x y z:V) (C:Addr):Prop:=
 KG K aB aL H x y C∨(C=aN/\∃(l:Addr) (xs:List V) (wd hg:Int),y=.ref l/\bB K H x l xs wd hg/\bJ K H z/\bh z 0 3=false)
def yv (K:ZhQ) (aB aL aN:Addr):Sp:=fun vs H _ E=> ∃x y z C,vs=[x,y,z]/\KH K aB aL aN H x y z C/\∀e H',ag H H'->E (.ref e) (some C) H'
theorem VG {f:Addr}{fd:FuncData}{tk:Tok}(hL:mg "LAST_CORNER" =some (.int 3 tk)) (F:aG K "need_corner" "need_corner" vc f fd) (D1:Def P w K mg base 6 "need_lay" ["board", "lay"] (kM K)) (R1:aW P w K mg base 6 "need_lay" ["board", "lay"] (yt K aB aL)) (R2:aW P w K mg base 3 "need_whole_within" ["number", "least", "most"] (yq K aN)):aA P w K mg base (aC P w) 7 f fd ["board", "lay", "corner"] (yv K aB aL aN):=by
 refine F.fk C7 (fun vs H Q E h=> ?_) (fun aq A outer s H vs Q E hr h=> ?_)
 ·obtain⟨x,y,z,C,rfl,_⟩:=h
  rfl
 ·obtain⟨x,y,z,C,rfl,b,q⟩:=h
  rcases b with b |⟨rfl,l,xs,wd,hg,rfl,la,t,hz⟩
  ·refine⟨_,Zc (Zy (ZX R1 hr (Za (pv 0) (Za (pv 1) Zb)))) Zr,?_⟩
   exact⟨x,rfl,y,rfl,x,y,C,rfl,b,q⟩
  ·refine⟨_,Zc (Zy (Zf D1 hr (Za (pv 0) (Za (pv 1) Zb))))
    (Zi (Zy (ZX R2 (hr.mono .d) (Za (pv 2) (Za Zd (Za (Yi (v:=.int 3) rfl hL ⟨_,rfl⟩) Zb)))))),?_⟩
   (try refine hZ _ _ ?_);refine Zj fun Z hZ=> (er rfl (er rfl ⟨x,.ref l,wd,hg,rfl,la.bd,la.pl,by rw[Zl la.at_];exact la.ly,fun H1 s1=> ?_⟩))
   dsimp only
   refine hZ _ _ ?_
   exact⟨z,rfl,z,3,rfl,.d,.d,s1.g8 t,hz,fun e H' s'=>q e H' (s1.trans s')⟩
abbrev zh:Stmt:=top 38
def yJ (K:ZhQ):Sp:=fun vs H Q _=> ∃(x:V) (wd hg c:Int),vs=[x,.int c]/\bR H x wd hg/\0<=c/\c<=3/\∀(t:Addr) H',ag H H'->H' t=some (.tup [.int (bY wd c),.int (cD hg c)])->Q (.ref t) H'
theorem uU:aZ ["board", "corner", "wide", "high", "found"] ["board", "corner"] (ay zh):=ZL (by decide+kernel)
theorem TX {f:Addr}{fd:FuncData}(F:aG K "corner_point" "corner_point" zh f fd):aA P w K mg base aE 1 f fd ["board", "corner"] (yJ K):=by
 refine F.ok uU (fun vs H Q E h=> ?_) (fun aq A outer s H vs Q E hr h=> ?_)
 ·obtain⟨x,wd,hg,c,rfl,_⟩:=h
  rfl
 ·obtain⟨x,wd,hg,c,rfl,bd,c0,c3,q⟩:=h
  obtain⟨a,rfl,ha⟩:=Zu bd.1
  refine⟨_,Zc (YK (pv 0) (Z3 rfl (Zk (ZD (i:=2) uU.nd rfl (Or.inl rfl)) (Zk (ZD (i:=3) uU.nd rfl (Or.inl rfl)) ZP))))
   (Zc (Zx (i:=4) uU.nd rfl (Or.inl rfl) (ZG (Za (Zs (Za Zd (Za Zd Zb))) (Za (Zs (Za Zd (Za (Zm ZU (pv 3) Zd) Zb))) (Za (Zs (Za (Zm ZU (pv 2) Zd) (Za Zd Zb))) (Za (Zs (Za (Zm ZU (pv 2) Zd) (Za (Zm ZU (pv 3) Zd) Zb))) Zb))))))
   (Zi (Zw (ZE ZZ (pv 4) (pv 1) (fun _ _=>rfl))))),?_⟩
  (try refine hZ _ _ ?_);refine Zj fun Z hZ=> (Zz (er rfl ⟨a,_,rfl,aj.of ha,rfl,_,_,rfl,_,_,rfl,rfl,?_⟩))
  dsimp only[List.set]
  (try refine hZ _ _ ?_);refine Zj fun Z hZ=> (Zz ⟨aX,fun t1 h1=> ?_⟩)
  obtain⟨H1,zz,s1,e1⟩:=aH (o:=.tup [V.int 0,V.int 0]) h1
  rw[zz]
  refine(er rfl ⟨_,_,rfl,rfl,aX,fun t2 h2=> ?_⟩)
  obtain⟨H2,zz,s2,e2⟩:=aH (o:=.tup [V.int 0,V.int (hg - 1)]) h2
  rw[zz]
  refine(er rfl ⟨_,_,rfl,rfl,aX,fun t3 h3=> ?_⟩)
  obtain⟨H3,zz,s3,e3⟩:=aH (o:=.tup [V.int (wd - 1),V.int 0]) h3
  rw[zz]
  refine(er rfl ⟨_,_,rfl,rfl,_,rfl,_,_,rfl,rfl,aX,fun t4 h4=> ?_⟩)
  obtain⟨H4,zz,s4,e4⟩:=aH (o:=.tup [V.int (wd - 1),V.int (hg - 1)]) h4
  rw[zz]
  refine⟨qJ,fun L hL=>Zt ?_⟩
  dsimp only[List.set]
  obtain⟨H5,zz,s5,e5⟩:=aH (o:=.lst [V.ref t1,V.ref t2,V.ref t3,V.ref t4]) hL
  rw[zz]
  have sA:=s1.trans (s2.trans (s3.trans (s4.trans s5)))
  refine hZ _ _ ?_
  refine(er rfl (er rfl ⟨L,[V.ref t1,V.ref t2,V.ref t3,V.ref t4],c,?_⟩))
  rcases (by omega:c=0∨c=1∨c=2∨c=3) with rfl |rfl |rfl |rfl
  ·exact⟨V.ref t1,rfl,rfl,ai.of e5,rfl,q _ _ sA ((s2.trans (s3.trans (s4.trans s5))) _ _ e1)⟩
  ·exact⟨V.ref t2,rfl,rfl,ai.of e5,rfl,q _ _ sA ((s3.trans (s4.trans s5)) _ _ e2)⟩
  ·exact⟨V.ref t3,rfl,rfl,ai.of e5,rfl,q _ _ sA ((s4.trans s5) _ _ e3)⟩
  ·exact⟨V.ref t4,rfl,rfl,ai.of e5,rfl,q _ _ sA (s5 _ _ e4)⟩
end
section
variable {P:Program}{w:World}{K:ZhQ}{mg:Str->Option Value}{base:Heap}
abbrev yY:Stmt:=top 53
def yn (K:ZhQ):Sp:=fun vs H Q _=> ∃(q:Addr) (b:Int),vs=[.ref q,.int 0,.int b]/\bQ H q/\0<=b/\b<=12/\∀v H',av q H H'->bQ H' q->bJ K H' v->bh v 0 b=false->v≠.ref q->Q v H'
theorem C2:aZ ["_law_state_here", "_law_low", "_law_high", "_law_some"] ["_law_state_here", "_law_low", "_law_high"] (ay yY):=ZL (by decide+kernel)
theorem VI {f:Addr}{fd:FuncData}(F:aG K "_law_no_number" "_law_no_number" yY f fd) (D1:Def P w K mg base 1 "_law_take" ["_law_state_here", "_law_many"] jP):aA P w K mg base aE 2 f fd ["_law_state_here", "_law_low", "_law_high"] (yn K):=by
 refine F.ok C2 (fun vs H Q E h=> ?_) (fun aq A outer s H vs Q E hr h=> ?_)
 ·obtain⟨q,b,rfl,_⟩:=h
  rfl
 ·obtain⟨q,b,rfl,st,b0,b1,k⟩:=h
  refine⟨_,Zc (Zx (i:=3) C2.nd rfl (Or.inl rfl) (ZG (Za (Zm ZU (pv 1) Zd) (Za (Zm ZT (pv 2) Zd) (Za Yo (Za Wf (Za ZS (Za (Zs (Za (pv 1) Zb)) (Za (ZG (Za (pv 1) Zb)) (Za (Zm WD Zd Zd) (Za (Zm ZU Zd (Zm WD Zd Zd)) (Za Wf Zb))))))))))))
   (Zi (Zw (ZE ZZ (pv 3) (Zf D1 hr (Za (pv 0) (Za Zd Zb))) (fun _ _=>rfl)))),?_⟩
  (try refine hZ _ _ ?_);refine Zj fun Z hZ=> (Zz (er rfl ⟨_,_,rfl,rfl,_,rfl,_,_,rfl,rfl,_,rfl,bO,fun t ht=> ?_⟩))
  obtain⟨H1,zz,s1,e1⟩:=aH (o:=.tup [V.int 0]) ht
  rw[zz]
  refine(er rfl ⟨bO,fun m hm=> ?_⟩)
  have s2:=Zp (o:=.lst [V.int 0]) hm
  have e2:upd H1 m (.lst [V.int 0]) m=some (.lst [V.int 0]):=Ze
  have nm:=s1.free hm
  generalize upd H1 m (HO.lst [V.int 0])=H2 at s2 e2
  refine⟨_,_,rfl,rfl,⟨.d,.d,.d⟩,_,_,rfl,rfl,⟨.d,.d,.d⟩,_,_,rfl,rfl,(by show 10<=sizeLine;decide),fun L hL=>Zt ?_⟩
  dsimp only[List.set]
  generalize hS:[V.int (0 - 1),V.int (b+1),V.ah,V.bl true,V.str "0",V.ref t,V.ref m,V.int (10^(39:Int).toNat),V.int (0 - 10^(39:Int).toNat),V.bl false]=S
  have lS:S.length=10:=by rw[<-hS];rfl
  refine hZ _ _ ?_
  show xY _ _ [some (.ref q),some (.int 0),some (.int b),some (.ref L)] (upd H2 L (.lst S))
  obtain⟨H3,zz,s3,e3⟩:=aH (o:=.lst S) hL
  rw[zz]
  have sA:=s1.trans (s2.trans s3)
  have cK:=st.same sA
  obtain⟨u0,v0,fL,_⟩:=id st
  have Dz:t≠q:=fun z=>by rw[z,fL]at ht;cases ht
  have DH:m≠q:=fun z=>by rw[z,fL]at nm;cases nm
  have NZ:L≠q:=fun z=>by
   have:=(s1.trans s2) _ _ fL
   rw[<-z,hL]at this
   cases this
  refine(er rfl (er rfl ⟨q,10,rfl,cK,.d,.d,fun r o h0 h10 de=> ?_⟩))
  have x4:av q H3 (upd H3 q o):=av.upd
  have az:r.toNat<S.length:=by rw[lS];omega
  have sr:=Zag az
  have jw:=Yv sr
  rw[Zca h0]at jw
  refine⟨L,_,_,_,rfl,rfl,ai.of (x4 _ _ e3 NZ),jw,?_⟩
  have bZ:S[r.toNat]∈S:=ZeR az
  generalize S[r.toNat]=v at bZ
  have zu:(1000:Int)<=10^(39:Int).toNat:=.d
  have good:bJ K (upd H3 q o) v/\bh v 0 b=false/\v≠.ref q:=by
   rw[<-hS]at bZ
   generalize (10:Int)^(39:Int).toNat=LO at bZ zu
   have wf:∀i:Int,(i<0∨b<i)->bh (.int i) 0 b=false:=fun i h=>by
    show(decide (0<=i)&&decide (i<=b))=false
    rcases h with h |h
    ·rw[ZaA .o,Zez]
    ·rw[ZaA (show ¬i<=b by omega),ZeA]
   simp only[Zao,Zbc,Zdo]at bZ
   rcases bZ with rfl |rfl |rfl |rfl |rfl |rfl |rfl |rfl |rfl |rfl
   ·exact⟨⟨_,.int _⟩,wf _ .o,fun z=>by cases z⟩
   ·exact⟨⟨_,.int _⟩,wf _ .o,fun z=>by cases z⟩
   ·exact⟨⟨_,.ah⟩,rfl,fun z=>by cases z⟩
   ·exact⟨⟨_,.bl _⟩,rfl,fun z=>by cases z⟩
   ·exact⟨⟨_,.str _⟩,rfl,fun z=>by cases z⟩
   ·exact⟨⟨_,.tup (x4 _ _ ((s2.trans s3) _ _ e1) Dz)⟩,rfl,fun z=>Dz (by cases z;rfl)⟩
   ·exact⟨⟨_,.lst (x4 _ _ (s3 _ _ e2) DH)⟩,rfl,fun z=>DH (by cases z;rfl)⟩
   ·exact⟨⟨_,.int _⟩,wf _ .o,fun z=>by cases z⟩
   ·exact⟨⟨_,.int _⟩,wf _ .o,fun z=>by cases z⟩
   ·exact⟨⟨_,.bl _⟩,rfl,fun z=>by cases z⟩
  exact k v _ (fun c u hc hn=>x4 _ _ (sA _ _ hc) hn) de good.1 good.2.1 good.2.2
end
section
theorem BO {wd c:Int}(h:1<=wd):0<=bY wd c/\bY wd c<wd:=by
 unfold bY
 split<;>omega
theorem BI {hg c:Int}(h:1<=hg):0<=cD hg c/\cD hg c<hg:=by
 unfold cD
 split<;>omega
end
section
variable {P:Program}{w:World}{K:ZhQ}{mg:Str->Option Value}{base:Heap}
abbrev zb:Stmt:=top 55
def yE (K:ZhQ):Sp:=fun vs H Q _=> ∃(x:V) (wd hg c:Int),vs=[x,.int c]/\bR H x wd hg/\0<=c/\c<=3/\∀(t:Addr) H',ag H H'->H' t=some (.tup [.int (bY wd c),.int (cD hg c)])->Q (.ref t) H'
theorem Md:aZ ["_law_board", "_law_corner_here"] ["_law_board", "_law_corner_here"] (ay zb):=ZL (by decide+kernel)
theorem T5 {f:Addr}{fd:FuncData}(F:aG K "_law_corner" "_law_corner" zb f fd):aA P w K mg base aE 1 f fd ["_law_board", "_law_corner_here"] (yE K):=by
 refine F.ok Md (fun vs H Q E h=> ?_) (fun aq A outer s H vs Q E hr h=> ?_)
 ·obtain⟨x,wd,hg,c,rfl,_⟩:=h
  rfl
 ·obtain⟨x,wd,hg,c,rfl,bd,c0,c3,q⟩:=h
  obtain⟨a,rfl,ha⟩:=Zu bd.1
  refine⟨_,Zi (Zw (ZE ZZ (ZG (Za (Zs (Za Zd (Za Zd Zb))) (Za (Zs (Za Zd (Za (Zm ZU (ZE ZN (pv 0) Zd (fun _ _=>rfl)) Zd) Zb))) (Za (Zs (Za (Zm ZU (ZE ZN (pv 0) Zd (fun _ _=>rfl)) Zd) (Za Zd Zb))) (Za (Zs (Za (Zm ZU (ZE ZN (pv 0) Zd (fun _ _=>rfl)) Zd) (Za (Zm ZU (ZE ZN (pv 0) Zd (fun _ _=>rfl)) Zd) Zb))) Zb))))) (pv 1) (fun _ _=>rfl))),?_⟩
  refine⟨aX,fun t1 h1=> ?_⟩
  obtain⟨H1,zz,s1,e1⟩:=aH (o:=.tup [V.int 0,V.int 0]) h1
  rw[zz]
  refine(er rfl ⟨a,_,_,_,rfl,rfl,aj.of (s1 _ _ ha),bI,_,_,rfl,rfl,aX,fun t2 h2=> ?_⟩)
  obtain⟨H2,zz,s2,e2⟩:=aH (o:=.tup [V.int 0,V.int (hg - 1)]) h2
  rw[zz]
  refine(er rfl ⟨a,_,_,_,rfl,rfl,aj.of ((s1.trans s2) _ _ ha),f9,_,_,rfl,rfl,aX,fun t3 h3=> ?_⟩)
  obtain⟨H3,zz,s3,e3⟩:=aH (o:=.tup [V.int (wd - 1),V.int 0]) h3
  rw[zz]
  refine(er rfl ⟨a,_,_,_,rfl,rfl,aj.of ((s1.trans (s2.trans s3)) _ _ ha),f9,_,_,rfl,rfl,_,rfl,a,_,_,_,rfl,rfl,aj.of ((s1.trans (s2.trans s3)) _ _ ha),bI,_,_,rfl,rfl,aX,fun t4 h4=> ?_⟩)
  obtain⟨H4,zz,s4,e4⟩:=aH (o:=.tup [V.int (wd - 1),V.int (hg - 1)]) h4
  rw[zz]
  refine⟨qJ,fun L hL=> ?_⟩
  obtain⟨H5,zz,s5,e5⟩:=aH (o:=.lst [V.ref t1,V.ref t2,V.ref t3,V.ref t4]) hL
  rw[zz]
  have sA:=s1.trans (s2.trans (s3.trans (s4.trans s5)))
  refine(er rfl ⟨L,[V.ref t1,V.ref t2,V.ref t3,V.ref t4],c,?_⟩)
  rcases (by omega:c=0∨c=1∨c=2∨c=3) with rfl |rfl |rfl |rfl
  ·exact⟨V.ref t1,rfl,rfl,ai.of e5,rfl,q _ _ sA ((s2.trans (s3.trans (s4.trans s5))) _ _ e1)⟩
  ·exact⟨V.ref t2,rfl,rfl,ai.of e5,rfl,q _ _ sA ((s3.trans (s4.trans s5)) _ _ e2)⟩
  ·exact⟨V.ref t3,rfl,rfl,ai.of e5,rfl,q _ _ sA ((s4.trans s5) _ _ e3)⟩
  ·exact⟨V.ref t4,rfl,rfl,ai.of e5,rfl,q _ _ sA (s5 _ _ e4)⟩
end
section
def z1 (k:Int):Int:=if k=0 then 1 else 0
end
end U
namespace U.S
open PySem L2 PyProof.Rows
section
variable {P:Program}{w:World}{K:ZhQ}{mg:Str->Option Value}{base:Heap}
structure jI (wd hg:Int) (xs:List V):Prop where
 len:(xs.length:Int)=wd
 row:∀r∈rowsOf xs,bh r 0 (hg - 1)=true
 nd:(rowsOf xs).Nodup
theorem jI.is {wd hg:Int}{xs:List V}(h:jI wd hg xs):bw wd hg (some xs)=true:=by
 show(decide ((xs.length:Int)=wd)&&((rowsOf xs).all fun r=>bh r 0 (hg - 1))&&decide (rowsOf xs).Nodup)=true
 rw[ZaR h.len,ZaR h.nd,ZaZ.mpr h.row]
 rfl
end
section
def oX:V->Option Int
 | .int r=>some r
 |_=>none
def rowAt (xs:List V) (i:Nat):Option Int:=xs[i]?.bind oX
abbrev aS:=Int×Int×Int×Int
def uD (xs:List V) (o l:Nat):Option aS:=(rowAt xs l).bind fun a=> (rowAt xs o).map fun b=> ((o:Int) - l,b - a,(l:Int),(o:Int))
def uB (xs:List V) (o j:Nat):List aS:=(List.range j).filterMap (uD xs o)
def hJ (xs:List V) (n:Nat):List aS:=(List.range n).flatMap fun o=>uB xs o o
def qo (H:Hp) (v:V) (q:aS):Prop:=∃t t':Addr,v=.ref t/\H t=some (.tup [.ref t',.int q.2.2.1,.int q.2.2.2])/\H t'=some (.tup [.int q.1,.int q.2.1])
def tL (xs:List V):Prop:=∀x∈xs,x=.ah∨∃i,x=.int i
theorem jI.ok {wd hg:Int}{xs:List V}(h:jI wd hg xs):tL xs:=fun x hx=>by
 by_cases e:x=.ah
 ·exact .inl e
 ·have m:x∈rowsOf xs:=ZbM.mpr ⟨hx,by simp[e]⟩
  have q:=h.row x m
  cases x with
  |int i=>exact .inr ⟨i,rfl⟩
  |_=>cases q
end
section
variable {P:Program}{w:World}{K:ZhQ}{mg:Str->Option Value}{base:Heap}
theorem Paired.at {α β:Type}{F:α->β->Prop} :∀{kY:List α}{kX:List β}{i:Nat}{a:α},Paired F kY kX->kY[i]? =some a->∃b,kX[i]? =some b/\F a b
 |_,_,_,_,.nil,e=>by simp at e
 |_,_,0,_,.cons r _,e=>by simp at e;subst e;exact⟨_,rfl,r⟩
 |_,_,i+1,a,.cons _ t,e=>by
  obtain⟨u,h1,h2⟩:=Paired.at (i:=i) (a:=a) t (by simpa using e)
  exact⟨u,by simpa using h1,h2⟩
end
section
def MP (K:ZhQ):R2:=fun x y H Q=> ∃a b ys,x=.ref a/\y=.ref b/\aj K H a []/\aj K H b ys/\Q (.ref b) H
def jS (K:ZhQ):R2:=fun x y H Q=>MP K x y H Q∨zp K x y H Q
theorem jV {X:Cx} :bg X (binaryOp .Add) (jS X.K):=Kd.or HU
def bq (xs:List V):List (Int×Int):=(List.range xs.length).filterMap fun l=> (rowAt xs l).map fun r=> ((l:Int),r)
def tN (H:Hp) (v:V) (q:Int×Int):Prop:=∃t:Addr,v=.ref t/\H t=some (.tup [.int q.1,.int q.2])
def ja (H:Hp) (v:V) (q:aS):Prop:=∃t:Addr,v=.ref t/\H t=some (.tup [.int q.1,.int q.2.1,.int q.2.2.1,.int q.2.2.2])
theorem tN.same {H H':Hp}{v:V}{q:Int×Int}(h:tN H v q) (s:ag H H'):tN H' v q:=by
 obtain⟨t,e,h1⟩:=h
 exact⟨t,e,s _ _ h1⟩
theorem ja.same {H H':Hp}{v:V}{q:aS}(h:ja H v q) (s:ag H H'):ja H' v q:=by
 obtain⟨t,e,h1⟩:=h
 exact⟨t,e,s _ _ h1⟩
def pairsOf (ps:List (Int×Int)) (a:Int×Int) (j:Nat):List aS:=((ps.take j).filter fun b=>decide (a.1<b.1)).map fun b=> (a.1,a.2,b.1,b.2)
def jk (ps:List (Int×Int)) (i:Nat):List aS:=(ps.take i).flatMap fun a=>pairsOf ps a ps.length
def dR (ps:List (Int×Int)):List aS:=jk ps ps.length
theorem U4 {ps:List (Int×Int)}{a b:Int×Int}{j:Nat}(h:ps[j]? =some b):pairsOf ps a (j+1)=pairsOf ps a j++(if decide (a.1<b.1)=true then [(a.1,a.2,b.1,b.2)] else []):=by
 unfold pairsOf
 rw[ZbO,h,Zey,ZbA]
 cases hh:decide (a.1<b.1)<;>simp_all
theorem U3 {ps:List (Int×Int)}{a:Int×Int}{i:Nat}(h:ps[i]? =some a):jk ps (i+1)=jk ps i++pairsOf ps a ps.length:=by
 unfold jk
 rw[ZbO,h,List.flatMap_append]
 simp
end
section
variable {P:Program}{w:World}{K:ZhQ}{mg:Str->Option Value}{base:Heap}
abbrev kP:Stmt:=top 27
def bB (H:Hp) (x y:V) (wd hg:Int) (xs:List V):Prop:=bR H x wd hg/\bj H y=some xs/\jI wd hg xs
theorem bB.same {H H':Hp}{x y:V}{wd hg:Int}{xs:List V}(h:bB H x y wd hg xs) (s:ag H H'):bB H' x y wd hg xs:=⟨h.1.same s,s.bj h.2.1,h.2.2⟩
theorem bB.pl {H:Hp}{x y:V}{wd hg:Int}{xs:List V}(h:bB H x y wd hg xs):eC K H y:=by
 obtain⟨a,rfl,ha⟩:=Zu h.2.1
 refine⟨⟨_,.tup ha⟩,fun zs e z hz=> ?_⟩
 rw[h.2.1]at e
 cases e
 rcases h.2.2.ok z hz with rfl |⟨i,rfl⟩
 ·exact⟨_,.ah⟩
 ·exact⟨_,.int i⟩
def kM:Sp:=fun vs H Q _=> ∃x y wd hg xs,vs=[x,y]/\bB H x y wd hg xs/\∀H',ag H H'->Q .ah H'
theorem qZ:aZ ["board", "lay"] ["board", "lay"] (ay kP):=ZL (by decide+kernel)
theorem zC {f:Addr}{fd:FuncData}(F:aG K "need_lay" "need_lay" kP f fd) (D1:Def P w K mg base 5 "is_lay" ["board", "thing"] (oN K)):aA P w K mg base aE 6 f fd ["board", "lay"] kM:=by
 refine F.ok qZ (fun vs H Q E h=> ?_) (fun aq A outer s H vs Q E hr h=> ?_)
 ·obtain⟨x,y,wd,hg,xs,rfl,_⟩:=h
  rfl
 ·obtain⟨x,y,wd,hg,xs,rfl,l,q⟩:=h
  refine⟨_,Zi (ZO (Z0 (ZK (Zf D1 hr (Za (pv 0) (Za (pv 1) Zb))))) Zr Zv),?_⟩
  refine⟨x,rfl,y,rfl,x,y,wd,hg,rfl,l.1,l.pl,fun H' sm=> (er rfl (?_))⟩
  rw[l.2.1,l.2.2.is]
  exact aO (q H' sm)
def yl:Sp:=fun vs H Q _=> ∃x y wd hg xs,vs=[x,y]/\bB H x y wd hg xs/\∀(l:Addr) (H':Hp) (ps:List V),ag H H'->H l=none->H' l=some (.lst ps)->Paired (tN H') ps (bq xs)->Q (.ref l) H'
abbrev u5:Stmt:=top 30
def ym:Sp:=fun vs H Q _=> ∃x y wd hg xs,vs=[x,y]/\bB H x y wd hg xs/\∀(l:Addr) (H':Hp) (ps:List V),ag H H'->H l=none->H' l=some (.lst ps)->Paired (ja H') ps (dR (bq xs))->Q (.ref l) H'
theorem uT:aZ ["board", "lay", "found"] ["board", "lay"] (ay u5):=ZL (by decide+kernel)
theorem Nl {f:Addr}{fd:FuncData}(F:aG K "point_pairs" "point_pairs" u5 f fd) (D1:Def P w K mg base 7 "points" ["board", "lay"] yl):aA P w K mg base aE 8 f fd ["board", "lay"] ym:=by
 refine F.ok uT (fun vs H Q E h=> ?_) (fun aq A outer s H vs Q E hr h=> ?_)
 ·obtain⟨x,y,wd,hg,xs,rfl,_⟩:=h
  rfl
 ·obtain⟨x,y,wd,hg,xs,rfl,l,q⟩:=h
  refine⟨_,Zc (Zx (i:=2) uT.nd rfl (Or.inr rfl) (Zf D1 hr (Za (pv 0) (Za (pv 1) Zb))))
   (Zi (Zw (Ye ["line", "row", "other", "there", "found"] 4 [2] (Ys (pv 2))
    (fun C s H fp=>show PG (aR _ _ _ C s H fp) _ (iY K 2 (cz (bP 0) (cz (bP 1) iZ))) from Z3 rfl (Zk (pb 0) (Zk (pb 1) ZP))) (fun C s H fp=>Ya)
    (fun C s H fp D=>ZdA rfl rfl rfl (show PI (aR _ _ _ C s H fp) _ _ (Eg K (jN 4)) from Ys (pv 4))
     (show PG (aR _ _ _ C s H fp) _ (iY K 2 (cz (bP 2) (cz (bP 3) iZ))) from Z3 rfl (Zk (pb 2) (Zk (pb 3) ZP)))
     (Yr (ZM xm (pv 0) (pv 2) (bF _))) (ZH rfl (Zs (Za (pv 0) (Za (pv 1) (Za (pv 2) (Za (pv 3) Zb)))))) (by intro _;rfl) (by intro g' h;cases h))))),?_⟩
  refine⟨x,rfl,y,rfl,x,y,wd,hg,xs,rfl,l,fun fa H1 ps s1 eW hf pr=> ?_⟩
  generalize Ez:bq xs=qs at pr q
  have wk:ps.length=qs.length:=Zcf pr
  have aaC:qs.length<=12:=by
   rw[<-Ez]
   unfold bq
   have:=List.length_filterMap_le (fun l:Nat=> (rowAt xs l).map fun r=> ((l:Int),r)) (List.range xs.length)
   rw[Zcb]at this
   have h1:=l.2.2.len
   have h2:=l.1.2.2.1
   omega
  refine(er rfl ⟨fa,rfl,⟨ps,ai.of hf⟩,?_⟩)
  refine Yg (xs:=ps) (fun i ys σ H2=> ∃v0 v1 v2 v3,σ=[v0,v1,v2,v3,some (.ref fa)]/\ag H1 H2/\Paired (ja H2) ys (jk qs i)/\ys.length<=i*12) ⟨_,_,_,_,rfl,ag.refl _,.nil,ZaV _⟩ (fun i ys σ H2 _ ⟨_,_,_,_,_,s2,_⟩=>ai.of (s2 _ _ hf)) ?_ ?_
  ·rintro i v ys σ H2 hv ⟨v0,v1,v2,v3,rfl,s2,fQ,gF⟩
   obtain⟨a,PF,t,rfl,ht⟩:=Paired.at pr hv
   have hi:i<ps.length:=(Zad.mp hv).1
   refine⟨t,_,rfl,aj.of (s2 _ _ ht),rfl,_,_,rfl,_,_,rfl,rfl,?_⟩
   refine(er rfl ⟨fa,rfl,⟨ps,ai.of (s2 _ _ hf)⟩,?_⟩)
   refine Yg (xs:=ps) (fun j ys σ H3=> ∃v2 v3,σ=[some (.int a.1),some (.int a.2),v2,v3,some (.ref fa)]/\ag H1 H3/\Paired (ja H3) ys (jk qs i++pairsOf qs a j)/\ys.length<=i*12+j) ⟨_,_,rfl,s2,by simpa[pairsOf] using fQ,gF⟩ (fun i ys σ H2 _ ⟨_,_,_,s2,_⟩=>ai.of (s2 _ _ hf)) ?_ ?_
   ·rintro j v ys σ H3 j8 ⟨v2,v3,rfl,s3,gZ,lO⟩
    obtain⟨b,PD,t',rfl,lJ⟩:=Paired.at pr j8
    have hj:j<ps.length:=(Zad.mp j8).1
    have es:=U4 (a:=a) PD
    refine⟨t',_,rfl,aj.of (s3 _ _ lJ),rfl,_,_,rfl,_,_,rfl,rfl,?_⟩
    refine(er rfl (er rfl ⟨_,_,rfl,rfl,_,rfl,?_⟩))
    cases hh:decide (a.1<b.1) with
    |true=>
     rw[hh]at es
     refine aV ?_
     refine(er rfl (er rfl (er rfl (er rfl ⟨qJ,fun t4 mZ=> ⟨by rw[ZaH];omega,?_⟩⟩))))
     have s4:ag H3 (upd H3 t4 (.tup [.int a.1,.int a.2,.int b.1,.int b.2])):=fun c o hc=>by rw[Zh (Zg hc mZ)];exact hc
     refine⟨_,_,rfl,s3.trans s4,?_,by rw[Zap];simp;omega⟩
     rw[es,ZaY rfl,<-Za3]
     exact Zfm (Paired.dq gZ fun v q' hq=>hq.same s4) ⟨t4,rfl,Ze⟩
    |false=>
     rw[hh]at es
     refine aO ⟨_,_,rfl,s3,?_,.o⟩
     rw[es,ZaK Zaw,ZbT]
     exact gZ
   ·rintro ys σ H3 ⟨v2,v3,rfl,s3,gZ,lO⟩
    refine⟨_,_,_,_,rfl,s3,?_,.o⟩
    rw[U3 PF,<-wk]
    exact gZ
  ·rintro ys σ H2 ⟨v0,v1,v2,v3,rfl,s2,fQ,gF⟩ p hp
   have s4:ag H2 (upd H2 p (.lst ys)):=fun c o hc=>by rw[Zh (Zg hc hp)];exact hc
   refine q p _ ys (s1.trans (s2.trans s4)) ((s1.trans s2).free hp) Ze ?_
   rw[wk]at fQ
   exact Paired.dq fQ fun v q' hq=>hq.same s4
end
section
def mH (xs:List V) (n:Nat):List (Int×Int):=(List.range n).filterMap fun l=> (rowAt xs l).map fun r=> ((l:Int),r)
theorem Jt (xs:List V) (n:Nat):mH xs (n+1)=mH xs n++((rowAt xs n).map fun r=> ((n:Int),r)).toList:=by
 unfold mH
 rw[ZeF,List.filterMap_append]
 cases h:rowAt xs n<;>simp[h]
end
section
variable {P:Program}{w:World}{K:ZhQ}{mg:Str->Option Value}{base:Heap}
abbrev uZ:Stmt:=top 28
theorem C1:aZ ["board", "lay"] ["board", "lay"] (ay uZ):=ZL (by decide+kernel)
theorem Nj {f:Addr}{fd:FuncData}(F:aG K "points" "points" uZ f fd) (G:Gs mg) (D1:Def P w K mg base 6 "need_lay" ["board", "lay"] kM):aA P w K mg base aE 7 f fd ["board", "lay"] yl:=by
 refine F.ok C1 (fun vs H Q E h=> ?_) (fun aq A outer s H vs Q E hr h=> ?_)
 ·obtain⟨x,y,wd,hg,xs,rfl,_⟩:=h
  rfl
 ·obtain⟨x,y,wd,hg,xs,rfl,l,q⟩:=h
  refine⟨_,Zc (Zy (Zf D1 hr (Za (pv 0) (Za (pv 1) Zb))))
   (Zi (Zw (Ye ["line", "row"] 2 [] (HZ rfl G.enumerate (Za (pv 1) Zb))
    (fun C s H fp=>show PG (aR _ _ _ C s H fp) _ (iY K 2 (cz (bP 0) (cz (bP 1) iZ))) from Z3 rfl (Zk (pb 0) (Zk (pb 1) ZP)))
    (fun C s H fp=>Yr (YJ (Wp (pv 1)))) (fun C s H fp D=>ZH rfl (Zs (Za (pv 0) (Za (pv 1) Zb))))))),?_⟩
  refine⟨x,rfl,y,rfl,x,y,wd,hg,xs,rfl,l,fun H1 s1=> ?_⟩
  obtain⟨a,rfl,ha⟩:=Zu (l.same s1).2.1
  have hlen:xs.length<=12:=by
   have h1:=l.2.2.len
   have h2:=l.1.2.2.1
   omega
  refine⟨_,rfl,a,rfl,⟨xs,aj.of ha⟩,?_⟩
  refine ZcM (xs:=xs) (fun i ys σ H2=> ∃v0 v1,σ=[v0,v1]/\ag H1 H2/\Paired (tN H2) ys (mH xs i)/\ys.length<=i) ⟨_,_,rfl,ag.refl _,.nil,ZaV _⟩ (fun i ys σ H2 _ ⟨_,_,_,s2,_⟩=>aj.of (s2 _ _ ha)) ?_ ?_
  ·rintro i v T ys σ H2 hv hT ⟨v0,v1,rfl,s2,fQ,gF⟩
   have hi:i<xs.length:=(Zad.mp hv).1
   have sT:ag H2 (upd H2 T (.par [.int (i:Int),v])):=fun c o hc=>by rw[Zh (Zg hc hT)];exact hc
   have er:rowAt xs i=oX v:=by unfold rowAt;rw[hv];rfl
   refine⟨T,_,rfl,aj.pe Ze,rfl,_,_,rfl,_,_,rfl,rfl,?_⟩
   refine⟨_,rfl,_,rfl,?_⟩
   generalize FC:upd H2 T (HO.par [V.int (i:Int),v])=H3 at sT
   rcases l.2.2.ok v (ZaX hv) with rfl |⟨r,rfl⟩
   ·refine aO ⟨_,_,rfl,s2.trans sT,?_,.o⟩
    rw[Jt,er]
    exact(by simpa[oX] using Paired.dq fQ fun v q' hq=>hq.same sT)
   ·refine aV ?_
    refine⟨_,rfl,_,rfl,aX,fun t ht=> ⟨by rw[ZaH];omega,?_⟩⟩
    have s4:ag H3 (upd H3 t (.tup [.int (i:Int),.int r])):=fun c o hc=>by rw[Zh (Zg hc ht)];exact hc
    refine⟨_,_,rfl,s2.trans (sT.trans s4),?_,by rw[Zap];simp;omega⟩
    rw[Jt,er]
    exact Zfm (Paired.dq fQ fun v q' hq=>hq.same (sT.trans s4)) ⟨t,rfl,Ze⟩
  ·rintro ys σ H2 ⟨v0,v1,rfl,s2,fQ,gF⟩ p hp
   have s4:ag H2 (upd H2 p (.lst ys)):=fun c o hc=>by rw[Zh (Zg hc hp)];exact hc
   exact q p _ ys (s1.trans (s2.trans s4)) ((s1.trans s2).free hp) Ze (Paired.dq fQ fun v q' hq=>hq.same s4)
end
end U.S
namespace U.S
open PySem L2 PyProof.Rows PyProof.Rows.fO
section
def eG (p:aS):aS:=(p.2.2.1 - p.1,p.2.2.2 - p.2.1,p.1,p.2.2.1)
def oa (ks:List aS):Prop:=(ks.map br).Pairwise fun a b=>aK b a=false
theorem qo.same {H H':Hp}{v:V}{q:aS}(h:qo H v q) (s:ag H H'):qo H' v q:=by
 obtain⟨t,t',e,h1,h2⟩:=h
 exact⟨t,t',e,s _ _ h1,s _ _ h2⟩
theorem Xu (xs:List V):(bq xs).length<=xs.length:=by
 unfold bq
 have:=List.length_filterMap_le (fun l:Nat=> (rowAt xs l).map fun r=> ((l:Int),r)) (List.range xs.length)
 rw[Zcb]at this
 exact this
theorem IT {α β:Type}(f:α->List β) (n:Nat):∀l:List α,(∀a∈l,(f a).length<=n)->(l.flatMap f).length<=l.length*n
 | [],_=>by simp
 |a::l,h=>by
  have h1:=h a Zas
  have h2:=IT f n l fun b hb=>h b (Zan _ hb)
  rw[List.flatMap_cons,Zap,Zbz,Nat.succ_mul]
  omega
theorem ZcE (ps:List (Int×Int)):(dR ps).length<=ps.length*ps.length:=by
 unfold dR jk
 rw[Zb2]
 refine IT _ _ _ fun a _=> ?_
 unfold pairsOf
 rw[Zar]
 refine Zcd (List.length_filter_le ..) ?_
 rw[ZaS]
 exact Nat.min_le_right ..
theorem Ov {H:Hp}{x y:V}{wd hg:Int}{xs:List V}(l:bB H x y wd hg xs):xs.length<=12:=by
 have h1:=l.2.2.len
 have h2:=l.1.2.2.1
 omega
theorem Dv {H:Hp}{x y:V}{wd hg:Int}{xs:List V}(l:bB H x y wd hg xs):(dR (bq xs)).length<=144:=by
 have h1:=ZcE (bq xs)
 have h2:=Xu xs
 have h3:=Ov l
 have h4:(bq xs).length<=12:=.o
 have h5:=Nat.mul_le_mul h4 h4
 omega
end
section
variable {P:Program}{w:World}{K:ZhQ}{mg:Str->Option Value}{base:Heap}
abbrev uX:Stmt:=top 31
def yg:Sp:=fun vs H Q _=> ∃x y wd hg xs,vs=[x,y]/\bB H x y wd hg xs/\∀(l:Addr) (H':Hp) (rs:List V) (ks:List aS),ag H H'->H l=none->H' l=some (.lst rs)->Paired (qo H') rs ks->ks.Perm ((dR (bq xs)).map eG)->oa ks->Q (.ref l) H'
theorem CZ:aZ ["board", "lay"] ["board", "lay"] (ay uX):=ZL (by decide+kernel)
theorem Nh {f:Addr}{fd:FuncData}(F:aG K "steps" "steps" uX f fd) (G:Gs mg) (D1:Def P w K mg base 8 "point_pairs" ["board", "lay"] ym):aA P w K mg base aE 9 f fd ["board", "lay"] yg:=by
 refine F.ok CZ (fun vs H Q E h=> ?_) (fun aq A outer s H vs Q E hr h=> ?_)
 ·obtain⟨x,y,wd,hg,xs,rfl,_⟩:=h
  rfl
 ·obtain⟨x,y,wd,hg,xs,rfl,l,q⟩:=h
  have hu:=hr.units
  refine⟨_,Zi (Zw (Zn (JV (Zet (Nat.add_le_add_left (by decide:2<=64) _) hu)) rfl G.sorted PyProof.Rows.Boot.«sorted» (Za (Ye ["line", "row", "other", "there"] 4 [] (Ys (Zf D1 hr (Za (pv 0) (Za (pv 1) Zb))))
    (fun C s H fp=>show PG (aR _ _ _ C s H fp) _ (iY K 4 (cz (bP 0) (cz (bP 1) (cz (bP 2) (cz (bP 3) iZ))))) from Z3 rfl (Zk (pb 0) (Zk (pb 1) (Zk (pb 2) (Zk (pb 3) ZP))))) (fun C s H fp=>Ya)
    (fun C s H fp D=>ZH rfl (Zs (Za (Zs (Za (Zm ZU (pv 2) (pv 0)) (Za (Zm ZU (pv 3) (pv 1)) Zb))) (Za (pv 0) (Za (pv 2) Zb)))))) Zb))),?_⟩
  refine⟨x,rfl,y,rfl,x,y,wd,hg,xs,rfl,l,fun fa H1 ps s1 eW hf pr=> ?_⟩
  have hlen:=Dv l
  generalize Ez:dR (bq xs)=qs at pr q hlen
  have wk:ps.length=qs.length:=Zcf pr
  refine⟨fa,rfl,⟨ps,ai.of hf⟩,?_⟩
  refine Yg (xs:=ps) (fun i ys σ H2=> ∃v0 v1 v2 v3,σ=[v0,v1,v2,v3]/\ag H1 H2/\Paired (qo H2) ys ((qs.take i).map eG)/\ys.length<=i) ⟨_,_,_,_,rfl,ag.refl _,.nil,ZaV _⟩ (fun i ys σ H2 _ ⟨_,_,_,_,_,s2,_⟩=>ai.of (s2 _ _ hf)) ?_ ?_
  ·rintro i v ys σ H2 hv ⟨v0,v1,v2,v3,rfl,s2,fQ,gF⟩
   obtain⟨⟨a,b,c,d⟩,hq,tt,rfl,vX⟩:=Jn pr hv
   have hi:i<ps.length:=(Zad.mp hv).1
   refine⟨tt,_,rfl,aj.of (s2 _ _ vX),rfl,_,_,rfl,_,_,rfl,_,_,rfl,_,_,rfl,rfl,?_⟩
   refine(er rfl (er rfl ⟨c,a,rfl,rfl,_,rfl,_,rfl,d,b,rfl,rfl,aX,fun t' lJ=> ?_⟩))
   refine(er rfl (er rfl ⟨yd,fun t ht=> ⟨by rw[ZaH];omega,?_⟩⟩))
   generalize AZ:upd H2 t' (HO.tup [V.int (c - a),V.int (d - b)])=H4 at ht
   have s4:ag H2 H4:=fun e o hc=>by rw[<-AZ,Zh (Zg hc lJ)];exact hc
   have mZ:H4 t'=some (.tup [V.int (c - a),V.int (d - b)]):=by rw[<-AZ];exact Ze
   generalize sV:upd H4 t (HO.tup [V.ref t',V.int a,V.int c])=H5
   have s5:ag H4 H5:=fun e o hc=>by rw[<-sV,Zh (Zg hc ht)];exact hc
   have Pk:H5 t=some (.tup [V.ref t',V.int a,V.int c]):=by rw[<-sV];exact Ze
   refine⟨_,_,_,_,rfl,s2.trans (s4.trans s5),?_,by rw[Zap];simp;omega⟩
   rw[ZbO,hq,ZbA]
   exact Zfm (Paired.dq fQ fun v q' hq=>hq.same (s4.trans s5)) ⟨t,t',rfl,Pk,s5 _ _ mZ⟩
  ·rintro ys σ H2 ⟨v0,v1,v2,v3,rfl,s2,fQ,gF⟩ p hp
   have s4:ag H2 (upd H2 p (.lst ys)):=fun c o hc=>by rw[Zh (Zg hc hp)];exact hc
   rw[wk,Zb2]at fQ
   refine⟨p,ys,qs.map eG,rfl,ai.of Ze,Paired.dq fQ fun v q' hq=>hq.same s4,.o,fun r oE rK Ew PL PH gZ=> ?_⟩
   have s5:ag (upd H2 p (.lst ys)) (upd (upd H2 p (.lst ys)) r (.lst oE)):=fun c o hc=>by rw[Zh (Zg hc Ew)];exact hc
   exact q r _ oE rK (s1.trans (s2.trans (s4.trans s5))) ((s1.trans (s2.trans s4)).free Ew) Ze (Paired.dq gZ fun v q' hq=>qo.same hq s5) PL PH
end
section
theorem Je (a b:Int) (l m:List Int):aK (a::l) (b::m)=true↔a<b∨(a=b/\aK l m=true):=by
 have z:aK (a::l) (b::m)=if a=b then aK l m else decide (a<b):=rfl
 rw[z]
 by_cases e:a=b
 ·rw[ZaY e]
  constructor
  ·exact fun h=> .inr ⟨e,h⟩
  ·rintro(h |h)
   ·omega
   ·exact h.2
 ·rw[ZaK e,Zb5]
  constructor
  ·exact fun h=> .inl h
  ·rintro(h |h)
   ·exact h
   ·exact absurd h.1 e
theorem JM:aK [] []=true↔False:=by simp[aK]
def dk (a b:aS):Prop:=a.1=b.1/\a.2.1=b.2.1
instance (a b:aS):Decidable (dk a b):=inferInstanceAs (Decidable (_/\_))
def four (a b:aS):aS:=(a.2.2.1,a.2.2.2,b.2.2.1,b.2.2.2)
def g9 (a b:aS):Bool:=aK [a.2.2.1,a.2.2.2] [b.2.2.1,b.2.2.2]
def mh (S:List aS):Option aS->Prop
 |none=> ∀a∈S,∀b∈S,dk a b->g9 a b=false
 |some k=> (∃a∈S,∃b∈S,dk a b/\g9 a b=true/\k=four a b)/\∀a∈S,∀b∈S,dk a b->g9 a b=true->aK (br (four a b)) (br k)=false
def md (ks:List aS):List (aS×aS):=ks.zip (ks.drop 1)
def iI (ks:List aS):List aS:=((md ks).filter fun p=>decide (dk p.1 p.2)).map fun p=>four p.1 p.2
theorem nf {b:Bool} :b=false↔¬b=true:=by cases b<;>simp
theorem lx {a b:Int}{p:Prop}(h:¬(a<b∨a=b/\p)):b<=a/\(a=b->¬p):=⟨Int.not_lt.mp fun z=>h (.inl z),fun e q=>h (.inr ⟨e,q⟩)⟩
theorem mid {h d b:aS}(h1:aK (br d) (br h)=false) (h2:aK (br b) (br d)=false) (s:dk h b):dk h d/\aK (br (four h b)) (br (four h d))=false:=by
 unfold br at *
 unfold dk at *
 unfold four
 rw[nf]at *
 simp only[Je,JM,and_false,Zdo,false_or]at *
 obtain⟨u1,v1⟩:=lx h1
 obtain⟨u2,v2⟩:=lx h2
 have e1:=Int.le_antisymm (by rw[s.1];exact u2) u1
 obtain⟨u3,v3⟩:=lx (v1 e1)
 obtain⟨u4,v4⟩:=lx (v2 (s.1.symm.trans e1.symm))
 have e2:=Int.le_antisymm (by rw[s.2];exact u4) u3
 refine⟨⟨e1.symm,e2.symm⟩,?_⟩
 rintro(z |⟨_,z |⟨_,z⟩⟩)
 ·exact Int.lt_irrefl _ z
 ·exact Int.lt_irrefl _ z
 ·exact v4 (s.2.symm.trans e2.symm) z
theorem G9 {a b:aS}(s:dk a b):aK (br a) (br b)=true↔g9 a b=true:=by
 unfold br g9 dk at *
 simp only[Je,JM,and_false,Zdo]at *
 omega
theorem Ha {ks:List aS}(hr:oa ks):∀a∈ks,∀b∈ks,dk a b->g9 a b=true->∃p∈md ks,dk p.1 p.2/\aK (br (four a b)) (br (four p.1 p.2))=false:=by
 induction ks with
 |nil=>intro a ha;cases ha
 |cons h r ih=>
  have cO:oa r:=(ZbU.mp hr).2
  have hh:∀d∈r,aK (br d) (br h)=false:=fun d hd=> (ZbU.mp hr).1 _ (Zel hd)
  intro a ha b hb s l
  have kl:=(G9 s).mpr l
  rcases Zao.mp ha with rfl |AV
  ·have cw:b∈r:=by
    rcases Zao.mp hb with rfl |hb
    ·have:=YR _ _ kl
     rw[kl]at this;cases this
    ·exact hb
   cases r with
   |nil=>cases cw
   |cons d r'=>
    have gG:aK (br b) (br d)=false:=by
     rcases Zao.mp cw with rfl |ki
     ·cases hx:aK (br b) (br b) with
      |false=>rfl
      |true=>
       have:=YR _ _ hx
       rw[hx]at this;cases this
     ·exact(ZbU.mp cO).1 _ (Zel ki)
    obtain⟨m1,m2⟩:=mid (hh d Zas) gG s
    exact⟨(a,d),Zas,m1,m2⟩
  ·have cw:b∈r:=by
    rcases Zao.mp hb with rfl |hb
    ·have:=hh a AV
     rw[kl]at this;cases this
    ·exact hb
   obtain⟨p,hp,q1,q2⟩:=ih cO a AV b cw s l
   refine⟨p,?_,q1,q2⟩
   cases r with
   |nil=>cases AV
   |cons d r'=>exact Zan _ hp
theorem VX {ks:List aS}(hr:oa ks) (hn:ks.Nodup):∀p∈md ks,dk p.1 p.2->p.1∈ks/\p.2∈ks/\g9 p.1 p.2=true:=by
 induction ks with
 |nil=>intro p hp;cases hp
 |cons h r ih=>
  have cO:oa r:=(ZbU.mp hr).2
  have hh:∀d∈r,aK (br d) (br h)=false:=fun d hd=> (ZbU.mp hr).1 _ (Zel hd)
  have rZ:=(Zdu.mp hn)
  intro p hp s
  cases r with
  |nil=>cases hp
  |cons d r'=>
   rcases Zao.mp (show p∈(h,d)::md (d::r') from hp) with rfl |hp
   ·refine⟨Zas,Zan _ Zas,(G9 s).mp ?_⟩
    cases hx:aK (br h) (br d) with
    |true=>rfl
    |false=>
     have e:=Xi (Iy _ _ hx (hh d Zas))
     rw[e]at rZ
     exact absurd Zas rZ.1
   ·obtain⟨q1,q2,q3⟩:=ih cO rZ.2 p hp s
    exact⟨Zan _ q1,Zan _ q2,q3⟩
theorem J9 {ks:List aS}{k:aS} :k∈iI ks↔∃p∈md ks,dk p.1 p.2/\four p.1 p.2=k:=by
 unfold iI
 rw[ZbF]
 constructor
 ·rintro⟨p,hp,e⟩
  rw[ZbM,Zb5]at hp
  exact⟨p,hp.1,hp.2,e⟩
 ·rintro⟨p,hp,s,e⟩
  exact⟨p,ZbM.mpr ⟨hp,ZaR s⟩,e⟩
theorem Zbp {ks:List aS}(hr:oa ks) (h:iI ks=[]):mh ks none:=fun a ha b hb s=>by
 cases hl:g9 a b with
 |false=>rfl
 |true=>
  obtain⟨p,hp,q,_⟩:=Ha hr a ha b hb s hl
  have:four p.1 p.2∈iI ks:=J9.mpr ⟨p,hp,q,rfl⟩
  rw[h]at this;cases this
theorem Zbo {ks:List aS}(hr:oa ks) (hn:ks.Nodup) {k:aS}(hk:k∈iI ks) (hm:∀k'∈iI ks,aK (br k') (br k)=false):mh ks (some k):=by
 obtain⟨p,hp,s,e⟩:=J9.mp hk
 obtain⟨m1,m2,m3⟩:=VX hr hn p hp s
 refine⟨⟨p.1,m1,p.2,m2,s,m3,e.symm⟩,fun a ha b hb s' l=> ?_⟩
 obtain⟨p',Al,q1,q2⟩:=Ha hr a ha b hb s' l
 exact Y5 _ _ _ (hm _ (J9.mpr ⟨p',Al,q1,rfl⟩)) q2
def Cb (xs:List V) (q:aS):Prop:=∃l o:Nat,l<o/\o<xs.length/\uD xs o l=some q
theorem Yu {xs:List V}{p:Int×Int} :p∈bq xs↔∃l:Nat,l<xs.length/\rowAt xs l=some p.2/\p.1=(l:Int):=by
 unfold bq
 rw[Zcg]
 constructor
 ·rintro⟨l,hl,e⟩
  rw[Zbk]at e
  obtain⟨r,hr,rfl⟩:=e
  exact⟨l,Zbr.mp hl,hr,rfl⟩
 ·rintro⟨l,hl,hr,e⟩
  refine⟨l,Zbr.mpr hl,?_⟩
  rw[hr,Ze4,<-e]
theorem XO {xs:List V}{q:aS} :q∈hJ xs xs.length↔Cb xs q:=by
 unfold hJ uB Cb
 simp only[ZeT,Zcg,Zbr]
 constructor
 ·rintro⟨o,ho,l,hl,e⟩
  exact⟨l,o,hl,ho,e⟩
 ·rintro⟨l,o,hl,ho,e⟩
  exact⟨o,ho,l,hl,e⟩
theorem Yw {xs:List V}{o l:Nat}{q:aS} :uD xs o l=some q↔∃a b,rowAt xs l=some a/\rowAt xs o=some b/\q=((o:Int) - l,b - a,(l:Int),(o:Int)):=by
 unfold uD
 cases h1:rowAt xs l with
 |none=>simp
 |some a=>
  cases h2:rowAt xs o with
  |none=>simp
  |some b=>
   simp only[Option.bind_some,Ze4,Option.some.injEq]
   constructor
   ·rintro rfl
    exact⟨a,b,rfl,rfl,rfl⟩
   ·rintro⟨_,_,rfl,rfl,rfl⟩
    rfl
theorem ZdZ {xs:List V}{q:aS} :q∈(dR (bq xs)).map eG↔Cb xs q:=by
 unfold dR jk
 rw[Zb2]
 simp only[ZbF,ZeT,pairsOf,Zb2,ZbM,Zb5]
 constructor
 ·rintro⟨_,⟨a,ha,b,⟨hb,az⟩,rfl⟩,rfl⟩
  obtain⟨l,hl,hr,e⟩:=Yu.mp ha
  obtain⟨o,ho,cO,e'⟩:=Yu.mp hb
  refine⟨l,o,.o,ho,Yw.mpr ⟨a.2,b.2,hr,cO,?_⟩⟩
  unfold eG
  rw[e,e']
 ·rintro⟨l,o,hl,ho,e⟩
  obtain⟨a,b,h1,h2,rfl⟩:=Yw.mp e
  exact⟨((l:Int),a,(o:Int),b),⟨((l:Int),a),Yu.mpr ⟨l,.o,h1,rfl⟩,((o:Int),b),⟨Yu.mpr ⟨o,ho,h2,rfl⟩,by show(l:Int)< (o:Int);omega⟩,rfl⟩,rfl⟩
theorem Uz (xs:List V) (n:Nat):(hJ xs n).Nodup:=by
 unfold hJ
 rw[ZbD,List.pairwise_flatMap]
 refine⟨fun o _=> ?_,?_⟩
 ·unfold uB
  rw[ZeO]
  refine Zdm ?_ (ZbD.mp Zeq)
  intro l l' cP q hq q' dW e
  obtain⟨_,_,_,_,rfl⟩:=Yw.mp hq
  obtain⟨_,_,_,_,rfl⟩:=Yw.mp dW
  simp only[Prod.mk.injEq]at e
  omega
 ·refine Zdm ?_ (ZbD.mp Zeq)
  intro o o' cP q hq q' dW e
  unfold uB at hq dW
  rw[Zcg]at hq dW
  obtain⟨l,_,hq⟩:=hq
  obtain⟨l',_,dW⟩:=dW
  obtain⟨_,_,_,_,rfl⟩:=Yw.mp hq
  obtain⟨_,_,_,_,rfl⟩:=Yw.mp dW
  simp only[Prod.mk.injEq]at e
  omega
theorem Hb (xs:List V):(bq xs).Pairwise fun a b=>a.1≠b.1:=by
 unfold bq
 rw[ZeO]
 refine Zdm ?_ (ZbD.mp Zeq)
 intro l l' cP q hq q' dW
 rw[Zbk]at hq dW
 obtain⟨_,_,rfl⟩:=hq
 obtain⟨_,_,rfl⟩:=dW
 show(l:Int)≠(l':Int)
 omega
theorem WF (xs:List V):((dR (bq xs)).map eG).Nodup:=by
 unfold dR jk
 rw[Zb2,ZbD,Zdl,List.pairwise_flatMap]
 refine⟨fun a _=> ?_,?_⟩
 ·unfold pairsOf
  rw[Zb2,Zdl]
  refine Zdm ?_ ((Hb xs).filter _)
  intro b b' cP e
  unfold eG at e
  simp only[Prod.mk.injEq]at e
  exact cP e.2.2.2
 ·refine Zdm ?_ (Hb xs)
  intro a a' cP q hq q' dW e
  unfold pairsOf at hq dW
  rw[ZbF]at hq dW
  obtain⟨b,_,rfl⟩:=hq
  obtain⟨b',_,rfl⟩:=dW
  unfold eG at e
  simp only[Prod.mk.injEq]at e
  exact cP e.2.2.1
theorem Yx (xs:List V):((dR (bq xs)).map eG).Perm (hJ xs xs.length):=
 (Zeo (WF xs) (Uz xs _)).mpr fun q=>ZdZ.trans XO.symm
theorem Tg (vs:List V):cI vs (some 1) none=vs.drop 1:=by
 unfold cI HT.aJ
 cases vs with
 |nil=>rfl
 |cons a r=>simp
def pB (ks:List aS) (i:Nat):List aS:=(((md ks).take i).filter fun p=>decide (dk p.1 p.2)).map fun p=>four p.1 p.2
theorem Zac {ks:List aS}{i:Nat}{a b:aS}(h1:ks[i]? =some a) (h2:(ks.drop 1)[i]? =some b):pB ks (i+1)=pB ks i++(if decide (dk a b)=true then [four a b] else []):=by
 have e:(md ks)[i]? =some (a,b):=List.getElem?_zip_eq_some.mpr ⟨h1,h2⟩
 unfold pB
 rw[ZbO,e,Zey,ZbA]
 by_cases h:dk a b<;>simp[h]
def aag (H:Hp) (v:V):Option aS->Prop
 |none=>v=.ah
 |some k=>ja H v k
end
section
variable {P:Program}{w:World}{K:ZhQ}{mg:Str->Option Value}{base:Heap}
abbrev vi:Stmt:=top 32
def yG:Sp:=fun vs H Q _=> ∃x y wd hg xs,vs=[x,y]/\bB H x y wd hg xs/\∀(H':Hp) (v:V) (r:Option aS),ag H H'->mh (hJ xs xs.length) r->aag H' v r->Q v H'
theorem rf:aZ ["board", "lay", "told", "likes"] ["board", "lay"] (ay vi):=ZL (by decide+kernel)
theorem Ny {f:Addr}{fd:FuncData}(F:aG K "first_like" "first_like" vi f fd) (G:Gs mg) (D1:Def P w K mg base 9 "steps" ["board", "lay"] yg):aA P w K mg base aE 10 f fd ["board", "lay"] yG:=by
 refine F.ok rf (fun vs H Q E h=> ?_) (fun aq A outer s H vs Q E hr h=> ?_)
 ·obtain⟨x,y,wd,hg,xs,rfl,_⟩:=h
  rfl
 ·obtain⟨x,y,wd,hg,xs,rfl,l,q⟩:=h
  have hu:=xn hr
  refine⟨_,Zc (Zx (i:=2) rf.nd rfl (Or.inl rfl) (Zf D1 hr (Za (pv 0) (Za (pv 1) Zb))))
   (Zc (Jc ["step", "line", "other", "beside", "here", "there"] 6 [] (i:=3) rf.nd rfl (Or.inl rfl) (Ia rfl G.zip (Za (pv 2) (Za (Yy Io (pv 2) (YV Zd) YW) Zb)))
    (fun C s H fp=>show PG (aR _ _ _ C s H fp) _ (iY K 2 (cz (iY K 3 (cz (bP 0) (cz (bP 1) (cz (bP 2) iZ)))) (cz (iY K 3 (cz (bP 3) (cz (bP 4) (cz (bP 5) iZ)))) iZ))) from
     Z3 rfl (Zk (Z3 rfl (Zk (pb 0) (Zk (pb 1) (Zk (pb 2) ZP)))) (Zk (Z3 rfl (Zk (pb 3) (Zk (pb 4) (Zk (pb 5) ZP)))) ZP)))
    (fun C s H fp=>Yr (ZM (show bg (aR _ _ _ C s H fp) (compareOp .Eq) (fun x y H Q=> ∃(a b:Addr) (ns ms:List Int),x=.ref a/\y=.ref b/\aj K H a (ns.map V.int)/\aj K H b (ms.map V.int)/\Q (.bl (decide (ns=ms))) H) from HV hr.xP) (pv 0) (pv 3) (bF _)))
    (fun C s H fp D=>ZH rfl (Zs (Za (pv 1) (Za (pv 2) (Za (pv 4) (Za (pv 5) Zb)))))))
   (Zi (Zw (Xq rfl hu rfl G.min (pv 3))))),?_⟩
  refine⟨x,rfl,y,rfl,x,y,wd,hg,xs,rfl,l,fun fa H1 ps ks s1 eW hf pr perm rise=> ?_⟩
  have P8:ps.length=ks.length:=Zcf pr
  have hlen:ks.length<=144:=by
   rw[perm.length_eq,Zar]
   exact Dv l
  refine(er rfl (er rfl (er rfl ⟨fa,ps,rfl,ai.of hf,fun c hc=> ?_⟩)))
  generalize kj:upd H1 c (HO.lst (cI ps (some 1) none))=H2
  have s2:ag H1 H2:=fun b o hb=>by rw[<-kj,Zh (Zg hb hc)];exact hb
  have iT:H2 c=some (.lst (ps.drop 1)):=by rw[<-kj,Tg];exact Ze
  have lQ:=s2 _ _ hf
  refine⟨fa,c,rfl,⟨_,_,ai.of lQ,ai.of iT⟩,?_⟩
  refine UC (xs:=ps) (zs:=ps.drop 1) (fun i ys σ H3=> ∃v0 v1 v2 v3 v4 v5,σ=[v0,v1,v2,v3,v4,v5]/\ag H2 H3/\Paired (ja H3) ys (pB ks i)/\ys.length<=i) ⟨_,_,_,_,_,_,rfl,ag.refl _,.nil,ZaV _⟩
   (fun i ys σ H3 _ ⟨_,_,_,_,_,_,_,s3,_⟩=> ⟨ai.of (s3 _ _ lQ),ai.of (s3 _ _ iT)⟩) ?_ ?_
  ·rintro i va vb T ys σ H3 Em O2 hT ⟨v0,v1,v2,v3,v4,v5,rfl,s3,gZ,lO⟩
   have hi:i<ps.length:=(Zad.mp Em).1
   obtain⟨a,nB,ta,K9,rfl,Pf,Pe⟩:=Jn pr Em
   have O1:ps[1+i]? =some vb:=by rw[<-ZdD];exact O2
   obtain⟨b,nA,tb,K6,rfl,rQ,Pb⟩:=Jn pr O1
   have Ax:(ks.drop 1)[i]? =some b:=by rw[ZdD];exact nA
   have es:=Zac nB Ax
   have sT:ag H3 (upd H3 T (.par [.ref ta,.ref tb])):=fun e o hc=>by rw[Zh (Zg hc hT)];exact hc
   have sA:ag H1 (upd H3 T (.par [.ref ta,.ref tb])):=s2.trans (s3.trans sT)
   refine⟨T,_,rfl,aj.pe Ze,rfl,_,_,rfl,ta,_,rfl,aj.of (sA _ _ Pf),rfl,_,_,rfl,_,_,rfl,_,_,rfl,rfl,_,_,rfl,tb,_,rfl,aj.of (sA _ _ rQ),rfl,_,_,rfl,_,_,rfl,_,_,rfl,rfl,rfl,?_⟩
   generalize AZ:upd H3 T (HO.par [V.ref ta,V.ref tb])=H4 at sT sA
   refine(er rfl (er rfl ⟨K9,K6,[a.1,a.2.1],[b.1,b.2.1],rfl,rfl,aj.of (sA _ _ Pe),aj.of (sA _ _ Pb),_,rfl,?_⟩))
   by_cases hs:dk a b
   ·rw[ZaR hs,ZaY rfl]at es
    have ed:decide ([a.1,a.2.1]=[b.1,b.2.1])=true:=ZaR (by rw[hs.1,hs.2])
    rw[ed]
    refine aV ?_
    refine(er rfl (er rfl (er rfl (er rfl ⟨qJ,fun t4 mZ=> ⟨by rw[ZaH];omega,?_⟩⟩))))
    generalize sV:upd H4 t4 (HO.tup [V.int a.2.2.1,V.int a.2.2.2,V.int b.2.2.1,V.int b.2.2.2])=H5
    have s5:ag H4 H5:=fun e o hc=>by rw[<-sV,Zh (Zg hc mZ)];exact hc
    refine⟨_,_,_,_,_,_,rfl,s3.trans (sT.trans s5),?_,by rw[Zap];simp;omega⟩
    rw[es]
    exact Zfm (Paired.dq gZ fun v q' hq=>hq.same (sT.trans s5)) ⟨t4,rfl,by rw[<-sV];exact Ze⟩
   ·rw[ZaA hs,ZaK Zaw,ZbT]at es
    have ed:decide ([a.1,a.2.1]=[b.1,b.2.1])=false:=ZaA (fun e=>hs (by simp only[List.cons.injEq,and_true]at e;exact e))
    rw[ed]
    refine aO ⟨_,_,_,_,_,_,rfl,s3.trans sT,?_,.o⟩
    rw[es]
    exact Paired.dq gZ fun v q' hq=>hq.same sT
  ·rintro ys σ H3 ⟨v0,v1,v2,v3,v4,v5,rfl,s3,gZ,lO⟩ p hp
   have s4:ag H3 (upd H3 p (.lst ys)):=fun e o hc=>by rw[Zh (Zg hc hp)];exact hc
   have et:pB ks (min ps.length (ps.drop 1).length)=iI ks:=by
    unfold pB iI
    rw[ZbZ]
    unfold md
    rw[List.length_zip,ZbB,ZbB,P8]
    exact Zae _
   rw[et]at gZ
   have kU:Paired (ja (upd H3 p (.lst ys))) ys (iI ks):=Paired.dq gZ fun v q' hq=>hq.same s4
   have sA:ag H (upd H3 p (.lst ys)):=s1.trans (s2.trans (s3.trans s4))
   have ck:∀z,z∈ks↔z∈hJ xs xs.length:=fun z=> (perm.trans (Yx xs)).mem_iff
   have jq:ks.Nodup:=(perm.trans (Yx xs)).nodup_iff.mpr (Uz xs _)
   have conv:∀r,mh ks r->mh (hJ xs xs.length) r:=fun r hr=>by
    cases r with
    |none=>exact fun a ha b hb s=>hr a ((ck a).mpr ha) b ((ck b).mpr hb) s
    |some k=>
     obtain⟨⟨a,ha,b,hb,w⟩,h2⟩:=hr
     exact⟨⟨a,(ck a).mp ha,b,(ck b).mp hb,w⟩,fun a ha b hb s l=>h2 a ((ck a).mpr ha) b ((ck b).mpr hb) s l⟩
   refine(er rfl ⟨p,ys,(iI ks).map br,rfl,ai.of Ze,?_,fun e=> ?_,fun v k hv hk pI P2=> ?_⟩)
   ·have:∀{ys:List V}{ls:List aS},Paired (ja (upd H3 p (.lst ys))) ys ls->Paired (dc (upd H3 p (.lst ys))) ys (ls.map br):=by
     intro ys ls h
     generalize (upd H3 p (.lst ys))=H9 at h
     induction h with
     |nil=>exact .nil
     |cons h1 _ ih=>exact .cons h1 ih
    exact this kU
   ·subst e
    have el:iI ks=[]:=by
     have:=Zcf kU
     exact List.length_eq_zero_iff.mp this.symm
    exact q _ .ah none sA (conv _ (Zbp rise el)) rfl
   ·obtain⟨k4,Ay,rfl⟩:=ZbF.mp hk
    exact q _ v (some k4) sA (conv _ (Zbo rise jq Ay fun k' aP=>P2 _ (Zel aP))) pI
abbrev uW:Stmt:=top 33
def oJ:Sp:=fun vs H Q _=> ∃x y wd hg xs,vs=[x,y]/\bB H x y wd hg xs/\∀(H':Hp) (r:Option aS),ag H H'->mh (hJ xs xs.length) r->Q (.bl r.isNone) H'
theorem CY:aZ ["board", "lay"] ["board", "lay"] (ay uW):=ZL (by decide+kernel)
theorem Nf {f:Addr}{fd:FuncData}(F:aG K "is_unlike" "is_unlike" uW f fd) (D1:Def P w K mg base 10 "first_like" ["board", "lay"] yG):aA P w K mg base aE 11 f fd ["board", "lay"] oJ:=by
 refine F.ok CY (fun vs H Q E h=> ?_) (fun aq A outer s H vs Q E hr h=> ?_)
 ·obtain⟨x,y,wd,hg,xs,rfl,_⟩:=h
  rfl
 ·obtain⟨x,y,wd,hg,xs,rfl,l,q⟩:=h
  refine⟨_,Zi (Zw (U0 (YL (Zf D1 hr (Za (pv 0) (Za (pv 1) Zb)))))),?_⟩
  refine⟨x,rfl,y,rfl,x,y,wd,hg,xs,rfl,l,fun H1 v r s1 hf ho=> ?_⟩
  have:=q H1 r s1 hf
  cases r with
  |none=>
   have e:v=.ah:=ho
   subst e
   exact this
  |some k=>
   obtain⟨t,rfl,_⟩:=(show ja H1 v k from ho)
   exact this
end
end U.S
namespace U.S
open PySem L2 PyProof.Rows
section
structure Kw (K:ZhQ) (mg:Str->Option Value) (cB cL:Addr):Prop where
 mB:mg "NoBoard" =some (.ref cB)
 xB:PySem.W.excIn K cB tF "ValueError.__new__" =true
 mL:mg "NoLay" =some (.ref cL)
 xL:PySem.W.excIn K cL tF "ValueError.__new__" =true
def KI (K:ZhQ) (cB cL:Addr) (H:Hp) (x y:V) (C:Addr):Prop:=
 (C=cB/\iD K H x)∨(C=cL/\∃wd hg,bR H x wd hg/\eC K H y/\bw wd hg (bj H y)=false)
end
section
variable {P:Program}{w:World}{K:ZhQ}{mg:Str->Option Value}{base:Heap}{cB cL:Addr}
def dN (K:ZhQ) (cB cL:Addr):Sp:=fun vs H _ E=> ∃x y C,vs=[x,y]/\KI K cB cL H x y C/\∀e H',ag H H'->E (.ref e) (some C) H'
theorem zB {f:Addr}{fd:FuncData}(F:aG K "need_lay" "need_lay" kP f fd) (X:Kw K mg cB cL) (D1:aW P w K mg base 5 "is_lay" ["board", "thing"] (uM K cB)) (D2:Def P w K mg base 5 "is_lay" ["board", "thing"] (oN K)):
  aA P w K mg base (aC P w) 6 f fd ["board", "lay"] (dN K cB cL):=by
 refine F.fk qZ (fun vs H Q E h=> ?_) (fun aq A outer s H vs Q E hr h=> ?_)
 ·obtain⟨x,y,C,rfl,_⟩:=h
  rfl
 ·obtain⟨x,y,C,rfl,b,q⟩:=h
  rcases b with ⟨rfl,b⟩ |⟨rfl,wd,hg,b1,b2,b3⟩
  ·refine⟨_,Zi (ZO (Z0 (ZK (ZX D1 hr (Za (pv 0) (Za (pv 1) Zb))))) Zr Zv),?_⟩
   exact⟨x,rfl,y,rfl,x,y,rfl,b,q⟩
  ·refine⟨_,Zi (ZO (Z0 (ZK (Zf D2 hr (Za (pv 0) (Za (pv 1) Zb))))) (Zi (YO Zdc X.mL X.xL rfl (Za ZS Zb))) Zv),?_⟩
   refine⟨x,rfl,y,rfl,x,y,wd,hg,rfl,b1,b2,fun H' sm=> (er rfl (?_))⟩
   rw[b3]
   exact aV ⟨bO,fun e=>q e H' sm⟩
theorem Ni {f:Addr}{fd:FuncData}(F:aG K "points" "points" uZ f fd) (D1:aW P w K mg base 6 "need_lay" ["board", "lay"] (dN K cB cL)):aA P w K mg base (aC P w) 7 f fd ["board", "lay"] (dN K cB cL):=by
 refine F.fk C1 (fun vs H Q E h=> ?_) (fun aq A outer s H vs Q E hr h=> ?_)
 ·obtain⟨x,y,C,rfl,_⟩:=h
  rfl
 ·obtain⟨x,y,C,rfl,b,q⟩:=h
  refine⟨_,Zc (Zy (ZX D1 hr (Za (pv 0) (Za (pv 1) Zb)))) Zr,?_⟩
  exact⟨x,rfl,y,rfl,x,y,C,rfl,b,q⟩
theorem Nk {f:Addr}{fd:FuncData}(F:aG K "point_pairs" "point_pairs" u5 f fd) (D1:aW P w K mg base 7 "points" ["board", "lay"] (dN K cB cL)):aA P w K mg base (aC P w) 8 f fd ["board", "lay"] (dN K cB cL):=by
 refine F.fk uT (fun vs H Q E h=> ?_) (fun aq A outer s H vs Q E hr h=> ?_)
 ·obtain⟨x,y,C,rfl,_⟩:=h
  rfl
 ·obtain⟨x,y,C,rfl,b,q⟩:=h
  refine⟨_,Zc (Zx (i:=2) uT.nd rfl (Or.inr rfl) (ZX D1 hr (Za (pv 0) (Za (pv 1) Zb)))) Zr,?_⟩
  exact⟨x,rfl,y,rfl,x,y,C,rfl,b,q⟩
end
end U.S
namespace U.S
open PySem L2 PyProof.Rows PyProof.Rows.fO
section
variable {P:Program}{w:World}{K:ZhQ}{mg:Str->Option Value}{base:Heap}{cB cL:Addr}
theorem Ng {f:Addr}{fd:FuncData}(F:aG K "steps" "steps" uX f fd) (G:Gs mg) (D1:aW P w K mg base 8 "point_pairs" ["board", "lay"] (dN K cB cL)):aA P w K mg base (aC P w) 9 f fd ["board", "lay"] (dN K cB cL):=by
 refine F.fk CZ (fun vs H Q E h=> ?_) (fun aq A outer s H vs Q E hr h=> ?_)
 ·obtain⟨x,y,C,rfl,_⟩:=h
  rfl
 ·obtain⟨x,y,C,rfl,b,q⟩:=h
  have hu:=hr.units
  refine⟨_,Zi (Zw (Zn (JV (Zet (Nat.add_le_add_left (by decide:2<=64) _) hu)) rfl G.sorted PyProof.Rows.Boot.«sorted» (Za (Ye ["line", "row", "other", "there"] 4 [] (Ys (ZX D1 hr (Za (pv 0) (Za (pv 1) Zb))))
    (fun C s H fp=>show PG (aR _ _ _ C s H fp) _ (iY K 4 (cz (bP 0) (cz (bP 1) (cz (bP 2) (cz (bP 3) iZ))))) from Z3 rfl (Zk (pb 0) (Zk (pb 1) (Zk (pb 2) (Zk (pb 3) ZP))))) (fun C s H fp=>Ya)
    (fun C s H fp D=>ZH rfl (Zs (Za (Zs (Za (Zm ZU (pv 2) (pv 0)) (Za (Zm ZU (pv 3) (pv 1)) Zb))) (Za (pv 0) (Za (pv 2) Zb)))))) Zb))),?_⟩
  exact⟨x,rfl,y,rfl,x,y,C,rfl,b,q⟩
theorem Nx {f:Addr}{fd:FuncData}(F:aG K "first_like" "first_like" vi f fd) (D1:aW P w K mg base 9 "steps" ["board", "lay"] (dN K cB cL)):aA P w K mg base (aC P w) 10 f fd ["board", "lay"] (dN K cB cL):=by
 refine F.fk rf (fun vs H Q E h=> ?_) (fun aq A outer s H vs Q E hr h=> ?_)
 ·obtain⟨x,y,C,rfl,_⟩:=h
  rfl
 ·obtain⟨x,y,C,rfl,b,q⟩:=h
  refine⟨_,Zc (Zx (i:=2) rf.nd rfl (Or.inl rfl) (ZX D1 hr (Za (pv 0) (Za (pv 1) Zb)))) Zr,?_⟩
  exact⟨x,rfl,y,rfl,x,y,C,rfl,b,q⟩
theorem Nd {f:Addr}{fd:FuncData}(F:aG K "is_unlike" "is_unlike" uW f fd) (D1:aW P w K mg base 10 "first_like" ["board", "lay"] (dN K cB cL)):aA P w K mg base (aC P w) 11 f fd ["board", "lay"] (dN K cB cL):=by
 refine F.fk CY (fun vs H Q E h=> ?_) (fun aq A outer s H vs Q E hr h=> ?_)
 ·obtain⟨x,y,C,rfl,_⟩:=h
  rfl
 ·obtain⟨x,y,C,rfl,b,q⟩:=h
  refine⟨_,Zi (Zw (U0 (YL (ZX D1 hr (Za (pv 0) (Za (pv 1) Zb)))))),?_⟩
  exact⟨x,rfl,y,rfl,x,y,C,rfl,b,q⟩
end
section
theorem Va (xs:List V):(bq xs).Pairwise fun a b=>a.1<b.1:=by
 unfold bq
 refine ZeO.mpr (Zdm ?_ (List.pairwise_lt_range (n:=xs.length)))
 intro a b sP p hp q hq
 obtain⟨r,hr,rfl⟩:=Zbk.mp hp
 obtain⟨r',cO,rfl⟩:=Zbk.mp hq
 show(a:Int)< (b:Int)
 omega
def mJ (ps:List (Int×Int)):List aS:=ps.flatMap fun a=> (ps.filter fun b=>decide (a.1<b.1)).map fun b=> (a.1,a.2,b.1,b.2)
theorem Uw (ps:List (Int×Int)):dR ps=mJ ps:=by
 unfold dR jk mJ pairsOf
 rw[Zb2]
theorem Ue {α β:Type}{f:α->β}{l:List α}(h:l.Nodup):(l.map f).Nodup↔∀a∈l,∀b∈l,f a=f b->a=b:=by
 rw[ZbD,Zdl]
 constructor
 ·intro pw a ha b hb e
  obtain⟨i,hi,rfl⟩:=Zcl ha
  obtain⟨j,hj,rfl⟩:=Zcl hb
  have p:=List.pairwise_iff_getElem.mp pw
  rcases Nat.lt_trichotomy i j with q |q |q
  ·exact absurd e (p i j hi hj q)
  ·subst q;rfl
  ·exact absurd e.symm (p j i hj hi q)
 ·intro inj
  refine List.Pairwise.imp_of_mem ?_ (ZbD.mp h)
  intro a b ha hb ne e
  exact ne (inj a ha b hb e)
theorem ZaB (xs:List V):(dR (bq xs)).Nodup:=by
 have:=WF xs
 rw[ZbD,Zdl]at this
 exact ZbD.mpr (Zdm (fun h e=>h (by rw[e])) this)
theorem HY {xs:List V}{p:aS} :p∈dR (bq xs)↔∃l o:Nat,l<o/\o<xs.length/\∃a b,rowAt xs l=some a/\rowAt xs o=some b/\p=((l:Int),a,(o:Int),b):=by
 rw[Uw]
 unfold mJ
 rw[ZeT]
 constructor
 ·rintro⟨a,ha,hq⟩
  obtain⟨b,hb,rfl⟩:=ZbF.mp hq
  obtain⟨dj,ki⟩:=ZbM.mp hb
  obtain⟨l,hl,hr,e⟩:=Yu.mp ha
  obtain⟨o,ho,cO,e'⟩:=Yu.mp dj
  have:=Zdh ki
  refine⟨l,o,.o,ho,a.2,b.2,hr,cO,by rw[e,e']⟩
 ·rintro⟨l,o,h1,h2,a,b,h3,h4,rfl⟩
  exact⟨((l:Int),a),Yu.mpr ⟨l,.o,h3,rfl⟩,ZbF.mpr ⟨((o:Int),b),ZbM.mpr ⟨Yu.mpr ⟨o,h2,h4,rfl⟩,ZaR (by show(l:Int)<o;omega)⟩,rfl⟩⟩
def BW (xs:List V):Prop:=∀p∈dR (bq xs),∀q∈dR (bq xs),dk (eG p) (eG q)->p=q
theorem TV {a b:aS}(h:a.2.2.1≠b.2.2.1∨a.2.2.2≠b.2.2.2):g9 a b=true∨g9 b a=true:=by
 unfold g9
 simp only[Je,JM,and_false,Zdo]
 omega
theorem XB {xs:List V}{r:Option aS}(f:mh (hJ xs xs.length) r):r.isNone=true↔BW xs:=by
 have mem:∀{p:aS},p∈dR (bq xs)->eG p∈hJ xs xs.length:=fun hp=> (Yx xs).mem_iff.mp (Zel hp)
 cases r with
 |none=>
  refine⟨fun _ p hp q hq s=> ?_,fun _=>rfl⟩
  refine Zcc fun ne=> ?_
  obtain⟨l,o,_,_,a,b,g1,g2,rfl⟩:=HY.mp hp
  obtain⟨l',o',_,_,a',b',g3,g4,rfl⟩:=HY.mp hq
  have d:(l:Int)≠(l':Int)∨(o:Int)≠(o':Int):=by
   refine Zcc fun c=>ne ?_
   have e1:l=l':=.o
   have e2:o=o':=.o
   subst e1 e2
   rw[g1]at g3
   rw[g2]at g4
   cases g3
   cases g4
   rfl
  rcases TV (a:=eG ((l:Int),a,(o:Int),b)) (b:=eG ((l':Int),a',(o':Int),b')) d with z |z
  ·have:=f _ (mem hp) _ (mem hq) s
   rw[z]at this
   cases this
  ·have:=f _ (mem hq) _ (mem hp) ⟨s.1.symm,s.2.symm⟩
   rw[z]at this
   cases this
 |some k=>
  refine⟨fun h=> (by cases h),fun h=> ?_⟩
  obtain⟨⟨a,ha,b,hb,s,l,_⟩,_⟩:=f
  obtain⟨p,hp,rfl⟩:=ZbF.mp ((Yx xs).mem_iff.mpr ha)
  obtain⟨q,hq,rfl⟩:=ZbF.mp ((Yx xs).mem_iff.mpr hb)
  rw[h p hp q hq s]at l
  unfold g9 at l
  simp only[Je,JM,and_false,Zdo]at l
  omega
end
end U.S
namespace U.S
open PySem L2 PyProof.Rows
section
def sk (a b:Int×Int):List Int:=[b.1 - a.1,b.2 - a.2]
def pk:List (Int×Int)->List (List Int)
 | []=> []
 |a::r=>r.map (sk a)++pk r
def bL (xs:List V):Bool:=decide (pk (bq xs)).Nodup
def uQ (p:aS):List Int:=[p.2.2.1 - p.1,p.2.2.2 - p.2.1]
theorem GS:∀{ps:List (Int×Int)},(ps.Pairwise fun a b=>a.1<b.1)->(mJ ps).map uQ=pk ps
 | [],_=>rfl
 |a::l,h=>by
  obtain⟨h1,h2⟩:=ZbU.mp h
  have ih:=GS h2
  have e:mJ (a::l)=(l.map fun b=> (a.1,a.2,b.1,b.2))++mJ l:=by
   unfold mJ
   rw[List.flatMap_cons]
   congr 1
   ·rw[Zea (by simp),List.filter_eq_self.mpr fun b hb=>ZaR (h1 b hb)]
   ·rw[List.flatMap_def,List.flatMap_def]
    congr 1
    refine List.map_congr_left fun c hc=> ?_
    rw[Zea (by have:=h1 c hc;simp;omega)]
  rw[e,ZbA,ih,List.map_map]
  rfl
theorem Ij (p q:aS):dk (eG p) (eG q)↔uQ p=uQ q:=by
 unfold dk eG uQ
 simp
theorem X7 (xs:List V):bL xs=true↔BW xs:=by
 unfold bL
 rw[decide_eq_true_iff,<-GS (Va xs),<-Uw,Ue (ZaB xs)]
 unfold BW
 constructor
 ·intro h p hp q hq s
  exact h p hp q hq ((Ij p q).mp s)
 ·intro h p hp q hq s
  exact h p hp q hq ((Ij p q).mpr s)
theorem xO {xs:List V}{r:Option aS}(f:mh (hJ xs xs.length) r):r.isNone=bL xs:=by
 have h1:=XB f
 have h2:=X7 xs
 cases hr:r.isNone<;>cases hu:bL xs<;>simp_all
def A6 (hg:Nat) (xs:List V) (l:Nat):List Int:=((List.range hg).map fun(k:Nat)=> (k:Int)).filter fun r=> !hW (.int r) xs&&bL (xs.set l (.int r))
def fJ (wd hg:Nat):Nat->List (List V)
 |0=> [List.replicate wd .ah]
 |i+1=> (fJ wd hg i).flatMap fun xs=> (V.ah::(A6 hg xs i).map V.int).map fun v=>xs.set i v
theorem Y1 {H:Hp}{p:Addr}{o:HO}(h:H p=none):ag H (upd H p o):=fun b u hb=>by rw[Zh (Zg hb h)];exact hb
theorem IG {v:V}(hv:v≠.ah):∀{xs:List V}{i:Nat},xs[i]? =some V.ah->(rowsOf (xs.set i v)).Perm (v::rowsOf xs)
 | [],_,h=>by simp at h
 |x::xs,0,h=>by
  have:x=.ah:=by simpa using h
  subst this
  rw[List.set_cons_zero]
  unfold rowsOf
  rw[Zd3 (by simpa using hv),Zea (by simp)]
 |x::xs,i+1,h=>by
  have ih:=IG hv (xs:=xs) (i:=i) (by simpa using h)
  rw[List.set_cons_succ]
  unfold rowsOf at ih |-
  by_cases z:(!decide (x=V.ah))=true
  ·rw[Zd3 (p:=fun x=> !decide (x=V.ah)) z,Zd3 (p:=fun x=> !decide (x=V.ah)) z]
   exact(ih.cons x).trans (List.Perm.swap v x _)
  ·rw[Zea (p:=fun x=> !decide (x=V.ah)) z,Zea (p:=fun x=> !decide (x=V.ah)) z]
   exact ih
theorem Zc0 {r:Int}{xs:List V}(h:V.int r∈xs):hW (.int r) xs=true:=by
 unfold hW
 exact List.any_eq_true.mpr ⟨_,h,by simp[dZ]⟩
theorem XM {wd hg:Int}{xs:List V}{i:Nat}{r:Int}(h:jI wd hg xs) (hi:xs[i]? =some V.ah) (h0:0<=r) (h1:r<hg) (hn:hW (.int r) xs=false):jI wd hg (xs.set i (.int r)):=by
 have pm:=IG (v:=.int r) (by intro z;cases z) hi
 refine⟨by rw[List.length_set];exact h.len,fun x hx=> ?_,pm.nodup_iff.mpr (Zdu.mpr ⟨fun m=> ?_,h.nd⟩)⟩
 ·rcases Zao.mp (pm.mem_iff.mp hx) with rfl |hx
  ·show(decide (0<=r)&&decide (r<=hg - 1))=true
   rw[ZaR h0,ZaR .o]
   rfl
  ·exact h.row x hx
 ·have:=Zc0 (ZbM.mp m).1
  rw[hn]at this
  cases this
theorem BH {K:ZhQ}{H:Hp}{a b:Addr}{xs ys:List V}{Q:VK}(h1:H a=some (.tup xs)) (h2:H b=some (.tup ys)) (hl:xs.length+ys.length<=1000) (q:∀t H',ag H H'->H' t=some (.tup (xs++ys))->Q (.ref t) H'):jS K (.ref a) (.ref b) H Q:=by
 cases xs with
 |nil=>exact .inl ⟨a,b,ys,rfl,rfl,aj.of h1,aj.of h2,q b H (ag.refl _) h2⟩
 |cons x xs=>
  refine .inr ⟨a,b,_,_,rfl,rfl,aj.of h1,aj.of h2,by simp,by rw[ZaH];omega,fun e=> ?_,fun _ p hp=>q p _ (Y1 hp) Ze⟩
  subst e
  exact q a H (ag.refl _) (by rw[ZbT];exact h1)
theorem Bl {xs:List V}{i:Nat}(h:i<xs.length):cI xs (some ((i:Int)+1)) none=xs.drop (i+1):=by
 unfold cI
 rw[show(i:Int)+1=((i+1:Nat):Int) from rfl,HT.vg,HT.vh,ZeE .o]
 exact ZbZ (by simp)
end
section
variable {P:Program}{w:World}{K:ZhQ}{mg:Str->Option Value}{base:Heap}
abbrev u9:Stmt:=top 34
def uK:Sp:=fun vs H Q _=> ∃x y wd hg xs,vs=[x,y]/\bB H x y wd hg xs/\bL xs=true/\∀(H':Hp),ag H H'->Q .ah H'
theorem C6:aZ ["board", "lay"] ["board", "lay"] (ay u9):=ZL (by decide+kernel)
theorem Np {f:Addr}{fd:FuncData}(F:aG K "need_unlike" "need_unlike" u9 f fd) (D1:Def P w K mg base 11 "is_unlike" ["board", "lay"] oJ):aA P w K mg base aE 12 f fd ["board", "lay"] uK:=by
 refine F.ok C6 (fun vs H Q E h=> ?_) (fun aq A outer s H vs Q E hr h=> ?_)
 ·obtain⟨x,y,wd,hg,xs,rfl,_⟩:=h
  rfl
 ·obtain⟨x,y,wd,hg,xs,rfl,l,u,q⟩:=h
  refine⟨_,Zi (ZO (Z0 (ZK (Zf D1 hr (Za (pv 0) (Za (pv 1) Zb))))) Zr Zv),?_⟩
  refine⟨x,rfl,y,rfl,x,y,wd,hg,xs,rfl,l,fun H' r sm fi=> (er rfl (?_))⟩
  rw[xO fi,u]
  exact aO (q H' sm)
abbrev vd:Stmt:=top 25
def yy:Sp:=fun vs H Q _=> ∃(b:Addr) (wd hg W T:Int),vs=[.ref b,.int W,.int T]/\H b=some (.tup [.int wd,.int hg])/\wd<=W/\hg<=T/\Q .ah H
theorem C8:aZ ["board", "wide", "high"] ["board", "wide", "high"] (ay vd):=ZL (by decide+kernel)
theorem Nr {f:Addr}{fd:FuncData}(F:aG K "need_at_most" "need_at_most" vd f fd):aA P w K mg base aE 1 f fd ["board", "wide", "high"] yy:=by
 refine F.ok C8 (fun vs H Q E h=> ?_) (fun aq A outer s H vs Q E hr h=> ?_)
 ·obtain⟨b,wd,hg,W,T,rfl,_⟩:=h
  rfl
 ·obtain⟨b,wd,hg,W,T,rfl,hb,h1,h2,q⟩:=h
  refine⟨_,Zi (ZO (PW.pt (Jm (ZM Uy (ZE ZN (pv 0) Zd (fun _ _=>rfl)) (pv 1) (bF _)) (YI (ZM Uy (ZE ZN (pv 0) Zd (fun _ _=>rfl)) (pv 2) (bF _))))) Zr Zv),?_⟩
  refine(er rfl ⟨b,_,0,.int wd,rfl,rfl,aj.of hb,rfl,_,rfl,_,_,rfl,rfl,_,rfl,?_⟩)
  rw[ZaA .o]
  refine aO ?_
  refine(er rfl ⟨b,_,1,.int hg,rfl,rfl,aj.of hb,rfl,_,rfl,_,_,rfl,rfl,_,rfl,?_⟩)
  rw[ZaA .o]
  exact aO q
end
section
theorem IF (n:Nat):rowsOf (List.replicate n V.ah)=[]:=by
 unfold rowsOf
 exact List.filter_eq_nil_iff.mpr fun x hx=>by rw[List.eq_of_mem_replicate hx];simp
theorem Xw (n:Nat):bq (List.replicate n V.ah)=[]:=by
 unfold bq
 rw[List.filterMap_eq_nil_iff]
 intro l hl
 unfold rowAt
 rw[ZdV]
 split<;>rfl
theorem sX (w h:Nat):∀i,∀xs∈fJ w h i,jI w h xs/\bL xs=true/\∀j,i<=j->j<w->xs[j]? =some V.ah
 |0,xs,hx=>by
  have e:xs=List.replicate w V.ah:=by simpa[fJ] using hx
  subst e
  refine⟨⟨by rw[Zcj],fun r hr=> ?_,by rw[IF];exact List.nodup_nil⟩,?_,fun j _ hj=>by rw[ZdV,ZaY hj]⟩
  ·rw[IF]at hr
   cases hr
  ·unfold bL
   rw[Xw]
   rfl
 |i+1,xs,hx=>by
  unfold fJ at hx
  obtain⟨ys,hy,hm⟩:=ZeT.mp hx
  obtain⟨h1,h2,h3⟩:=sX w h i ys hy
  obtain⟨v,hv,rfl⟩:=ZbF.mp hm
  have hlen:ys.length=w:=by have:=h1.len;omega
  have later:∀v j,i+1<=j->j<w->(ys.set i v)[j]? =some V.ah:=fun v j hj wu=>by
   rw[ZeB .o]
   exact h3 j .o wu
  by_cases hi:i<w
  ·have hn:=h3 i (Zae _) hi
   rcases Zao.mp hv with rfl |hv
   ·have e:ys.set i V.ah=ys:=by
     refine List.ext_getElem? fun j=> ?_
     by_cases hj:i=j
     ·subst hj
      rw[Zem .o,hn]
     ·rw[ZeB hj]
    rw[e]
    exact⟨h1,h2,fun j hj wu=>h3 j .o wu⟩
   ·obtain⟨r,hr,rfl⟩:=ZbF.mp hv
    unfold A6 at hr
    obtain⟨vZ,gD⟩:=ZbM.mp hr
    obtain⟨k,hk,rfl⟩:=ZbF.mp vZ
    rw[Zbr]at hk
    rw[ZaL,Zb6]at gD
    exact⟨XM h1 hn .o .o gD.1,gD.2,later _⟩
  ·have e:∀v,ys.set i v=ys:=fun v=>List.set_eq_of_length_le .o
   rw[e]
   exact⟨h1,h2,fun j hj wu=>.o⟩
def o7 (ps:List (Int×Int)) (i:Nat):List (List Int):=(List.range i).flatMap fun k=>match ps[k]? with
 |some a=> (ps.drop (k+1)).map (sk a)
 |none=> []
theorem ZcC {ps:List (Int×Int)}{i:Nat}{a:Int×Int}(h:ps[i]? =some a):o7 ps (i+1)=o7 ps i++(ps.drop (i+1)).map (sk a):=by
 unfold o7
 rw[ZeF,List.flatMap_append]
 simp[h]
theorem GU:∀ps:List (Int×Int),o7 ps ps.length=pk ps
 | []=>rfl
 |a::r=>by
  have ih:=GU r
  unfold o7 at ih |-
  rw[Zbz,List.range_succ_eq_map,List.flatMap_cons,List.flatMap_map]
  unfold pk
  rw[<-ih]
  rfl
theorem Xz {xs:List V}{i:Nat}{r:Int}(h:rowAt xs i=some r):fN xs (i:Int)=some (.int r):=by
 refine Yv ?_
 unfold rowAt at h
 cases e:xs[i]? with
 |none=>rw[e]at h;cases h
 |some v=>
  rw[e]at h
  cases v with
  |int y=>have:y=r:=ZbE h;rw[this]
  |_=>cases h
theorem VW {xs:List V}{q:Int×Int}(h:q∈bq xs):fN xs q.1=some (.int q.2):=by
 obtain⟨l,hl,hr,e⟩:=Yu.mp h
 rw[e]
 exact Xz hr
theorem IL {H:Hp}{L:Addr}{zs:List V}{o:HO}(e:H L=some (.lst zs)) {v:V}{k:List Int}(h:dc H v k):dc (upd H L o) v k:=by
 obtain⟨t,rfl,ht⟩:=h
 refine⟨t,rfl,?_⟩
 rw[Zh (fun z=> ?_)]
 ·exact ht
 ·subst z
  rw[e]at ht
  cases ht
theorem uV {H H1:Hp}{L:Addr}{o:HO}(s:ag H H1) (n:H L=none):ag H (upd H1 L o):=fun b u h=>by
 rw[Zh (Zg h n)]
 exact s b u h
theorem WA {α β:Type}{F:α->β->Prop} :∀{a c:List α}{b d:List β},Paired F a b->Paired F c d->Paired F (a++c) (b++d)
 |_,_,_,_,.nil,h=>h
 |_,_,_,_,.cons x y,h=> .cons x (WA y h)
theorem XX (xs:List V):(bq xs).length<=xs.length:=by
 unfold bq
 refine Zcd (List.length_filterMap_le _ _) ?_
 rw[Zcb]
 exact Zae _
end
section
variable {P:Program}{w:World}{K:ZhQ}{mg:Str->Option Value}{base:Heap}
abbrev y9:Stmt:=top 47
def yC:Sp:=fun vs H Q _=> ∃(a:Addr) (xs:List V),vs=[.ref a]/\H a=some (.tup xs)/\tL xs/\xs.length<=12/\∀(q:Addr) (H':Hp) (ts:List V),ag H H'->H q=none->H' q=some (.lst ts)->Paired (dc H') ts (pk (bq xs))->ts.length<=144->Q (.ref q) H'
abbrev N5:List Str:=["_law_lay_here", "_law_some", "_law_found", "_law_at", "_law_line"]
theorem rb:aZ N5 ["_law_lay_here"] (ay y9):=ZL (by decide+kernel)
theorem Nu {f:Addr}{fd:FuncData}(F:aG K "_law_steps" "_law_steps" y9 f fd) (G:Gs mg):aA P w K mg base aE 1 f fd ["_law_lay_here"] yC:=by
 refine F.ok rb (fun vs H Q E h=> ?_) (fun aq A outer s H vs Q E hr h=> ?_)
 ·obtain⟨a,xs,rfl,_⟩:=h
  rfl
 ·obtain⟨a,xs,rfl,ha,ok,Eb,q⟩:=h
  refine⟨_,Zc (Jc ["_law_line", "_law_lay_here"] 1 [0] (i:=1) rb.nd rfl (Or.inl rfl) (Z2 rfl G.range (Za (Zn ZF rfl G.len Zfb (Za (pv 0) Zb)) Zb)) (fun C s H fp=>pb 0)
    (fun C s H fp=>Yr (YJ (Wp (ZE (show oo (aR _ _ _ C s H fp) (rq K) from ZN) (pv 1) (pv 0) (fun _ _=>rfl))))) (fun C s H fp D=>ZH rfl (pv 0)))
   (Zc (Zx (i:=2) rb.nd rfl (Or.inl rfl) (ZG Zb))
   (Zc (Ju ZeL rfl (ZdC rfl G.enumerate (Za (pv 1) Zb)) (Z3 rfl (Zk (ZD (i:=3) rb.nd rfl (Or.inl rfl)) (Zk (ZD (i:=4) rb.nd rfl (Or.inr rfl)) ZP)))
    (Zi (Zy (Yq Za0 PySem.F.slot_list_extend PySem.F.type_list_extend ZcO (pv 2) (Za
     (Ye ["_law_other", "_law_lay_here", "_law_line"] 1 [0,4] (Ys (Yy Io (pv 1) (YV (Zm ZT (pv 3) Zd)) YW)) (fun C s H fp=>pb 0) (fun C s H fp=>Ya)
      (fun C s H fp D=>ZH rfl (Zs (Za (Zm ZU (pv 0) (pv 2)) (Za (Zm ZU (ZE (show oo (aR _ _ _ C s H fp) (rq K) from ZN) (pv 1) (pv 0) (fun _ _=>rfl)) (ZE (show oo (aR _ _ _ C s H fp) (rq K) from ZN) (pv 1) (pv 2) (fun _ _=>rfl))) Zb))))) Zb)))))
   (Zi (Zw (pv 2))))),?_⟩
  have Om:=XX xs
  (try refine hZ _ _ ?_);refine Zj fun Z hZ=> ⟨_,rfl,a,xs,rfl,.inr (aj.of ha),_,rfl,.o,.o,?_⟩
  refine YC (fun k ys σ H1=> ∃v,σ=[v,some (.ref a)]/\ag H H1/\ys=((mH xs k).map (·.1)).map V.int/\ys.length<=k) ⟨_,rfl,ag.refl _,rfl,ZaV _⟩ ?_ ?_
  ·rintro k ys σ H1 hk ⟨v,rfl,s1,rfl,hlen⟩
   have aP:k<xs.length:=.o
   rw[Ze7]
   refine Zt ?_
   dsimp only[List.set]
   obtain⟨v,hv⟩:∃v,xs[k]? =some v:=⟨_,Zag aP⟩
   have jw:fN xs (k:Int)=some v:=Yv hv
   refine⟨_,rfl,_,rfl,a,xs,(k:Int),v,rfl,rfl,aj.of (s1 _ _ ha),jw,_,rfl,?_⟩
   have er:rowAt xs k=oX v:=by unfold rowAt;rw[hv];rfl
   have es:=Jt xs k
   rw[er]at es
   rcases ok v (ZaX hv) with rfl |⟨r,rfl⟩
   ·refine aO ⟨_,rfl,s1,?_,.o⟩
    rw[es]
    simp[oX]
   ·refine aV ⟨_,rfl,by rw[ZaH];omega,⟨_,rfl,s1,?_,by rw[Zap];simp at hlen |-;omega⟩⟩
    rw[es]
    simp[oX]
  ·rintro ys σ H1 ⟨v,rfl,s1,rfl,hlen⟩ m hm
   have e0:mH xs (Int.toNat (xs.length:Int))=bq xs:=by rw[Zeg];rfl
   obtain⟨H2,zz,sm,em⟩:=aH (o:=.lst (((mH xs (Int.toNat (xs.length:Int))).map (·.1)).map V.int)) hm
   rw[zz]
   rw[e0]at em
   have ck:∀q'∈bq xs,fN xs q'.1=some (.int q'.2):=fun q' h=>VW h
   generalize bq xs=ps at em Om q ck
   have nm:H m=none:=s1.free hm
   have Dh:=s1.trans sm
   dsimp only[List.set]
   (try refine hZ _ _ ?_);refine Zj fun Z hZ=> (Zz ⟨CJ,fun L hL=>Zt ?_⟩)
   dsimp only[List.set]
   have nL:H L=none:=Dh.free hL
   have P4:m≠L:=Zg em hL
   obtain⟨H3,zz,sL,eL⟩:=aH (o:=.lst []) hL
   rw[zz]
   have vp:=Dh.trans sL
   (try refine hZ _ _ ?_);refine Zj fun Z hZ=> ⟨_,rfl,m,rfl,⟨_,ai.of (sL _ _ em)⟩,?_⟩
   refine Zc3 (xs:=(ps.map (·.1)).map V.int) (fun i σ H4=> ∃zs v3 v4,σ=[some (.ref a),some (.ref m),some (.ref L),v3,v4]/\ag H H4/\H4 m=some (.lst ((ps.map (·.1)).map V.int))/\H4 L=some (.lst zs)/\Paired (dc H4) zs (o7 ps i)/\zs.length<=i*12) ⟨_,_,_,rfl,vp,sL _ _ em,eL,.nil,ZaV _⟩ (fun i σ H4 _ ⟨_,_,_,_,_,e,_⟩=>ai.of e) ?_ ?_
   ·rintro i v T σ H4 hv hT ⟨zs,v3,v4,rfl,s4,Bf,jA,kU,wq⟩
    rw[ZbG,ZbG]at hv
    obtain⟨z,hz,rfl⟩:=Zbk.mp hv
    obtain⟨p0,Ak,rfl⟩:=Zbk.mp hz
    have hi:i<ps.length:=(Zad.mp Ak).1
    have sT:=Y1 (o:=.par [.int (i:Int),.int p0.1]) hT
    refine⟨T,_,rfl,aj.pe Ze,rfl,_,_,rfl,_,_,rfl,rfl,?_⟩
    generalize upd H4 T (HO.par [V.int (i:Int),V.int p0.1])=H5 at sT
    have SE:=sT _ _ jA
    have R3:=sT _ _ Bf
    refine⟨_,rfl,.inl ⟨rfl,_,ai.of SE⟩,?_⟩
    refine⟨_,rfl,_,rfl,_,_,rfl,rfl,_,rfl,m,_,rfl,ai.of R3,fun p6 PN=> ?_⟩
    have QD:cI ((ps.map (·.1)).map V.int) (some ((i:Int)+1)) none=((ps.drop (i+1)).map (·.1)).map V.int:=by
     rw[Bl (by simpa using hi),<-List.map_drop,<-List.map_drop]
    rw[QD]
    obtain⟨H6,zz,s6,e6⟩:=aH (o:=.lst (((ps.drop (i+1)).map (·.1)).map V.int)) PN
    rw[zz]
    refine⟨p6,rfl,⟨_,ai.of e6⟩,?_⟩
    have es:=ZcC Ak
    have lK:∀q'∈ps.drop (i+1),fN xs q'.1=some (.int q'.2):=fun q' h=>ck q' (ZbH h)
    have Ow:(ps.drop (i+1)).length<=12:=by rw[ZbB];omega
    generalize ps.drop (i+1)=rs at e6 es lK Ow
    have QM:=(s4.trans (sT.trans s6)) _ _ ha
    have h0:=ck p0 (ZaX Ak)
    refine Yg (xs:=(rs.map (·.1)).map V.int) (fun j ys σ H7=> ∃v,σ=[v,some (.ref a),some (.int p0.1)]/\ag H6 H7/\Paired (dc H7) ys ((rs.take j).map (sk p0))/\ys.length<=j) ⟨_,rfl,ag.refl _,.nil,ZaV _⟩ (fun i ys σ H2 _ ⟨_,_,s2,_⟩=>ai.of (s2 _ _ e6)) ?_ ?_
    ·rintro j v ys σ H7 j8 ⟨v0,rfl,s7,rB,EM⟩
     rw[ZbG,ZbG]at j8
     obtain⟨z,fU,rfl⟩:=Zbk.mp j8
     obtain⟨p1,pJ,rfl⟩:=Zbk.mp fU
     have hj:j<rs.length:=(Zad.mp pJ).1
     have h1:=lK p1 (ZaX pJ)
     have Fs:=aj.of (K:=K) (s7 _ _ QM)
     refine Zt ?_
     dsimp only[List.set]
     try unfold xW
     refine aV ?_
     refine⟨_,rfl,_,rfl,_,_,rfl,rfl,_,rfl,_,rfl,a,xs,p1.1,_,rfl,rfl,Fs,h1,_,rfl,_,rfl,a,xs,p0.1,_,rfl,rfl,Fs,h0,_,_,rfl,rfl,aX,fun t8 Ac=> ⟨by rw[ZaH];omega,?_⟩⟩
     have s8:=Y1 (o:=.tup [.int (p1.1 - p0.1),.int (p1.2 - p0.2)]) Ac
     refine⟨_,rfl,s7.trans s8,?_,by rw[Zap];simp;omega⟩
     rw[ZbO,pJ,ZbA]
     exact Zfm (Paired.dq rB fun v q' hq=>hq.same s8) ⟨t8,rfl,Ze⟩
    ·rintro ys σ H7 ⟨v0,rfl,s7,rB,EM⟩ p8 PM
     rw[Zar,Zar]at rB EM
     rw[Zb2]at rB
     obtain⟨H8,zz,s8,e8⟩:=aH (o:=.lst ys) PM
     rw[zz]
     have vj:=sT.trans (s6.trans (s7.trans s8))
     have Bh:=vj _ _ jA
     have RZ:=vj _ _ Bf
     refine⟨L,p8,zs,ys,rfl,rfl,Bh,e8,by rw[ZaH];omega,?_⟩
     refine⟨_,_,_,rfl,uV (s4.trans vj) nL,?_,Ze,?_,by rw[Zap];omega⟩
     ·rw[Zh P4]
      exact RZ
     ·rw[es]
      exact WA (Paired.dq kU fun v q' hq=>IL Bh (hq.same vj)) (Paired.dq rB fun v q' hq=>IL Bh (hq.same s8))
   ·rintro σ H4 ⟨zs,v3,v4,rfl,s4,Bf,jA,kU,wq⟩
    rw[Zar,Zar]at kU wq
    rw[GU]at kU
    refine hZ _ _ ?_
    exact⟨_,rfl,q L H4 zs s4 nL jA kU .o⟩
abbrev vf:Stmt:=top 48
def qS:Sp:=fun vs H Q _=> ∃(a:Addr) (xs:List V),vs=[.ref a]/\H a=some (.tup xs)/\tL xs/\xs.length<=12/\∀(H':Hp),ag H H'->Q (.bl (bL xs)) H'
theorem C9:aZ ["_law_lay_here", "_law_some"] ["_law_lay_here"] (ay vf):=ZL (by decide+kernel)
theorem Nt {f:Addr}{fd:FuncData}(F:aG K "_law_unlike" "_law_unlike" vf f fd) (G:Gs mg) (Dls:Def P w K mg base 1 "_law_steps" ["_law_lay_here"] yC):aA P w K mg base aE 2 f fd ["_law_lay_here"] qS:=by
 refine F.ok C9 (fun vs H Q E h=> ?_) (fun aq A outer s H vs Q E hr h=> ?_)
 ·obtain⟨a,xs,rfl,_⟩:=h
  rfl
 ·obtain⟨a,xs,rfl,ha,ok,Eb,q⟩:=h
  have hu:(aF aE P w K mg base ["_law_lay_here", "_law_some"] "_law_unlike" (ay vf) f aq A outer s H E).cG.A.units+4<cLine:=Zet (Nat.add_le_add_left (by decide:4<=64) _) hr.units
  refine⟨_,Zc (Zx (i:=1) C9.nd rfl (Or.inl rfl) (Zf Dls hr (Za (pv 0) Zb)))
   (Zi (Zw (Z7 Y3 (ZcD rfl hu rfl G.len rfl G.set (pv 1)) (Zn ZF rfl G.len Zfb (Za (pv 1) Zb)) (bF _)))),?_⟩
  (try refine hZ _ _ ?_);refine Zj fun Z hZ=> (Zz ⟨_,rfl,a,xs,rfl,ha,ok,Eb,fun t H1 ts s1 nt e1 pr aaA=>Zt ?_⟩)
  dsimp only[List.set]
  have lk:=Zcf pr
  refine hZ _ _ ?_
  refine⟨_,rfl,t,ts,_,rfl,ai.of e1,pr,.o,_,rfl,t,ts,rfl,.inl (ai.of e1),rfl,?_⟩
  have z:decide (V.int (iJ (pk (bq xs)):Int)=V.int (ts.length:Int))=bL xs:=by
   unfold bL
   rw[decide_eq_decide,lk,<-XN]
   constructor
   ·intro h
    injection h with h
    omega
   ·intro h
    rw[h]
  rw[z]
  exact q H1 s1
end
section
theorem IU {α β:Type}{f g:α->Option β} :∀{l:List α},(∀x∈l,f x=g x)->l.filterMap f=l.filterMap g
 | [],_=>rfl
 |a::l,h=>by
  rw[Zej,Zej,h a Zas,IU fun x hx=>h x (Zan _ hx)]
theorem Xv (xs:List V) (n:Nat):bq (xs++List.replicate n V.ah)=bq xs:=by
 unfold bq
 rw[Zap,Zcj,List.range_add,List.filterMap_append]
 have e2:(((List.range n).map fun x=>xs.length+x).filterMap fun l=> (rowAt (xs++List.replicate n V.ah) l).map fun r=> ((l:Int),r))=[]:=by
  rw[List.filterMap_eq_nil_iff]
  intro l hl
  obtain⟨k,hk,rfl⟩:=ZbF.mp hl
  unfold rowAt
  rw[Zcn .o,ZdV]
  split<;>rfl
 rw[e2,ZbT]
 refine IU fun l hl=> ?_
 rw[Zbr]at hl
 unfold rowAt
 rw[Zds hl]
theorem Im {x v:V}{t:List V} :∀{fs:List V},(fs++x::t).set fs.length v=fs++v::t
 | []=>rfl
 |a::fs=>by
  show a::(fs++x::t).set fs.length v=_
  rw[Im]
  rfl
abbrev dE (w:Nat) (fs:List V):List V:=fs++List.replicate (w - fs.length) V.ah
theorem ZdJ {w:Nat}{fs:List V}(h:fs.length<w):dE w fs=fs++V.ah::List.replicate (w - (fs.length+1)) V.ah:=by
 unfold dE
 rw[show w - fs.length=(w - (fs.length+1))+1 by omega,Zdf]
theorem WB {w:Nat}{fs:List V}{v:V}(h:fs.length<w):dE w (fs++[v])=(dE w fs).set fs.length v:=by
 rw[ZdJ h,Im]
 unfold dE
 rw[Zap,Za3]
 rfl
theorem Vs {w:Nat}{fs:List V}{r:Int} :hW (.int r) (dE w fs)=hW (.int r) fs:=by
 unfold hW dE
 rw[List.any_append]
 have:((List.replicate (w - fs.length) V.ah).any fun y=>dZ y (.int r))=false:=by
  rw[List.any_eq_false]
  intro x hx
  rw[List.eq_of_mem_replicate hx]
  simp[dZ]
 rw[this,Bool.or_false]
theorem X5 {w h:Nat}{fs:List V}(hm:dE w fs∈fJ w h fs.length) (hi:fs.length<w):dE w (fs++[V.ah])∈fJ w h (fs.length+1):=by
 rw[WB hi]
 exact ZeT.mpr ⟨_,hm,ZbF.mpr ⟨_,Zas,rfl⟩⟩
theorem X4 {w h:Nat}{fs:List V}{r:Int}(hm:dE w fs∈fJ w h fs.length) (hi:fs.length<w) (h0:0<=r) (h1:r<h) (hn:hW (.int r) fs=false) (hu:bL (fs++[.int r])=true):dE w (fs++[V.int r])∈fJ w h (fs.length+1):=by
 rw[WB hi]
 refine ZeT.mpr ⟨_,hm,ZbF.mpr ⟨_,Zan _ (Zel ?_),rfl⟩⟩
 unfold A6
 refine ZbM.mpr ⟨ZbF.mpr ⟨r.toNat,Zbr.mpr .o,.o⟩,?_⟩
 rw[Vs,hn,<-WB hi]
 have:bL (dE w (fs++[V.int r]))=bL (fs++[V.int r]):=by
  unfold bL dE
  rw[Xv]
 rw[this,hu]
 rfl
theorem VP {w h:Nat}{fs:List V}{i:Nat}(hm:dE w fs∈fJ w h i):tL fs:=fun x hx=> (sX w h i _ hm).1.ok x (ZaW _ hx)
end
section
variable {P:Program}{w:World}{K:ZhQ}{mg:Str->Option Value}{base:Heap}
abbrev ze:Stmt:=top 50
def uN:Sp:=fun vs H Q _=> ∃(p b:Addr) (wd hg n:Int),vs=[.ref p,.ref b,.int n]/\bQ H p/\bR H (.ref b) wd hg/\∀(l:Addr) (H':Hp) (xs:List V),av p H H'->bQ H' p->H' l=some (.tup xs)->l≠p->xs∈fJ wd.toNat hg.toNat wd.toNat->Q (.ref l) H'
abbrev N7:List Str:=["_law_state_here", "_law_board", "_law_bare", "_law_found", "_law_line", "_law_first", "_law_none", "_law_rows", "_law_good"]
theorem kN:aZ N7 ["_law_state_here", "_law_board", "_law_bare"] (ay ze):=ZL (by decide+kernel)
theorem Nv {f:Addr}{fd:FuncData}(F:aG K "_law_grown" "_law_grown" ze f fd) (G:Gs mg) (jc:Def P w K mg base 1 "_law_take" ["_law_state_here", "_law_many"] jP) (tV:Def P w K mg base 2 "_law_unlike" ["_law_lay_here"] qS):aA P w K mg base aE 3 f fd ["_law_state_here", "_law_board", "_law_bare"] uN:=by
 refine F.ok kN (fun vs H Q E h=> ?_) (fun aq A outer s H vs Q E hr h=> ?_)
 ·obtain⟨p,b,wd,hg,n,rfl,_⟩:=h
  rfl
 ·obtain⟨p,b,wd,hg,n,rfl,st,bd,q⟩:=h
  have vZ:=hr.mono (show 1<=2 by decide)
  refine⟨_,Zc (Zx (i:=3) kN.nd rfl (Or.inr rfl) (Zs Zb))
   (Zc (Ju ZeL rfl (Z2 rfl G.range (Za (ZE ZN (pv 1) Zd (fun _ _=>rfl)) Zb)) (ZD (i:=4) kN.nd rfl (Or.inl rfl))
    (Zc (YK (Zs (Za (Zf jc vZ (Za (pv 0) (Za (ZE ZN (pv 1) Zd (fun _ _=>rfl)) Zb))) (Za (Zf jc vZ (Za (pv 0) (Za Zd Zb))) Zb))) (Z3 rfl (Zk (ZD (i:=5) kN.nd rfl (Or.inr rfl)) (Zk (ZD (i:=6) kN.nd rfl (Or.inl rfl)) ZP))))
    (Zc (Jc ["_law_k", "_law_board", "_law_first"] 1 [1,5] (i:=7) kN.nd rfl (Or.inl rfl) (Z2 rfl G.range (Za (ZE ZN (pv 1) Zd (fun _ _=>rfl)) Zb)) (fun C s H fp=>pb 0) (fun C s H fp=>Ya)
     (fun C s H fp D=>ZH rfl (Zm Jv (Zm ZT (pv 2) (pv 0)) (ZE (show oo (aR _ _ _ C s H fp) (rq K) from ZN) (pv 1) Zd (fun _ _=>rfl)))))
    (Zc (Jc ["_law_row", "_law_found"] 1 [3] (i:=8) kN.nd rfl (Or.inl rfl) (Ys (pv 7)) (fun C s H fp=>pb 0)
     (fun C s H fp=>Yr (PW.pt (BM (ZM (show bg (aR _ _ _ C s H fp) (compareOp .NotIn) (Dk K true) from U6) (pv 0) (pv 1) rfl) (UZ (ZK (Zf tV hr (Za (Zm (show bg (aR _ _ _ C s H fp) (binaryOp .Add) (jS K) from jV) (pv 1) (Zs (Za (pv 0) Zb))) Zb))))))) (fun C s H fp D=>ZH rfl (pv 0)))
    (Zi (Zx (i:=3) kN.nd rfl (Or.inr rfl) (Zm jV (pv 3) (Wz (PW.pt (Jm (ZM (VM hr.xP) (pv 8) (ZG Zb) (bF _)) (YI (ZM xm (pv 6) (pv 2) (bF _))))) (Zs (Za Yo Zb)) (Zs (Za (ZE ZZ (pv 8) Zd (fun _ _=>rfl)) Zb))))))))))
   (Zi (Zw (pv 3)))),?_⟩
  obtain⟨a,e,hb⟩:=Zu bd.1
  cases e
  obtain⟨_,w1,w2,g1,g2⟩:=id bd
  obtain⟨u0,v0,e0,_⟩:=id st
  have Fj:b≠p:=Ym hb e0 (by intro z;cases z)
  have eH:(hg.toNat:Int)=hg:=.o
  (try refine hZ _ _ ?_);refine Zj fun Z hZ=> (Zz ⟨ZaV _,fun f0 pQ=>Zt ?_⟩)
  dsimp only[List.set]
  obtain⟨H0,zz,s0,Sh⟩:=aH (o:=.tup []) pQ
  rw[zz]
  have eI:=st.same s0
  (try refine hZ _ _ ?_);refine Zj fun Z hZ=> (er rfl ⟨b,_,_,_,rfl,rfl,aj.of (s0 _ _ hb),f9,wd,rfl,.o,.o,?_⟩)
  refine YU (n:=wd.toNat) (fun i σ H2=> ∃(fa:Addr) (fs:List V) (x4 x5 x6 x7 x8:Option V),σ=[some (.ref p),some (.ref b),some (.int n),some (.ref fa),x4,x5,x6,x7,x8]/\av p H H2/\bQ H2 p/\H2 fa=some (.tup fs)/\fs.length=i/\dE wd.toNat fs∈fJ wd.toNat hg.toNat i)
   ⟨f0,[],none,none,none,none,none,rfl,s0.x,eI,Sh,rfl,by simp[dE,fJ]⟩ ?_ ?_
  ·rintro i σ H2 hi ⟨fa,fs,x4,x5,x6,x7,x8,rfl,k2,au,lQ,rfl,hm⟩
   rw[Ze7]
   refine Zt ?_
   dsimp only[List.set]
   have ba:fs.length<wd.toNat:=hi
   have Dj:=VP hm
   have flat:fs.all fK=true:=ZaZ.mpr fun x hx=>by
    rcases Dj x hx with z |⟨j,z⟩<;>rw[z]<;>rfl
   have ki:=k2 _ _ hb Fj
   (try refine hZ _ _ ?_);refine Zj fun Z hZ=> (Zz (er rfl (er rfl ⟨b,_,_,_,rfl,rfl,aj.of ki,bI,p,hg,rfl,au,.o,.o,fun c1 o3 _ _ cK=> (er rfl ⟨p,6,rfl,cK,.d,.d,fun c2 o4 _ _ de=> ⟨aX,fun tt Eo=> ⟨tt,_,rfl,aj.of Ze,rfl,_,_,rfl,_,_,rfl,rfl,?_⟩⟩⟩)⟩)))
   have xI:av p H2 (upd (upd H2 p o3) p o4):=av.upd.trans av.upd
   generalize upd (upd H2 p o3) p o4=H4 at de xI Eo
   have s5:=Y1 (o:=.tup [.int c1,.int c2]) Eo
   generalize upd H4 tt (HO.tup [V.int c1,V.int c2])=H5 at s5
   have cT:=de.same s5
   have k5:av p H H5:=k2.trans (xI.trans s5.x)
   obtain⟨uz,vz,ez,_⟩:=id au
   have AE:fa≠p:=Ym lQ ez (by intro z;cases z)
   have wA:=s5 _ _ (xI _ _ lQ AE)
   have wH:=k5 _ _ hb Fj
   dsimp only[List.set]
   (try refine hZ _ _ ?_);refine Zj fun Z hZ=> (er rfl ⟨b,_,_,_,rfl,rfl,aj.of wH,bI,hg,rfl,.o,.o,?_⟩)
   refine YC (fun k ys ao H'=> ∃v rs,ao=[v,some (.ref b),some (.int c1)]/\H'=H5/\ys=rs.map V.int/\(∀r∈rs,0<=r/\r<hg)/\rs.length<=k) ⟨_,[],rfl,rfl,rfl,(fun r h=>by cases h),ZaV _⟩ ?_ ?_
   ·rintro k ys ao H' hk ⟨v,rs,rfl,rfl,rfl,Ah,P7⟩
    refine Zt ?_
    dsimp only[List.set]
    try unfold xW
    refine aV ?_
    refine(er rfl (er rfl ⟨_,_,rfl,rfl,_,rfl,b,_,_,_,rfl,rfl,aj.of wH,bI,_,_,rfl,rfl,.o,by rw[ZaH,Zar];omega,?_⟩))
    refine⟨_,rs++[_],rfl,rfl,by rw[ZbA];rfl,fun r cO=> ?_,by rw[Zap];simp;omega⟩
    rcases ZaC.mp cO with z |z
    ·exact Ah r z
    ·rw[Zax.mp z]
     exact⟨ZeH _ .o,ZdK _ .o⟩
   ·rintro ys ao H' ⟨v,rs,rfl,rfl,rfl,Ah,P7⟩ L hL
    obtain⟨H6,zz,s6,eL⟩:=aH (o:=.lst (rs.map V.int)) hL
    rw[zz]
    dsimp only[List.set]
    (try refine hZ _ _ ?_);refine Zj fun Z hZ=> (er rfl ⟨L,rfl,⟨_,ai.of eL⟩,?_⟩)
    refine Yg (xs:=rs.map V.int) (fun j ys ao Kv=> ∃v gs,ao=[v,some (.ref fa)]/\ag H6 Kv/\ys=gs.map V.int/\(∀r∈gs,0<=r/\r<hg/\hW (.int r) fs=false/\bL (fs++[.int r])=true)/\gs.length<=j) ⟨_,[],rfl,ag.refl _,rfl,(fun r h=>by cases h),ZaV _⟩ (fun j ys ao Kv _ ⟨_,_,_,s',_⟩=>ai.of (s' _ _ eL)) ?_ ?_
    ·rintro j y ys ao H7 hy ⟨v,gs,rfl,s7,rfl,sG,Qa⟩
     rw[ZbG]at hy
     obtain⟨r,rS,rfl⟩:=Zbk.mp hy
     have hj:j<rs.length:=(Zad.mp rS).1
     obtain⟨r0,r1⟩:=Ah r (ZaX rS)
     have Fd:=s7 _ _ (s6 _ _ wA)
     refine Zt ?_
     dsimp only[List.set]
     refine(er rfl (er rfl ⟨fa,fs,rfl,.inr (aj.of Fd),rfl,flat,_,rfl,?_⟩))
     cases hn:hW (.int r) fs with
     |true=>exact aO (aO ⟨_,gs,rfl,s7,rfl,sG,.o⟩)
     |false=>
      refine aV ?_
      refine(er rfl (er rfl ⟨bO,fun t8 Ac=> ?_⟩))
      obtain⟨H8,zz,s8,e8⟩:=aH (o:=.tup [.int r]) Ac
      rw[zz]
      refine BH (s8 _ _ Fd) e8 (by simp;omega) fun t9 H9 s9 e9=> ?_
      refine⟨t9,_,rfl,e9,fun x hx=> ?_,by rw[Zap];simp;omega,fun fP gm=> (er rfl (?_))⟩
      ·rcases ZaC.mp hx with z |z
       ·exact Dj x z
       ·exact .inr ⟨r,Zax.mp z⟩
      have Dd:=s7.trans (s8.trans (s9.trans gm))
      cases hu:bL (fs++[.int r]) with
      |true=>
       refine aV (er rfl ⟨by rw[ZaH,Zar];omega,⟨_,gs++[r],rfl,Dd,by rw[ZbA];rfl,fun r' cO=> ?_,by rw[Zap];simp;omega⟩⟩)
       rcases ZaC.mp cO with z |z
       ·exact sG r' z
       ·rw[Zax.mp z]
        exact⟨r0,r1,hn,hu⟩
      |false=>exact aO ⟨_,gs,rfl,Dd,rfl,sG,.o⟩
    ·rintro ys ao H7 ⟨v,gs,rfl,s7,rfl,sG,Qa⟩ M hM
     obtain⟨H8,zz,s8,eM⟩:=aH (o:=.lst (gs.map V.int)) hM
     rw[zz]
     dsimp only[List.set]
     have zj:=s6.trans (s7.trans s8)
     have hf8:=zj _ _ wA
     refine hZ _ _ ?_
     refine Zz (er rfl (er rfl ⟨CJ,fun c hc=> ⟨M,c,_,rfl,rfl,ai.of (Y1 hc _ _ eM),ai.of Ze,_,rfl,?_⟩⟩))
     have s9:=Y1 (o:=.lst []) hc
     generalize upd H8 c (HO.lst [])=H9 at s9
     have DE:∀{fP:Hp},ag H9 fP->∀t,fP t=none->jS K (.ref fa) (.ref t) (upd fP t (.tup [.ah])) fun v H'=>bP 3 v [some (.ref p),some (.ref b),some (.int n),some (.ref fa),some (.int (fs.length:Int)),some (.int c1),some (.int c2),some (.ref L),some (.ref M)] H' fun aT H2=> ∃(fa:Addr) (nM:List V) (x4 x5 x6 x7 x8:Option V),aT=[some (.ref p),some (.ref b),some (.int n),some (.ref fa),x4,x5,x6,x7,x8]/\av p H H2/\bQ H2 p/\H2 fa=some (.tup nM)/\nM.length=fs.length+1/\dE wd.toNat nM∈fJ wd.toNat hg.toNat (fs.length+1):=by
      intro fP gm t ht
      have ji:=Y1 (o:=.tup [.ah]) ht
      have mF:=zj.trans (s9.trans (gm.trans ji))
      refine BH (mF _ _ wA) Ze (by simp;omega) fun t9 iA iG e12=>Zt ?_
      exact⟨t9,_,_,_,_,_,_,rfl,k5.trans (mF.trans iG).x,cT.same (mF.trans iG),e12,by simp,X5 hm ba⟩
     cases gs with
     |nil=>exact aV ⟨bO,DE (ag.refl _)⟩
     |cons g gs=>
      refine aO (er rfl (er rfl ⟨_,_,rfl,rfl,_,rfl,?_⟩))
      cases decide (c2<n) with
      |true=>exact aV ⟨bO,DE (ag.refl _)⟩
      |false=>
       refine aO (er rfl ⟨M,_,0,.int g,rfl,rfl,ai.of (s9 _ _ eM),(Yv (j:=0) rfl:fN (List.map V.int (g::gs)) ((0:Nat):Int)=some (.int g)),bO,fun t ht=> ?_⟩)
       have ji:=Y1 (o:=.tup [.int g]) ht
       have mF:=zj.trans (s9.trans ji)
       obtain⟨m0,m1,m2,m3⟩:=sG g Zas
       refine BH (mF _ _ wA) Ze (by simp;omega) fun t9 iA iG e12=>Zt ?_
       exact⟨t9,_,_,_,_,_,_,rfl,k5.trans (mF.trans iG).x,cT.same (mF.trans iG),e12,by simp,X4 hm ba m0 .o m2 m3⟩
  ·rintro σ H2 ⟨fa,fs,x4,x5,x6,x7,x8,rfl,k2,au,lQ,Qq,hm⟩
   obtain⟨uz,vz,ez,_⟩:=id au
   have AE:fa≠p:=Ym lQ ez (by intro z;cases z)
   have e:dE wd.toNat fs=fs:=by
    unfold dE
    rw[Qq,Nat.sub_self]
    exact ZbT _
   rw[e]at hm
   refine hZ _ _ ?_
   exact(er rfl (q fa H2 fs k2 au lQ AE hm))
end
end U.S
namespace U
open PySem L2 PyProof.Rows
theorem Iw {xs:List V}{wd hg:Int} :bw wd hg (some xs)=true↔(xs.length:Int)=wd/\(∀v∈xs,v=.ah∨bh v 0 (hg - 1)=true)/\xs.Pairwise fun a b=>a=b->a=.ah:=by
 have pw:(rowsOf xs).Nodup↔xs.Pairwise fun a b=>a=b->a=.ah:=by
  unfold rowsOf List.Nodup
  rw[List.pairwise_filter]
  constructor
  ·intro h
   refine h.imp fun {a b} h e=> ?_
   by_cases z:a=.ah
   ·exact z
   ·exact absurd e (h (by simp[z]) (by rw[<-e];simp[z]))
  ·intro h
   refine h.imp fun {a b} h p1 p2 e=> ?_
   rw[h e]at p1
   simp at p1
 have al:((rowsOf xs).all fun r=>bh r 0 (hg - 1))=true↔∀v∈xs,v=.ah∨bh v 0 (hg - 1)=true:=by
  rw[ZaZ]
  unfold rowsOf
  constructor
  ·intro h v hv
   by_cases z:v=.ah
   ·exact .inl z
   ·exact .inr (h v (ZbM.mpr ⟨hv,by simp[z]⟩))
  ·intro h v hv
   obtain⟨h1,h2⟩:=ZbM.mp hv
   rcases h v h1 with z |z
   ·rw[z]at h2;simp at h2
   ·exact z
 unfold bw
 rw[ZaL,ZaL,decide_eq_true_iff,decide_eq_true_iff,al,pw,and_assoc]
def cg (row:Int):V->V
 | .int i=>if i<row then .int i else .int (i+1)
 |v=>v
def putL (xs:List V) (line:Nat) (row:Int):List V:=(xs.map (cg row)).take line++[V.int row]++(xs.map (cg row)).drop line
theorem Ii (xs:List V) (line:Nat) (row:Int):(putL xs line row).length=xs.length+1:=by
 unfold putL
 rw[Zap,Zap,ZaS,ZbB,Zar]
 simp
 omega
theorem Zd6 {row i j:Int}(h:cg row (.int i)=cg row (.int j)):i=j:=by
 unfold cg at h
 by_cases h1:i<row<;>by_cases h2:j<row<;>simp only[h1,h2,Ze2,Zdn]at h<;>have h':=V.int.inj h<;>omega
theorem Hl {i a b:Int} :bh (.int i) a b=true↔a<=i/\i<=b:=by
 show(decide (a<=i)&&decide (i<=b))=true↔_
 rw[ZaL,Zb5,Zb5]
theorem Ih {xs:List V}{wd hg row:Int}{line:Nat}(h:bw wd hg (some xs)=true) (hr:0<=row) (cO:row<=hg) (hl:line<=xs.length):bw (wd+1) (hg+1) (some (putL xs line row))=true:=by
 obtain⟨h1,h2,h3⟩:=Iw.mp h
 have items:∀v∈xs.map (cg row),v=.ah∨∃i:Int,v=.int i/\0<=i/\i<=hg/\i≠row:=fun v hv=>by
  obtain⟨u,hu,rfl⟩:=ZbF.mp hv
  rcases Yk h hu with rfl |⟨i,rfl,i0,i1⟩
  ·exact .inl rfl
  ·refine .inr ?_
   unfold cg
   by_cases z:i<row
   ·exact⟨i,by simp[z],.o,.o,.o⟩
   ·exact⟨i+1,by simp[z],.o,.o,.o⟩
 have pw:(xs.map (cg row)).Pairwise fun a b=>a=b->a=.ah:=by
  rw[Zdl]
  refine List.Pairwise.imp_of_mem ?_ h3
  intro a b ha hb sP e
  rcases Yk h ha with rfl |⟨i,rfl,_⟩
  ·rfl
  ·rcases Yk h hb with rfl |⟨j,rfl,_⟩
   ·rw[e];rfl
   ·have:=Zd6 e
    subst this
    cases sP rfl
 refine Iw.mpr ⟨by rw[Ii];omega,fun v hv=> ?_,?_⟩
 ·unfold putL at hv
  have ok:v∈xs.map (cg row)->v=.ah∨bh v 0 (hg+1 - 1)=true:=fun hm=>by
   rcases items v hm with z |⟨i,rfl,i0,i1,_⟩
   ·exact .inl z
   ·exact .inr (Hl.mpr ⟨i0,.o⟩)
  rcases ZaC.mp hv with hv |hv
  ·rcases ZaC.mp hv with hv |hv
   ·exact ok (Zce hv)
   ·rw[Zax.mp hv]
    exact .inr (Hl.mpr ⟨hr,.o⟩)
  ·exact ok (ZbH hv)
 ·unfold putL
  have sp:((xs.map (cg row)).take line++(xs.map (cg row)).drop line).Pairwise fun a b=>a=b->a=.ah:=by rw[Zbu];exact pw
  obtain⟨p1,p2,p3⟩:=Zbf.mp sp
  have nr:∀v∈xs.map (cg row),v≠.int row:=fun v hv z=>by
   rcases items v hv with y |⟨i,y,_,_,ni⟩
   ·rw[y]at z;cases z
   ·rw[y]at z;cases z;exact ni rfl
  refine Zbf.mpr ⟨Zbf.mpr ⟨p1,Zd2 _ _,fun a ha b hb e=> ?_⟩,p2,fun a ha b hb e=> ?_⟩
  ·rw[Zax.mp hb]at e
   exact absurd e (nr a (Zce ha))
  ·rcases ZaC.mp ha with ha |ha
   ·exact p3 a ha b hb e
   ·rw[Zax.mp ha]at e
    exact absurd e.symm (nr b (ZbH hb))
section
variable {P:Program}{w:World}{K:ZhQ}{mg:Str->Option Value}{base:Heap}
abbrev zd:Stmt:=top 39
def qT:Sp:=fun vs H Q _=> ∃(x:V) (wd hg:Int),vs=[x]/\bR H x wd hg/\∀(t:Addr) H',ag H H'->H' t=some (.tup [.int (wd+1),.int (hg+1)])->Q (.ref t) H'
theorem Me:aZ ["board"] ["board"] (ay zd):=ZL (by decide+kernel)
theorem TZ {f:Addr}{fd:FuncData}(F:aG K "grown" "grown" zd f fd):aA P w K mg base aE 1 f fd ["board"] qT:=by
 refine F.ok Me (fun vs H Q E h=> ?_) (fun aq A outer s H vs Q E hr h=> ?_)
 ·obtain⟨x,wd,hg,rfl,_⟩:=h
  rfl
 ·obtain⟨x,wd,hg,rfl,bd,q⟩:=h
  obtain⟨a,rfl,ha⟩:=Zu bd.1
  refine⟨_,Zi (Zw (Zs (Za (Zm ZT (ZE ZN (pv 0) Zd (fun _ _=>rfl)) Zd) (Za (Zm ZT (ZE ZN (pv 0) Zd (fun _ _=>rfl)) Zd) Zb)))),?_⟩
  refine(er rfl ⟨a,_,_,_,rfl,rfl,aj.of ha,f9,_,_,rfl,rfl,_,rfl,a,_,_,_,rfl,rfl,aj.of ha,bI,_,_,rfl,rfl,aX,fun t ht=> ?_⟩)
  exact q t _ (Zp ht) Ze
abbrev uY:Stmt:=top 40
def oM (K:ZhQ):Sp:=fun vs H Q _=> ∃(x:V) (l:Addr) (xs:List V) (wd hg c:Int),vs=[x,.ref l,.int c]/\bB K H x l xs wd hg/\wd<=11/\hg<=11/\0<=c/\c<=3/\
 ∀(t:Addr) H',ag H H'->H' t=some (.tup (putL xs (bY (wd+1) c).toNat (cD (hg+1) c)))->Q (.ref t) H'
theorem qX:aZ ["board", "lay", "corner", "line", "row", "moved"] ["board", "lay", "corner"] (ay uY):=ZL (by decide+kernel)
theorem Vo {xs:List V}{k:Nat}(h:k<=xs.length):cI xs none (some (k:Int))=xs.take k:=by
 unfold cI
 rw[HT.vg,HT.vh,ZeV,Nat.sub_zero,ZeE h]
theorem Zc8 {xs:List V}{k:Nat}(h:k<=xs.length):cI xs (some (k:Int)) none=xs.drop k:=by
 unfold cI
 rw[HT.vg,HT.vh,ZeE h]
 exact ZbZ (by rw[ZbB];omega)
theorem VT {f:Addr}{fd:FuncData}(F:aG K "put_to" "put_to" uY f fd) (G:Gs mg) (D1:Def P w K mg base 7 "need_corner" ["board", "lay", "corner"] (uL K)) (Dna:Def P w K mg base 1 "need_at_most" ["board", "wide", "high"] S.yy) (tW:Def P w K mg base 1 "grown" ["board"] qT) (D2:Def P w K mg base 1 "corner_point" ["board", "corner"] (yJ K)):aA P w K mg base aE 8 f fd ["board", "lay", "corner"] (oM K):=by
 obtain⟨tk,hL⟩:=G.longest
 refine F.ok qX (fun vs H Q E h=> ?_) (fun aq A outer s H vs Q E hr h=> ?_)
 ·obtain⟨x,l,xs,wd,hg,c,rfl,_⟩:=h
  rfl
 ·obtain⟨x,l,xs,wd,hg,c,rfl,la,je,kq,c0,c3,q⟩:=h
  refine⟨_,Zc (Zy (Zf D1 hr (Za (pv 0) (Za (pv 1) (Za (pv 2) Zb)))))
   (Zc (Zy (Zf Dna (hr.mono .d) (Za (pv 0) (Za (Zm ZU (Yi (v:=.int 12) rfl hL ⟨_,rfl⟩) Zd) (Za (Zm ZU (Yi (v:=.int 12) rfl hL ⟨_,rfl⟩) Zd) Zb)))))
   (Zc (YK (Zf D2 (hr.mono .d) (Za (Zf tW (hr.mono .d) (Za (pv 0) Zb)) (Za (pv 2) Zb))) (Z3 rfl (Zk (ZD (i:=3) qX.nd rfl (Or.inl rfl)) (Zk (ZD (i:=4) qX.nd rfl (Or.inr rfl)) ZP))))
   (Zc (Zx (i:=5) qX.nd rfl (Or.inl rfl) (Z4 Jq rfl G.tuple ZeK (Za (Ye ["at", "row"] 1 [4] (BK (pv 1)) (fun C s H fp=>pb 0) (fun C s H fp=>Ya)
    (fun C s H fp D=>ZH rfl (Wz (PW.pt (Jm (YJ (YL (pv 0))) (YI (ZM xm (pv 0) (pv 1) (bF _))))) (pv 0) (Zm ZT (pv 0) Zd)))) Zb)))
   (Zi (Zw (Zm jV (Zm jV (Yy JG (pv 5) YW (YV (pv 3))) (Zs (Za (pv 4) Zb))) (Yy JG (pv 5) (YV (pv 3)) YW))))))),?_⟩
  obtain⟨a,rfl,ha⟩:=Zu la.bd.1
  obtain⟨_,w1,_,g1,_⟩:=id la.bd
  obtain⟨k0,k1⟩:=BO (wd:=wd+1) (c:=c) .o
  obtain⟨r0,r1⟩:=BI (hg:=hg+1) (c:=c) .o
  have ll:=Yj la.ly
  (try refine hZ _ _ ?_);refine Zj fun Z hZ=> (er rfl (er rfl (er rfl ⟨.ref a,l,xs,wd,hg,c,rfl,la,c0,c3,fun H1 s1=> ?_⟩)))
  dsimp only
  (try refine hZ _ _ ?_);refine Zj fun Z hZ=> (er rfl ⟨_,_,rfl,rfl,_,_,rfl,rfl,a,wd,hg,11,11,rfl,s1 _ _ ha,je,kq,?_⟩)
  dsimp only
  (try refine hZ _ _ ?_);refine Zj fun Z hZ=> (Zz (er rfl ⟨.ref a,wd,hg,rfl,la.bd.same s1,fun t2 H2 s2 e2=> ?_⟩))
  refine(er rfl ⟨.ref t2,wd+1,hg+1,c,rfl,⟨Zl e2,.o,.o,.o,.o⟩,c0,c3,fun t3 H3 s3 e3=> ⟨t3,_,rfl,aj.of e3,rfl,_,_,rfl,_,_,rfl,rfl,?_⟩⟩)
  dsimp only[List.set]
  have vp:=s1.trans (s2.trans s3)
  have items:∀v∈xs,v=.ah∨∃i:Int,v=.int i/\0<=i/\i<hg:=fun v hv=>Yk la.ly hv
  unfold putL at q
  generalize bY (wd+1) c=k at *
  generalize cD (hg+1) c=row at *
  have lO:=vp _ _ la.at_
  (try refine hZ _ _ ?_);refine Zj fun Z hZ=> (Zz (er rfl ⟨l,rfl,⟨xs,aj.of lO⟩,?_⟩))
  refine WH (xs:=xs) (fun j ys σ H6=>ys=(xs.take j).map (cg row)/\H6=H3/\∃v,σ=[v,some (.int row)]) ⟨rfl,rfl,none,rfl⟩ (fun j ys σ H6 _ ⟨_,e,_⟩=>by rw[e];exact aj.of lO) ?_ ?_
  ·rintro j y ys σ H6 hy ⟨rfl,rfl,v,rfl⟩
   have hj:=(Zad.mp hy).1
   have eu:(xs.take (j+1)).map (cg row)=(xs.take j).map (cg row)++[cg row y]:=by
    rw[ZbO,hy,ZbA]
    rfl
   have fin:∀u,cg row y=u->((xs.take j).map (cg row)).length<sizeLine/\((xs.take j).map (cg row)++[u]=(xs.take (j+1)).map (cg row)/\H6=H6/\∃v,[some y,some (V.int row)]=[v,some (.int row)]):=fun u e=>by
    refine⟨?_,?_,rfl,_,rfl⟩
    ·rw[Zar,ZaS,ZaH];omega
    ·rw[eu,e]
   rcases items y (ZaX hy) with rfl |⟨i,rfl,i0,i1⟩
   ·exact(er rfl (er rfl (aV (aV (er rfl (fin _ rfl))))))
   ·refine(er rfl (er rfl (aO (er rfl (er rfl ⟨_,_,rfl,rfl,_,rfl,?_⟩)))))
    by_cases az:i<row
    ·rw[ZaR az]
     exact aV (er rfl (fin _ (by show(if i<row then _ else _)=_;rw[ZaY az])))
    ·rw[ZaA az]
     exact aO (er rfl ⟨_,_,rfl,rfl,fin _ (by show(if i<row then _ else _)=_;rw[ZaK az])⟩)
  rintro ys σ H6 ⟨rfl,rfl,v,rfl⟩ L hL
  rw[Zb2]
  have lm:(xs.map (cg row)).length=xs.length:=Zar _
  generalize xs.map (cg row)=ms at lm q hL |-
  refine⟨L,_,rfl,.inl ⟨ai.of Ze,fun t4 mZ=>Zt ?_⟩⟩
  dsimp only[List.set]
  have s4:=(Zp (o:=.lst ms) hL).trans (Zp (o:=.tup ms) mZ)
  have e4:upd (upd H6 L (.lst ms)) t4 (.tup ms) t4=some (.tup ms):=Ze
  generalize upd (upd H6 L (.lst ms)) t4 (HO.tup ms)=H7 at s4 e4
  have ek:k=(k.toNat:Int):=.o
  have c1:=Vo (xs:=ms) (k:=k.toNat) .o
  have c2:cI ms (some (k.toNat:Int)) none=ms.drop k.toNat:=Zc8 .o
  rw[<-ek]at c1 c2
  refine hZ _ _ ?_
  refine(er rfl (er rfl (er rfl ⟨t4,_,rfl,e4,fun t5 H8 s5 e5=> (er rfl ⟨bO,fun t6 Pj=> ?_⟩)⟩)))
  rw[c1]at e5
  obtain⟨H9,zz,s6,e6⟩:=aH (o:=.tup [V.int row]) Pj
  rw[zz]
  refine ql (s6 _ _ e5) e6 (by rw[ZaH,ZaS];simp;omega) fun t7 fP s7 e7=> ?_
  have De:=s5.trans (s6.trans s7)
  refine(er rfl (er rfl (er rfl ⟨t4,_,rfl,De _ _ e4,fun t8 xF s8 e8=> ?_⟩)))
  rw[c2]at e8
  refine ql (s8 _ _ e7) e8 (by rw[ZaH,Zap,ZaS,ZbB];simp;omega) fun t9 iA s9 e9=> ?_
  exact q t9 iA (vp.trans (s4.trans (De.trans (s8.trans s9)))) e9
end
end U
namespace U.S
open PySem L2 PyProof.Rows
theorem pG {wd hg:Int}{xs:List V}(h:bw wd hg (some xs)=true):jI wd hg xs:=by
 have h':(decide ((xs.length:Int)=wd)&&((rowsOf xs).all fun r=>bh r 0 (hg - 1))&&decide (rowsOf xs).Nodup)=true:=h
 simp only[ZaL,Zb5,ZaZ]at h'
 exact⟨h'.1.1,h'.1.2,h'.2⟩
end U.S
namespace U
open PySem L2 PyProof.Rows
def jy (wd hg:Int) (xs:List V) (n:Nat):List Int:=((List.range n).filter fun(c:Nat)=>S.bL (putL xs (bY (wd+1) c).toNat (cD (hg+1) c))).map fun(c:Nat)=> (c:Int)
theorem Jh (wd hg:Int) (xs:List V) (n:Nat):jy wd hg xs (n+1)=jy wd hg xs n++(if S.bL (putL xs (bY (wd+1) n).toNat (cD (hg+1) n))=true then [(n:Int)] else []):=by
 unfold jy
 rw[ZeF,Zey,ZbA]
 congr 1
 by_cases h:S.bL (putL xs (bY (wd+1) n).toNat (cD (hg+1) n))=true
 ·simp[h]
 ·simp[h]
theorem WS (wd hg:Int) (xs:List V) (n:Nat):(jy wd hg xs n).length<=n:=by
 unfold jy
 rw[Zar]
 exact Zcd (List.length_filter_le _ _) (by rw[Zcb];exact Zae _)
section
variable {P:Program}{w:World}{K:ZhQ}{mg:Str->Option Value}{base:Heap}
abbrev rh:Stmt:=top 41
def qU (K:ZhQ):Sp:=fun vs H Q _=> ∃(x:V) (l:Addr) (xs:List V) (wd hg:Int),vs=[x,.ref l]/\bB K H x l xs wd hg/\S.bL xs=true/\wd<=11/\hg<=11/\∀(L:Addr) H',ag H H'->H L=none->H' L=some (.lst ((jy wd hg xs 4).map V.int))->Q (.ref L) H'
theorem yP:aZ ["board", "lay"] ["board", "lay"] (ay rh):=ZL (by decide+kernel)
theorem T3 {f:Addr}{fd:FuncData}(F:aG K "good_corners" "good_corners" rh f fd) (G:Gs mg) (Ci:Def P w K mg base 12 "need_unlike" ["board", "lay"] S.uK) (Cg:Def P w K mg base 11 "is_unlike" ["board", "lay"] S.oJ) (tW:Def P w K mg base 1 "grown" ["board"] qT) (tU:Def P w K mg base 8 "put_to" ["board", "lay", "corner"] (oM K)):aA P w K mg base aE 13 f fd ["board", "lay"] (qU K):=by
 obtain⟨tk,hL⟩:=G.last
 refine F.ok yP (fun vs H Q E h=> ?_) (fun aq A outer s H vs Q E hr h=> ?_)
 ·obtain⟨x,l,xs,wd,hg,rfl,_⟩:=h
  rfl
 ·obtain⟨x,l,xs,wd,hg,rfl,la,un,je,kq,q⟩:=h
  refine⟨_,Zc (Zy (Zf Ci hr (Za (pv 0) (Za (pv 1) Zb))))
   (Zi (Zw (Ye ["corner", "board", "lay"] 1 [0,1] (Z2 rfl G.range (Za (Zm ZT (Yi (v:=.int 3) rfl hL ⟨_,rfl⟩) Zd) Zb)) (fun C s H fp=>pb 0)
    (fun C s H fp=>Yr (ZK (Zf Cg (hr.mono .d) (Za (Zf tW (hr.mono .d) (Za (pv 1) Zb)) (Za (Zf tU (hr.mono .d) (Za (pv 1) (Za (pv 2) (Za (pv 0) Zb)))) Zb)))))
    (fun C s H fp D=>ZH rfl (pv 0))))),?_⟩
  obtain⟨a,rfl,ha⟩:=Zu la.bd.1
  obtain⟨_,w1,_,g1,_⟩:=id la.bd
  have ll:=Yj la.ly
  (try refine hZ _ _ ?_);refine Zj fun Z hZ=> (er rfl (er rfl ⟨.ref a,.ref l,wd,hg,xs,rfl,⟨la.bd,Zl la.at_,S.pG la.ly⟩,un,fun H1 s1=> ?_⟩))
  dsimp only
  refine hZ _ _ ?_
  refine⟨_,_,rfl,rfl,4,rfl,.d,.d,?_⟩
  refine YC (n:=4) (fun j ys σ H'=> ∃v0,σ=[v0,some (.ref a),some (.ref l)]/\ag H1 H'/\ys=(jy wd hg xs j).map V.int) (er rfl ⟨ag.refl _,rfl⟩) ?_ ?_
  ·rintro j ys σ H' hj ⟨v0,rfl,s',rfl⟩
   rw[Ze7]
   refine Zt ?_
   dsimp only[List.set]
   have s0:=s1.trans s'
   have zQ:bB K H' (.ref a) l xs wd hg:=⟨la.bd.same s0,s0 _ _ la.at_,la.ly⟩
   refine(er rfl ⟨.ref a,wd,hg,rfl,zQ.bd,fun t2 H2 s2 e2=> ?_⟩)
   refine(er rfl (er rfl (er rfl ⟨.ref a,l,xs,wd,hg,(j:Int),rfl,⟨zQ.bd.same s2,s2 _ _ zQ.at_,la.ly⟩,je,kq,.o,.o,fun t3 H3 s3 e3=> ?_⟩)))
   obtain⟨k0,k1⟩:=BO (wd:=wd+1) (c:=(j:Int)) .o
   obtain⟨r0,r1⟩:=BI (hg:=hg+1) (c:=(j:Int)) .o
   have pl:=Ih (row:=cD (hg+1) j) (line:=(bY (wd+1) j).toNat) la.ly r0 .o .o
   refine⟨.ref t2,.ref t3,wd+1,hg+1,_,rfl,⟨⟨Zl (s3 _ _ e2),.o,.o,.o,.o⟩,Zl e3,S.pG pl⟩,fun H4 r4 s4 f4=> (er rfl (?_))⟩
   rw[S.xO f4]
   have sA:=s'.trans (s2.trans (s3.trans s4))
   have gl:=WS wd hg xs j
   by_cases hu:S.bL (putL xs (bY (wd+1) (j:Int)).toNat (cD (hg+1) (j:Int)))=true
   ·rw[hu]
    refine aV (er rfl ⟨by rw[Zar,ZaH];omega,_,rfl,sA,?_⟩)
    rw[Jh,ZaY hu,ZbA]
    rfl
   ·rw[Bool.eq_false_iff.mpr hu]
    refine aO (er rfl ⟨sA,?_⟩)
    rw[Jh,ZaK hu,ZbT]
  ·rintro ys σ H' ⟨v0,rfl,s',rfl⟩ L AY
   have n0:H L=none:=by
    cases h:H L with
    |none=>rfl
    |some u=>rw[(s1.trans s') _ _ h]at AY;cases AY
   exact q L _ (s1.trans (s'.trans (Zp AY))) n0 Ze
end
end U
namespace U.S
open PySem L2 PyProof.Rows
section
variable {P:Program}{w:World}{K:ZhQ}{mg:Str->Option Value}{base:Heap}{cB cN cM:Addr}
def aal (H:Hp) (x:V):Prop:=∃wd hg,bR H x wd hg/\(11<wd∨11<hg)
def yx (cM:Addr):Sp:=fun vs H _ E=> ∃x,vs=[x,.int 11,.int 11]/\aal H x/\∀e H',ag H H'->E (.ref e) (some cM) H'
theorem Nq {f:Addr}{fd:FuncData}(F:aG K "need_at_most" "need_at_most" vd f fd) (X:Exc K mg "TooMany" cM):aA P w K mg base (aC P w) 1 f fd ["board", "wide", "high"] (yx cM):=by
 refine F.fk C8 (fun vs H Q E h=> ?_) (fun aq A outer s H vs Q E hr h=> ?_)
 ·obtain⟨x,rfl,_⟩:=h
  rfl
 ·obtain⟨x,rfl,⟨wd,hg,bd,gr⟩,q⟩:=h
  obtain⟨b,rfl,hb⟩:=Zu bd.1
  refine⟨_,Zi (ZO (PW.pt (Jm (ZM Uy (ZE ZN (pv 0) Zd (fun _ _=>rfl)) (pv 1) (bF _)) (YI (ZM Uy (ZE ZN (pv 0) Zd (fun _ _=>rfl)) (pv 2) (bF _)))))
   (Zi (YO Zdc X.m X.x rfl (Za (IC ZS (pv 1) ZS (pv 2) ZS) Zb))) Zv),?_⟩
  refine(er rfl ⟨b,_,0,.int wd,rfl,rfl,aj.of hb,rfl,_,rfl,_,_,rfl,rfl,_,rfl,?_⟩)
  by_cases h1:wd>11
  ·rw[ZaR h1]
   refine aV (aV (er rfl ⟨.d,_,rfl,11,rfl,.d,.d,_,rfl,.d,_,rfl,11,rfl,.d,.d,_,rfl,.d,fun z=> ⟨bO,fun e=>q e H (ag.refl H)⟩⟩))
  ·rw[ZaA h1]
   refine aO (er rfl ⟨b,_,1,.int hg,rfl,rfl,aj.of hb,rfl,_,rfl,_,_,rfl,rfl,_,rfl,?_⟩)
   rw[ZaR (show hg>11 by omega)]
   exact aV (er rfl ⟨.d,_,rfl,11,rfl,.d,.d,_,rfl,.d,_,rfl,11,rfl,.d,.d,_,rfl,.d,fun z=> ⟨bO,fun e=>q e H (ag.refl H)⟩⟩)
end
end U.S
namespace U
open PySem L2 PyProof.Rows
section
variable {P:Program}{w:World}{K:ZhQ}{mg:Str->Option Value}{base:Heap}{aB aL aN aM:Addr}
def aaq (K:ZhQ) (aB aL aN aM:Addr) (H:Hp) (x y z:V) (C:Addr):Prop:=KH K aB aL aN H x y z C∨(C=aM/\∃(l:Addr) (xs:List V) (wd hg c:Int),y=.ref l/\z=.int c/\0<=c/\c<=3/\bB K H x l xs wd hg/\(11<wd∨11<hg))
def oK (K:ZhQ) (aB aL aN aM:Addr):Sp:=fun vs H _ E=> ∃x y z C,vs=[x,y,z]/\aaq K aB aL aN aM H x y z C/\∀e H',ag H H'->E (.ref e) (some C) H'
theorem VL {f:Addr}{fd:FuncData}(F:aG K "put_to" "put_to" uY f fd) (G:Gs mg) (D1:Def P w K mg base 7 "need_corner" ["board", "lay", "corner"] (uL K)) (R1:aW P w K mg base 7 "need_corner" ["board", "lay", "corner"] (yv K aB aL aN)) (R2:aW P w K mg base 1 "need_at_most" ["board", "wide", "high"] (S.yx aM)):aA P w K mg base (aC P w) 8 f fd ["board", "lay", "corner"] (oK K aB aL aN aM):=by
 obtain⟨tk,hL⟩:=G.longest
 refine F.fk qX (fun vs H Q E h=> ?_) (fun aq A outer s H vs Q E hr h=> ?_)
 ·obtain⟨x,y,z,C,rfl,_⟩:=h
  rfl
 ·obtain⟨x,y,z,C,rfl,b |⟨rfl,l,xs,wd,hg,c,rfl,rfl,c0,c3,la,gr⟩,q⟩:=h
  ·refine⟨_,Zc (Zy (ZX R1 hr (Za (pv 0) (Za (pv 1) (Za (pv 2) Zb))))) Zr,?_⟩
   exact⟨x,rfl,y,rfl,z,rfl,x,y,z,C,rfl,b,q⟩
  ·refine⟨_,Zc (Zy (Zf D1 hr (Za (pv 0) (Za (pv 1) (Za (pv 2) Zb)))))
    (Zc (Zy (ZX R2 (hr.mono .d) (Za (pv 0) (Za (Zm ZU (Yi (v:=.int 12) rfl hL ⟨_,rfl⟩) Zd) (Za (Zm ZU (Yi (v:=.int 12) rfl hL ⟨_,rfl⟩) Zd) Zb))))) Zr),?_⟩
   (try refine hZ _ _ ?_);refine Zj fun Z hZ=> (er rfl (er rfl (er rfl ⟨x,l,xs,wd,hg,c,rfl,la,c0,c3,fun H1 s1=> ?_⟩)))
   dsimp only
   refine hZ _ _ ?_
   exact(er rfl ⟨_,_,rfl,rfl,_,_,rfl,rfl,x,rfl,⟨wd,hg,la.bd.same s1,gr⟩,fun e H' s'=>q e H' (s1.trans s')⟩)
end
end U
namespace U.S
open PySem L2 PyProof.Rows
section
variable {P:Program}{w:World}{K:ZhQ}{mg:Str->Option Value}{base:Heap}{cB cL cU:Addr}
def aap (K:ZhQ) (cB cL cU:Addr) (H:Hp) (x y:V) (C:Addr):Prop:=KI K cB cL H x y C∨(C=cU/\∃wd hg xs,bB H x y wd hg xs/\bL xs=false)
def jg (K:ZhQ) (cB cL cU:Addr):Sp:=fun vs H _ E=> ∃x y C,vs=[x,y]/\aap K cB cL cU H x y C/\∀e H',ag H H'->E (.ref e) (some C) H'
theorem Nm {f:Addr}{fd:FuncData}(F:aG K "need_unlike" "need_unlike" u9 f fd) (X:Exc K mg "NoUnlike" cU) (D1:Def P w K mg base 11 "is_unlike" ["board", "lay"] oJ) (R1:aW P w K mg base 11 "is_unlike" ["board", "lay"] (dN K cB cL)):aA P w K mg base (aC P w) 12 f fd ["board", "lay"] (jg K cB cL cU):=by
 refine F.fk C6 (fun vs H Q E h=> ?_) (fun aq A outer s H vs Q E hr h=> ?_)
 ·obtain⟨x,y,C,rfl,_⟩:=h
  rfl
 ·obtain⟨x,y,C,rfl,b,q⟩:=h
  rcases b with b |⟨rfl,wd,hg,xs,la,un⟩
  ·refine⟨_,Zi (ZO (Z0 (ZK (ZX R1 hr (Za (pv 0) (Za (pv 1) Zb))))) Zr Zv),?_⟩
   exact⟨x,rfl,y,rfl,x,y,C,rfl,b,q⟩
  ·refine⟨_,Zi (ZO (Z0 (ZK (Zf D1 hr (Za (pv 0) (Za (pv 1) Zb))))) (Zi (YO Zdc X.m X.x rfl (Za ZS Zb))) Zv),?_⟩
   refine(er rfl (er rfl ⟨x,y,wd,hg,xs,rfl,la,fun H1 r s1 fi=> (er rfl (?_))⟩))
   rw[xO fi,un]
   exact aV ⟨bO,fun e=>q e H1 s1⟩
theorem Nw {f:Addr}{fd:FuncData}(F:aG K "good_corners" "good_corners" rh f fd) (R1:aW P w K mg base 12 "need_unlike" ["board", "lay"] (jg K cB cL cU)):aA P w K mg base (aC P w) 13 f fd ["board", "lay"] (jg K cB cL cU):=by
 refine F.fk yP (fun vs H Q E h=> ?_) (fun aq A outer s H vs Q E hr h=> ?_)
 ·obtain⟨x,y,C,rfl,_⟩:=h
  rfl
 ·obtain⟨x,y,C,rfl,b,q⟩:=h
  refine⟨_,Zc (Zy (ZX R1 hr (Za (pv 0) (Za (pv 1) Zb)))) Zr,?_⟩
  exact⟨x,rfl,y,rfl,x,y,C,rfl,b,q⟩
end
end U.S
namespace U
open PySem L2 PyProof.Rows
def jB (xs:List V) (line row d e:Int) (i:Nat) (j:Int):Option V:=
 if j=line then some (.int row) else if 0<=j - d/\j - d<i then (match xs[(j - d).toNat]? with |some (.int v)=>some (.int (v+e)) |_=>none) else none
theorem Zc6 {xs:List V}{line row d e:Int}{i:Nat}(h:xs[i]? =some .ah) (j:Int):jB xs line row d e (i+1) j=jB xs line row d e i j:=by
 unfold jB
 by_cases y:j=line
 ·rw[ZaY y,ZaY y]
 rw[ZaK y,ZaK y]
 by_cases z:j - d=i
 ·rw[ZaK (show ¬(0<=j - d/\j - d< (i:Nat)) by omega),ZaY .o,z,Zeg,h]
 ·by_cases y:0<=j - d/\j - d< (i:Nat)
  ·rw[ZaY y,ZaY .o]
  ·rw[ZaK y,ZaK .o]
theorem V5 {xs:List V}{line row d e v:Int}{i:Nat}(hl:(i:Int)+d≠line) (h:xs[i]? =some (.int v)) (j:Int):jB xs line row d e (i+1) j=if j=i+d then some (.int (v+e)) else jB xs line row d e i j:=by
 unfold jB
 by_cases y:j=line
 ·rw[ZaY y,ZaY y,ZaK .o]
 rw[ZaK y,ZaK y]
 by_cases z:j=i+d
 ·rw[ZaY z,ZaY .o,show(j - d).toNat=i by omega,h]
 ·rw[ZaK z]
  by_cases y:0<=j - d/\j - d< (i:Nat)
  ·rw[ZaY y,ZaY .o]
  ·rw[ZaK y,ZaK .o]
theorem Vp {xs:List V}{wd hg c:Int}{j:Nat}(h:bw wd hg (some xs)=true) (w1:1<=wd) (g1:1<=hg) (hj:(j:Int)<wd+1):
  (putL xs (bY (wd+1) c).toNat (cD (hg+1) c))[j]? =some ((jB xs (bY (wd+1) c) (cD (hg+1) c) (z1 (bY (wd+1) c)) (z1 (cD (hg+1) c)) xs.length j).getD .ah):=by
 have ll:=Yj h
 have kk:bY (wd+1) c=0∨bY (wd+1) c=wd:=by unfold bY;split<;>simp
 have rr:cD (hg+1) c=0∨cD (hg+1) c=hg:=by unfold cD;split<;>simp
 generalize bY (wd+1) c=line at *
 generalize cD (hg+1) c=row at *
 have lm:(xs.map (cg row)).length=xs.length:=Zar _
 have item:∀{m:Nat} (hm:m<xs.length),cg row xs[m]=((match xs[m]? with |some (.int v)=>some (V.int (v+z1 row)) |_=>none).getD .ah):=fun {m} hm=>by
  rw[Zag hm]
  rcases Yk h (ZeR hm) with z |⟨v,z,v0,v1⟩
  ·rw[z];rfl
  ·rw[z]
   show(if v<row then V.int v else V.int (v+1))=V.int (v+z1 row)
   unfold z1
   rcases rr with y |y
   ·rw[ZaK .o,ZaY y]
   ·rw[ZaY .o,ZaK .o,Int.add_zero]
 unfold putL jB
 rcases kk with z |z
 ·have e1:z1 line=1:=by unfold z1;rw[ZaY z]
  rw[e1,z]
  show(((xs.map (cg row)).take 0++[V.int row]++(xs.map (cg row)).drop 0))[j]? =_
  rw[List.take_zero,Zdx,ZeV]
  cases j with
  |zero=>rfl
  |succ j=>
   have hm:j<xs.length:=.o
   rw[ZaK .o,ZaY .o,show(((j+1:Nat):Int) - 1).toNat=j by omega,List.singleton_append,List.getElem?_cons_succ,ZbG,Zag hm]
   have:=item hm
   rw[Zag hm]at this
   exact ZeM some this
 ·have e1:z1 line=0:=by unfold z1;rw[ZaK .o]
  have el:line.toNat=xs.length:=.o
  rw[e1,el,ZbZ .o,List.drop_of_length_le .o,ZbT]
  by_cases sj:j<xs.length
  ·rw[Zds .o,ZbG,Zag sj,ZaK .o,ZaY .o,show((j:Int) - 0).toNat=j by omega]
   exact ZeM some (item sj)
  ·have ej:j=xs.length:=.o
   rw[Zcn .o,ZaY .o,show j - (xs.map (cg row)).length=0 by omega]
   rfl
section
variable {P:Program}{w:World}{K:ZhQ}{mg:Str->Option Value}{base:Heap}
abbrev zf:Stmt:=top 57
def yH (K:ZhQ):Sp:=fun vs H Q _=> ∃(x:V) (l:Addr) (xs:List V) (wd hg c:Int),vs=[x,.ref l,.int c]/\bB K H x l xs wd hg/\wd<=11/\hg<=11/\0<=c/\c<=3/\∀(t:Addr) H',ag H H'->H' t=some (.tup (putL xs (bY (wd+1) c).toNat (cD (hg+1) c)))->Q (.ref t) H'
theorem mE:aZ ["_law_board", "_law_lay_here", "_law_corner_here", "_law_wide", "_law_high", "_law_line", "_law_row", "_law_there", "_law_at", "_law_one"] ["_law_board", "_law_lay_here", "_law_corner_here"] (ay zf):=ZL (by decide+kernel)
theorem TY {f:Addr}{fd:FuncData}(F:aG K "_law_due" "_law_due" zf f fd) (G:Gs mg) (D1:Def P w K mg base 1 "_law_corner" ["_law_board", "_law_corner_here"] (yE K)):aA P w K mg base aE 2 f fd ["_law_board", "_law_lay_here", "_law_corner_here"] (yH K):=by
 refine F.ok mE (fun vs H Q E h=> ?_) (fun aq A outer s H vs Q E hr h=> ?_)
 ·obtain⟨x,l,xs,wd,hg,c,rfl,_⟩:=h
  rfl
 ·obtain⟨x,l,xs,wd,hg,c,rfl,la,je,kq,c0,c3,q⟩:=h
  have hu:=xn hr
  refine⟨_,Zc (BL (i:=3) (j:=4) rfl mE.nd rfl rfl .d rfl rfl (Za (Zm ZT (ZE ZN (pv 0) Zd (fun _ _=>rfl)) Zd) (Za (Zm ZT (ZE ZN (pv 0) Zd (fun _ _=>rfl)) Zd) Zb)) rfl)
   (Zc (YK (Zf D1 hr (Za (Zs (Za (pv 3) (Za (pv 4) Zb))) (Za (pv 2) Zb))) (Z3 rfl (Zk (ZD (i:=5) mE.nd rfl (Or.inl rfl)) (Zk (ZD (i:=6) mE.nd rfl (Or.inl rfl)) ZP))))
   (Zc (Zx (i:=7) mE.nd rfl (Or.inr rfl) (Z4 Ul rfl G.dict PyProof.Rows.Boot.«dict» (Za (ZG (Za (Zs (Za (pv 5) (Za (pv 6) Zb))) Zb)) Zb)))
   (Zc (Ju ZeL rfl (HZ rfl G.enumerate (Za (pv 1) Zb)) (Z3 rfl (Zk (ZD (i:=8) mE.nd rfl (Or.inl rfl)) (Zk (ZD (i:=9) mE.nd rfl (Or.inl rfl)) ZP)))
    (Zi (ZO (YJ (Wp (pv 9)))
     (Zi (Xt hu (pv 7) (Zm ZT (pv 8) (Z4 UP rfl G.int boot_int (Za (Z7 Y3 (pv 5) Zd (bF _)) Zb))) (Zm ZT (pv 9) (Z4 UP rfl G.int boot_int (Za (Z7 Y3 (pv 6) Zd (bF _)) Zb))) rfl)) Zv)))
   (Zi (Zw (Z4 Jq rfl G.tuple ZeK (Za (Ye ["_law_at", "_law_there"] 1 [7] (Z2 rfl G.range (Za (pv 3) Zb)) (fun C s H fp=>pb 0) (fun C s H fp=>Ya)
    (fun C s H fp D=>ZH rfl (ZdF hu (pv 1) (pv 0) ⟨rfl,rfl,rfl,rfl⟩))) Zb))))))),?_⟩
  obtain⟨_,w1,qA,g1,RE⟩:=id la.bd
  obtain⟨a,rfl,ha⟩:=Zu la.bd.1
  have ll:=Yj la.ly
  (try refine hZ _ _ ?_);refine Zj fun Z hZ=> (er rfl ⟨a,_,_,_,rfl,rfl,aj.of ha,f9,_,_,rfl,rfl,_,rfl,a,_,_,_,rfl,rfl,aj.of ha,bI,_,_,rfl,rfl,_,_,rfl,?_⟩)
  dsimp only[List.set]
  (try refine hZ _ _ ?_);refine Zj fun Z hZ=> (Zz (er rfl (er rfl ⟨aX,fun t1 j9=> ?_⟩)))
  obtain⟨H1,zz,s1,e1⟩:=aH (o:=.tup [V.int (wd+1),V.int (hg+1)]) j9
  rw[zz]
  refine(er rfl ⟨.ref t1,wd+1,hg+1,c,rfl,⟨Zl e1,.o,.o,.o,.o⟩,c0,c3,fun t H2 s2 e2=> ⟨t,_,rfl,aj.of e2,rfl,_,_,rfl,_,_,rfl,rfl,?_⟩⟩)
  dsimp only[List.set]
  have SM:=fun {j:Nat} (hj:(j:Int)<wd+1)=>Vp (c:=c) (j:=j) la.ly w1 g1 hj
  have aay:(putL xs (bY (wd+1) c).toNat (cD (hg+1) c)).length=xs.length+1:=Ii _ _ _
  have kk:bY (wd+1) c=0∨bY (wd+1) c=wd:=by unfold bY;split<;>simp
  generalize putL xs (bY (wd+1) c).toNat (cD (hg+1) c)=ts at *
  generalize bY (wd+1) c=line at *
  generalize cD (hg+1) c=row at *
  (try refine hZ _ _ ?_);refine Zj fun Z hZ=> (Zz (er rfl (er rfl ⟨aX,fun t3 Pl=> ?_⟩)))
  obtain⟨H3,zz,s3,e3⟩:=aH (o:=.tup [V.int line,V.int row]) Pl
  rw[zz]
  refine⟨bO,fun L4 iV=> ?_⟩
  obtain⟨H4,zz,s4,e4⟩:=aH (o:=.lst [V.ref t3]) iV
  rw[zz]
  refine⟨L4,_,[(Sum.inl line,.int row)],rfl,e4,.cons ⟨t3,rfl,s4 _ _ e3⟩ .nil,by simp,fun d hd=>Zt ?_⟩
  dsimp only[List.set]
  have rj:=s1.trans (s2.trans (s3.trans s4))
  have em:mO [] [((Sum.inl line:Key),V.int row)]=[(Sum.inl line,.int row)]:=rfl
  rw[em]
  have sd:=Zp (o:=.dK [((Sum.inl line:Key),V.int row)]) hd
  have Qx:H d=none:=rj.free hd
  have ed:upd H4 d (.dK [((Sum.inl line:Key),V.int row)]) d=some (.dK [(Sum.inl line,.int row)]):=Ze
  have sA:av d H (upd H4 d (.dK [((Sum.inl line:Key),V.int row)])):=(rj.trans sd).x
  generalize upd H4 d (HO.dK [((Sum.inl line:Key),V.int row)])=H5 at ed sA
  have zT:∀{H4:Hp},av d H H4->ag H H4:=fun x b o h=>x b o h (fun z=>by rw[z,Qx]at h;cases h)
  (try refine hZ _ _ ?_);refine Zj fun Z hZ=> (er rfl ⟨l,rfl,⟨xs,aj.of (zT sA _ _ la.at_)⟩,?_⟩)
  refine Xc (xs:=xs) (fun i σ H4=> ∃(af:List (Key×V)) (v6 v7:Option V),σ=[some (.ref a),some (.ref l),some (.int c),some (.int (wd+1)),some (.int (hg+1)),some (.int line),some (.int row),some (.ref d),v6,v7]/\av d H H4/\H4 d=some (.dK af)/\af.length<=i+1/\∀j:Int,cQ af (Sum.inl j)=jB xs line row (z1 line) (z1 row) i j)
   ⟨_,none,none,rfl,sA,ed,Zae _,fun j=>by
    unfold jB
    by_cases y:j=line
    ·rw[ZaY y,Z6 (by rw[y])]
    ·rw[ZaK y,ZaK .o]
     unfold cQ
     simp[ZeC,ZdS y]⟩ (fun i σ H4 _ ⟨_,_,_,_,x4,_⟩=>aj.of (zT x4 _ _ la.at_)) ?_ ?_
  ·rintro i v T σ H4 hv hT ⟨af,v6,v7,rfl,x4,e4,lk,hk⟩
   have hi:i<xs.length:=(Zad.mp hv).1
   have sT:ag H4 (upd H4 T (.par [.int (i:Int),v])):=Zp hT
   refine⟨T,_,rfl,aj.pe Ze,rfl,_,_,rfl,_,_,rfl,rfl,?_⟩
   dsimp only[List.set]
   have x5:av d H (upd H4 T (.par [.int (i:Int),v])):=x4.trans sT.x
   have e5:=sT _ _ e4
   generalize upd H4 T (HO.par [V.int (i:Int),v])=H5 at x5 e5
   refine(er rfl (er rfl (?_)))
   rcases Yk la.ly (ZaX hv) with rfl |⟨u,rfl,u0,u1⟩
   ·exact aO (Yd ⟨af,_,_,rfl,x5,e5,.o,fun j=>by rw[Zc6 hv];exact hk j⟩)
   ·have i1:∀k:Int,(if decide (V.int k=V.int 0)=true then (1:Int) else 0)=z1 k:=fun k=>by
     unfold z1
     by_cases y:k=0
     ·rw[ZaY y,ZaY (ZaR (by rw[y]))]
     ·rw[ZaK y,ZaK (by rw[ZaA (fun e=>y (by cases e;rfl))];decide)]
    have hl:(i:Int)+z1 line≠line:=by
     unfold z1
     rcases kk with z |z
     ·rw[ZaY z];omega
     ·rw[ZaK .o];omega
    refine aV (er rfl (er rfl ⟨rfl,.inr (er rfl ⟨_,_,rfl,rfl,_,rfl,_,rfl,_,rfl,rfl,.inr (er rfl ⟨_,_,rfl,rfl,d,_,rfl,tX.k (k:=Sum.inl _) e5 (by rw[ZaH];omega),?_⟩)⟩)⟩))
    rw[i1,i1]
    refine⟨_,_,_,rfl,x5.trans av.upd,Ze,Zcd (YF _ _ _) .o,fun j=> ?_⟩
    rw[X8,V5 hl hv,<-hk j]
    by_cases y:j=i+z1 line
    ·rw[ZaY y,ZaY (by rw[y])]
    ·rw[ZaK y,ZaK (fun e=>y (Sum.inl.inj e))]
  ·rintro σ H4 ⟨af,v6,v7,rfl,x4,e4,lk,hk⟩
   dsimp only
   refine hZ _ _ ?_
   refine(er rfl (er rfl ⟨.o,.o,?_⟩))
   refine YC (n:=(wd+1).toNat) (fun j ys σ H5=>ys=ts.take j/\H5=H4/\∃v,σ=[v,some (.ref d)]) ⟨rfl,rfl,none,rfl⟩ ?_ ?_
   ·rintro j ys σ H5 hj ⟨rfl,rfl,v,rfl⟩
    have look:qr H5 d (.int (0+(j:Int))) (cQ af (Sum.inl (j:Int))):=by
     rw[Ze7]
     exact qr.k (k:=Sum.inl (j:Int)) e4
    refine(er rfl ⟨d,rfl,.inl ⟨_,.inl e4⟩,_,rfl,_,look,?_,?_,rfl,_,rfl⟩)
    ·rw[ZaS,ZaH];omega
    ·rw[ZbO,SM .o,hk]
     rfl
   ·rintro ys σ H5 ⟨rfl,rfl,v,rfl⟩ L hL
    refine⟨L,_,rfl,.inl ⟨ai.of Ze,fun t' lJ=> ?_⟩⟩
    refine q t' _ ((zT x4).trans ((Zp hL).trans (Zp lJ))) ?_
    rw[Ze,ZbZ .o]
end
end U
namespace L2
open PySem PySem.Spec PyProof.Rows SeqAt
theorem ZcL {K:ZhQ}{l1 l2:Addr}{xs zs:List V}{g:TG}{tt:TT}{ti:TC}{ys:List V}{σ:St}{H:Hp}{Q:List V->St->Hp->Prop}(hlen:xs.length=zs.length) (Pv:Nat->List V->St->Hp->Prop) (h0:Pv 0 ys σ H)
  (hl:∀i ys σ H,i<=xs.length->Pv i ys σ H->ai K H l1 xs/\ai K H l2 zs)
  (hs:∀i x y T ys σ H,xs[i]? =some x->zs[i]? =some y->H T=none->Pv i ys σ H->g (.ref T) σ (upd H T (.par [x,y])) fun aT H2=>tt aT H2 fun b H3=>if b=true then ti ys aT H3 (Pv (i+1)) else Pv (i+1) ys aT H3)
  (hd:∀ys σ H,Pv xs.length ys σ H->Q ys σ H):gR g tt ti (xC K l1 l2) ys σ H Q:=by
 have e:min xs.length zs.length=xs.length:=by rw[<-hlen];exact Nat.min_self _
 refine UC Pv h0 (fun i ys σ H hi=>hl i ys σ H (by rw[e]at hi;exact hi)) hs ?_
 rw[e]
 exact hd
end L2
namespace U
open PySem L2 PyProof.Rows
section
variable {P:Program}{w:World}{K:ZhQ}{mg:Str->Option Value}{base:Heap}
def B5 (R:Hp->V->V->Prop) (H:Hp) (x y:V):Prop:=∃(a b:Addr) (xs ys:List V),x=.ref a/\y=.ref b/\H a=some (.lst xs)/\H b=some (.lst ys)/\Paired (R H) xs ys/\xs.length<=1000
theorem ZcH {R:Hp->V->V->Prop}{k:Nat}(hR:∀{H H':Hp}{x y:V},R H x y->ag H H'->R H' x y) {f:Addr}{fd:FuncData}(F:aG K "_law_same" "_law_same" oV f fd) (G:Gs mg) (D:Def P w K mg base k "_law_same" ["_law_found", "_law_due_here"] (gU R)):
  aA P w K mg base aE (k+1) f fd ["_law_found", "_law_due_here"] (gU (B5 R)):=by
 refine F.ok uS (fun vs H Q E h=> ?_) (fun aq A outer s H vs Q E hr h=> ?_)
 ·obtain⟨x,y,rfl,_⟩:=h
  rfl
 ·obtain⟨x,y,rfl,⟨a,b,xs,ys,rfl,rfl,ha,hb,pr,hl⟩,q⟩:=h
  refine⟨_,Zc (ZO (ZK (Zn (YM (a:= "list") (b:= "tuple")) rfl G.isinstance Zbw (Za (pv 1) (Za (Zs (Za (ZI (v:=.ty "list") rfl G.list Zfz rfl) (Za (ZI (v:=.ty "tuple") rfl G.tuple ZeK rfl) Zb))) Zb))))
    (Zc (ZO (PW.pt (Jm (ZM Ux (Zn (ZC (c:= "list")) rfl G.isinstance Zbw (Za (pv 0) (Za (ZI (v:=.ty "list") rfl G.list Zfz rfl) Zb))) (Zn (ZC (c:= "list")) rfl G.isinstance Zbw (Za (pv 1) (Za (ZI (v:=.ty "list") rfl G.list Zfz rfl) Zb))) (bF _))
      (YI (ZM Ux (Zn (ZC (c:= "tuple")) rfl G.isinstance Zbw (Za (pv 0) (Za (ZI (v:=.ty "tuple") rfl G.tuple ZeK rfl) Zb))) (Zn (ZC (c:= "tuple")) rfl G.isinstance Zbw (Za (pv 1) (Za (ZI (v:=.ty "tuple") rfl G.tuple ZeK rfl) Zb))) (bF _))))) Zr Zv)
    (Zi (Zw (YB (Z7 Y3 (Zn ZF rfl G.len Zfb (Za (pv 0) Zb)) (Zn ZF rfl G.len Zfb (Za (pv 1) Zb)) (bF _))
     (Yz (Zn JY rfl G.all boot_all (Za (Ye ["_law_one", "_law_other"] 2 [] (Ia rfl G.zip (Za (pv 0) (Za (pv 1) Zb)))
      (fun C s H fp=>show PG (aR _ _ _ C s H fp) _ (iY K 2 (cz (bP 0) (cz (bP 1) iZ))) from Z3 rfl (Zk (pb 0) (Zk (pb 1) ZP))) (fun C s H fp=>Ya)
      (fun C s H fp D'=>ZH rfl (Zf D hr (Za (pv 0) (Za (pv 1) Zb))))) Zb))))))) Zv) Zr,?_⟩
  refine(er rfl ⟨aX,fun t ht=> ?_⟩)
  obtain⟨H1,zz,s1,e1⟩:=aH (o:=.tup [V.ty "list",V.ty "tuple"]) ht
  rw[zz]
  have fY:=s1 _ _ ha
  have dj:=s1 _ _ hb
  refine⟨_,t,_,_,rfl,aj.of e1,.inr (.inr (.inl ⟨b,ys,rfl,dj,rfl⟩)),(show _=some true from rfl),_,rfl,aV ?_⟩
  refine(er rfl ⟨_,_,_,rfl,.lst fY,(show _=some true from rfl),_,rfl,_,_,_,rfl,.lst dj,(show _=some true from rfl),rfl,_,rfl,aO ?_⟩)
  refine(er rfl ⟨_,_,_,rfl,.lst fY,(show _=some false from rfl),_,rfl,_,_,_,rfl,.lst dj,(show _=some false from rfl),rfl,_,rfl,aO ?_⟩)
  have hlen:xs.length=ys.length:=Zcf pr
  refine(er rfl ⟨a,xs,rfl,.inl (ai.of fY),_,rfl,b,ys,rfl,.inl (ai.of dj),rfl,_,rfl,?_⟩)
  have el:decide (V.int (xs.length:Int)=V.int (ys.length:Int))=true:=ZaR (by rw[hlen])
  rw[el]
  refine aV (er rfl (er rfl ⟨a,b,rfl,⟨xs,ys,ai.of fY,ai.of dj⟩,?_⟩))
  refine ZcL (xs:=xs) (zs:=ys) hlen (fun i zs σ H2=> ∃v0 v1,σ=[v0,v1]/\ag H1 H2/\zs=List.replicate i (V.bl true)) ⟨_,_,rfl,ag.refl _,rfl⟩ (fun i zs σ H2 _ ⟨_,_,_,s2,_⟩=> ⟨ai.of (s2 _ _ fY),ai.of (s2 _ _ dj)⟩) ?_ ?_
  ·rintro i x y T zs σ H2 hx hy hT ⟨v0,v1,rfl,s2,rfl⟩
   obtain⟨y',iM,r⟩:=Jn pr hx
   rw[hy]at iM
   cases iM
   have sT:=Zp (o:=.par [x,y]) hT
   have hi:i<xs.length:=(Zad.mp hx).1
   refine⟨T,_,rfl,aj.pe Ze,rfl,_,_,rfl,_,_,rfl,rfl,?_⟩
   refine⟨x,rfl,y,rfl,x,y,rfl,hR r (s1.trans (s2.trans sT)),fun H3 s3=> ⟨by rw[Zcj,ZaH];omega,_,_,rfl,s2.trans (sT.trans s3),?_⟩⟩
   rw[List.replicate_succ']
  ·rintro zs σ H2 ⟨v0,v1,rfl,s2,rfl⟩ p hp
   refine⟨p,List.replicate xs.length true,rfl,?_,?_⟩
   ·rw[List.map_replicate]
    exact ai.of Ze
   ·have e:(List.replicate xs.length true).all id=true:=by simp
    rw[e]
    exact q _ (s1.trans (s2.trans (Zp hp)))
end
theorem ZcA {H:Hp}{xs:List V}(h:∀v∈xs,v=.ah∨∃i:Int,v=.int i):Paired (R1 H) xs xs:=by
 induction xs with
 |nil=>exact .nil
 |cons x r ih=>
  refine .cons ?_ (ih fun y hy=>h y (Zan _ hy))
  rcases h x Zas with rfl |⟨i,rfl⟩
  ·exact .inr ⟨rfl,rfl⟩
  ·exact .inl ⟨i,rfl,rfl⟩
theorem uV {H H1:Hp}{L:Addr}{o:HO}(s:ag H H1) (n:H L=none):ag H (upd H1 L o):=fun b u h=>by
 rw[Zh (Zg h n)]
 exact s b u h
theorem ZcZ {H:Hp}(ns:List Int):Paired (R0 H) (ns.map V.int) (ns.map V.int):=by
 induction ns with
 |nil=>exact .nil
 |cons x r ih=>exact .cons ⟨x,rfl,rfl⟩ ih
section
variable {P:Program}{w:World}{K:ZhQ}{mg:Str->Option Value}{base:Heap}
abbrev yX:Stmt:=top 58
def yk (K:ZhQ):Sp:=fun vs H Q _=> ∃(x:V) (l m:Addr) (xs ys:List V) (wd hg:Int),vs=[x,.ref l,.ref m]/\bB K H x l xs wd hg/\bB K H x m ys wd hg/\S.bL ys=true/\wd<=11/\hg<=11/\∀H',ag H H'->Q (.bl true) H'
theorem qW:aZ ["_law_board", "_law_drawn", "_law_lay_here", "_law_corner_here", "_law_due_here", "_law_turn", "_law_found"] ["_law_board", "_law_drawn", "_law_lay_here"] (ay yX):=ZL (by decide+kernel)
theorem VU {f:Addr}{fd:FuncData}(F:aG K "_law_right" "_law_right" yX f fd) (G:Gs mg) (tU:Def P w K mg base 8 "put_to" ["board", "lay", "corner"] (oM K)) (Ky:Def P w K mg base 2 "_law_due" ["_law_board", "_law_lay_here", "_law_corner_here"] (yH K)) (tV:Def P w K mg base 2 "_law_unlike" ["_law_lay_here"] S.qS) (Ck:Def P w K mg base 13 "good_corners" ["board", "lay"] (qU K))
  (St:Def P w K mg base 2 "_law_same" ["_law_found", "_law_due_here"] (gU (BZ R1))) (Sl:Def P w K mg base 2 "_law_same" ["_law_found", "_law_due_here"] (gU (B5 R0))):aA P w K mg base aE 14 f fd ["_law_board", "_law_drawn", "_law_lay_here"] (yk K):=by
 refine F.ok qW (fun vs H Q E h=> ?_) (fun aq A outer s H vs Q E hr h=> ?_)
 ·obtain⟨x,l,m,xs,ys,wd,hg,rfl,_⟩:=h
  rfl
 ·obtain⟨x,l,m,xs,ys,wd,hg,rfl,la,lb,un,je,kq,q⟩:=h
  refine⟨_,Zc (Ju ZeL rfl (Z2 rfl G.range (Za Zd Zb)) (ZD (i:=3) qW.nd rfl (Or.inl rfl)) (Zi (ZO (Z0 (ZK (Zf St (hr.mono .d) (Za (Zf tU (hr.mono .d) (Za (pv 0) (Za (pv 1) (Za (pv 3) Zb)))) (Za (Zf Ky (hr.mono .d) (Za (pv 0) (Za (pv 1) (Za (pv 3) Zb)))) Zb))))) Zr Zv)))
   (Zc (Jc ["_law_corner_here", "_law_board", "_law_lay_here"] 1 [0,2] (i:=4) qW.nd rfl (Or.inl rfl) (Z2 rfl G.range (Za Zd Zb)) (fun C s H fp=>pb 0) (fun C s H fp=>Yr (ZK (Zf tV (hr.mono .d) (Za (Zf Ky (hr.mono .d) (Za (pv 1) (Za (pv 2) (Za (pv 0) Zb)))) Zb)))) (fun C s H fp D=>ZH rfl (pv 0)))
   (Zc (Ju ZeL rfl (Z2 rfl G.range (Za Zd Zb)) (ZD (i:=5) qW.nd rfl (Or.inl rfl))
    (Zc (Zx (i:=6) qW.nd rfl (Or.inl rfl) (Zf Ck hr (Za (pv 0) (Za (pv 2) Zb))))
    (Zc (ZO (Z0 (ZK (Zf Sl (hr.mono .d) (Za (pv 6) (Za (pv 4) Zb))))) Zr Zv)
    (Zc (Zy (Yq Za0 Zbx Zby ZW (pv 6) (Za Zd Zb)))
    (Zi (Zy (VQ Za0 PySem.F.slot_list_reverse PySem.F.type_list_reverse Zbh (pv 6))))))))
   (Zi (Zw Wf)))),?_⟩
  obtain⟨a,rfl,ha⟩:=Zu la.bd.1
  obtain⟨_,w1,qA,g1,RE⟩:=id la.bd
  have ll:=Yj la.ly
  have ly:=Yj lb.ly
  have put:∀{zs:List V}{c:Nat},bw wd hg (some zs)=true->c<4->bw (wd+1) (hg+1) (some (putL zs (bY (wd+1) (c:Int)).toNat (cD (hg+1) (c:Int))))=true:=fun {zs c} h hc=>by
   obtain⟨k0,k1⟩:=BO (wd:=wd+1) (c:=(c:Int)) .o
   obtain⟨r0,r1⟩:=BI (hg:=hg+1) (c:=(c:Int)) .o
   have:=Yj h
   exact Ih h r0 .o .o
  have aa:∀{zs:List V}{wd hg:Int},bw wd hg (some zs)=true->∀v∈zs,v=.ah∨∃i:Int,v=.int i:=fun h v hv=>by
   rcases Yk h hv with z |⟨i,z,_⟩
   ·exact .inl z
   ·exact .inr ⟨i,z⟩
  (try refine hZ _ _ ?_);refine Zj fun Z hZ=> ⟨4,rfl,.d,.d,?_⟩
  refine YU (fun j σ H'=> ∃v3,σ=[some (.ref a),some (.ref l),some (.ref m),v3,none,none,none]/\ag H H') (er rfl (ag.refl _)) ?_ ?_
  ·rintro j σ H1 hj ⟨v3,rfl,s1⟩
   rw[Ze7]
   refine Zt ?_
   dsimp only[List.set]
   have Ea:∀{H':Hp},ag H H'->bB K H' (.ref a) l xs wd hg:=fun s'=> ⟨la.bd.same s',s' _ _ la.at_,la.ly⟩
   refine(er rfl (er rfl (er rfl ⟨.ref a,l,xs,wd,hg,(j:Int),rfl,Ea s1,je,kq,.o,.o,fun t2 H2 s2 e2=> ?_⟩)))
   refine(er rfl (er rfl (er rfl ⟨.ref a,l,xs,wd,hg,(j:Int),rfl,Ea (s1.trans s2),je,kq,.o,.o,fun t3 H3 s3 e3=> ?_⟩)))
   have pl:=put (zs:=xs) la.ly hj
   have lp:=Yj pl
   exact⟨.ref t2,.ref t3,rfl,⟨t2,t3,_,_,rfl,rfl,s3 _ _ e2,e3,ZcA (aa pl),.o⟩,fun H4 s4=> (er rfl (aO (Yd (er rfl (s1.trans (s2.trans (s3.trans s4)))))))⟩
  rintro σ H1 ⟨v3,rfl,s1⟩
  try dsimp only
  have DZ:∀{H':Hp},ag H H'->bB K H' (.ref a) m ys wd hg:=fun s'=> ⟨lb.bd.same s',s' _ _ lb.at_,lb.ly⟩
  (try refine hZ _ _ ?_);refine Zj fun Z hZ=> ⟨4,rfl,.d,.d,?_⟩
  refine YC (n:=4) (fun j zs σ H'=> ∃v0,σ=[v0,some (.ref a),some (.ref m)]/\ag H1 H'/\zs=(jy wd hg ys j).map V.int) (er rfl ⟨ag.refl _,rfl⟩) ?_ ?_
  ·rintro j zs σ H2 hj ⟨v0,rfl,s2,rfl⟩
   rw[Ze7]
   refine Zt ?_
   dsimp only[List.set]
   refine(er rfl (er rfl (er rfl ⟨.ref a,m,ys,wd,hg,(j:Int),rfl,DZ (s1.trans s2),je,kq,.o,.o,fun t3 H3 s3 e3=> ?_⟩)))
   have pl:=put (zs:=ys) lb.ly hj
   have lp:=Yj pl
   refine⟨t3,_,rfl,e3,aa pl,.o,fun H4 s4=> (er rfl (?_))⟩
   have gl:=WS wd hg ys j
   have sA:=s2.trans (s3.trans s4)
   by_cases hu:S.bL (putL ys (bY (wd+1) (j:Int)).toNat (cD (hg+1) (j:Int)))=true
   ·rw[hu]
    refine aV (er rfl ⟨by rw[Zar,ZaH];omega,_,rfl,sA,?_⟩)
    rw[Jh,ZaY hu,ZbA]
    rfl
   ·rw[Bool.eq_false_iff.mpr hu]
    refine aO (er rfl ⟨sA,?_⟩)
    rw[Jh,ZaK hu,ZbT]
  rintro zs σ H2 ⟨v0,rfl,s2,rfl⟩ D hD
  obtain⟨H3,zz,sD,eD⟩:=aH (o:=.lst ((jy wd hg ys 4).map V.int)) hD
  rw[zz]
  dsimp only[List.set]
  have s3:=s1.trans (s2.trans sD)
  have gl:=WS wd hg ys 4
  (try refine hZ _ _ ?_);refine Zj fun Z hZ=> ⟨2,rfl,.d,.d,?_⟩
  refine YU (fun j σ H'=> ∃v5 v6,σ=[some (.ref a),some (.ref l),some (.ref m),v3,some (.ref D),v5,v6]/\ag H3 H') ⟨_,_,rfl,ag.refl _⟩ ?_ ?_
  ·rintro j σ H4 hj ⟨v5,v6,rfl,s4⟩
   refine Zt ?_
   dsimp only[List.set]
   (try refine hZ _ _ ?_);refine Zj fun Z hZ=> (Zz (er rfl (er rfl ⟨.ref a,m,ys,wd,hg,rfl,DZ (s3.trans s4),un,je,kq,fun L H5 s5 nL eL=>Zt ?_⟩)))
   dsimp only[List.set]
   (try refine hZ _ _ ?_);refine Zj fun Z hZ=> (er rfl (er rfl ⟨.ref L,.ref D,rfl,⟨L,D,_,_,rfl,rfl,eL,(s4.trans s5) _ _ eD,ZcZ _,by rw[Zar];omega⟩,fun H6 s6=> (er rfl (aO (Yd ?_)))⟩))
   try dsimp only
   have Gf:=s6 _ _ eL
   (try refine hZ _ _ ?_);refine Zj fun Z hZ=> (er rfl ⟨.inl ⟨rfl,_,ai.of Gf⟩,L,_,.int 0,rfl,rfl,Gf,by rw[Zar,ZaH];omega,?_⟩)
   try dsimp only
   refine hZ _ _ ?_
   refine(er rfl ⟨.inl ⟨rfl,_,ai.of Ze⟩,L,_,rfl,rfl,Ze,?_⟩)
   exact⟨_,_,rfl,s4.trans (uV (uV (s5.trans s6) nL) nL)⟩
  ·rintro σ H4 ⟨v5,v6,rfl,s4⟩
   refine hZ _ _ ?_
   exact q _ (s3.trans s4)
end
end U
namespace L2
open PySem PySem.Spec PyProof.Rows
section
variable {X:Cx}{k:Nat}{x:Str}{ps:List Str}{sp:Sp}{e:Expr}{es:List Expr}{t:TA}{p pos:Pos}{E:XK}
theorem ZdI (hp:Passes (aC X.prog X.w) X E) (d:aW X.prog X.w X.K X.mg X.base k x ps sp) (hr:bK k X.A) (ha:PA X (e::es) t) (hg:Gl X x:=by rfl) (gG:(x==("__debug__" :Str))=false:=by decide)
  (he:starEach (e::es) X.env=(false,eval e X.env)::starEach es X.env:=by rfl) (dX:(backTo pos (starEach es X.env)).any (·.1)=false:=by rfl):
  PE X (.Call (.Name x p) (e::es) [] pos) (uv sp [] E t):=by
 obtain⟨f,fd,F,hm,hk,hb⟩:=d
 exact Yt F hr hg hm hk hb .nil hp ha gG he dX
end
theorem M7 {X:Cx}{N':List Str}{scope:Scope}{C:Addr}{s:Shared}{H:Hp}{fp:List Addr}{XE:Value->Shared->Prop}(i:Nat) {x:Str}{pos:Pos}(hN:N'.Nodup:=by decide+kernel) (hi:N'[i]? =some x:=by rfl) (hx:(relabel scope X.env).names.lookup x=some .local:=by rfl):
  PG (kC X N' scope C s H fp XE) (.Name x pos) (bP i):=ZD (X:=kC X N' scope C s H fp XE) hN hi (.inl hx) (.inr hx)
end L2
namespace U
open PySem L2 PyProof.Rows
section
variable {P:Program}{w:World}{K:ZhQ}{mg:Str->Option Value}{base:Heap}{aB aL aN aM aU:Addr}
def uO (K:ZhQ) (aM:Addr):Sp:=fun vs H _ E=> ∃(x:V) (l:Addr) (xs:List V) (wd hg:Int),vs=[x,.ref l]/\bB K H x l xs wd hg/\S.bL xs=true/\(11<wd∨11<hg)/\∀e H',ag H H'->E (.ref e) (some aM) H'
theorem VD {f:Addr}{fd:FuncData}(F:aG K "good_corners" "good_corners" rh f fd) (G:Gs mg) (Ci:Def P w K mg base 12 "need_unlike" ["board", "lay"] S.uK) (Cg:Def P w K mg base 11 "is_unlike" ["board", "lay"] S.oJ) (tW:Def P w K mg base 1 "grown" ["board"] qT) (Rpt:aW P w K mg base 8 "put_to" ["board", "lay", "corner"] (oK K aB aL aN aM)):aA P w K mg base (aC P w) 13 f fd ["board", "lay"] (uO K aM):=by
 obtain⟨tk,hL⟩:=G.last
 refine F.fk yP (fun vs H Q E h=> ?_) (fun aq A outer s H vs Q E hr h=> ?_)
 ·obtain⟨x,l,xs,wd,hg,rfl,_⟩:=h
  rfl
 ·obtain⟨x,l,xs,wd,hg,rfl,la,un,gr,q⟩:=h
  refine⟨_,Zc (Zy (Zf Ci hr (Za (pv 0) (Za (pv 1) Zb))))
   (Zi (Zw (ZdG ["corner", "board", "lay"] 1 [0,1] (Z2 rfl G.range (Za (Zm ZT (Yi (v:=.int 3) rfl hL ⟨_,rfl⟩) Zd) Zb)) (fun C s2 H2 fp XE=>M7 0)
    (fun C s2 H2 fp XE hp=>Yr (ZK (Zf Cg (hr.mono .d) (Za (Zf tW (hr.mono .d) (Za (pv 1) Zb)) (Za (ZdI hp Rpt (hr.mono .d) (Za (pv 1) (Za (pv 2) (Za (pv 0) Zb)))) Zb)))))))),?_⟩
  (try refine hZ _ _ ?_);refine Zj fun Z hZ=> (er rfl (er rfl ⟨x,.ref l,wd,hg,xs,rfl,⟨la.bd,Zl la.at_,S.pG la.ly⟩,un,fun H1 s1=> ?_⟩))
  dsimp only
  refine hZ _ _ ?_
  refine⟨_,_,rfl,rfl,4,rfl,.d,.d,(by show(0:Nat)< (4:Int).toNat;decide),?_⟩
  rintro y H2 ⟨rfl,rfl⟩
  refine Zt ?_
  try dsimp only[List.set]
  refine(er rfl ⟨x,wd,hg,rfl,la.bd.same s1,fun t2 H3 s2 e2=> ?_⟩)
  exact(er rfl (er rfl (er rfl ⟨x,.ref l,.int 0,aM,rfl,.inr ⟨rfl,l,xs,wd,hg,0,rfl,rfl,.d,.d,⟨(la.bd.same s1).same s2,s2 _ _ (s1 _ _ la.at_),la.ly⟩,gr⟩,fun e H' s'=>q e H' (s1.trans (s2.trans s'))⟩)))
end
end U
namespace L2
open PySem PySem.Spec PyProof.Rows SeqAt
section
variable {X:Cx}
theorem Xm (hu:X.A.units<cLine):bg X (compareOp .Eq) (fun x y H Q=> ∃(a b:Addr) (xs:List Str),x=.ref a/\y=.ref b/\ai X.K H a (xs.map V.str)/\ai X.K H b (xs.map V.str)/\Q (.bl true) H):=by
 intro pins s σ H x y u v Q I rx ry h
 obtain⟨a,b,xs,rfl,rfl,ha,hb,q⟩:=h
 cases rx
 cases ry
 obtain⟨us,r1,p1,_⟩:=I.list ha
 obtain⟨vs,r2,p2,_⟩:=I.list hb
 have l1:=r1.length
 have l2:=r2.length
 rw[Zar]at l1 l2
 refine eq_listAt (e:=fun _=>true) p1.isList p2.isList (by simp;omega) hu (fun j h1 h2=> ?_) ?_
 ·have hj:j<xs.length:=by simp at h1;omega
  have e:(xs.map V.str)[j]? =some (V.str xs[j]):=by simp[hj]
  obtain⟨u,iP,ru⟩:=r1.get e
  obtain⟨v,j8,rv⟩:=r2.get e
  have e1:us.toArray[j]=u:=by simpa using (Zad.mp iP).2
  have e2:vs.toArray[j]=v:=by simpa using (Zad.mp j8).2
  rw[e1,e2]
  obtain⟨t1,rfl⟩:=ru
  obtain⟨t2,rfl⟩:=rv
  have y:=EqAt.str_str (A:=X.A.in1) (s:=s) xs[j] t1 xs[j] t2
  simpa using y
 ·have e:(List.range us.toArray.size).all (fun _=>true)=true:=by simp
  rw[e]
  exact⟨.bl _,H,I,rfl,q⟩
theorem Xn (hu:X.A.units+1<cLine):bg X (compareOp .NotEq) (fun x y H Q=> ∃(a b:Addr) (xs:List Str),x=.ref a/\y=.ref b/\ai X.K H a (xs.map V.str)/\ai X.K H b (xs.map V.str)/\Q (.bl false) H):=by
 intro pins s σ H x y u v Q I rx ry h
 obtain⟨a,b,xs,rfl,rfl,ha,hb,q⟩:=h
 cases rx
 cases ry
 obtain⟨us,r1,p1,_⟩:=I.list ha
 obtain⟨vs,r2,p2,_⟩:=I.list hb
 have l1:=r1.length
 have l2:=r2.length
 rw[Zar]at l1 l2
 refine RcNeAt.lists (e:=fun _=>true) p1.isList p2.isList (by simp;omega) (ZeJ hu) (fun j h1 h2=> ?_) _ _ _ _ ?_
 ·have hj:j<xs.length:=by simp at h1;omega
  have e:(xs.map V.str)[j]? =some (V.str xs[j]):=by simp[hj]
  obtain⟨u,iP,ru⟩:=r1.get e
  obtain⟨v,j8,rv⟩:=r2.get e
  have e1:us.toArray[j]=u:=by simpa using (Zad.mp iP).2
  have e2:vs.toArray[j]=v:=by simpa using (Zad.mp j8).2
  rw[e1,e2]
  obtain⟨t1,rfl⟩:=ru
  obtain⟨t2,rfl⟩:=rv
  have y:=EqAt.str_str (A:=X.A.in1) (s:=s) xs[j] t1 xs[j] t2
  simpa using y
 ·have e:(List.range us.toArray.size).all (fun _=>true)=true:=by simp
  rw[e]
  exact⟨.bl false,H,I,rfl,q⟩
end
end L2
namespace U
open PySem L2 PyProof.Rows
theorem zN {bd:Expr}{x:Str}{scope:Scope}(h:(decide (scope.kind=.function)&& !scope.isCoroutine&& !scope.isGenerator&&scope.names.all (fun z=>z.2 !=.cell)&&scope.names.all (fun u=>u.2 !=.free||u.1==x)&&(scope.names.lookup x==some .free))=true):mf bz bd scope [x]:=by
 simp only[ZaL,Zb6,Zb5,Zdk,ZaZ,bne_iff_ne,ne_eq,Bool.or_eq_true]at h
 obtain⟨⟨⟨⟨⟨h1,h2⟩,h3⟩,h4⟩,h5⟩,h6⟩:=h
 refine⟨h1,h2,h3,h4,fun u hu e=> ?_,fun u hu=> ?_,fun _ _ _ _ _=>rfl⟩
 ·rcases h5 u hu with z |z
  ·exact absurd e z
  ·simp[z]
 ·simp only[Zao,Zbc,Zdo]at hu
  rw[hu]
  exact h6
theorem Ol {bd:Expr}{x y:Str}{scope:Scope}(h:(decide (scope.kind=.function)&& !scope.isCoroutine&& !scope.isGenerator&&scope.names.all (fun z=>z.2 !=.cell)&&scope.names.all (fun u=>u.2 !=.free||(u.1==x||u.1==y))&&(scope.names.lookup x==some .free)&&(scope.names.lookup y==some .free))=true):mf bz bd scope [x,y]:=by
 simp only[ZaL,Zb6,Zb5,Zdk,ZaZ,bne_iff_ne,ne_eq,Bool.or_eq_true]at h
 obtain⟨⟨⟨⟨⟨⟨h1,h2⟩,h3⟩,h4⟩,h5⟩,h6⟩,h7⟩:=h
 refine⟨h1,h2,h3,h4,fun u hu e=> ?_,fun u hu=> ?_,fun _ _ _ _ _=>rfl⟩
 ·rcases h5 u hu with z |z
  ·exact absurd e z
  ·rcases z with z |z<;>simp[z]
 ·simp only[Zao,Zbc,Zdo]at hu
  rcases hu with hu |hu
  ·rw[hu];exact h6
  ·rw[hu];exact h7
theorem zP {X:Cx}{x:Str}{i:Nat}(a:LN X x i):∀(k:Nat) u m,([x]:List Str)[k]? =some u->([i]:List Nat)[k]? =some m->LN X u m
 |0,_,_,e1,e2=>by cases e1;cases e2;exact a
 |k+1,_,_,e1,_=>by simp at e1
theorem Bw {σ:L2.St}{x:V}{i:Nat}(a:σ[i]? =some (some x)):∀(k m:Nat) (v:V),([i]:List Nat)[k]? =some m->([x]:List V)[k]? =some v->σ[m]? =some (some v)
 |0,_,_,e1,e2=>by cases e1;cases e2;exact a
 |k+1,_,_,e1,_=>by simp at e1
theorem IE (n:Nat) (v:V):(List.replicate n [v]).flatten=List.replicate n v:=by
 induction n with
 |zero=>rfl
 |succ n ih=>rw[Zdf,List.flatten_cons,ih,Zdf];rfl
theorem Vm {n:Nat}{wd hg:Int}(h:(n:Int)≠wd):bw wd hg (some (List.replicate n V.ah))=false:=by
 show(decide (((List.replicate n V.ah).length:Int)=wd)&&_&&_)=false
 rw[Zcj,ZaA h]
 rfl
def GC (fn x y:Str) (p1 p2 p3 p4 p5:Pos):Expr:=.Call (.Name fn p1) [.Name x p2,.Name y p3,.Constant (.int 0) 0 p4] [] p5
def GF (fn x:Str) (p1 p2 p3 p4 p5:Pos):Expr:=.Call (.Name fn p1) [.Name x p2,.Constant .none 0 p3,.Constant (.int 0) 0 p4] [] p5
def GD (fn x:Str) (p1 p2 p3 p4 p5 p6 p7 p8 p9 zw zv:Pos):Expr:=.Call (.Name fn p1) [.Name x p2,.BinOp (.Tuple [.Constant .none 0 p3] 0 p4) .Mult (.BinOp (.Subscript (.Name x p5) (.Constant (.int 0) 0 p6) p7) .Add (.Constant (.int 1) 0 p8) p9) zw] [] zv
def GG (fn x:Str) (p1 p2 p3 p4 p5 p6 p7 p8:Pos):Expr:=.Call (.Name fn p1) [.Tuple [.Call (.Name "len" p2) [.Name x p3] [] p4,.Constant (.int 12) 0 p5] 0 p6,.Name x p7] [] p8
section
variable {X:Cx}{kf:Nat}
theorem Tv {k':Nat}{fn x y:Str}{ps:List Str}{sp:Sp}{scope:Scope}{C f:Addr}{q:Str}{cl:List (Str×Addr)}{vx vy:V}{p1 p2 p3 p4 p5:Pos}(aP:k'<=kf) (hU:∀b',aW X.prog X.w X.K X.mg b' k' fn ps sp) (gl:scope.names.lookup fn=some .globalImplicit)
  (kx:scope.names.lookup x=some .free) (ky:scope.names.lookup y=some .free) (dx:(x==("__debug__" :Str))=false) (dy:(y==("__debug__" :Str))=false) (ex:(x==("__classdict__" :Str))=false) (ey:(y==("__classdict__" :Str))=false) (iR:(fn==("__debug__" :Str))=false):
  jK X kf C f q (GC fn x y p1 p2 p3 p4 p5) scope cl [x,y] [vx,vy] (og sp [vx,vy,.int 0] C):=by
 intro bf cc A outer s2 H2 Q2 E2 hr pre hE
 obtain⟨g,fd,F,hg,hk,hb⟩:=hU bf
 refine⟨_,Yt (X:=fM X.prog X.w X.K X.mg bf [x,y] q scope f (.ref cc) cl A outer s2 H2 E2) F (hr.mono aP) gl hg hk hb .nil (E:=E2) (o9 (X:=fM X.prog X.w X.K X.mg bf [x,y] q scope f (.ref cc) cl A outer s2 H2 E2) (fun e s' z=>z) rfl rfl rfl)
  (Za (Yh (i:=0) rfl (.inr (.inr kx)) dx ex) (Za (Yh (i:=1) rfl (.inr (.inr ky)) dy ey) (Za Zd Zb))) iR,?_⟩
 exact⟨vx,rfl,vy,rfl,pre Q2 E2 hE⟩
theorem Tt {k':Nat}{fn x:Str}{ps:List Str}{sp:Sp}{scope:Scope}{C f:Addr}{q:Str}{cl:List (Str×Addr)}{vx:V}{p1 p2 p3 p4 p5:Pos}(aP:k'<=kf) (hU:∀b',aW X.prog X.w X.K X.mg b' k' fn ps sp) (gl:scope.names.lookup fn=some .globalImplicit)
  (kx:scope.names.lookup x=some .free) (dx:(x==("__debug__" :Str))=false) (ex:(x==("__classdict__" :Str))=false) (iR:(fn==("__debug__" :Str))=false):
  jK X kf C f q (GF fn x p1 p2 p3 p4 p5) scope cl [x] [vx] (og sp [vx,.ah,.int 0] C):=by
 intro bf cc A outer s2 H2 Q2 E2 hr pre hE
 obtain⟨g,fd,F,hg,hk,hb⟩:=hU bf
 refine⟨_,Yt (X:=fM X.prog X.w X.K X.mg bf [x] q scope f (.ref cc) cl A outer s2 H2 E2) F (hr.mono aP) gl hg hk hb .nil (E:=E2) (o9 (X:=fM X.prog X.w X.K X.mg bf [x] q scope f (.ref cc) cl A outer s2 H2 E2) (fun e s' z=>z) rfl rfl rfl)
  (Za (Yh (i:=0) rfl (.inr (.inr kx)) dx ex) (Za Yo (Za Zd Zb))) iR,?_⟩
 exact⟨vx,rfl,pre Q2 E2 hE⟩
theorem Ts {k':Nat}{fn x:Str}{ps:List Str}{sp:Sp}{scope:Scope}{C f:Addr}{q:Str}{cl:List (Str×Addr)}{vx:V}{p1 p2 p3 p4 p5 p6 p7 p8 p9 zw zv:Pos}(aP:k'<=kf) (hU:∀b',aW X.prog X.w X.K X.mg b' k' fn ps sp) (gl:scope.names.lookup fn=some .globalImplicit)
  (kx:scope.names.lookup x=some .free) (dx:(x==("__debug__" :Str))=false) (ex:(x==("__classdict__" :Str))=false) (iR:(fn==("__debug__" :Str))=false):
  jK X kf C f q (GD fn x p1 p2 p3 p4 p5 p6 p7 p8 p9 zw zv) scope cl [x] [vx] (fun H=> ∃(b:Addr) (wd hg:Int),vx=.ref b/\bR H vx wd hg/\∀t H',ag H H'->H' t=some (.tup (List.replicate (wd+1).toNat V.ah))->og sp [vx,.ref t] C H'):=by
 intro bf cc A outer s2 H2 Q2 E2 hr pre hE
 obtain⟨g,fd,F,hg,hk,hb⟩:=hU bf
 refine⟨_,Yt (X:=fM X.prog X.w X.K X.mg bf [x] q scope f (.ref cc) cl A outer s2 H2 E2) F (hr.mono aP) gl hg hk hb .nil (E:=E2) (o9 (X:=fM X.prog X.w X.K X.mg bf [x] q scope f (.ref cc) cl A outer s2 H2 E2) (fun e s' z=>z) rfl rfl rfl)
  (Za (Yh (i:=0) rfl (.inr (.inr kx)) dx ex) (Za (Zm U5 (Zs (Za Yo Zb)) (Zm ZT (ZE ZN (Yh (i:=0) rfl (.inr (.inr kx)) dx ex) Zd (fun _ _=>rfl)) Zd)) Zb)) iR,?_⟩
 obtain⟨b,wd,hg,rfl,bd,ref⟩:=pre
 obtain⟨b',e',cw⟩:=Zu bd.1
 cases e'
 obtain⟨_,w1,qA,_,_⟩:=id bd
 refine(er rfl ⟨bO,fun t1 j9=> ?_⟩)
 obtain⟨H3,zz,s1,e1⟩:=aH (o:=.tup [V.ah]) j9
 rw[zz]
 refine(er rfl ⟨b,_,_,_,rfl,rfl,aj.of (s1 _ _ cw),f9,_,_,rfl,rfl,t1,wd+1,[.ah],rfl,rfl,e1,by simp,.o,.o,(by simp;omega),fun t2 H4 s2 e2=> ?_⟩)
 rw[IE]at e2
 exact ref t2 _ (s1.trans s2) e2 Q2 E2 fun e H' s'=>hE e H' (s1.trans (s2.trans s'))
theorem Tu {mL:X.mg "len" =none}{k':Nat}{fn x:Str}{ps:List Str}{sp:Sp}{scope:Scope}{C f:Addr}{q:Str}{cl:List (Str×Addr)}{vx:V}{p1 p2 p3 p4 p5 p6 p7 p8:Pos} (gn:scope.names.lookup ("len" :Str)=some .globalImplicit) (aP:k'<=kf) (hU:∀b',aW X.prog X.w X.K X.mg b' k' fn ps sp) (gl:scope.names.lookup fn=some .globalImplicit)
  (kx:scope.names.lookup x=some .free) (dx:(x==("__debug__" :Str))=false) (ex:(x==("__classdict__" :Str))=false) (iR:(fn==("__debug__" :Str))=false):
  jK X kf C f q (GG fn x p1 p2 p3 p4 p5 p6 p7 p8) scope cl [x] [vx] (fun H=> ∃(b:Addr) (xs:List V),vx=.ref b/\H b=some (.tup xs)/\∀t H',ag H H'->H' t=some (.tup [.int (xs.length:Int),.int 12])->og sp [.ref t,vx] C H'):=by
 intro bf cc A outer s2 H2 Q2 E2 hr pre hE
 obtain⟨g,fd,F,hg,hk,hb⟩:=hU bf
 refine⟨_,Yt (X:=fM X.prog X.w X.K X.mg bf [x] q scope f (.ref cc) cl A outer s2 H2 E2) F (hr.mono aP) gl hg hk hb .nil (E:=E2) (o9 (X:=fM X.prog X.w X.K X.mg bf [x] q scope f (.ref cc) cl A outer s2 H2 E2) (fun e s' z=>z) rfl rfl rfl)
  (Za (Zs (Za (Zn ZF gn mL Zfb (Za (Yh (i:=0) rfl (.inr (.inr kx)) dx ex) Zb)) (Za Zd Zb))) (Za (Yh (i:=0) rfl (.inr (.inr kx)) dx ex) Zb)) iR,?_⟩
 obtain⟨b,xs,rfl,cw,ref⟩:=pre
 refine(er rfl ⟨b,xs,rfl,.inr (aj.of cw),aX,fun t1 j9=> ?_⟩)
 have s1:=Zp (o:=.tup [V.int (xs.length:Int),V.int 12]) j9
 exact(er rfl (ref t1 _ s1 Ze Q2 E2 fun e H' s'=>hE e H' (s1.trans s')))
end
structure tR (K:ZhQ) (g l:Addr) (xs:List V) (gw gh:Int) (vo:V) (H:Hp):Prop where
 la:bB K H (.ref g) l xs gw gh
 un:S.bL xs=true
 gr:11<gw∨11<gh
 po:bJ K H vo
 wo:bh vo 0 3=false
theorem tR.xt {K:ZhQ}{g l Pt:Addr}{xs:List V}{gw gh:Int}{vo:V}{H H':Hp}{ps:Array Value}(f:tR K g l xs gw gh vo H) (s:av Pt H H') (hp:H Pt=some (.bM ps)):tR K g l xs gw gh vo H':=
 ⟨f.la.xt s hp,f.un,f.gr,YQ f.po s (YX f.po hp),f.wo⟩
section
variable {P:Program}{w:World}{K:ZhQ}{mg:Str->Option Value}{base:Heap}
abbrev dP:Stmt:=top 59
abbrev jZ:List Str:=["_law_state_here", "_law_great", "_law_odd", "_law_calls", "_law_lay_here"]
theorem yO:aZ jZ ["_law_state_here", "_law_great", "_law_odd"] (ay dP):=ZL (by decide+kernel)
abbrev oY:Str:= "_law_great_right.<locals>.<lambda>"
abbrev ip (ns:List (Str×NameKind)):Scope:= {kind:=.function,names:=ns,isGenerator:=false,isCoroutine:=false}
abbrev g1:Scope:=ip [("_law_great",.free),("_law_lay_here",.free),("put_to",.globalImplicit)]
abbrev g2:Scope:=ip [("_law_great",.free),("_law_lay_here",.free),("good_corners",.globalImplicit)]
abbrev g3:Scope:=ip [("_law_great",.free),("_law_lay_here",.free),("_law_odd",.free),("put_to",.globalImplicit)]
abbrev g4:Scope:=ip [("_law_great",.free),("put_to",.globalImplicit)]
abbrev g5:Scope:=ip [("_law_great",.free),("good_corners",.globalImplicit)]
def qx:List Str:=["many", "many", "number", "lay", "lay"]
def yF (K:ZhQ) (Pg:Addr):Sp:=fun vs H Q _=> ∃(p g:Addr) (gw gh:Int) (vo:V),vs=[.ref p,.ref g,vo]/\bQ H p/\bR H (.ref g) gw gh/\(11<gw∨11<gh)/\bJ K H vo/\bh vo 0 3=false/\vo≠.ref p/\TabAt H Pg oY/\∀H',jD [p,Pg] H H'->bQ H' p->TabAt H' Pg oY->Q (.bl true) H'
theorem T4 {f c Pg fR cS aB aL aN aM aU:Addr}{oc:Value}{od an:Option Addr}{kV doc pm ct:Value}{eO:Array (Option Value)}
  (lk:K.lookup f=some ⟨oc,od,.func (PySem.W.fnOf "_law_great_right" "_law_great_right" (fo dP) (cX dP) (ay dP) .none kV doc pm an (.ref c) ct),eO⟩) (cH:PySem.W.codeIn K (.ref c) "_law_great_right" =true)
  (jc:Def P w K mg base 1 "_law_take" ["_law_state_here", "_law_many"] jP) (Cj:Def P w K mg base 3 "_law_grown" ["_law_state_here", "_law_board", "_law_bare"] S.uN)
  (hR:∀b',Def P w K mg b' 15 "_law_word" ["_law_call"] (mC P w K mg b' cS 14)) (hP:∀b',aW P w K mg b' 8 "put_to" ["board", "lay", "corner"] (oK K aB aL aN aM)) (hX:∀b',aW P w K mg b' 13 "good_corners" ["board", "lay"] (S.jg K aB aL aU)) (hM:∀b',aW P w K mg b' 13 "good_corners" ["board", "lay"] (uO K aM)) (mR:mg "_law_word" =some (.ref fR)) (kR:PySem.W.keepIn K (.ref fR)=true)
  (ML:gO K mg cS aL 1) (MN:gO K mg cS aN 2) (MM:gO K mg cS aM 11) (hC:PySem.W.CodeHd base c Pg)
  (pT:∃bm ob,mg "__builtins__" =some (.ref bm)/\bm≠builtinsNs/\base.get? bm=some ob/\ob.cls=.type "module" /\ob.dict=some builtinsNs/\ob.data=.plain):
  aA P w K mg base aE 16 f (PySem.W.fnOf "_law_great_right" "_law_great_right" (fo dP) (cX dP) (ay dP) .none kV doc pm an (.ref c) ct) ["_law_state_here", "_law_great", "_law_odd"] (yF K Pg):=by
 refine xh lk cH yO (fun vs H Q E h=> ?_) (fun A outer s H vs Q E hr h=> ?_)
 ·obtain⟨p,g,gw,gh,vo,rfl,_⟩:=h
  rfl
 ·obtain⟨p,g,gw,gh,vo,rfl,st,bd,gr,po,wo,jW,tab,q⟩:=h
  have lam:xy (aF aE P w K mg base jZ "_law_great_right" (ay dP) f (.ref c) A outer s H E).cG c Pg:=⟨rfl,hC,pT⟩
  have n1:LN (aF aE P w K mg base jZ "_law_great_right" (ay dP) f (.ref c) A outer s H E).cG "_law_great" 1:=⟨rfl,rfl,rfl⟩
  have n2:LN (aF aE P w K mg base jZ "_law_great_right" (ay dP) f (.ref c) A outer s H E).cG "_law_odd" 2:=⟨rfl,rfl,rfl⟩
  have n4:LN (aF aE P w K mg base jZ "_law_great_right" (ay dP) f (.ref c) A outer s H E).cG "_law_lay_here" 4:=⟨rfl,rfl,rfl⟩
  have room:bK 15 (aF aE P w K mg base jZ "_law_great_right" (ay dP) f (.ref c) A outer s H E).cG.A:=hr
  have hu:=ZeJ (xn hr)
  have main:∃tt,fc (aF aE P w K mg base jZ "_law_great_right" (ay dP) f (.ref c) A outer s H E).cG (cX dP) tt/\tt {nx:=fun _ H'=>Q .ah H',rt:=Q} (start jZ [.ref p,.ref g,vo]) H:=by
   refine⟨_,Zc (Zx (i:=4) yO.nd rfl (Or.inr rfl) (Zf Cj (hr.mono .d) (Za (pv 0) (Za (pv 1) (Za (Zm ZT Zd (Zf jc (hr.mono .d) (Za (pv 0) (Za Zd Zb)))) Zb)))))
    (Zc (Zx (i:=3) yO.nd rfl (Or.inl rfl) (ZG (Za (Yp (params:=bz) (body:=GC "put_to" "_law_great" "_law_lay_here" _ _ _ _ _) (scope:=g1) lam rfl (Z9 (by kernel_rfl))) Zb)))
    (Zc (Zy (Yq Za0 Zbx Zby ZW (pv 3) (Za (Yp (params:=bz) (body:=qm "good_corners" "_law_great" "_law_lay_here" _ _ _ _) (scope:=g2) lam rfl (Z9 (by kernel_rfl))) Zb)))
    (Zc (Zy (Yq Za0 Zbx Zby ZW (pv 3) (Za (Yp (params:=bz) (body:=cB "put_to" "_law_great" "_law_lay_here" "_law_odd" _ _ _ _ _) (scope:=g3) lam rfl (Z9 (by kernel_rfl))) Zb)))
    (Zc (Zy (Yq Za0 Zbx Zby ZW (pv 3) (Za (Yp (params:=bz) (body:=GF "put_to" "_law_great" _ _ _ _ _) (scope:=g4) lam rfl (Z9 (by kernel_rfl))) Zb)))
    (Zc (Zy (Yq Za0 Zbx Zby ZW (pv 3) (Za (Yp (params:=bz) (body:=GD "good_corners" "_law_great" _ _ _ _ _ _ _ _ _ _ _) (scope:=g5) lam rfl (Z9 (by kernel_rfl))) Zb)))
    (Zi (Zw (Z7 (Xm hu) (Kf ["_law_call"] 1 [] (Ys (pv 3)) (fun C s H fp=>pb 0) (fun C s H fp=>Ya) (fun pins σ B s H fp D I0 hf=>ZH rfl (ID (kf:=13) hR room mR kR I0 hf rfl (pv 0))))
     (ZG (Za ZS (Za ZS (Za ZS (Za ZS (Za ZS Zb)))))) (bF _))))))))),?_⟩
   obtain⟨g',eg,sH⟩:=Zu bd.1
   cases eg
   obtain⟨_,w1,qA,h1,wK⟩:=id bd
   (try refine hZ _ _ ?_);refine Zj fun Z hZ=> (Zz (er rfl (er rfl (er rfl ⟨p,5,rfl,st,.d,.d,fun r o r0 r5 aw=> ⟨_,_,rfl,rfl,?_⟩⟩))))
   obtain⟨H1,zz,x1⟩:=newX H p o
   rw[zz]at aw |-
   have DL:g≠p:=by
    obtain⟨u,v,e,_⟩:=id st
    exact Ym sH e (by intro z;cases z)
   have Tx:bR H1 (.ref g) gw gh:=⟨Zl (x1 _ _ sH DL),w1,qA,h1,wK⟩
   refine⟨p,g,gw,gh,_,rfl,aw,Tx,fun l H2 xs x2 au el nl hm=>Zt ?_⟩
   dsimp only[List.set]
   obtain⟨u0,v0,fL,_⟩:=id st
   have kK:av p H H2:=x1.trans x2
   have xV:TabAt H2 Pg oY:=xk tab kK fL (fun _ z=>by cases z) (fun _ z=>by cases z)
   obtain⟨ly,un,_⟩:=S.sX _ _ _ xs hm
   rw[Zca .o,Zca .o]at ly
   have F0:tR K g l xs gw gh vo H2:=⟨⟨⟨Zl (kK _ _ sH DL),w1,qA,h1,wK⟩,el,ly.is⟩,un,gr,YQ po kK jW,wo⟩
   obtain⟨tp,lV,_⟩:=id xV
   have NF:p≠Pg:=fun z=>by
    obtain⟨u,v,e,_⟩:=id au
    rw[z,lV]at e;cases e
   (try refine hZ _ _ ?_);refine Zj fun Z hZ=> (Zz ⟨xV,fun y1 H1 s1 _ t1 l1=> ⟨bO,fun L hL=>Zt ?_⟩⟩)
   have m1:=HL xV s1 t1 l1 hL
   generalize upd H1 L (.lst [V.ref y1])=H1' at m1
   dsimp only[List.set]
   obtain⟨dB,fH,k1⟩:=m1.lst
   (try refine hZ _ _ ?_);refine Zj fun Z hZ=> (er rfl ⟨.inl ⟨rfl,_,ai.of fH⟩,m1.tb,fun y2 H2 s2 _ t2 l2=> ⟨L,dB,.ref y2,rfl,rfl,m1.bI fH s2,(by rw[k1,ZaH];decide),?_⟩⟩)
   have m2:=m1.app fH s2 t2 l2
   generalize upd H2 L (.lst (dB++[V.ref y2]))=H2' at m2
   dsimp only
   obtain⟨qE,iW,k2⟩:=m2.lst
   (try refine hZ _ _ ?_);refine Zj fun Z hZ=> (er rfl ⟨.inl ⟨rfl,_,ai.of iW⟩,m2.tb,fun y3 H3 s3 _ t3 l3=> ⟨L,qE,.ref y3,rfl,rfl,m2.bI iW s3,(by rw[k2,ZaH];decide),?_⟩⟩)
   have m3:=m2.app iW s3 t3 l3
   generalize upd H3 L (.lst (qE++[V.ref y3]))=Kq at m3
   dsimp only
   obtain⟨qD,fm,k3⟩:=m3.lst
   (try refine hZ _ _ ?_);refine Zj fun Z hZ=> (er rfl ⟨.inl ⟨rfl,_,ai.of fm⟩,m3.tb,fun y4 H4 s4 _ t4 l4=> ⟨L,qD,.ref y4,rfl,rfl,m3.bI fm s4,(by rw[k3,ZaH];decide),?_⟩⟩)
   have m4:=m3.app fm s4 t4 l4
   generalize upd H4 L (.lst (qD++[V.ref y4]))=H4' at m4
   dsimp only
   obtain⟨qC,iV,k4⟩:=m4.lst
   (try refine hZ _ _ ?_);refine Zj fun Z hZ=> (er rfl ⟨.inl ⟨rfl,_,ai.of iV⟩,m4.tb,fun y5 H5 s5 _ t5 l5=> ⟨L,qC,.ref y5,rfl,rfl,m4.bI iV s5,(by rw[k4,ZaH];decide),?_⟩⟩)
   have m5:=m4.app iV s5 t5 l5
   generalize upd H5 L (.lst (qC++[V.ref y5]))=Ce at m5
   dsimp only
   obtain⟨qB,pU,k5⟩:=m5.lst
   clear fH k1 iW k2 fm k3 iV k4 pU k5 qB
   obtain⟨oH,RI,mw,jL,sU,rA⟩:=m5
   have l8:jL.length=5:=Zcf rA
   refine hZ _ _ ?_
   refine(er rfl ⟨L,rfl,⟨jL,ai.of sU⟩,?_⟩)
   refine Yg (xs:=jL) (fun i zs σ H8=> ∃v0,σ=[v0]/\ag Ce H8/\zs=(qx.take i).map V.str) (er rfl ⟨ag.refl _,rfl⟩) (fun i zs σ H8 _ ⟨_,_,s8,_⟩=>ai.of (s8 _ _ sU)) ?_ ?_
   ·rintro j v zs σ H9 hv ⟨v0,rfl,s9,rfl⟩
    obtain⟨bb,cq,lm⟩:=Jn rA hv
    obtain⟨y,rfl,hG⟩:=lm.same s9
    have hj:j<jL.length:=(Zad.mp hv).1
    have F9:tR K g l xs gw gh vo H9:=F0.xt (oH.trans s9.x) lV
    suffices h:∃iC,(∃params bd scope N idx ws C Pre,Cr (aF aE P w K mg base jZ "_law_great_right" (ay dP) f (.ref c) A outer s H E).cG cS 13 [some (.ref p),some (.ref g),some vo,some (.ref L),some (.ref l)] H9 y iC params bd scope N idx ws C Pre)/\qx[j]? =some (wordOf iC) by
     obtain⟨iC,ask,hw⟩:=h
     refine⟨y,iC,rfl,ask,fun fP gm=> ⟨by rw[Zar,ZaS,ZaH];omega,_,rfl,s9.trans gm,?_⟩⟩
     rw[ZbO,hw,ZbA]
     rfl
    match j,cq,hj with
    |0,cq,_=>
     cases cq
     exact⟨11,⟨bz,_,g1,_,[1,4],[.ref g,.ref l],aM,_,⟨Ol (by kernel_rfl),rfl,rG n1 n4,rfl,at2 rfl rfl,Z9 (by kernel_rfl),hG,MM,Tv .d hP rfl rfl rfl .d .d .d .d .d,fun Q' E' hE=> ⟨.ref g,.ref l,.int 0,aM,rfl,.inr ⟨rfl,l,xs,gw,gh,0,rfl,rfl,.d,.d,F9.la,F9.gr⟩,hE⟩⟩⟩,rfl⟩
    |1,cq,_=>
     cases cq
     exact⟨11,⟨bz,_,g2,_,[1,4],[.ref g,.ref l],aM,_,⟨vK (by kernel_rfl),rfl,rG n1 n4,rfl,at2 rfl rfl,Z9 (by kernel_rfl),hG,MM,w6 (Zae _) hM rfl rfl rfl .d .d .d .d .d,fun Q' E' hE=> ⟨.ref g,l,xs,gw,gh,rfl,F9.la,F9.un,F9.gr,hE⟩⟩⟩,rfl⟩
    |2,cq,_=>
     cases cq
     exact⟨2,⟨bz,_,g3,_,[1,4,2],[.ref g,.ref l,vo],aN,_,⟨vJ (by kernel_rfl),rfl,vM n1 n4 n2,rfl,xf rfl rfl rfl,Z9 (by kernel_rfl),hG,MN,wZ .d hP rfl rfl rfl rfl .d .d .d .d .d .d .d,fun Q' E' hE=> ⟨.ref g,.ref l,vo,aN,rfl,.inl (.inr ⟨rfl,l,xs,gw,gh,rfl,F9.la,F9.po,F9.wo⟩),hE⟩⟩⟩,rfl⟩
    |3,cq,_=>
     cases cq
     exact⟨1,⟨bz,_,g4,_,[1],[.ref g],aL,_,⟨zN (by kernel_rfl),rfl,zP n1,rfl,Bw rfl,Z9 (by kernel_rfl),hG,ML,Tt .d hP rfl rfl .d .d .d,fun Q' E' hE=> ⟨.ref g,.ah,.int 0,aL,rfl,.inl (.inl (.inr ⟨rfl,gw,gh,F9.la.bd,⟨⟨_,.ah⟩,fun xs e=>by cases e⟩,rfl⟩)),hE⟩⟩⟩,rfl⟩
    |4,cq,_=>
     cases cq
     exact⟨1,⟨bz,_,g5,_,[1],[.ref g],aL,_,⟨zN (by kernel_rfl),rfl,zP n1,rfl,Bw rfl,Z9 (by kernel_rfl),hG,ML,Ts (Zae _) hX rfl rfl .d .d .d,⟨g,gw,gh,rfl,F9.la.bd,fun t H' s' e' Q' E' hE=> ⟨.ref g,.ref t,aL,rfl,.inl (.inr ⟨rfl,gw,gh,F9.la.bd.same s',⟨⟨_,.tup e'⟩,fun zs ez y hy=>by rw[Zl e']at ez;cases ez;rw[List.eq_of_mem_replicate hy];exact⟨_,.ah⟩⟩,by rw[Zl e'];exact Vm (by have:=F9.la.bd.2.1;omega)⟩),hE⟩⟩⟩⟩,rfl⟩
    |j+5,_,h=>omega
   ·rintro zs σ H9 ⟨v0,rfl,s9,rfl⟩ Z hZ
    rw[l8]
    obtain⟨fP,zz,sZ,eZ⟩:=aH (o:=.lst ((qx.take 5).map V.str)) hZ
    rw[zz]
    refine⟨LV,fun a8 h8=> ?_⟩
    have yA:=Zp (o:=.lst (qx.map V.str)) h8
    refine⟨Z,a8,qx,rfl,rfl,ai.of (yA _ _ eZ),ai.of Ze,?_⟩
    have sE:ag Ce _:=s9.trans (sZ.trans yA)
    refine q _ (jD.trans (U.av.xs kK (by simp)) (jD.trans (U.av.xs oH (by simp)) (U.ag.xs sE))) ?_ (Y0 mw sE)
    obtain⟨u,v,e,r⟩:=au
    exact⟨u,v,sE _ _ (oH _ _ e NF),r⟩
  obtain⟨t,ht,hq⟩:=main
  exact⟨t,ht.cG,hq⟩
end
theorem Zd5:∀n:Nat,n<13->3<=n->(bw (n:Int) 12 (some (L2.upTo n))&& !S.bL (L2.upTo n))=true:=by decide+kernel
theorem Iz {n:Nat}(h3:3<=n) (wK:n<=12):S.jI (n:Int) 12 (L2.upTo n)/\S.bL (L2.upTo n)=false:=by
 have:=Zd5 n .o h3
 rw[ZaL,Zb6]at this
 exact⟨S.pG this.1,this.2⟩
structure Wk (K:ZhQ) (a Pt Pg:Addr) (ns:List Int) (q:Str) (H:Hp):Prop where
 sc:gN K H a ns
 tb:TabAt H Pt q
 tg:TabAt H Pg oY
section
variable {K:ZhQ}{a Pt Pg:Addr}{ns:List Int}{q:Str}{H H':Hp}
theorem Wk.same (W:Wk K a Pt Pg ns q H) (s:ag H H'):Wk K a Pt Pg ns q H':=⟨W.sc.same s,Y0 W.tb s,Y0 W.tg s⟩
theorem Wk.x {p:Addr}(W:Wk K a Pt Pg ns q H) (s:av p H H') (st:bQ H p):Wk K a Pt Pg ns q H':=by
 obtain⟨u,v,e,_⟩:=st
 exact⟨W.sc.x s e (fun _ _ z=>by cases z),xk W.tb s e (fun _ z=>by cases z) (fun _ z=>by cases z),xk W.tg s e (fun _ z=>by cases z) (fun _ z=>by cases z)⟩
theorem HI {P P':Addr}{q q':Str}(t:TabAt H P q) (t':TabAt H P' q') (s:av P' H H') (n:P≠P'):TabAt H' P q:=by
 obtain⟨ps,e,h1,h2⟩:=t
 obtain⟨ps',e',_⟩:=t'
 refine⟨ps,s _ _ e n,h1,fun pos cv h=> ?_⟩
 obtain⟨k,ek,hk⟩:=h2 pos cv h
 exact⟨k,ek,s _ _ hk (fun z=>by rw[z,e']at hk;cases hk)⟩
theorem Wk.t (W:Wk K a Pt Pg ns q H) (s:av Pt H H') (t:TabAt H' Pt q) (n:Pg≠Pt):Wk K a Pt Pg ns q H':=by
 obtain⟨tp,e,_⟩:=id W.tb
 exact⟨W.sc.x s e (fun _ _ z=>by cases z),t,HI W.tg W.tb s n⟩
theorem Zdb {p Pg:Addr}(s:jD [p,Pg] H H'):∃Hm:Hp,av p H Hm/\av Pg Hm H':=by
 refine⟨fun b=>if b=p then H' b else H b,fun b o h n=> (ZaK n).trans h,fun b o h n=> ?_⟩
 by_cases z:b=p
 ·exact(ZaY z).symm.trans h
 ·exact s b o ((ZaK z).symm.trans h) (by simp[z,n])
theorem Wk.g {p:Addr}{Hm:Hp}(W:Wk K a Pt Pg ns q H) (st:bQ H p) (s1:av p H Hm) (s2:av Pg Hm H') (t:TabAt H' Pg oY) (n:Pt≠Pg):Wk K a Pt Pg ns q H':=by
 have W1:=W.x s1 st
 obtain⟨tp,er,_⟩:=id W1.tg
 exact⟨W1.sc.x s2 er (fun _ _ z=>by cases z),HI W1.tb W1.tg s2 n,t⟩
end
structure Facts (K:ZhQ) (b d o3:Addr) (ds:List V) (wd hg:Int) (n:Nat) (vn vb vo:V) (H:Hp):Prop where
 bn:iD K H vn
 b1:eC K H vb
 b2:bw wd hg (bj H vb)=false
 la:bB K H (.ref b) d ds wd hg
 po:bJ K H vo
 wo:bh vo 0 3=false
 lk:H o3=some (.tup (L2.upTo n))
theorem Facts.xt {K:ZhQ}{b d o3 Pt:Addr}{ds:List V}{wd hg:Int}{n:Nat}{vn vb vo:V}{H H':Hp}{ps:Array Value}(f:Facts K b d o3 ds wd hg n vn vb vo H) (s:av Pt H H') (hp:H Pt=some (.bM ps)):Facts K b d o3 ds wd hg n vn vb vo H':=
 ⟨BG f.bn s (UB f.bn.1 hp),BD f.b1 s (UB f.b1 hp),by rw[JE f.b1.1 s (YX f.b1.1 hp)];exact f.b2,f.la.xt s hp,YQ f.po s (YX f.po hp),f.wo,s _ _ f.lk (fun z=>by have h:=f.lk;rw[z,hp]at h;cases h)⟩
theorem MV:putL [V.int 0] (bY (1+1) 0).toNat (cD (1+1) 0)=[0,1].map V.int:=by decide+kernel
theorem Rg:jy 1 1 [V.ah] 4=[0,1,2,3]:=by decide+kernel
theorem Oy:bw 1 1 (some [V.int 0])=true:=by decide+kernel
theorem Ox:bw 1 1 (some [V.ah])=true:=by decide+kernel
theorem KS:S.bL [V.ah]=true:=by decide+kernel
section
variable {P:Program}{w:World}{K:ZhQ}{mg:Str->Option Value}{base:Heap}
abbrev cF:Stmt:=top 60
def yz (K:ZhQ) (Pg Pt:Addr):Sp:=fun vs H Q _=> ∃(a:Addr) (ns:List Int),vs=[.ref a]/\gN K H a ns/\ns.length<=63/\(∀Px∈[Pg,Pt],H Px=some (.bM #[]))/\∀H',Q (.bl true) H'
abbrev gz:List Str:=["_law_script", "_law_k", "_law_state_here", "_law_lay_here", "_law_side", "_law_calls", "_law_bad", "_law_board", "_law_drawn", "_law_like", "_law_none", "_law_odd"]
theorem gY:aZ gz ["_law_script"] (ay cF):=ZL (by decide+kernel)
abbrev qL:Str:= "law.<locals>.<lambda>"
abbrev c1:Scope:=ip [("_law_bad",.free),("_law_none",.free),("_law_odd",.free),("put_to",.globalImplicit)]
abbrev c2:Scope:=ip [("_law_bad",.free),("_law_none",.free),("good_corners",.globalImplicit)]
abbrev c3:Scope:=ip [("_law_bad",.free),("_law_board",.free),("_law_odd",.free),("put_to",.globalImplicit)]
abbrev c4:Scope:=ip [("_law_bad",.free),("_law_board",.free),("good_corners",.globalImplicit)]
abbrev c5:Scope:=ip [("_law_board",.free),("_law_drawn",.free),("_law_odd",.free),("put_to",.globalImplicit)]
abbrev c6:Scope:=ip [("_law_like",.free),("good_corners",.globalImplicit),("len",.globalImplicit)]
abbrev c7:Scope:=ip [("_law_board",.free),("_law_drawn",.free),("good_corners",.globalImplicit)]
def qw:List Str:=["board", "board", "lay", "lay", "number", "unlike"]
theorem VE {f c Pg Pt fR cS aB aL aN aM aU:Addr}{oc:Value}{od an:Option Addr}{kV doc pm ct:Value}{eO:Array (Option Value)}(zK:Pg≠Pt)
  (lk:K.lookup f=some ⟨oc,od,.func (PySem.W.fnOf "law" "law" (fo cF) (cX cF) (ay cF) .none kV doc pm an (.ref c) ct),eO⟩) (cH:PySem.W.codeIn K (.ref c) "law" =true) (G:Gs mg)
  (Dst:Def P w K mg base 2 "_law_state" ["_law_script", "_law_k"] (yh K)) (jc:Def P w K mg base 1 "_law_take" ["_law_state_here", "_law_many"] jP) (Dll:Def P w K mg base 2 "_law_lay" ["_law_state_here", "_law_board"] (yD K)) (Cj:Def P w K mg base 3 "_law_grown" ["_law_state_here", "_law_board", "_law_bare"] S.uN)
  (Dnn:Def P w K mg base 2 "_law_no_number" ["_law_state_here", "_law_low", "_law_high"] (yn K)) (Kx:Def P w K mg base 14 "_law_right" ["_law_board", "_law_drawn", "_law_lay_here"] (yk K)) (Dgt:Def P w K mg base 16 "_law_great_right" ["_law_state_here", "_law_great", "_law_odd"] (yF K Pg))
  (tV:Def P w K mg base 2 "_law_unlike" ["_law_lay_here"] S.qS) (Dnb:Def P w K mg base 2 "_law_no_board" ["_law_state_here"] (yo K)) (Dnl:Def P w K mg base 2 "_law_no_lay" ["_law_state_here", "_law_board", "_law_lay_here"] (yu K))
  (tU:Def P w K mg base 8 "put_to" ["board", "lay", "corner"] (oM K)) (Ck:Def P w K mg base 13 "good_corners" ["board", "lay"] (qU K))
  (hR:∀b',Def P w K mg b' 15 "_law_word" ["_law_call"] (mC P w K mg b' cS 14)) (hP:∀b',aW P w K mg b' 8 "put_to" ["board", "lay", "corner"] (oK K aB aL aN aM)) (hX:∀b',aW P w K mg b' 13 "good_corners" ["board", "lay"] (S.jg K aB aL aU)) (mR:mg "_law_word" =some (.ref fR)) (kR:PySem.W.keepIn K (.ref fR)=true)
  (MB:gO K mg cS aB 0) (ML:gO K mg cS aL 1) (MN:gO K mg cS aN 2) (MU:gO K mg cS aU 6) (hC:PySem.W.CodeHd base c Pt)
  (pT:∃bm ob,mg "__builtins__" =some (.ref bm)/\bm≠builtinsNs/\base.get? bm=some ob/\ob.cls=.type "module" /\ob.dict=some builtinsNs/\ob.data=.plain):
  aA P w K mg base aE 17 f (PySem.W.fnOf "law" "law" (fo cF) (cX cF) (ay cF) .none kV doc pm an (.ref c) ct) ["_law_script"] (yz K Pg Pt):=by
 refine xh lk cH gY (fun vs H Q E h=> ?_) (fun A outer s H vs Q E hr h=> ?_)
 ·obtain⟨a,ns,rfl,_⟩:=h
  rfl
 ·obtain⟨a,ns,rfl,CW,rX,Es,q⟩:=h
  have Pd:=Es Pt (by simp)
  have Pc:=Es Pg (by simp)
  have lam:xy (aF aE P w K mg base gz "law" (ay cF) f (.ref c) A outer s H E).cG c Pt:=⟨rfl,hC,pT⟩
  have C:LCtx (aF aE P w K mg base gz "law" (ay cF) f (.ref c) A outer s H E).cG cS c Pt fR "good_corners" 13 ["board", "lay"] (S.jg K aB aL aU):=⟨⟨rfl,hC,pT⟩,hR,hX,hr.mono .d,mR,kR⟩
  have n6:LN (aF aE P w K mg base gz "law" (ay cF) f (.ref c) A outer s H E).cG "_law_bad" 6:=⟨rfl,rfl,rfl⟩
  have n7:LN (aF aE P w K mg base gz "law" (ay cF) f (.ref c) A outer s H E).cG "_law_board" 7:=⟨rfl,rfl,rfl⟩
  have n8:LN (aF aE P w K mg base gz "law" (ay cF) f (.ref c) A outer s H E).cG "_law_drawn" 8:=⟨rfl,rfl,rfl⟩
  have n9:LN (aF aE P w K mg base gz "law" (ay cF) f (.ref c) A outer s H E).cG "_law_like" 9:=⟨rfl,rfl,rfl⟩
  have DP:LN (aF aE P w K mg base gz "law" (ay cF) f (.ref c) A outer s H E).cG "_law_none" 10:=⟨rfl,rfl,rfl⟩
  have zM:LN (aF aE P w K mg base gz "law" (ay cF) f (.ref c) A outer s H E).cG "_law_odd" 11:=⟨rfl,rfl,rfl⟩
  have room:bK 15 (aF aE P w K mg base gz "law" (ay cF) f (.ref c) A outer s H E).cG.A:=hr.mono .d
  have hu:=xn hr
  have main:∃tt,fc (aF aE P w K mg base gz "law" (ay cF) f (.ref c) A outer s H E).cG (cX cF) tt/\tt {nx:=fun _ H'=>Q .ah H',rt:=Q} (start gz [.ref a]) H:=by
   refine⟨_,Zc (Ju ZeL rfl (Z2 rfl G.range (Za (Zn (UO rfl) rfl G.max boot_max (Za Zd (Za (Zn (Zda rfl) rfl G.min boot_min (Za (Zn ZF rfl G.len Zfb (Za (pv 0) Zb)) (Za Zd Zb))) Zb))) Zb)) (ZD (i:=1) gY.nd rfl (Or.inl rfl))
    (Zc (Zx (i:=2) gY.nd rfl (Or.inl rfl) (Zf Dst (hr.mono .d) (Za (pv 0) (Za (pv 1) Zb))))
    (Zc (Zx (i:=7) gY.nd rfl (Or.inr rfl) (Zs (Za (Zm ZT Zd (Zf jc (hr.mono .d) (Za (pv 2) (Za Zd Zb)))) (Za (Zm ZT Zd (Zf jc (hr.mono .d) (Za (pv 2) (Za Zd Zb)))) Zb))))
    (Zc (YK (Zs (Za (Zf Dll (hr.mono .d) (Za (pv 2) (Za (pv 7) Zb))) (Za (Zf Cj (hr.mono .d) (Za (pv 2) (Za (pv 7) (Za (Zm ZT Zd (Zf jc (hr.mono .d) (Za (pv 2) (Za Zd Zb)))) Zb)))) Zb))) (Z3 rfl (Zk (ZD (i:=8) gY.nd rfl (Or.inr rfl)) (Zk (ZD (i:=3) gY.nd rfl (Or.inl rfl)) ZP))))
    (Zc (YK (Zs (Za (Zf Dnn (hr.mono .d) (Za (pv 2) (Za Zd (Za Zd Zb)))) (Za (Zm ZT Zd (Zf jc (hr.mono .d) (Za (pv 2) (Za Zd Zb)))) Zb))) (Z3 rfl (Zk (ZD (i:=11) gY.nd rfl (Or.inr rfl)) (Zk (ZD (i:=4) gY.nd rfl (Or.inl rfl)) ZP))))
    (Zc (ZO (PW.pt (Jm (Z0 (ZK (Zf Kx (hr.mono .d) (Za (pv 7) (Za (pv 8) (Za (pv 3) Zb)))))) (YI (Z0 (ZK (Zf Kx (hr.mono .d) (Za (pv 7) (Za (pv 3) (Za (Zm U5 (Zs (Za Yo Zb)) (ZE ZN (pv 7) Zd (fun _ _=>rfl))) Zb))))))))) Zr Zv)
    (Zc (ZO (Z0 (ZK (Zf Dgt (hr.mono .d) (Za (pv 2) (Za (ZE ZZ (ZG (Za (Zs (Za Zd (Za (pv 4) Zb))) (Za (Zs (Za (pv 4) (Za Zd Zb))) Zb))) (Zf jc (hr.mono .d) (Za (pv 2) (Za Zd Zb))) (fun _ _=>rfl)) (Za (pv 11) Zb)))))) Zr Zv)
    (Zc (ZO (PW.pt (BM (Z0 (ZK (Zf tV (hr.mono .d) (Za (pv 8) Zb)))) (UZ (ZM Ux (ZdE (idx:=[7,8]) (N:=["_law_board", "_law_drawn"]) (bd:=qm "good_corners" "_law_board" "_law_drawn" _ _ _ _) (scope:=c7) (Pre:=fun ws=>og (S.jg K aB aL aU) ws aU) C (vK (by kernel_rfl)) rfl (rG n7 n8) rfl rfl (Z9 (by kernel_rfl)) MU (fun f ws hw=>match ws,hw with | [x,y],_=>w6 (Zae _) hX rfl rfl rfl .d .d .d .d .d)) ZS (bF _))))) Zr Zv)
    (Zc (YK (Zs (Za (Zf Dnb (hr.mono .d) (Za (pv 2) Zb)) (Za (Zf Dnl (hr.mono .d) (Za (pv 2) (Za (pv 7) (Za (pv 8) Zb)))) Zb))) (Z3 rfl (Zk (ZD (i:=10) gY.nd rfl (Or.inr rfl)) (Zk (ZD (i:=6) gY.nd rfl (Or.inr rfl)) ZP))))
    (Zc (Zx (i:=9) gY.nd rfl (Or.inr rfl) (Z4 WX rfl G.tuple ZeK (Za (Z4 Wi rfl G.range boot_range (Za (Zm ZT Zd (Zf jc (hr.mono .d) (Za (pv 2) (Za Zd Zb)))) Zb)) Zb)))
    (Zc (Zx (i:=5) gY.nd rfl (Or.inl rfl) (ZG (Za (Yp (params:=bz) (body:=cB "put_to" "_law_none" "_law_bad" "_law_odd" _ _ _ _ _) (scope:=c1) lam rfl (Z9 (by kernel_rfl))) Zb)))
    (Zc (Zy (Yq Za0 Zbx Zby ZW (pv 5) (Za (Yp (params:=bz) (body:=qm "good_corners" "_law_none" "_law_bad" _ _ _ _) (scope:=c2) lam rfl (Z9 (by kernel_rfl))) Zb)))
    (Zc (Zy (Yq Za0 Zbx Zby ZW (pv 5) (Za (Yp (params:=bz) (body:=cB "put_to" "_law_board" "_law_bad" "_law_odd" _ _ _ _ _) (scope:=c3) lam rfl (Z9 (by kernel_rfl))) Zb)))
    (Zc (Zy (Yq Za0 Zbx Zby ZW (pv 5) (Za (Yp (params:=bz) (body:=qm "good_corners" "_law_board" "_law_bad" _ _ _ _) (scope:=c4) lam rfl (Z9 (by kernel_rfl))) Zb)))
    (Zc (Zy (Yq Za0 Zbx Zby ZW (pv 5) (Za (Yp (params:=bz) (body:=cB "put_to" "_law_board" "_law_drawn" "_law_odd" _ _ _ _ _) (scope:=c5) lam rfl (Z9 (by kernel_rfl))) Zb)))
    (Zc (Zy (Yq Za0 Zbx Zby ZW (pv 5) (Za (Yp (params:=bz) (body:=GG "good_corners" "_law_like" _ _ _ _ _ _ _ _) (scope:=c6) lam rfl (Z9 (by kernel_rfl))) Zb)))
    (Zi (ZO (ZM (Xn hu) (Kf ["_law_call"] 1 [] (Ys (pv 5)) (fun C s H fp=>pb 0) (fun C s H fp=>Ya) (fun pins σ B s H fp D I0 hf=>ZH rfl (ID (kf:=13) hR room mR kR I0 hf rfl (pv 0))))
     (Zm YZ (Zm YZ (Zm Hs (ZG (Za ZS Zb)) Zd) (Zm Hs (ZG (Za ZS Zb)) Zd)) (ZG (Za ZS (Za ZS Zb)))) (bF _)) Zr Zv))))))))))))))))))
   (Zi (Zw (YB (Z7 (HV (ZeJ hu)) (Zf tU (hr.mono .d) (Za (Zs (Za Zd (Za Zd Zb))) (Za (Zs (Za Zd Zb)) (Za Zd Zb)))) (Zs (Za Zd (Za Zd Zb))) (bF _))
    (Yz (Z7 (VN (ZeJ hu)) (Zf Ck (hr.mono .d) (Za (Zs (Za Zd (Za Zd Zb))) (Za (Zs (Za Yo Zb)) Zb))) (ZG (Za Zd (Za Zd (Za Zd (Za Zd Zb))))) (bF _)))))),?_⟩
   have K8:TabAt H Pt qL:=⟨#[],Pd,trivial,fun pos cv z=>by cases z⟩
   have K7:TabAt H Pg oY:=⟨#[],Pc,trivial,fun pos cv z=>by cases z⟩
   (try refine hZ _ _ ?_);refine Zj fun Z hZ=> ?_
   refine(er rfl ⟨a,_,rfl,.inl CW.sq,_,_,rfl,_,_,rfl,_,rfl,(by rw[Zar];split<;>split<;>omega),(by rw[Zar];split<;>split<;>omega),?_⟩)
   refine YU (fun i σ H'=> ∃s1 s2 s3 s4 s5 s6 s7 s8 s9 gm ji,σ=[some (.ref a),s1,s2,s3,s4,s5,s6,s7,s8,s9,gm,ji]/\Wk K a Pt Pg ns qL H') ⟨_,_,_,_,_,_,_,_,_,_,_,rfl,CW,K8,K7⟩ ?_ ?_
   ·rintro i σ H0 hi ⟨q1,q2,q3,q4,q5,q6,q7,q8,q9,MT,q11,rfl,W⟩
    rw[Ze7]
    refine Zt ?_
    dsimp only[List.set]
    (try refine hZ _ _ ?_);refine Zj fun Z hZ=> (Zz (er rfl (er rfl ⟨a,ns,i,rfl,W.sc.sq,fun p H1 np k1 aw=>Zt ?_⟩)))
    dsimp only[List.set]
    have W1:=W.same k1
    (try refine hZ _ _ ?_);refine Zj fun Z hZ=> (Zz (er rfl ⟨p,11,rfl,aw,.d,.d,fun r2 o2 r20 r21 de=> ⟨_,_,rfl,rfl,?_⟩⟩))
    obtain⟨H4,zz,x4⟩:=newX H1 p o2
    rw[zz]at de |-
    have W4:=W1.x x4 aw
    refine(er rfl ⟨p,11,rfl,de,.d,.d,fun r3 o3 r30 r31 cT=> ⟨_,_,rfl,rfl,?_⟩⟩)
    obtain⟨H5,zz,x5⟩:=newX H4 p o3
    rw[zz]at cT |-
    have W5:=W4.x x5 de
    refine⟨aX,fun b hb=>Zt ?_⟩
    dsimp only[List.set]
    generalize hw:1+r2=wd
    generalize hh:1+r3=hg
    obtain⟨H6,zz,s6,e6⟩:=aH (o:=.tup [V.int wd,V.int hg]) hb
    rw[zz]
    have W6:=W5.same s6
    have qO:=cT.same s6
    have w1:1<=wd/\wd<=11/\1<=hg/\hg<=11:=.o
    have jC:∀{H':Hp},H' b=some (.tup [V.int wd,V.int hg])->bR H' (.ref b) wd hg:=fun h=> ⟨Zl h,.o,.o,.o,.o⟩
    have neT:∀{H':Hp}{x:Addr}{ys:List V},bQ H' p->H' x=some (.tup ys)->x≠p:=fun⟨_,_,e,_⟩ h=>Ym h e (by intro z;cases z)
    have gq:b≠p:=neT qO e6
    (try refine hZ _ _ ?_);refine Zj fun Z hZ=> (Zz (er rfl (er rfl ⟨p,b,wd,hg,rfl,qO,jC e6,fun d H7 ds x7 qN F5 pz=> ?_⟩)))
    have W7:=W6.x x7 qO
    have Sr:=x7 _ _ e6 gq
    have jY:=neT qN F5
    refine(er rfl (er rfl (er rfl ⟨p,5,rfl,qN,.d,.d,fun r4 o4 r40 r41 qM=> ⟨_,_,rfl,rfl,?_⟩⟩)))
    obtain⟨H8,zz,x8⟩:=newX H7 p o4
    rw[zz]at qM |-
    have W8:=W7.x x8 qN
    have Ga:=x8 _ _ Sr gq
    have Sj:=x8 _ _ F5 jY
    refine⟨p,b,wd,hg,_,rfl,qM,jC Ga,fun l H9 xs x9 uF Sb ph hm=> ⟨aX,fun tq O9=> ?_⟩⟩
    have W9:=W8.x x9 qM
    have Sq:=x9 _ _ Ga gq
    have Si:=x9 _ _ Sj jY
    obtain⟨DT,un,_⟩:=S.sX _ _ _ xs hm
    rw[Zca .o,Zca .o]at DT
    have ly:=DT.is
    obtain⟨fP,zz,mT,e10⟩:=aH (o:=.tup [V.ref d,V.ref l]) O9
    rw[zz]
    refine⟨tq,_,rfl,aj.of e10,rfl,_,_,rfl,_,_,rfl,rfl,?_⟩
    dsimp only[List.set]
    have W10:=W9.same mT
    have qR:=uF.same mT
    have Sy:=mT _ _ Sq
    have So:=mT _ _ Si
    have Sd:=mT _ _ Sb
    (try refine hZ _ _ ?_);refine Zj fun Z hZ=> (Zz (er rfl ⟨p,3,rfl,qR,.d,.d,fun vo xF Cv qQ po wo jW=> ?_⟩))
    have W11:=W10.x Cv qR
    refine(er rfl ⟨p,12,rfl,qQ,.d,.d,fun r5 o5 r50 r51 uI=> ⟨_,_,rfl,rfl,aX,fun K3 Ep=> ?_⟩⟩)
    obtain⟨iA,zz,kK⟩:=newX xF p o5
    rw[zz]at uI Ep |-
    have W12:=W11.x kK qQ
    dsimp only
    generalize hsd:1+r5=sd
    have sd1:1<=sd/\sd<=12:=.o
    obtain⟨xD,zz,pF,e13⟩:=aH (o:=.tup [vo,V.int sd]) Ep
    rw[zz]
    refine⟨K3,_,rfl,aj.of e13,rfl,_,_,rfl,_,_,rfl,rfl,?_⟩
    dsimp only[List.set]
    have W13:=W12.same pF
    have qP:=uI.same pF
    have up:∀{x:Addr}{ys:List V},fP x=some (.tup ys)->x≠p->xD x=some (.tup ys):=fun h n=>pF _ _ (kK _ _ (Cv _ _ h n) n)
    have pZ:=up Sy gq
    have F8:=up So jY
    have F1:=up Sd ph
    have M3:bJ K xD vo:=pF.g8 (YQ po kK jW)
    (try refine hZ _ _ ?_);refine Zj fun Z hZ=> (er rfl (er rfl (er rfl ⟨.ref b,d,l,ds,xs,wd,hg,rfl,⟨jC pZ,F8,pz⟩,⟨jC pZ,F1,ly⟩,un,w1.2.1,w1.2.2.2,fun H14 Dg=> ⟨true,rfl,aO ?_⟩⟩)))
    refine(er rfl (er rfl ⟨bO,fun t1 j9=> ?_⟩))
    obtain⟨H15,zz,Ee,e15⟩:=aH (o:=.tup [V.ah]) j9
    rw[zz]
    have Sx:=Ee _ _ (Dg _ _ pZ)
    refine(er rfl ⟨b,_,_,_,rfl,rfl,aj.of Sx,f9,t1,wd,[.ah],rfl,rfl,e15,by simp,.o,.o,by simp;omega,fun t2 Ku rm e16=> ?_⟩)
    rw[IE]at e16
    have vS:=Dg.trans (Ee.trans rm)
    obtain⟨DS,KR,_⟩:=S.sX wd.toNat hg.toNat 0 _ (by simp[S.fJ]:List.replicate wd.toNat V.ah∈S.fJ wd.toNat hg.toNat 0)
    rw[Zca .o,Zca .o]at DS
    refine⟨.ref b,l,t2,xs,_,wd,hg,rfl,⟨jC (vS _ _ pZ),vS _ _ F1,ly⟩,⟨jC (vS _ _ pZ),e16,DS.is⟩,KR,w1.2.1,w1.2.2.2,fun ow jQ=> ⟨true,rfl,aO (Yd ?_)⟩⟩
    try dsimp only
    have rN:=vS.trans jQ
    have W17:=W13.same rN
    have CQ:=qP.same rN
    have Sw:=rN _ _ pZ
    have Sn:=rN _ _ F8
    have M0:=rN.g8 M3
    (try refine hZ _ _ ?_);refine Zj fun Z hZ=> (er rfl (er rfl ⟨aX,fun pV EZ=> ?_⟩))
    obtain⟨H18,zz,Ed,e18⟩:=aH (o:=.tup [V.int 12,V.int sd]) EZ
    rw[zz]
    refine(er rfl ⟨aX,fun ko AD=> ?_⟩)
    obtain⟨Kt,zz,zV,e19⟩:=aH (o:=.tup [V.int sd,V.int 12]) AD
    rw[zz]
    refine⟨aX,fun L3 fm=> ?_⟩
    have vQ:=Zp (o:=.lst [V.ref pV,V.ref ko]) fm
    have e20:upd Kt L3 (.lst [V.ref pV,V.ref ko]) L3=some (.lst [V.ref pV,V.ref ko]):=Ze
    have zL:L3≠p:=fun z=>by
     obtain⟨u,v,e,_⟩:=(CQ.same (Ed.trans zV))
     rw[z,e]at fm;cases fm
    generalize upd Kt L3 (HO.lst [V.ref pV,V.ref ko])=H20 at vQ e20
    have vR:=Ed.trans (zV.trans vQ)
    have W20:=W17.same vR
    have uH:=CQ.same vR
    have F4:=(zV.trans vQ) _ _ e18
    have F3:=vQ _ _ e19
    refine(er rfl ⟨p,2,rfl,uH,.d,.d,fun r8 o8 r80 r81 uG=> ?_⟩)
    obtain⟨Ks,zz,oD⟩:=newX H20 p o8
    rw[zz]at uG |-
    have BV:=W20.x oD uH
    obtain⟨g,gw,gh,wy,Rm,Rj⟩:∃(g:Addr) (gw gh:Int),fN [V.ref pV,V.ref ko] r8=some (.ref g)/\bR Ks (.ref g) gw gh/\(11<gw∨11<gh):=by
     have:r8=0∨r8=1:=.o
     rcases this with rfl |rfl
     ·exact⟨pV,12,sd,rfl,⟨Zl (oD _ _ F4 (neT uH F4)),.o,.o,.o,.o⟩,.o⟩
     ·exact⟨ko,sd,12,rfl,⟨Zl (oD _ _ F3 (neT uH F3)),.o,.o,.o,.o⟩,.o⟩
    have Dp:bJ K Ks vo:=YQ (vR.g8 M0) oD jW
    refine⟨L3,_,_,_,rfl,rfl,ai.of (oD _ _ e20 zL),wy,_,rfl,p,g,gw,gh,vo,rfl,uG,Rm,Rj,Dp,wo,jW,BV.tg,fun Kr KO L6 K5=> ⟨true,rfl,aO (Yd ?_)⟩⟩
    try dsimp only
    obtain⟨Hm,ug,xH⟩:=Zdb KO
    have W22:=BV.g uG ug xH K5 (ZdS zK)
    obtain⟨tpg,FY,_⟩:=id (BV.x ug uG).tg
    have Cy:∀{x:Addr}{ys:List V},ow x=some (.tup ys)->x≠p->Kr x=some (.tup ys):=fun {x ys} h n=>by
     have hm:=ug _ _ (oD _ _ (vR _ _ h) n) n
     exact xH _ _ hm (fun z=>by rw[z,FY]at hm;cases hm)
    have Sv:=Cy Sw gq
    have F7:=Cy Sn jY
    have Dn:=YQ Dp ug jW
    have MZ:bJ K Kr vo:=YQ Dn xH (YX Dn FY)
    have Mw:S.tL ds:=(S.pG pz).ok
    have aaz:=Yj pz
    (try refine hZ _ _ ?_);refine IK (fun ao H'=>ao=[some (.ref a),some (.int (i:Int)),some (.ref p),some (.ref l),some (.int sd),q5,q6,some (.ref b),some (.ref d),q9,MT,some vo]/\bQ H' p/\Wk K a Pt Pg ns qL H'/\H' b=some (.tup [V.int wd,V.int hg])/\H' d=some (.tup ds)/\bJ K H' vo) ?_ ?_
    rotate_left
    ·intro D' FD
     refine(er rfl ⟨d,ds,rfl,F7,Mw,.o,fun H23 rk=> (er rfl (?_))⟩)
     have tJ:=W22.same rk
     have CP:=L6.same rk
     have pX:=rk _ _ Sv
     have nU:=rk _ _ F7
     have zr:=rk.g8 MZ
     cases hu:S.bL ds with
     |true=>exact aO (Yd (FD _ _ ⟨rfl,CP,tJ,pX,nU,zr⟩))
     |false=>
      refine aV ⟨[.ref b,.ref d],rfl,at2 rfl rfl,tJ.tb,fun H' x' Q' E' hE=> ?_,fun H24 qv LP=> ⟨rfl,_,rfl,aO (Yd (FD _ _ ?_))⟩⟩
      ·obtain⟨ps,hp,_⟩:=tJ.tb
       have Tz:=(jC pX).x x' ((jC pX).bM hp)
       exact⟨.ref b,.ref d,aU,rfl,.inr ⟨rfl,wd,hg,ds,⟨Tz,Zl (x' _ _ nU (fun z=>by rw[z,hp]at nU;cases nU)),S.pG pz⟩,hu⟩,hE⟩
      ·obtain⟨ps,hp,_⟩:=tJ.tb
       obtain⟨u,v,ep,cO⟩:=CP
       exact⟨rfl,⟨u,v,qv _ _ ep (fun z=>by rw[z,hp]at ep;cases ep),cO⟩,tJ.t qv LP zK,qv _ _ pX (fun z=>by rw[z,hp]at pX;cases pX),qv _ _ nU (fun z=>by rw[z,hp]at nU;cases nU),YQ zr qv (YX zr hp)⟩
    rintro ao H24 ⟨rfl,CO,W24,Su,Sm,MY⟩
    (try refine hZ _ _ ?_);refine Zj fun Z hZ=> (Zz (er rfl ⟨p,rfl,CO,fun vn H25 ui CN bn nn=> ?_⟩))
    have W25:=W24.x ui CO
    have Gb:=ui _ _ Su gq
    have F6:=ui _ _ Sm jY
    refine(er rfl (er rfl (er rfl ⟨p,b,d,ds,wd,hg,rfl,CN,⟨jC Gb,F6,pz⟩,fun vb H26 oB L5 gl=> ⟨aX,fun K2 O8=> ?_⟩⟩)))
    have W26:=W25.x oB CN
    have GH:=BG bn oB nn
    have DG:=HQ bn.1.1 oB nn.1 nn
    obtain⟨Cf,zz,lg,e27⟩:=aH (o:=.tup [vn,vb]) O8
    rw[zz]
    refine⟨K2,_,rfl,aj.of e27,rfl,_,_,rfl,_,_,rfl,rfl,?_⟩
    dsimp only[List.set]
    have W27:=W26.same lg
    have CM:=L5.same lg
    have Tw:=GH.same lg
    have NM:jE p Cf vn:=⟨DG.1,fun xs e=>DG.2 xs (by rw[<-Jr GH.1.1 lg];exact e)⟩
    have Ri:=Yf gl lg
    have Ss:=lg _ _ (oB _ _ Gb gq)
    have Sk:=lg _ _ (oB _ _ F6 jY)
    have MX:bJ K Cf vo:=lg.g8 (YQ (YQ MY ui jW) oB jW)
    (try refine hZ _ _ ?_);refine Zj fun Z hZ=> (Zz (er rfl ⟨p,10,rfl,CM,.d,.d,fun rl ol rl0 aau LZ=> ⟨_,_,rfl,rfl,3+rl,rfl,fun oZ v8=> ⟨oZ,3+rl,rfl,Ze,.o,.o,fun o3 pL=>Zt ?_⟩⟩⟩))
    dsimp only[List.set]
    obtain⟨H28,zz,oA⟩:=newX Cf p ol
    rw[zz]at LZ v8 pL |-
    have W28:=W27.x oA CM
    have Ec:=Zp (o:=.fj 0 (3+rl)) v8
    generalize upd H28 oZ (HO.fj 0 (3+rl))=H29 at Ec pL
    obtain⟨H30,zz,OF,e30⟩:=aH (o:=.tup (L2.upTo (3+rl).toNat)) pL
    rw[zz]
    generalize hn:(3+rl).toNat=n at e30
    have n3:3<=n/\n<=12:=.o
    have pD:=Ec.trans OF
    have xq:=W28.same pD
    have Rh:=HG Ri oA
    have FI:=Yf Rh pD
    have F0:Facts K b d o3 ds wd hg n vn vb vo H30:=⟨(BG Tw oA NM).same pD,FI.1.1,FI.1.2,⟨jC (pD _ _ (oA _ _ Ss gq)),pD _ _ (oA _ _ Sk jY),pz⟩,pD.g8 (YQ MX oA jW),wo,e30⟩
    obtain⟨tp,lV,_⟩:=id xq.tb
    (try refine hZ _ _ ?_);refine Zj fun Z hZ=> (Zz ⟨xq.tb,fun y1 H1 s1 _ t1 l1=> ⟨bO,fun L hL=>Zt ?_⟩⟩)
    have m1:=HL xq.tb s1 t1 l1 hL
    generalize upd H1 L (.lst [V.ref y1])=H1' at m1
    dsimp only[List.set]
    obtain⟨dB,fH,k1⟩:=m1.lst
    (try refine hZ _ _ ?_);refine Zj fun Z hZ=> (er rfl ⟨.inl ⟨rfl,_,ai.of fH⟩,m1.tb,fun y2 H2 s2 _ t2 l2=> ⟨L,dB,.ref y2,rfl,rfl,m1.bI fH s2,(by rw[k1,ZaH];decide),?_⟩⟩)
    have m2:=m1.app fH s2 t2 l2
    generalize upd H2 L (.lst (dB++[V.ref y2]))=H2' at m2
    dsimp only
    obtain⟨qE,iW,k2⟩:=m2.lst
    (try refine hZ _ _ ?_);refine Zj fun Z hZ=> (er rfl ⟨.inl ⟨rfl,_,ai.of iW⟩,m2.tb,fun y3 H3 s3 _ t3 l3=> ⟨L,qE,.ref y3,rfl,rfl,m2.bI iW s3,(by rw[k2,ZaH];decide),?_⟩⟩)
    have m3:=m2.app iW s3 t3 l3
    generalize upd H3 L (.lst (qE++[V.ref y3]))=Kq at m3
    dsimp only
    obtain⟨qD,fm,k3⟩:=m3.lst
    (try refine hZ _ _ ?_);refine Zj fun Z hZ=> (er rfl ⟨.inl ⟨rfl,_,ai.of fm⟩,m3.tb,fun y4 H4 s4 _ t4 l4=> ⟨L,qD,.ref y4,rfl,rfl,m3.bI fm s4,(by rw[k3,ZaH];decide),?_⟩⟩)
    have m4:=m3.app fm s4 t4 l4
    generalize upd H4 L (.lst (qD++[V.ref y4]))=H4' at m4
    dsimp only
    obtain⟨qC,iV,k4⟩:=m4.lst
    (try refine hZ _ _ ?_);refine Zj fun Z hZ=> (er rfl ⟨.inl ⟨rfl,_,ai.of iV⟩,m4.tb,fun y5 H5 s5 _ t5 l5=> ⟨L,qC,.ref y5,rfl,rfl,m4.bI iV s5,(by rw[k4,ZaH];decide),?_⟩⟩)
    have m5:=m4.app iV s5 t5 l5
    generalize upd H5 L (.lst (qC++[V.ref y5]))=Ce at m5
    dsimp only
    obtain⟨qB,pU,k5⟩:=m5.lst
    (try refine hZ _ _ ?_);refine Zj fun Z hZ=> (er rfl ⟨.inl ⟨rfl,_,ai.of pU⟩,m5.tb,fun y6 H6 s6 _ t6 l6=> ⟨L,qB,.ref y6,rfl,rfl,m5.bI pU s6,(by rw[k5,ZaH];decide),?_⟩⟩)
    have m6:=m5.app pU s6 t6 l6
    generalize upd H6 L (.lst (qB++[V.ref y6]))=Ko at m6
    dsimp only
    obtain⟨Cw,Q3,k6⟩:=m6.lst
    clear fH k1 iW k2 fm k3 iV k4 pU k5 Q3 k6 Cw
    obtain⟨oH,RI,mw,jL,sU,rA⟩:=m6
    have l8:jL.length=6:=Zcf rA
    refine hZ _ _ ?_
    refine(er rfl ⟨L,rfl,⟨jL,ai.of sU⟩,?_⟩)
    refine Yg (xs:=jL) (fun i zs σ H8=> ∃v0,σ=[v0]/\ag Ko H8/\zs=(qw.take i).map V.str) (er rfl ⟨ag.refl _,rfl⟩) (fun i zs σ H8 _ ⟨_,_,s8,_⟩=>ai.of (s8 _ _ sU)) ?_ ?_
    ·rintro j v zs σ H9 hv ⟨v0,rfl,s9,rfl⟩
     obtain⟨bb,cq,lm⟩:=Jn rA hv
     obtain⟨y,rfl,hG⟩:=lm.same s9
     have hj:j<jL.length:=(Zad.mp hv).1
     have F9:Facts K b d o3 ds wd hg n vn vb vo H9:=F0.xt (oH.trans s9.x) lV
     suffices h:∃iC,(∃params bd scope N idx ws C Pre,Cr (aF aE P w K mg base gz "law" (ay cF) f (.ref c) A outer s H E).cG cS 13 [some (.ref a),some (.int (i:Int)),some (.ref p),some (.ref l),some (.int sd),some (.ref L),some vb,some (.ref b),some (.ref d),some (.ref o3),some vn,some vo] H9 y iC params bd scope N idx ws C Pre)/\qw[j]? =some (wordOf iC) by
      obtain⟨iC,ask,hw⟩:=h
      refine⟨y,iC,rfl,ask,fun fP gm=> ⟨by rw[Zar,ZaS,ZaH];omega,_,rfl,s9.trans gm,?_⟩⟩
      rw[ZbO,hw,ZbA]
      rfl
     match j,cq,hj with
     |0,cq,_=>
      cases cq
      exact⟨0,⟨bz,_,c1,_,[10,6,11],[vn,vb,vo],aB,_,⟨vJ (by kernel_rfl),rfl,vM DP n6 zM,rfl,xf rfl rfl rfl,Z9 (by kernel_rfl),hG,MB,wZ .d hP rfl rfl rfl rfl .d .d .d .d .d .d .d,fun Q' E' hE=> ⟨vn,vb,vo,aB,rfl,.inl (.inl (.inl ⟨rfl,F9.bn⟩)),hE⟩⟩⟩,rfl⟩
     |1,cq,_=>
      cases cq
      exact⟨0,⟨bz,_,c2,_,[10,6],[vn,vb],aB,_,⟨vK (by kernel_rfl),rfl,rG DP n6,rfl,at2 rfl rfl,Z9 (by kernel_rfl),hG,MB,w6 (Zae _) hX rfl rfl rfl .d .d .d .d .d,fun Q' E' hE=> ⟨vn,vb,aB,rfl,.inl (.inl ⟨rfl,F9.bn⟩),hE⟩⟩⟩,rfl⟩
     |2,cq,_=>
      cases cq
      exact⟨1,⟨bz,_,c3,_,[7,6,11],[.ref b,vb,vo],aL,_,⟨vJ (by kernel_rfl),rfl,vM n7 n6 zM,rfl,xf rfl rfl rfl,Z9 (by kernel_rfl),hG,ML,wZ .d hP rfl rfl rfl rfl .d .d .d .d .d .d .d,fun Q' E' hE=> ⟨.ref b,vb,vo,aL,rfl,.inl (.inl (.inr ⟨rfl,wd,hg,F9.la.bd,F9.b1,F9.b2⟩)),hE⟩⟩⟩,rfl⟩
     |3,cq,_=>
      cases cq
      exact⟨1,⟨bz,_,c4,_,[7,6],[.ref b,vb],aL,_,⟨vK (by kernel_rfl),rfl,rG n7 n6,rfl,at2 rfl rfl,Z9 (by kernel_rfl),hG,ML,w6 (Zae _) hX rfl rfl rfl .d .d .d .d .d,fun Q' E' hE=> ⟨.ref b,vb,aL,rfl,.inl (.inr ⟨rfl,wd,hg,F9.la.bd,F9.b1,F9.b2⟩),hE⟩⟩⟩,rfl⟩
     |4,cq,_=>
      cases cq
      exact⟨2,⟨bz,_,c5,_,[7,8,11],[.ref b,.ref d,vo],aN,_,⟨vJ (by kernel_rfl),rfl,vM n7 n8 zM,rfl,xf rfl rfl rfl,Z9 (by kernel_rfl),hG,MN,wZ .d hP rfl rfl rfl rfl .d .d .d .d .d .d .d,fun Q' E' hE=> ⟨.ref b,.ref d,vo,aN,rfl,.inl (.inr ⟨rfl,d,ds,wd,hg,rfl,F9.la,F9.po,F9.wo⟩),hE⟩⟩⟩,rfl⟩
     |5,cq,_=>
      cases cq
      exact⟨6,⟨bz,_,c6,_,[9],[.ref o3],aU,_,⟨zN (by kernel_rfl),rfl,zP n9,rfl,Bw rfl,Z9 (by kernel_rfl),hG,MU,Tu (mL:=G.len) rfl (Zae _) hX rfl rfl .d .d .d,⟨o3,L2.upTo n,rfl,F9.lk,fun t H' s' e' Q' E' hE=> ⟨.ref t,.ref o3,aU,rfl,.inr ⟨rfl,(n:Int),12,L2.upTo n,⟨⟨by rw[Zl e',show(L2.upTo n).length=n by unfold L2.upTo;rw[Zar,Zcb]],.o,.o,.d,.d⟩,Zl (s' _ _ F9.lk),(Iz n3.1 n3.2).1⟩,(Iz n3.1 n3.2).2⟩,hE⟩⟩⟩⟩,rfl⟩
     |j+6,_,h=>omega
    ·rintro zs σ H9 ⟨v0,rfl,s9,rfl⟩ Z hZ
     rw[l8]
     obtain⟨fP,zz,sZ,eZ⟩:=aH (o:=.lst ((qw.take 6).map V.str)) hZ
     rw[zz]
     have pA:∀{H:Hp}{t:Addr} (xs:List V),H t=none->ag H (upd H t (.lst xs))/\upd H t (.lst xs) t=some (.lst xs):=fun x h=> ⟨Zp h,Ze⟩
     refine⟨bO,fun a1 h1=> ?_⟩
     obtain⟨y1,e1⟩:=pA [V.str "board"] h1
     generalize upd fP a1 (HO.lst [V.str "board"])=G1 at y1 e1
     refine⟨a1,2,_,rfl,rfl,e1,.d,.d,(by show 1*2<=sizeLine;decide),fun a2 h2=> ?_⟩
     obtain⟨y2,e2⟩:=pA [V.str "board",V.str "board"] h2
     change kL _ _ _ _ (upd G1 a2 (.lst [V.str "board",V.str "board"])) _
     generalize upd G1 a2 (HO.lst [V.str "board",V.str "board"])=G2 at y2 e2
     refine⟨bO,fun a3 h3=> ?_⟩
     obtain⟨y3,e3⟩:=pA [V.str "lay"] h3
     generalize upd G2 a3 (HO.lst [V.str "lay"])=G3 at y3 e3
     refine⟨a3,2,_,rfl,rfl,e3,.d,.d,(by show 1*2<=sizeLine;decide),fun a4 h4=> ?_⟩
     obtain⟨y4,e4⟩:=pA [V.str "lay",V.str "lay"] h4
     refine⟨a2,a4,[V.str "board",V.str "board"],[V.str "lay",V.str "lay"],rfl,rfl,(y3.trans y4) _ _ e2,Ze,(by show 2+2<=sizeLine;decide),fun a5 h5=> ?_⟩
     obtain⟨y5,e5⟩:=pA [V.str "board",V.str "board",V.str "lay",V.str "lay"] h5
     have Cu:=y3.trans (y4.trans y5)
     change yc _ _ (upd _ a5 (.lst [V.str "board",V.str "board",V.str "lay",V.str "lay"])) _
     generalize upd _ a5 (HO.lst [V.str "board",V.str "board",V.str "lay",V.str "lay"])=G5 at Cu e5
     refine⟨aX,fun a6 h6=> ?_⟩
     obtain⟨y6,e6⟩:=pA [V.str "number",V.str "unlike"] h6
     refine⟨a5,a6,[V.str "board",V.str "board",V.str "lay",V.str "lay"],[V.str "number",V.str "unlike"],rfl,rfl,y6 _ _ e5,Ze,(by show 4+2<=sizeLine;decide),fun a8 h8=> ?_⟩
     have y8:=Zp (o:=.lst (qw.map V.str)) h8
     have yA:=y1.trans (y2.trans (Cu.trans (y6.trans y8)))
     refine⟨Z,a8,qw,rfl,rfl,ai.of (yA _ _ eZ),ai.of Ze,_,rfl,aO (Yd ?_)⟩
     have sE:ag Ko _:=s9.trans (sZ.trans yA)
     exact⟨_,_,_,_,_,_,_,_,_,_,_,rfl,(xq.t oH mw zK).same sE⟩
   ·rintro σ H1 _
    have GI:∀{H:Hp}{t:Addr}{x y:Int},1<=x->x<=12->1<=y->y<=12->H t=some (.tup [V.int x,V.int y])->bR H (.ref t) x y:=fun h1 h2 h3 h4 h=> ⟨Zl h,h1,h2,h3,h4⟩
    have qF:∀{H:Hp}{t:Addr} (xs:List V),H t=none->ag H (upd H t (.tup xs))/\upd H t (.tup xs) t=some (.tup xs):=fun x h=> ⟨Zp h,Ze⟩
    refine hZ _ _ ?_
    refine⟨aX,fun t1 h1=> ?_⟩
    obtain⟨y1,e1⟩:=qF [V.int 1,V.int 1] h1
    generalize upd H1 t1 (HO.tup [V.int 1,V.int 1])=G1 at y1 e1
    refine⟨bO,fun t2 h2=> ?_⟩
    obtain⟨y2,e2⟩:=qF [V.int 0] h2
    generalize upd G1 t2 (HO.tup [V.int 0])=G2 at y2 e2
    refine⟨.ref t1,t2,[V.int 0],1,1,0,rfl,⟨GI .d .d .d .d (y2 _ _ e1),e2,Oy⟩,.d,.d,.d,.d,fun t3 G3 y3 e3=> ?_⟩
    rw[MV]at e3
    refine⟨aX,fun t4 h4=> ?_⟩
    obtain⟨y4,e4⟩:=qF [V.int 0,V.int 1] h4
    refine⟨t3,t4,[0,1],[0,1],rfl,rfl,aj.of (y4 _ _ e3),aj.of e4,_,rfl,aV ?_⟩
    generalize upd G3 t4 (HO.tup [V.int 0,V.int 1])=G4 at y4 e4
    refine⟨aX,fun t5 h5=> ?_⟩
    obtain⟨y5,e5⟩:=qF [V.int 1,V.int 1] h5
    generalize upd G4 t5 (HO.tup [V.int 1,V.int 1])=G5 at y5 e5
    refine⟨bO,fun t6 h6=> ?_⟩
    obtain⟨y6,e6⟩:=qF [V.ah] h6
    generalize upd G5 t6 (HO.tup [V.ah])=G6 at y6 e6
    refine⟨.ref t5,t6,[V.ah],1,1,rfl,⟨GI .d .d .d .d (y6 _ _ e5),e6,Ox⟩,KS,.d,.d,fun L G7 y7 _ e7=> ?_⟩
    rw[Rg]at e7
    refine⟨qJ,fun t8 h8=> ⟨L,t8,[0,1,2,3],[0,1,2,3],rfl,rfl,ai.of ((Zp h8) _ _ e7),ai.of Ze,q _⟩⟩
  obtain⟨t,ht,hq⟩:=main
  exact⟨t,ht.cG,hq⟩
end
end U
namespace U
open PySem L2 PyProof.Rows PySem.Spec
abbrev A3:List Str:=["isinstance", "int", "bool", "tuple", "list", "len", "all", "set", "range", "max", "min", "enumerate", "zip", "sorted", "dict", "ValueError"]
section
variable {P:Program}{w:World}{K:ZhQ}{mg:Str->Option Value}{base:Heap}
theorem TU {h:Heap}{t0 t1:Tok}(KX:K.In h) (G:h.Ns mainGlobals mg) (e:A3.all (vD K)=true) (lo0:PySem.W.nsIn K mainGlobals "LONGEST_SIDE" =some (some (.int 12 t0))) (lo1:PySem.W.nsIn K mainGlobals "LAST_CORNER" =some (some (.int 3 t1))):Gs mg/\mg "ValueError" =none:=by
 have k:∀x∈A3,mg x=none:=fun x hx=>ZcI KX G (ZaZ.mp e x hx)
 exact⟨⟨k _ (by simp),k _ (by simp),k _ (by simp),k _ (by simp),k _ (by simp),k _ (by simp),k _ (by simp),k _ (by simp),k _ (by simp),k _ (by simp),k _ (by simp),k _ (by simp),k _ (by simp),k _ (by simp),k _ (by simp),⟨t0,Zcm KX G lo0⟩,⟨t1,Zcm KX G lo1⟩⟩,k _ (by simp)⟩
def vP (K:ZhQ) (C c:Value) (b:Bool):Bool:=match PySem.W.kitOne K C c with |some d=>d==b |none=>false
theorem G8 {C c:Value}{b:Bool}(h:vP K C c b=true):PySem.W.kitOne K C c=some b:=by
 unfold vP at h
 split at h
 ·rename_i d q
  rw[q,Zdk.mp h]
 ·cases h
def Oe (K:ZhQ) (C:Addr) (iC:Nat):Bool:=(List.range 15).all fun i=>match PySem.W.nsIn K mainGlobals (DJ.getD i "") with |some (some (.ref c))=>vP K (.ref C) (.ref c) (decide (i=iC)) |_=>false
def mroOk (K:ZhQ) (C:Addr) (b:Value):Bool:=match PySem.W.mroIn K C b with |some d=>d |none=>false
theorem Kc {C:Addr}{b:Value}(h:mroOk K C b=true):PySem.W.mroIn K C b=some true:=by
 unfold mroOk at h
 split at h
 ·rename_i d q
  rw[q,h]
 ·cases h
def Ba (K:ZhQ) (C c:Value):Bool:=match PySem.W.exmOne K C c with |some d=>d |none=>false
theorem Xb {C c:Value}(h:Ba K C c=true):PySem.W.exmOne K C c=some true:=by
 unfold Ba at h
 split at h
 ·rename_i d q
  rw[q,h]
 ·cases h
def nP (K:ZhQ) (cS C:Addr) (iC:Nat):Bool:=mroOk K C (.type "object")&&mroOk K C (.type "BaseException")&&(PySem.W.clsIn K C).isSome&&Ba K (.ref C) (.ref cS)&&Oe K C iC&&vP K (.ref C) (.type "ValueError") true&&PySem.W.excIn K C tF "ValueError.__new__"
theorem JK {h:Heap}{cS C:Addr}{iC:Nat}(KX:K.In h) (G:h.Ns mainGlobals mg) (mv:mg "ValueError" =none) (ms:mg "StepError" =some (.ref cS)) (hi:iC<15) (e:nP K cS C iC=true)
  (ga:PySem.W.findIn K (.ref C) "__getattribute__" =some (some (.builtin "BaseException.__getattribute__"))) (hook:PySem.W.findIn K (.ref C) "__getattr__" =some none) (cl:PySem.W.findIn K (.ref C) "__class__" =some (some (.builtin "object.__class__"))):gO K mg cS C iC/\PySem.W.excIn K C tF "ValueError.__new__" =true:=by
 unfold nP at e
 simp only[ZaL]at e
 obtain⟨⟨⟨⟨⟨⟨e1,e2⟩,e3⟩,e4⟩,e5⟩,e6⟩,e7⟩:=e
 refine⟨⟨⟨ga,hook,cl,Kc e1,Kc e2,e3⟩,ms,Xb e4,fun i hi=> ?_,mv,G8 e6,hi⟩,e7⟩
 have:=ZaZ.mp e5 i (Zbr.mpr hi)
 split at this
 ·rename_i c q
  exact⟨c,Zcm KX G q,G8 this⟩
 ·cases this
set_option maxHeartbeats 4000000 in
theorem Oz {fR cR PR:Addr}{NB:Value}{Nz TJ:Option Addr}{OE SN M5 Th:Value}{Nb:Array (Option Value)}{h:Heap}{fa c Pt f cS aB aL aN aU aM:Addr}{oc:Value}{od an:Option Addr}{kV doc pm ct:Value}{eO:Array (Option Value)}{t0 t1:Tok}(KX:K.In h) (G:h.Ns mainGlobals mg) (hmg:mg "law" =some (.ref fa)) (nR:PR≠Pt)
  (d0:bo K "is_whole" yS) (d1:bo K "is_whole_within" yR) (d2:bo K "need_whole_within" u7) (d3:bo K "is_tuple_of" yT) (d4:bo K "is_board" zi) (d5:bo K "need_board" u6) (d6:bo K "need_at_most" S.vd) (d7:bo K "is_lay" ve) (d8:bo K "need_lay" kP) (d9:bo K "points" S.uZ) (Gu:bo K "point_pairs" S.u5) (Gr:bo K "steps" S.uX) (Gq:bo K "first_like" S.vi) (Gp:bo K "is_unlike" S.uW) (Gn:bo K "need_unlike" S.u9) (Gm:bo K "need_corner" vc) (Ta:bo K "corner_point" zh) (S8:bo K "grown" zd) (Gk:bo K "put_to" uY) (Bj:bo K "good_corners" rh) (S7:bo K "_law_cell_at" zg) (S6:bo K "_law_state" yW) (S5:bo K "_law_take" yV) (Gj:bo K "_law_word" yQ) (S4:bo K "_law_steps" S.y9) (SY:bo K "_law_unlike" S.vf) (SX:bo K "_law_lay" za) (SW:bo K "_law_grown" S.ze) (SV:bo K "_law_no_board" oW) (SU:bo K "_law_no_lay" yZ) (SS:bo K "_law_no_number" yY) (wY:bo K "_law_same" oV) (SR:bo K "_law_corner" zb) (SQ:bo K "_law_due" zf) (SO:bo K "_law_right" yX)
  (r1R:PySem.W.nsIn K mainGlobals "_law_great_right" =some (some (.ref fR))) (r2R:K.lookup fR=some ⟨NB,Nz,.func (PySem.W.fnOf "_law_great_right" "_law_great_right" (fo dP) (cX dP) (ay dP) .none OE SN M5 TJ (.ref cR) Th),Nb⟩) (r3R:PySem.W.codeIn K (.ref cR) "_law_great_right" =true) (r4R:PySem.W.codeHdIn K cR PR=true) (r5R:PySem.W.keepIn K (.ref fR)=true)
  (l1:PySem.W.nsIn K mainGlobals "law" =some (some (.ref f))) (l2:K.lookup f=some ⟨oc,od,.func (PySem.W.fnOf "law" "law" (fo cF) (cX cF) (ay cF) .none kV doc pm an (.ref c) ct),eO⟩) (l3:PySem.W.codeIn K (.ref c) "law" =true) (l4:PySem.W.codeHdIn K c Pt=true)
  (g1:A3.all (vD K)=true) (lo0:PySem.W.nsIn K mainGlobals "LONGEST_SIDE" =some (some (.int 12 t0))) (lo1:PySem.W.nsIn K mainGlobals "LAST_CORNER" =some (some (.int 3 t1)))
  (eB:PySem.W.nsIn K mainGlobals "NoBoard" =some (some (.ref aB))) (eL:PySem.W.nsIn K mainGlobals "NoLay" =some (some (.ref aL))) (eN:PySem.W.nsIn K mainGlobals "NoNumber" =some (some (.ref aN))) (eU:PySem.W.nsIn K mainGlobals "NoUnlike" =some (some (.ref aU))) (eM:PySem.W.nsIn K mainGlobals "TooMany" =some (some (.ref aM))) (eS:PySem.W.nsIn K mainGlobals "StepError" =some (some (.ref cS)))
  (xB:nP K cS aB 0=true) (xL:nP K cS aL 1=true) (xN:nP K cS aN 2=true) (xU:nP K cS aU 6=true) (xM:nP K cS aM 11=true)
  (gaB:PySem.W.findIn K (.ref aB) "__getattribute__" =some (some (.builtin "BaseException.__getattribute__"))) (hoB:PySem.W.findIn K (.ref aB) "__getattr__" =some none) (clB:PySem.W.findIn K (.ref aB) "__class__" =some (some (.builtin "object.__class__")))
  (gaL:PySem.W.findIn K (.ref aL) "__getattribute__" =some (some (.builtin "BaseException.__getattribute__"))) (hoL:PySem.W.findIn K (.ref aL) "__getattr__" =some none) (clL:PySem.W.findIn K (.ref aL) "__class__" =some (some (.builtin "object.__class__")))
  (gaN:PySem.W.findIn K (.ref aN) "__getattribute__" =some (some (.builtin "BaseException.__getattribute__"))) (hoN:PySem.W.findIn K (.ref aN) "__getattr__" =some none) (clN:PySem.W.findIn K (.ref aN) "__class__" =some (some (.builtin "object.__class__")))
  (gaU:PySem.W.findIn K (.ref aU) "__getattribute__" =some (some (.builtin "BaseException.__getattribute__"))) (hoU:PySem.W.findIn K (.ref aU) "__getattr__" =some none) (clU:PySem.W.findIn K (.ref aU) "__class__" =some (some (.builtin "object.__class__")))
  (gaM:PySem.W.findIn K (.ref aM) "__getattribute__" =some (some (.builtin "BaseException.__getattribute__"))) (hoM:PySem.W.findIn K (.ref aM) "__getattr__" =some none) (clM:PySem.W.findIn K (.ref aM) "__class__" =some (some (.builtin "object.__class__"))):
  ∃fd:FuncData,(∀(s:Shared) (u:Value),BindsTo s fd ⟨[u],[]⟩ [("_law_script",u)])/\∀base:Heap,K.In base->base.Ns mainGlobals mg->tZ mg base->aA P w K mg base aE 17 fa fd ["_law_script"] (yz K PR Pt):=by
 have e0:=hmg.symm.trans (Zcm KX G l1)
 cases e0
 obtain⟨gs,mv⟩:=TU KX G g1 lo0 lo1
 have ms:=Zcm KX G eS
 obtain⟨MB,yB⟩:=JK KX G mv ms (by decide:0<15) xB gaB hoB clB
 have Bc:Exc K mg "NoBoard" aB:=⟨Zcm KX G eB,yB⟩
 obtain⟨ML,yL⟩:=JK KX G mv ms (by decide:1<15) xL gaL hoL clL
 have Bb:Exc K mg "NoLay" aL:=⟨Zcm KX G eL,yL⟩
 obtain⟨MN,yN⟩:=JK KX G mv ms (by decide:2<15) xN gaN hoN clN
 have RT:Exc K mg "NoNumber" aN:=⟨Zcm KX G eN,yN⟩
 obtain⟨MU,yU⟩:=JK KX G mv ms (by decide:6<15) xU gaU hoU clU
 have RQ:Exc K mg "NoUnlike" aU:=⟨Zcm KX G eU,yU⟩
 obtain⟨MM,yM⟩:=JK KX G mv ms (by decide:11<15) xM gaM hoM clM
 have RU:Exc K mg "TooMany" aM:=⟨Zcm KX G eM,yM⟩
 have RP:S.Kw K mg aB aL:=⟨Bc.m,Bc.x,Bb.m,Bb.x⟩
 obtain⟨tkc,Fy⟩:=gs.last
 refine⟨PySem.W.fnOf "law" "law" (fo cF) (cX cF) (ay cF) .none kV doc pm an (.ref c) ct,fun s u=> .of_eq rfl,fun base kb nb bm=> ?_⟩
 have good:∀b':Heap,(Def P w K mg b' 8 "put_to" ["board", "lay", "corner"] (oM K)/\aW P w K mg b' 8 "put_to" ["board", "lay", "corner"] (oK K aB aL aN aM))/\(Def P w K mg b' 13 "good_corners" ["board", "lay"] (qU K)/\aW P w K mg b' 13 "good_corners" ["board", "lay"] (S.jg K aB aL aU)/\aW P w K mg b' 13 "good_corners" ["board", "lay"] (uO K aM)):=fun b'=>by
  have D0:Def P w K mg b' 1 "is_whole" ["thing"] (yf K):=d0.to KX G (b1 fun _ _ _ _ _ _ _=>rfl) fun f fd F=>ZdL F gs
  have D1:Def P w K mg b' 2 "is_whole_within" ["thing", "least", "most"] (oI K):=d1.to KX G (b3 fun _ _ _ _ _ _ _ _ _=>rfl) fun f fd F=>ZcF F D0
  have D2:Def P w K mg b' 3 "need_whole_within" ["number", "least", "most"] (yr K):=d2.to KX G (b3 fun _ _ _ _ _ _ _ _ _=>rfl) fun f fd F=>VJ F D1
  have D3:Def P w K mg b' 1 "is_tuple_of" ["thing", "many"] (uJ K):=d3.to KX G (b2 fun _ _ _ _ _ _ _ _=>rfl) fun f fd F=>ZdM F gs
  have D4:Def P w K mg b' 3 "is_board" ["thing"] (uP K):=d4.to KX G (b1 fun _ _ _ _ _ _ _=>rfl) fun f fd F=>ZdQ F gs D3 D1
  have D5:Def P w K mg b' 4 "need_board" ["board"] (yp K):=d5.to KX G (b1 fun _ _ _ _ _ _ _=>rfl) fun f fd F=>U7 F D4
  have D6:Def P w K mg b' 5 "is_lay" ["board", "thing"] (oN K):=d7.to KX G (b2 fun _ _ _ _ _ _ _ _=>rfl) fun f fd F=>VF F gs D5 D3 D1
  have D7:Def P w K mg b' 6 "need_lay" ["board", "lay"] S.kM:=d8.to KX G (b2 fun _ _ _ _ _ _ _ _=>rfl) fun f fd F=>S.zC F D6
  have Kz:Def P w K mg b' 6 "need_lay" ["board", "lay"] (kM K):=d8.to KX G (b2 fun _ _ _ _ _ _ _ _=>rfl) fun f fd F=>zC F D6
  have D8:Def P w K mg b' 7 "points" ["board", "lay"] S.yl:=d9.to KX G (b2 fun _ _ _ _ _ _ _ _=>rfl) fun f fd F=>S.Nj F gs D7
  have D9:Def P w K mg b' 8 "point_pairs" ["board", "lay"] S.ym:=Gu.to KX G (b2 fun _ _ _ _ _ _ _ _=>rfl) fun f fd F=>S.Nl F D8
  have D10:Def P w K mg b' 9 "steps" ["board", "lay"] S.yg:=Gr.to KX G (b2 fun _ _ _ _ _ _ _ _=>rfl) fun f fd F=>S.Nh F gs D9
  have D11:Def P w K mg b' 10 "first_like" ["board", "lay"] S.yG:=Gq.to KX G (b2 fun _ _ _ _ _ _ _ _=>rfl) fun f fd F=>S.Ny F gs D10
  have xG:Def P w K mg b' 11 "is_unlike" ["board", "lay"] S.oJ:=Gp.to KX G (b2 fun _ _ _ _ _ _ _ _=>rfl) fun f fd F=>S.Nf F D11
  have KD:Def P w K mg b' 12 "need_unlike" ["board", "lay"] S.uK:=Gn.to KX G (b2 fun _ _ _ _ _ _ _ _=>rfl) fun f fd F=>S.Np F xG
  have Da:Def P w K mg b' 1 "need_at_most" ["board", "wide", "high"] S.yy:=d6.to KX G (b3 fun _ _ _ _ _ _ _ _ _=>rfl) fun f fd F=>S.Nr F
  have KC:Def P w K mg b' 7 "need_corner" ["board", "lay", "corner"] (uL K):=Gm.to KX G (b3 fun _ _ _ _ _ _ _ _ _=>rfl) fun f fd F=>T7 Fy F Kz D2
  have D16:Def P w K mg b' 1 "corner_point" ["board", "corner"] (yJ K):=Ta.to KX G (b2 fun _ _ _ _ _ _ _ _=>rfl) fun f fd F=>TX F
  have Cm:Def P w K mg b' 1 "grown" ["board"] qT:=S8.to KX G (b1 fun _ _ _ _ _ _ _=>rfl) fun f fd F=>TZ F
  have KA:Def P w K mg b' 8 "put_to" ["board", "lay", "corner"] (oM K):=Gk.to KX G (b3 fun _ _ _ _ _ _ _ _ _=>rfl) fun f fd F=>VT F gs KC Da Cm D16
  have D19:Def P w K mg b' 13 "good_corners" ["board", "lay"] (qU K):=Bj.to KX G (b2 fun _ _ _ _ _ _ _ _=>rfl) fun f fd F=>T3 F gs KD xG Cm KA
  have R5:aW P w K mg b' 4 "need_board" ["board"] (yw K aB):=d5.fg KX G (b1 fun _ _ _ _ _ _ _=>rfl) fun f fd F=>Ud F gs Bc D4
  have R6:aW P w K mg b' 5 "is_lay" ["board", "thing"] (uM K aB):=d7.fg KX G (b2 fun _ _ _ _ _ _ _ _=>rfl) fun f fd F=>XU F R5
  have R7:aW P w K mg b' 6 "need_lay" ["board", "lay"] (yt K aB aL):=d8.fg KX G (b2 fun _ _ _ _ _ _ _ _=>rfl) fun f fd F=>zB F Bb D6 R6
  have R7s:aW P w K mg b' 6 "need_lay" ["board", "lay"] (S.dN K aB aL):=d8.fg KX G (b2 fun _ _ _ _ _ _ _ _=>rfl) fun f fd F=>S.zB F RP R6 D6
  have R2:aW P w K mg b' 3 "need_whole_within" ["number", "least", "most"] (yq K aN):=d2.fg KX G (b3 fun _ _ _ _ _ _ _ _ _=>rfl) fun f fd F=>XW F RT D1
  have Ra:aW P w K mg b' 1 "need_at_most" ["board", "wide", "high"] (S.yx aM):=d6.fg KX G (b3 fun _ _ _ _ _ _ _ _ _=>rfl) fun f fd F=>S.Nq F RU
  have R8:aW P w K mg b' 7 "points" ["board", "lay"] (S.dN K aB aL):=d9.fg KX G (b2 fun _ _ _ _ _ _ _ _=>rfl) fun f fd F=>S.Ni F R7s
  have R9:aW P w K mg b' 8 "point_pairs" ["board", "lay"] (S.dN K aB aL):=Gu.fg KX G (b2 fun _ _ _ _ _ _ _ _=>rfl) fun f fd F=>S.Nk F R8
  have R10:aW P w K mg b' 9 "steps" ["board", "lay"] (S.dN K aB aL):=Gr.fg KX G (b2 fun _ _ _ _ _ _ _ _=>rfl) fun f fd F=>S.Ng F gs R9
  have R11:aW P w K mg b' 10 "first_like" ["board", "lay"] (S.dN K aB aL):=Gq.fg KX G (b2 fun _ _ _ _ _ _ _ _=>rfl) fun f fd F=>S.Nx F R10
  have R12:aW P w K mg b' 11 "is_unlike" ["board", "lay"] (S.dN K aB aL):=Gp.fg KX G (b2 fun _ _ _ _ _ _ _ _=>rfl) fun f fd F=>S.Nd F R11
  have R13:aW P w K mg b' 12 "need_unlike" ["board", "lay"] (S.jg K aB aL aU):=Gn.fg KX G (b2 fun _ _ _ _ _ _ _ _=>rfl) fun f fd F=>S.Nm F RQ xG R12
  have R15:aW P w K mg b' 7 "need_corner" ["board", "lay", "corner"] (yv K aB aL aN):=Gm.fg KX G (b3 fun _ _ _ _ _ _ _ _ _=>rfl) fun f fd F=>VG Fy F Kz R7 R2
  have Ki:aW P w K mg b' 8 "put_to" ["board", "lay", "corner"] (oK K aB aL aN aM):=Gk.fg KX G (b3 fun _ _ _ _ _ _ _ _ _=>rfl) fun f fd F=>VL F gs KC R15 Ra
  have R19:aW P w K mg b' 13 "good_corners" ["board", "lay"] (S.jg K aB aL aU):=Bj.fg KX G (b2 fun _ _ _ _ _ _ _ _=>rfl) fun f fd F=>S.Nw F R13
  have aae:aW P w K mg b' 13 "good_corners" ["board", "lay"] (uO K aM):=Bj.fg KX G (b2 fun _ _ _ _ _ _ _ _=>rfl) fun f fd F=>VD F gs KD xG Cm Ki
  exact⟨⟨KA,Ki⟩,D19,R19,aae⟩
 have hR:∀b':Heap,Def P w K mg b' 15 "_law_word" ["_law_call"] (mC P w K mg b' cS 14):=fun b'=>Gj.to KX G (b1 fun _ _ _ _ _ _ _=>rfl) fun f fd F=>Xk F gs
 have E1:Def P w K mg base 1 "_law_cell_at" ["_law_script", "_law_k"] (yI K):=S7.to KX G (b2 fun _ _ _ _ _ _ _ _=>rfl) fun f fd F=>XT F gs
 have E2:Def P w K mg base 2 "_law_state" ["_law_script", "_law_k"] (yh K):=S6.to KX G (b2 fun _ _ _ _ _ _ _ _=>rfl) fun f fd F=>ZdN F gs E1
 have E3:Def P w K mg base 1 "_law_take" ["_law_state_here", "_law_many"] jP:=S5.to KX G (b2 fun _ _ _ _ _ _ _ _=>rfl) fun f fd F=>Xj F
 have E4:Def P w K mg base 2 "_law_no_board" ["_law_state_here"] (yo K):=SV.to KX G (b1 fun _ _ _ _ _ _ _=>rfl) fun f fd F=>VH F E3
 have E5:Def P w K mg base 2 "_law_no_number" ["_law_state_here", "_law_low", "_law_high"] (yn K):=SS.to KX G (b3 fun _ _ _ _ _ _ _ _ _=>rfl) fun f fd F=>VI F E3
 have E6:Def P w K mg base 2 "_law_no_lay" ["_law_state_here", "_law_board", "_law_lay_here"] (yu K):=SU.to KX G (b3 fun _ _ _ _ _ _ _ _ _=>rfl) fun f fd F=>T8 F gs E3
 have E7:Def P w K mg base 1 "_law_steps" ["_law_lay_here"] S.yC:=S4.to KX G (b1 fun _ _ _ _ _ _ _=>rfl) fun f fd F=>S.Nu F gs
 have E8:Def P w K mg base 2 "_law_unlike" ["_law_lay_here"] S.qS:=SY.to KX G (b1 fun _ _ _ _ _ _ _=>rfl) fun f fd F=>S.Nt F gs E7
 have E9:Def P w K mg base 3 "_law_grown" ["_law_state_here", "_law_board", "_law_bare"] S.uN:=SW.to KX G (b3 fun _ _ _ _ _ _ _ _ _=>rfl) fun f fd F=>S.Nv F gs E3 E8
 have E10:Def P w K mg base 2 "_law_lay" ["_law_state_here", "_law_board"] (yD K):=SX.to KX G (b2 fun _ _ _ _ _ _ _ _=>rfl) fun f fd F=>T6 F gs E3
 have E11:Def P w K mg base 1 "_law_corner" ["_law_board", "_law_corner_here"] (yE K):=SR.to KX G (b2 fun _ _ _ _ _ _ _ _=>rfl) fun f fd F=>T5 F
 have E12:Def P w K mg base 2 "_law_due" ["_law_board", "_law_lay_here", "_law_corner_here"] (yH K):=SQ.to KX G (b3 fun _ _ _ _ _ _ _ _ _=>rfl) fun f fd F=>TY F gs E11
 have S0:Def P w K mg base 1 "_law_same" ["_law_found", "_law_due_here"] (gU R0):=wY.to KX G (b2 fun _ _ _ _ _ _ _ _=>rfl) fun f fd F=>ZdP F gs
 have S1:Def P w K mg base 1 "_law_same" ["_law_found", "_law_due_here"] (gU R1):=wY.to KX G (b2 fun _ _ _ _ _ _ _ _=>rfl) fun f fd F=>ZdO F gs
 have S2:Def P w K mg base 2 "_law_same" ["_law_found", "_law_due_here"] (gU (BZ R1)):=wY.to KX G (b2 fun _ _ _ _ _ _ _ _=>rfl) fun f fd F=>ZcG (R:=R1) (fun r s=>R1.same r s) F gs S1
 have S3:Def P w K mg base 2 "_law_same" ["_law_found", "_law_due_here"] (gU (B5 R0)):=wY.to KX G (b2 fun _ _ _ _ _ _ _ _=>rfl) fun f fd F=>ZcH (R:=R0) (fun r s=>R0.same r s) F gs S0
 have E13:Def P w K mg base 14 "_law_right" ["_law_board", "_law_drawn", "_law_lay_here"] (yk K):=SO.to KX G (b3 fun _ _ _ _ _ _ _ _ _=>rfl) fun f fd F=>VU F gs (good base).1.1 E12 E8 (good base).2.1 S2 S3
 obtain⟨fW,FT,SD,FR⟩:=id Gj
 have mW:=Zcm KX G SD
 have E14:Def P w K mg base 16 "_law_great_right" ["_law_state_here", "_law_great", "_law_odd"] (yF K PR):=⟨fR,_,T4 (aU:=aU) r2R r3R E3 E9 hR (fun b'=> (good b').1.2) (fun b'=> (good b').2.2.1) (fun b'=> (good b').2.2.2) mW FR.kp ML MN MM (PySem.W.codeHd_of_K kb r4R) bm,Zcm KX G r1R,r5R,(G0 r2R r3R r5R).binds (b3 fun _ _ _ _ _ _ _ _ _=>rfl)⟩
 exact VE nR l2 l3 gs E2 E3 E10 E9 E5 E13 E14 E8 E4 E6 (good base).1.1 (good base).2.1 hR (fun b'=> (good b').1.2) (fun b'=> (good b').2.2.1) mW FR.kp MB ML MN MU (PySem.W.codeHd_of_K kb l4) bm
end
end U
namespace PySem.W.Fast
theorem tw13672342745342944288:True:=⟨⟩
theorem tw4534934836204521536:True:=⟨⟩
theorem tw16040373242084589696:True:=⟨⟩
theorem tw4523474631715735744:True:=⟨⟩
theorem tw6645843568127803648:True:=⟨⟩
theorem tw16938053096599442688:True:=⟨⟩
theorem tw13275524421043612000:True:=⟨⟩
theorem tw16252328022250138016:True:=⟨⟩
theorem tw7838647832409203264:True:=⟨⟩
theorem tw13171349987596980800:True:=⟨⟩
theorem tw2843277803685320288:True:=⟨⟩
theorem tw9045323707784563392:True:=⟨⟩
theorem tw10137925312939696896:True:=⟨⟩
theorem tw17131520567648761696:True:=⟨⟩
theorem tw18239844318669908960:True:=⟨⟩
theorem tw13471114000484857857:True:=⟨⟩
theorem tw17732298776923411521:True:=⟨⟩
theorem tw17321102580852487265:True:=⟨⟩
theorem tw7163404149715717345:True:=⟨⟩
theorem tw17534361741932713281:True:=⟨⟩
theorem tw18083434298255148449:True:=⟨⟩
theorem tw865337291899118049:True:=⟨⟩
theorem tw16314189085444739873:True:=⟨⟩
theorem tw8004834790909569857:True:=⟨⟩
theorem tw2630632019188229985:True:=⟨⟩
theorem tw8340785278522071969:True:=⟨⟩
theorem tw3527657713884295202:True:=⟨⟩
theorem tw9891558763002736706:True:=⟨⟩
theorem tw18240793700588251394:True:=⟨⟩
theorem tw15356923813451562274:True:=⟨⟩
theorem tw17727406415261981986:True:=⟨⟩
theorem tw552594425373238594:True:=⟨⟩
theorem tw6451228529099669922:True:=⟨⟩
theorem tw16001931456599348642:True:=⟨⟩
theorem tw616113991649980834:True:=⟨⟩
theorem tw10707449156972675618:True:=⟨⟩
theorem tw3153904169358311010:True:=⟨⟩
theorem tw57898696744027746:True:=⟨⟩
theorem tw4952257996969002690:True:=⟨⟩
theorem tw11048325672411761346:True:=⟨⟩
theorem tw90399907357622018:True:=⟨⟩
theorem tw5828539963929899778:True:=⟨⟩
theorem tw13856049594731814690:True:=⟨⟩
theorem tw5781945007574117154:True:=⟨⟩
theorem tw17174258488186499874:True:=⟨⟩
theorem tw16289193475950866274:True:=⟨⟩
theorem tw2363318533340689378:True:=⟨⟩
theorem tw8004162740584403139:True:=⟨⟩
theorem tw6362051659972354307:True:=⟨⟩
theorem tw11035680005056002371:True:=⟨⟩
theorem tw8505795160825347427:True:=⟨⟩
theorem tw16342325192368289155:True:=⟨⟩
theorem tw7922588532636642755:True:=⟨⟩
theorem tw17354883850726963683:True:=⟨⟩
theorem tw4756630537393318499:True:=⟨⟩
theorem tw13883735694650696419:True:=⟨⟩
theorem tw9895696626669545187:True:=⟨⟩
theorem tw10330396309780641603:True:=⟨⟩
theorem tw16123649052607551299:True:=⟨⟩
theorem tw8866958670285840291:True:=⟨⟩
theorem tw3241912284508848228:True:=⟨⟩
theorem tw17184146989183167716:True:=⟨⟩
theorem tw13815842418055347428:True:=⟨⟩
theorem tw2763039620345837956:True:=⟨⟩
theorem tw17848999817585042916:True:=⟨⟩
theorem tw7803147472328028740:True:=⟨⟩
theorem tw16753364704776706724:True:=⟨⟩
theorem tw3568867637181064036:True:=⟨⟩
theorem tw13851833260774894468:True:=⟨⟩
theorem tw17565588730382822340:True:=⟨⟩
theorem tw17463894156554643396:True:=⟨⟩
theorem tw13935079368145730565:True:=⟨⟩
theorem tw17579741647123427365:True:=⟨⟩
theorem tw13845989522020251845:True:=⟨⟩
theorem tw7269736408104221893:True:=⟨⟩
theorem tw18066331439202634277:True:=⟨⟩
theorem tw11510614563495894597:True:=⟨⟩
theorem tw2568427844060810981:True:=⟨⟩
theorem tw2714992054568533893:True:=⟨⟩
theorem tw5200723083278319525:True:=⟨⟩
theorem tw3189923712062557190:True:=⟨⟩
theorem tw11551113444735182854:True:=⟨⟩
theorem tw6217958229441414214:True:=⟨⟩
theorem tw7680703647008507974:True:=⟨⟩
theorem tw14055271045795357798:True:=⟨⟩
theorem tw11818410299787543814:True:=⟨⟩
theorem tw2555224250485253478:True:=⟨⟩
theorem tw154410185111184806:True:=⟨⟩
theorem tw2825868188016334246:True:=⟨⟩
theorem tw8422884328872996518:True:=⟨⟩
theorem tw4337942714955038438:True:=⟨⟩
theorem tw17552822071049755462:True:=⟨⟩
theorem tw12072064682696777574:True:=⟨⟩
theorem tw4624115184539677606:True:=⟨⟩
theorem tw7545264773256895527:True:=⟨⟩
theorem tw12384957766101772327:True:=⟨⟩
theorem tw16428318000197163079:True:=⟨⟩
theorem tw16155611790601611431:True:=⟨⟩
theorem tw16139173167573013735:True:=⟨⟩
theorem tw17445359081549485319:True:=⟨⟩
theorem tw564399977278668039:True:=⟨⟩
theorem tw17050277672328235303:True:=⟨⟩
theorem tw1519173087788597607:True:=⟨⟩
theorem tw16694988706885560743:True:=⟨⟩
theorem tw11834272902391782919:True:=⟨⟩
theorem tw8760055593327191655:True:=⟨⟩
theorem tw5324820307449388743:True:=⟨⟩
theorem tw14744511361689763623:True:=⟨⟩
theorem tw15027449676526667655:True:=⟨⟩
theorem tw4502582169443126280:True:=⟨⟩
theorem tw4143861621517765672:True:=⟨⟩
theorem tw18348102053333296232:True:=⟨⟩
theorem tw10887109096370724008:True:=⟨⟩
theorem tw18442604194570039496:True:=⟨⟩
theorem tw4857375528230846760:True:=⟨⟩
theorem tw3149782413938145608:True:=⟨⟩
theorem tw9183701731020214600:True:=⟨⟩
theorem tw7681861546329907560:True:=⟨⟩
theorem tw13696634748615350696:True:=⟨⟩
theorem tw11722950446543124968:True:=⟨⟩
theorem tw11921986614458803688:True:=⟨⟩
theorem tw9284588808395399752:True:=⟨⟩
theorem tw5580535189487099496:True:=⟨⟩
theorem tw18018256987220780776:True:=⟨⟩
theorem tw9027669662852080424:True:=⟨⟩
theorem tw11853805628925816680:True:=⟨⟩
theorem tw17498050166960064424:True:=⟨⟩
theorem tw2816088595442284456:True:=⟨⟩
theorem tw8645275368335085512:True:=⟨⟩
theorem tw4708277705734201320:True:=⟨⟩
theorem tw15316900613231428617:True:=⟨⟩
theorem tw221865139666667593:True:=⟨⟩
theorem tw10114042302980315401:True:=⟨⟩
theorem tw11494641769955761609:True:=⟨⟩
theorem tw17353717004509467081:True:=⟨⟩
theorem tw12593287075626200585:True:=⟨⟩
theorem tw7331562650266816105:True:=⟨⟩
theorem tw1869982915274591977:True:=⟨⟩
theorem tw7923801555841588041:True:=⟨⟩
theorem tw15055488267674760137:True:=⟨⟩
theorem tw13744474347255727081:True:=⟨⟩
theorem tw1919158068834849066:True:=⟨⟩
theorem tw5523326258953577834:True:=⟨⟩
theorem tw14787941476911256938:True:=⟨⟩
theorem tw15108953432601430410:True:=⟨⟩
theorem tw10657157588380140202:True:=⟨⟩
theorem tw12690017586675760842:True:=⟨⟩
theorem tw9667463736880713482:True:=⟨⟩
theorem tw5978945931504083850:True:=⟨⟩
theorem tw8988528740691052458:True:=⟨⟩
theorem tw13364730046945927146:True:=⟨⟩
theorem tw15540606191963865066:True:=⟨⟩
theorem tw15047662527815904267:True:=⟨⟩
theorem tw8981764414941696043:True:=⟨⟩
theorem tw17754419988714888299:True:=⟨⟩
theorem tw5531728709465390219:True:=⟨⟩
theorem tw17151379534061396139:True:=⟨⟩
theorem tw3797779752230971595:True:=⟨⟩
theorem tw6294957788785051979:True:=⟨⟩
theorem tw4256837257714103627:True:=⟨⟩
theorem tw18357203163753486795:True:=⟨⟩
theorem tw13961861788541961707:True:=⟨⟩
theorem tw2064432419031836203:True:=⟨⟩
theorem tw9246883612320975531:True:=⟨⟩
theorem tw11659276191479080651:True:=⟨⟩
theorem tw4907179422822156011:True:=⟨⟩
theorem tw12230526849565290251:True:=⟨⟩
theorem tw1010628485663200043:True:=⟨⟩
theorem tw15715812444356663115:True:=⟨⟩
theorem tw10660347914533987211:True:=⟨⟩
theorem tw2192170204081691595:True:=⟨⟩
theorem tw1200835315176668139:True:=⟨⟩
theorem tw11120771322616162316:True:=⟨⟩
theorem tw2685120902599235660:True:=⟨⟩
theorem tw2922386806390901068:True:=⟨⟩
theorem tw10515907503943145868:True:=⟨⟩
theorem tw6702685439380718028:True:=⟨⟩
theorem tw5064242529869544044:True:=⟨⟩
theorem tw4930765085656560268:True:=⟨⟩
theorem tw4178345981754357484:True:=⟨⟩
theorem tw4026008465944015596:True:=⟨⟩
theorem tw12392919422251777996:True:=⟨⟩
theorem tw817358381653202924:True:=⟨⟩
theorem tw8557753903632800813:True:=⟨⟩
theorem tw6510862664121949261:True:=⟨⟩
theorem tw8368942243943775373:True:=⟨⟩
theorem tw11966338616950433965:True:=⟨⟩
theorem tw17041974384082361581:True:=⟨⟩
theorem tw12448237106156685581:True:=⟨⟩
theorem tw9201544543050912013:True:=⟨⟩
theorem tw5456476928409618733:True:=⟨⟩
theorem tw17759556447463268781:True:=⟨⟩
theorem tw11079630325163190701:True:=⟨⟩
theorem tw3978282553898551757:True:=⟨⟩
theorem tw18440468935187367405:True:=⟨⟩
theorem tw7346471882588894765:True:=⟨⟩
theorem tw9013458147443468973:True:=⟨⟩
theorem tw15512343655072824077:True:=⟨⟩
theorem tw7606837690425886541:True:=⟨⟩
theorem tw8791105644506584078:True:=⟨⟩
theorem tw14324825379747670222:True:=⟨⟩
theorem tw14288861480587412718:True:=⟨⟩
theorem tw3734051010188478830:True:=⟨⟩
theorem tw18036080758180883822:True:=⟨⟩
theorem tw6657975618538655214:True:=⟨⟩
theorem tw14352694919235268078:True:=⟨⟩
theorem tw13971231403954217582:True:=⟨⟩
theorem tw17185068995989416590:True:=⟨⟩
theorem tw7912222688676898446:True:=⟨⟩
theorem tw5244863979653640878:True:=⟨⟩
theorem tw4470268460092385998:True:=⟨⟩
theorem tw5026142275975790382:True:=⟨⟩
theorem tw9327303520649449294:True:=⟨⟩
theorem tw12835902787353902926:True:=⟨⟩
theorem tw4511545695221564302:True:=⟨⟩
theorem tw4367797271424169902:True:=⟨⟩
theorem tw16545608057064774703:True:=⟨⟩
theorem tw10535766476362105007:True:=⟨⟩
theorem tw14046567851891827919:True:=⟨⟩
theorem tw7325954872068044015:True:=⟨⟩
theorem tw11831814054096296271:True:=⟨⟩
theorem tw13515902939402051951:True:=⟨⟩
theorem tw17271155629345346959:True:=⟨⟩
theorem tw14097935074222910991:True:=⟨⟩
theorem tw4665798686370792015:True:=⟨⟩
theorem tw7069302512201428591:True:=⟨⟩
theorem tw2448915745829705487:True:=⟨⟩
theorem tw2366236501315685167:True:=⟨⟩
theorem tw14219654648514845583:True:=⟨⟩
theorem tw5977633084277092303:True:=⟨⟩
theorem tw8183511068747685871:True:=⟨⟩
theorem tw5126069029988907088:True:=⟨⟩
theorem tw16054406510089868400:True:=⟨⟩
theorem tw15024962966176259280:True:=⟨⟩
theorem tw11484829831233366416:True:=⟨⟩
theorem tw5715363356791613872:True:=⟨⟩
theorem tw9838792010176981456:True:=⟨⟩
theorem tw16160396005664113168:True:=⟨⟩
theorem tw4937458810949523120:True:=⟨⟩
theorem tw9779745224954058576:True:=⟨⟩
theorem tw2854055821629358000:True:=⟨⟩
theorem tw12619139361978908592:True:=⟨⟩
theorem tw18076712618764227568:True:=⟨⟩
theorem tw11670461563083007057:True:=⟨⟩
theorem tw7467655391986479313:True:=⟨⟩
theorem tw14715586871968883921:True:=⟨⟩
theorem tw13006763702869105073:True:=⟨⟩
theorem tw12550862350944520689:True:=⟨⟩
theorem tw15368116407012111889:True:=⟨⟩
theorem tw2369777256886702769:True:=⟨⟩
theorem tw14531953529218054833:True:=⟨⟩
theorem tw12074116170021048017:True:=⟨⟩
theorem tw13520495490393988945:True:=⟨⟩
theorem tw9172251241337203569:True:=⟨⟩
theorem tw1961872036898536337:True:=⟨⟩
theorem tw10578246280966666129:True:=⟨⟩
theorem tw11869338283614399441:True:=⟨⟩
theorem tw2642323284506651666:True:=⟨⟩
theorem tw15522596618078254098:True:=⟨⟩
theorem tw3909818284825412082:True:=⟨⟩
theorem tw4673369817983286802:True:=⟨⟩
theorem tw15849956413775855282:True:=⟨⟩
theorem tw5188300715274100498:True:=⟨⟩
theorem tw13303797867378624627:True:=⟨⟩
theorem tw17970765164628060307:True:=⟨⟩
theorem tw8769433930179092851:True:=⟨⟩
theorem tw1120334966343750035:True:=⟨⟩
theorem tw13926942396678221235:True:=⟨⟩
theorem tw14007728517349242323:True:=⟨⟩
theorem tw1831860864061604307:True:=⟨⟩
theorem tw13092546355517573651:True:=⟨⟩
theorem tw6017320513564230291:True:=⟨⟩
theorem tw17203828178503500467:True:=⟨⟩
theorem tw7350569452643161811:True:=⟨⟩
theorem tw6475472877232019347:True:=⟨⟩
theorem tw7014092337061620691:True:=⟨⟩
theorem tw14001722880292489268:True:=⟨⟩
theorem tw14179103736428475668:True:=⟨⟩
theorem tw17955518069472428372:True:=⟨⟩
theorem tw4070330561561515412:True:=⟨⟩
theorem tw7230925070694860212:True:=⟨⟩
theorem tw7587495574006985140:True:=⟨⟩
theorem tw15074760141415650772:True:=⟨⟩
theorem tw11659698309348286964:True:=⟨⟩
theorem tw16951628721265272404:True:=⟨⟩
theorem tw5506039550548891220:True:=⟨⟩
theorem tw4224084292039684820:True:=⟨⟩
theorem tw1441012043654441780:True:=⟨⟩
theorem tw16893762655527052148:True:=⟨⟩
theorem tw15192156059969433460:True:=⟨⟩
theorem tw14315183615201256436:True:=⟨⟩
theorem tw15577852185023203445:True:=⟨⟩
theorem tw15389009459423646837:True:=⟨⟩
theorem tw10694770618544672949:True:=⟨⟩
theorem tw3910785333276505429:True:=⟨⟩
theorem tw16973136056942550389:True:=⟨⟩
theorem tw12950492685197187477:True:=⟨⟩
theorem tw11501239880940626357:True:=⟨⟩
theorem tw12929747751245528629:True:=⟨⟩
theorem tw13504761439508445077:True:=⟨⟩
theorem tw16637420052115853269:True:=⟨⟩
theorem tw16241153214458149877:True:=⟨⟩
theorem tw1144790580557924374:True:=⟨⟩
theorem tw10493705120726645814:True:=⟨⟩
theorem tw15434153585263775798:True:=⟨⟩
theorem tw16713517693300743350:True:=⟨⟩
theorem tw8724637198926083286:True:=⟨⟩
theorem tw12984455957167257814:True:=⟨⟩
theorem tw1855874717800497430:True:=⟨⟩
theorem tw6307582338990405910:True:=⟨⟩
theorem tw17606815237750033686:True:=⟨⟩
theorem tw8618276488185568598:True:=⟨⟩
theorem tw8664240988763645270:True:=⟨⟩
theorem tw1369712901460274550:True:=⟨⟩
theorem tw17469891820121995670:True:=⟨⟩
theorem tw17674904486105943542:True:=⟨⟩
theorem tw16812531455043836406:True:=⟨⟩
theorem tw4656875873465052662:True:=⟨⟩
theorem tw3043251805753825846:True:=⟨⟩
theorem tw13022384186217761366:True:=⟨⟩
theorem tw12296525201690651222:True:=⟨⟩
theorem tw12947843589496598198:True:=⟨⟩
theorem tw8156277533968921302:True:=⟨⟩
theorem tw13873564022509409046:True:=⟨⟩
theorem tw6522133221289558966:True:=⟨⟩
theorem tw13582407348657327030:True:=⟨⟩
theorem tw17343424282914127798:True:=⟨⟩
theorem tw11981049576828950486:True:=⟨⟩
theorem tw16567269578721173527:True:=⟨⟩
theorem tw11468300688751988823:True:=⟨⟩
theorem tw3322581399753987191:True:=⟨⟩
theorem tw4229791484672444631:True:=⟨⟩
theorem tw8098027948087371991:True:=⟨⟩
theorem tw15529326584931151095:True:=⟨⟩
theorem tw10634737873122298327:True:=⟨⟩
theorem tw5470527052729579031:True:=⟨⟩
theorem tw8280221689289524823:True:=⟨⟩
theorem tw325071654681228919:True:=⟨⟩
theorem tw18212384128327854807:True:=⟨⟩
theorem tw3320255763016266455:True:=⟨⟩
theorem tw4934108687840030455:True:=⟨⟩
theorem tw15935611162528419607:True:=⟨⟩
theorem tw8459149587893636951:True:=⟨⟩
theorem tw16372381401011794807:True:=⟨⟩
theorem tw14937293806622103415:True:=⟨⟩
theorem tw6315390545485050839:True:=⟨⟩
theorem tw11893285327139627991:True:=⟨⟩
theorem tw14256013123837613272:True:=⟨⟩
theorem tw8673962471797093720:True:=⟨⟩
theorem tw15304316631079550456:True:=⟨⟩
theorem tw9820229147416558232:True:=⟨⟩
theorem tw7290252979316413112:True:=⟨⟩
theorem tw3662960713962116920:True:=⟨⟩
theorem tw4009503725001541496:True:=⟨⟩
theorem tw9927921485604251544:True:=⟨⟩
theorem tw13114658210885196728:True:=⟨⟩
theorem tw8300744659030497208:True:=⟨⟩
theorem tw14376238183856542680:True:=⟨⟩
theorem tw17267625328998420440:True:=⟨⟩
theorem tw2269546670627082232:True:=⟨⟩
theorem tw3028295046911827001:True:=⟨⟩
theorem tw15195475782768983129:True:=⟨⟩
theorem tw17272148195880977625:True:=⟨⟩
theorem tw15498612315492484313:True:=⟨⟩
theorem tw13962952277408662841:True:=⟨⟩
theorem tw5257400716544407865:True:=⟨⟩
theorem tw9842491485536867929:True:=⟨⟩
theorem tw16722752619875367577:True:=⟨⟩
theorem tw3022864160911115065:True:=⟨⟩
theorem tw7115162127753530297:True:=⟨⟩
theorem tw8031470941945560025:True:=⟨⟩
theorem tw3065914118754213849:True:=⟨⟩
theorem tw15668601113620838682:True:=⟨⟩
theorem tw6177802555704113466:True:=⟨⟩
theorem tw1445961563693555130:True:=⟨⟩
theorem tw2089265442537963002:True:=⟨⟩
theorem tw6784116439481363066:True:=⟨⟩
theorem tw8257930503050088346:True:=⟨⟩
theorem tw17801536906827966394:True:=⟨⟩
theorem tw3923986459639400410:True:=⟨⟩
theorem tw11029566135858448443:True:=⟨⟩
theorem tw2351908792547025019:True:=⟨⟩
theorem tw12755314035544962267:True:=⟨⟩
theorem tw13456720757275229403:True:=⟨⟩
theorem tw17847789811652136219:True:=⟨⟩
theorem tw218703644621008411:True:=⟨⟩
theorem tw13713736274341658203:True:=⟨⟩
theorem tw13459832634146656923:True:=⟨⟩
theorem tw7762643025004213947:True:=⟨⟩
theorem tw13491933748230437563:True:=⟨⟩
theorem tw13558927597315803899:True:=⟨⟩
theorem tw10269886607655245595:True:=⟨⟩
theorem tw339071966890215195:True:=⟨⟩
theorem tw13220159972134293371:True:=⟨⟩
theorem tw15662934076281143163:True:=⟨⟩
theorem tw11009958730713711483:True:=⟨⟩
theorem tw2077132555177479067:True:=⟨⟩
theorem tw5766184184924152763:True:=⟨⟩
theorem tw13355961600110944540:True:=⟨⟩
theorem tw254807877489625436:True:=⟨⟩
theorem tw17606005989762213244:True:=⟨⟩
theorem tw3012060314560378236:True:=⟨⟩
theorem tw10614962720159004124:True:=⟨⟩
theorem tw17341422377473871388:True:=⟨⟩
theorem tw11399291863549563452:True:=⟨⟩
theorem tw6157801744192964188:True:=⟨⟩
theorem tw15182246712993514140:True:=⟨⟩
theorem tw15374283787508798332:True:=⟨⟩
theorem tw15577746665193806909:True:=⟨⟩
theorem tw9961583589721320509:True:=⟨⟩
theorem tw7379531861223868573:True:=⟨⟩
theorem tw9664519918957591741:True:=⟨⟩
theorem tw14817792381725125949:True:=⟨⟩
theorem tw950785764308058461:True:=⟨⟩
theorem tw9204851915577214301:True:=⟨⟩
theorem tw11942244580648251965:True:=⟨⟩
theorem tw17877211774788687453:True:=⟨⟩
theorem tw12639321818198018717:True:=⟨⟩
theorem tw8562559112341939901:True:=⟨⟩
theorem tw16864488853556122333:True:=⟨⟩
theorem tw17921687123954361341:True:=⟨⟩
theorem tw9695202537372125214:True:=⟨⟩
theorem tw5831367224595947614:True:=⟨⟩
theorem tw15529157316453170302:True:=⟨⟩
theorem tw322314303055386782:True:=⟨⟩
theorem tw11319716595118260414:True:=⟨⟩
theorem tw14911781342620006590:True:=⟨⟩
theorem tw9063690138005316862:True:=⟨⟩
theorem tw10802845076130218366:True:=⟨⟩
theorem tw15902835201015265726:True:=⟨⟩
theorem tw962676620252291550:True:=⟨⟩
theorem tw7632198696903749150:True:=⟨⟩
theorem tw10165827392189022782:True:=⟨⟩
theorem tw7281240811516166718:True:=⟨⟩
theorem tw8595187939462300254:True:=⟨⟩
theorem tw16219885933102320254:True:=⟨⟩
theorem tw2324086670438207134:True:=⟨⟩
theorem tw5892288323080015518:True:=⟨⟩
theorem tw7406174704704871102:True:=⟨⟩
theorem tw6098407058377695038:True:=⟨⟩
theorem tw5026634279064120254:True:=⟨⟩
theorem tw10491370639364329503:True:=⟨⟩
theorem tw7552782463718187135:True:=⟨⟩
theorem tw5587015361255951519:True:=⟨⟩
theorem tw13016061042514547967:True:=⟨⟩
theorem tw11707449533388567839:True:=⟨⟩
theorem tw16246294710427435295:True:=⟨⟩
theorem tw6473125034923655711:True:=⟨⟩
theorem tw7849893787847297567:True:=⟨⟩
theorem tw3995769802235610687:True:=⟨⟩
theorem tw6203149119662292639:True:=⟨⟩
theorem tw15941576013407356575:True:=⟨⟩
theorem tw2179437204133878591:True:=⟨⟩
theorem tw3315660395637877631:True:=⟨⟩
theorem tw8387577502619580687:True:=⟨⟩
end PySem.W.Fast
set_option maxRecDepth 100000 in
set_option maxHeartbeats 0 in
theorem PySem.Challenge.cw_unlikesteps_k71_corners_put_to_holds : PySem.Challenge.rw_unlikesteps_k71_corners_put_to.Holds := by
 w_on; o_law; k_head; (case hw => w_witness2)
 k_fill
 refine U.KP (l := PySem.Challenge.rw_unlikesteps_k71_corners_put_to) (n := 63) (k := 17) (x := "_law_script") (Pts := [433, 438]) (sp := fun K => U.yz K 433 438) rfl .d rfl ⟨rfl, by decide, by decide, rfl⟩ (fun w h Y => PySem.W.km_in_of Y) ?hT9 ?hC9 ?hN9 ?F ?S
 case hT9 =>
  intro w h Y P hP
  simp only [List.mem_cons, List.not_mem_nil, or_false] at hP
  rcases hP with rfl | rfl
  ·exact PySem.W.km_tabs_of Y 433 (by simp)
  ·exact PySem.W.km_tabs_of Y 438 (by simp)
 case hC9 =>
  intro w h X P hP
  simp only [List.mem_cons, List.not_mem_nil, or_false] at hP
  rcases hP with rfl | rfl
  ·exact ⟨435, PySem.W.codeHd_of_K X (by kernel_rfl)⟩
  ·exact ⟨440, PySem.W.codeHd_of_K X (by kernel_rfl)⟩
 case hN9 =>
  intro w P hP
  simp only [List.mem_cons, List.not_mem_nil, or_false] at hP
  rcases hP with rfl | rfl
  ·kernel_rfl
  ·kernel_rfl
 case S => exact fun K H a ns hl hs hp => ⟨a, ns, rfl, hs, hl, hp, fun _ => rfl⟩
 case F =>
  intro w mg fa h KX G hmg
  refine' U.Oz (cR := 435) (PR := 433) (c := 440) (Pt := 438) KX G hmg .d (U.bH ?a0 ?b0 ?c0 ?e0) (U.bH ?a1 ?b1 ?c1 ?e1) (U.bH ?a2 ?b2 ?c2 ?e2) (U.bH ?a3 ?b3 ?c3 ?e3) (U.bH ?a4 ?b4 ?c4 ?e4) (U.bH ?a5 ?b5 ?c5 ?e5) (U.bH ?a6 ?b6 ?c6 ?e6) (U.bH ?a7 ?b7 ?c7 ?e7) (U.bH ?a8 ?b8 ?c8 ?e8) (U.bH ?a9 ?b9 ?c9 ?e9) (U.bH ?a10 ?b10 ?c10 ?e10) (U.bH ?a11 ?b11 ?c11 ?e11) (U.bH ?a12 ?b12 ?c12 ?e12) (U.bH ?a13 ?b13 ?c13 ?e13) (U.bH ?a14 ?b14 ?c14 ?e14) (U.bH ?a15 ?b15 ?c15 ?e15) (U.bH ?a16 ?b16 ?c16 ?e16) (U.bH ?a17 ?b17 ?c17 ?e17) (U.bH ?a18 ?b18 ?c18 ?e18) (U.bH ?a19 ?b19 ?c19 ?e19) (U.bH ?a20 ?b20 ?c20 ?e20) (U.bH ?a21 ?b21 ?c21 ?e21) (U.bH ?a22 ?b22 ?c22 ?e22) (U.bH ?a23 ?b23 ?c23 ?e23) (U.bH ?a24 ?b24 ?c24 ?e24) (U.bH ?a25 ?b25 ?c25 ?e25) (U.bH ?a26 ?b26 ?c26 ?e26) (U.bH ?a27 ?b27 ?c27 ?e27) (U.bH ?a28 ?b28 ?c28 ?e28) (U.bH ?a29 ?b29 ?c29 ?e29) (U.bH ?a30 ?b30 ?c30 ?e30) (U.bH ?a31 ?b31 ?c31 ?e31) (U.bH ?a32 ?b32 ?c32 ?e32) (U.bH ?a33 ?b33 ?c33 ?e33) (U.bH ?a34 ?b34 ?c34 ?e34) ?r1R ?r2R ?r3R ?r4R ?r5R ?l1 ?l2 ?l3 ?l4 ?g1 ?lo0 ?lo1 ?eB ?eL ?eN ?eU ?eM ?eS ?xB ?xL ?xN ?xU ?xM ?gaB ?hoB ?clB ?gaL ?hoL ?clL ?gaN ?hoN ?clN ?gaU ?hoU ?clU ?gaM ?hoM ?clM
  case a0|b0|c0|e0|a1|b1|c1|e1|a2|b2|c2|e2|a3|b3|c3|e3|a4|b4|c4|e4|a5|b5|c5|e5|a6|b6|c6|e6|a7|b7|c7|e7|a8|b8|c8|e8|a9|b9|c9|e9|a10|b10|c10|e10|a11|b11|c11|e11|a12|b12|c12|e12|a13|b13|c13|e13|a14|b14|c14|e14|a15|b15|c15|e15|a16|b16|c16|e16|a17|b17|c17|e17|a18|b18|c18|e18|a19|b19|c19|e19|a20|b20|c20|e20|a21|b21|c21|e21|a22|b22|c22|e22|a23|b23|c23|e23|a24|b24|c24|e24|a25|b25|c25|e25|a26|b26|c26|e26|a27|b27|c27|e27|a28|b28|c28|e28|a29|b29|c29|e29|a30|b30|c30|e30|a31|b31|c31|e31|a32|b32|c32|e32|a33|b33|c33|e33|a34|b34|c34|e34|r1R|r2R|r3R|r5R|l1|l2|l3|lo0|lo1|eB|eL|eN|eU|eM|eS|gaB|hoB|clB|gaL|hoL|clL|gaN|hoN|clN|gaU|hoU|clU|gaM|hoM|clM=>k_is
  case r4R|l4|g1|xB|xL|xN|xU|xM=>kernel_rfl
