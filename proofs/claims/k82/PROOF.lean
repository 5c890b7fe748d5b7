import PyProof.Rows.All
import Wide.All
import OpenK.AllK
import Wide.FinOn
import Lean
import PyProof.EqAt
import PyProof.EqKinds
import PyProof.TupleCall
import PyProof.NeKinds
import PyProof.Rows.SortWalk
import PyProof.Rows.SortRuns
import KE.KMinKey
import PyProof.IsRules
import PySem.SetOps
import PyProof.SetScanFacts
import PyProof.TupleKey
import PyProof.SetKind
import PyProof.Rows.SetFrom
import KE.KRevSl
import PyProof.Rows.SumAny
import PyProof.EnumMake
import PyProof.SeqI3
import PyProof.TupleOfGen
import PyProof.ListRange
import PyProof.CollectIter
import PyProof.DictItems
import KE.KDictList
import PyProof.StrCalls2
import PyProof.StrLawsChain
import PyProof.StrBlockI
import PyProof.Rows.StrRev
import PySem.Challenge.RW_unlikesteps_k82_kinds_of_full_lays
set_option Elab.async false
set_option linter.all false
set_option compiler.extract_closed false
local macro_rules|`(.o)=>`(by omega)
local macro_rules|`(.d)=>`(by decide)
set_option maxRecDepth 100000
set_option maxHeartbeats 0
def eg:=@PySem.wpAny_bind
def X6:=@PySem.wpAny_pure
def X7:=@PySem.Heap.get?_push_of_some
def X8:=@List.getElem?_eq_some_iff
def Zaa:=@List.mem_cons_of_mem
def Zab:=@List.mem_cons_self
def Zac:=@List.length_map
def Zad:=@PySem.Heap.lt_size
def Zae:=@List.size_toArray
def Zaf:=@PySem.Heap.get?_push_size
def Zag:=@Bool.false_ne_true
def Zah:=@List.mem_append_right
def Zai:=@List.getElem?_eq_getElem
def Zaj:=@List.mem_cons
def Zak:=@Bool.false_eq_true
def Zal:=@Nat.le_refl
def Zam:=@List.length_append
def Zan:=@Nat.ne_of_lt
def Zao:=@List.mem_singleton
def Zap:=@List.mem_of_getElem?
def Zaq:=@decide_eq_false
def Zar:=@Nat.lt_of_lt_of_le
def Zas:=@Array.length_toList
def Zat:=@decide_eq_true
def Zau:=@PySem.sizeLine_eq
def Zav:=@if_neg
def Zaw:=@Bool.and_eq_true
def Zax:=@List.map_append
def Zay:=@if_pos
def Zaz:=@Nat.zero_le
def ZaA:=@PySem.Paired.length
def ZaB:=@Option.map_eq_some_iff
def ZaC:=@List.mem_map
def ZaD:=@List.take_add_one
def ZaE:=@Array.getElem?_eq_getElem
def ZaF:=@List.all_eq_true
def ZaG:=@List.mem_append
def ZaH:=@List.getElem?_map
def ZaI:=@List.length_take
def ZaJ:=@List.length_cons
def ZaK:=@List.take_length
def ZaL:=@PySem.wpAny_mono
def ZaM:=@List.getD_eq_getElem?_getD
def ZaN:=@Array.getElem?_eq_some_iff
def ZaO:=@PySem.wpAny_holding
def ZaP:=@PySem.Around.under_plainId
def ZaQ:=@List.nodup_iff_pairwise_ne
def ZaR:=@List.map_cons
def ZaS:=@PySem.wpAny_seqItems
def ZaT:=@PySem.Heap.SameBut.update
def ZaU:=@List.mem_range
def ZaV:=@Option.some.inj
def ZaW:=@List.mem_filter
def ZaX:=@PySem.wpAny_newObj_type
def ZaY:=@PySem.wpAny_call_entry
def ZaZ:=@PySem.Heap.get?_update_other
def Za0:=@if_false
def Za1:=@PyProof.Rows.callWith_type1
def Za2:=@PySem.wpAny_Call_Name_kw
def Za3:=@PySem.codeAny_builtin
def Za4:=@PyProof.Rows.boot_isinstance
def Za5:=@List.not_mem_nil
def Za6:=@Array.getElem?_toList
def Za7:=@Int.toNat_natCast
def Za8:=@PySem.wpAny_callSpecial?_slot
def Za9:=@Bool.not_true
def Zba:=@Nat.lt_irrefl
def Zbb:=@List.mem_append_left
def Zbc:=@List.length_replicate
def Zbd:=@PyProof.Rows.F.plain_set_update_loop
def Zbe:=@PySem.F.plain_min_loop
def Zbf:=@Nat.le_trans
def Zbg:=@PySem.wpAny_setState_of
def Zbh:=@PySem.Heap.size_push
def Zbi:=@PyProof.Rows.wpS_bind
def Zbj:=@PySem.wpAny_forIn_list
def Zbk:=@List.nodup_cons
def Zbl:=@Nat.lt_succ_of_lt
def Zbm:=@List.flatMap_cons
def Zbn:=@List.mem_filterMap
def Zbo:=@List.zip_cons_cons
def Zbp:=@List.pairwise_cons
def Zbq:=@PySem.Heap.get?_update_self
def Zbr:=@PySem.plainId_quiet
def Zbs:=@List.filter_cons_of_neg
def Zbt:=@PySem.F.plainAttrs_list
def Zbu:=@PySem.W.kia_one
def Zbv:=@PySem.PassesOwn.never
def Zbw:=@decide_eq_true_eq
def Zbx:=@List.pairwise_map
def Zby:=@Classical.byContradiction
def Zbz:=@List.length_range
def ZbA:=@PySem.wpAny_field
def ZbB:=@PySem.Obj.data_mapFields
def ZbC:=@List.filter_append
def ZbD:=@Nat.le_of_lt
def ZbE:=@List.replicate_succ
def ZbF:=@List.getElem_of_mem
def ZbG:=@PySem.wpAny_truthy_bool
def ZbH:=@PySem.W.mg_of
def ZbI:=@List.Pairwise.imp
def ZbJ:=@List.getElem?_append_right
def ZbK:=@PySem.Paired.snoc
def ZbL:=@PyProof.Rows.callWith_builtin1
def ZbM:=@Array.forIn_toList
def ZbN:=@List.append_nil
def ZbO:=@List.getElem?_append_left
def ZbP:=@List.length_nil
def ZbQ:=@PySem.wpAny_tryCatch
def ZbR:=@PyProof.Rows.F.entry_set_update_loop
def ZbS:=@PyProof.Rows.wpS_pure
def ZbT:=@PySem.mem_of_lookup
def ZbU:=@of_decide_eq_true
def ZbV:=@List.append_assoc
def ZbW:=@List.length_singleton
def ZbX:=@PySem.F.slot_dict_keyiterator_next
def ZbY:=@Bool.not_false
def ZbZ:=@Nat.ne_of_gt
def Zb0:=@List.map_map
def Zb1:=@Array.perm_iff_toList_perm
def Zb2:=@List.filterMap_cons
def Zb3:=@List.mem_map_of_mem
def Zb4:=@or_false
def Zb5:=@List.pairwise_iff_getElem
def Zb6:=@Bool.eq_iff_iff
def Zb7:=@PySem.codeAny_mono
def Zb8:=@PySem.wpAny_specialOf
def Zb9:=@List.length_filter_le
def Zca:=@Option.isSome_iff_exists
def Zcb:=@List.length_drop
def Zcc:=@PySem.wpAny_askSetting
def Zcd:=@PySem.wpAny_typeNameOfWhole_keyiter
def Zce:=@congrArg
def Zcf:=@PySem.wpAny_standAt
def Zcg:=@List.getElem?_replicate
def Zch:=@if_true
def Zci:=@List.filter_cons_of_pos
def Zcj:=@PySem.wpAny_setField
def Zck:=@PySem.wpAny_rule
def Zcl:=@PySem.wpAny_pyIter_list
def Zcm:=@beq_iff_eq
def Zcn:=@Nat.lt_of_succ_lt
def Zco:=@PySem.F.slot_tuple_hash
def Zcp:=@List.nodup_append
def Zcq:=@beq_eq_false_iff_ne
def Zcr:=@List.range_succ
def Zcs:=@Nat.not_lt_zero
def Zct:=@PySem.F.slot_tuple_iterator_next
def Zcu:=@List.perm_ext_iff_of_nodup
def Zcv:=@Option.getD_some
def Zcw:=@Nat.lt_succ_self
def Zcx:=@List.getElem_mem
def Zcy:=@PySem.wpAny_isInstance
def Zcz:=@PySem.Calls.spliced_cons
def ZcA:=@PySem.SeqAt.EqAt.int_int
def ZcB:=@PySem.Obj.isFreed_of_fields
def ZcC:=@PySem.wpAny_attempt
def ZcD:=@Int.emod_lt_of_pos
def ZcE:=@Ne.symm
def ZcF:=@List.mem_of_mem_drop
def ZcG:=@List.replicate_succ'
def ZcH:=@PySem.Calls.spliced_nil
def ZcJ:=@List.flatten_cons
def ZcK:=@List.filterMap_cons_some
def ZcL:=@bne_self_eq_false
def ZcM:=@PySem.wpAny_typeNameOf_keyiter
def ZcN:=@PyProof.Rows.boot_tuple
def ZcO:=@List.length_filterMap_le
def ZcP:=@PySem.wpAny_letGo
def ZcQ:=@List.pairwise_filterMap
def ZcR:=@List.flatMap_append
def ZcS:=@List.lookup_cons
def ZcT:=@Nat.le_add_right
def ZcU:=@List.ext_getElem
def ZcV:=@Nat.max_eq_right
def ZcW:=@List.nodup_range
def ZcY:=@List.filter_cons
def ZcZ:=@PySem.call_meets
def Zc0:=@Bool.and_false
def Zc1:=@PySem.F.slot_tuple_mul
def Zc2:=@PySem.F.entry_min_loop
def Zc3:=@List.take_of_length_le
def Zc4:=@PySem.wpAny_setField_rec
def Zc5:=@of_decide_eq_false
def Zc6:=@PySem.boot_len
def Zc8:=@PySem.wpAny_typeOf
def Zc9:=@List.foldl_cons
def Zda:=@List.find?_cons
def Zdb:=@Option.map_some
def Zdc:=@PySem.W.kia_tup
def Zdd:=@PySem.builtinLookup_eq_fast
def Zde:=@PySem.wpAny_updateSeq
def Zdf:=@Int.emod_nonneg
def Zdh:=@PySem.codeAny_call_builtin
def Zdj:=@PySem.wpAny_pyIter_zip
def Zdm:=@PySem.wpAny_of_eq
def Zdo:=@PyProof.Rows.slot_tupleiter_next
def Zdp:=@PySem.Heap.get?_update_ne
def Zdu:=@PyProof.Rows.wpS_forRange
def ZdB:=@PySem.wpAny_passesOwn
def ZdF:=@PySem.codeAny_of_tree
def ZdN:=@PySem.Walks.list
def ZdO:=@PySem.WalksT.enumerateD
def ZdP:=@PySem.wpAny_pyIter_enum
def ZdQ:=@PySem.wpAny_storeSet_of
def ZdR:=@PySem.F.plain_list_iadd
def ZdU:=@PyProof.Rows.joinParts_cons
def Zd3:=@PySem.F.plain_min_loop
def Zef:=@PySem.wpAny_newList
def Zes:=@PyProof.Rows.boot_list
def ZeE:=@PyProof.Rows.pairsOf_size
def ZeN:=@PyProof.Rows.vals1
def Zfy:=@PyProof.Rows.boot_all
abbrev Zgc:=PySem.W.Frag
namespace L2
open PySem PySem.Spec PyProof.Rows
theorem AJ:0<=sizeLine:=.d
theorem gR:1<=sizeLine:=.d
theorem bf:2<=sizeLine:=.d
theorem uZ:3<=sizeLine:=.d
theorem AI:4<=sizeLine:=.d
theorem Hi:7<=sizeLine:=.d
theorem Hg:8<=sizeLine:=.d
abbrev Key:=Sum Int Str
def n8:Key->Value->Bool
 | .inl k,v=>Value.isInt k v
 | .inr x,v=>Value.isStrOf x v
def Ls (w:World):Key->Int
 | .inl k=>hashInt k
 | .inr x=>hashStr w x
theorem ZM:∀{k:Key}{v:Value},n8 k v=true->(∃i t,k=Sum.inl i/\v=Value.int i t)∨(∃x t,k=Sum.inr x/\v=Value.str x t)
 | .inl i,v,h=>by
  obtain⟨t,e⟩:=Value.isInt_shape (k:=i) (v:=v) h
  exact .inl ⟨i,t,rfl,e⟩
 | .inr x,v,h=>by
  obtain⟨t,e⟩:=Value.isStrOf_shape (x:=x) (v:=v) h
  exact .inr ⟨x,t,rfl,e⟩
theorem Tj (i:Int) (t:Tok):n8 (.inl i) (.int i t)=true:=by simp[n8,Value.isInt]
theorem Tn (x:Str) (t:Tok):n8 (.inr x) (.str x t)=true:=by simp[n8,Value.isStrOf]
theorem Qt (a b:Int):decide ((Sum.inl a:Key)=Sum.inl b)=(a==b):=by
 by_cases e:a=b
 ·subst e;simp
 ·have h:¬(Sum.inl a:Key)=Sum.inl b:=fun q=>e (Sum.inl.inj q)
  rw[Zaq h]
  exact(Zcq.mpr e).symm
theorem Qw (a b:Str):decide ((Sum.inr a:Key)=Sum.inr b)=decide (a=b):=by
 by_cases e:a=b
 ·subst e;simp
 ·have h:¬(Sum.inr a:Key)=Sum.inr b:=fun q=>e (Sum.inr.inj q)
  rw[Zaq h,Zaq e]
theorem Qu (a:Int) (b:Str):decide ((Sum.inl a:Key)=Sum.inr b)=false:=Zaq (fun q=>nomatch q)
theorem Qv (a:Str) (b:Int):decide ((Sum.inr a:Key)=Sum.inl b)=false:=Zaq (fun q=>nomatch q)
def dU (prog:Program) (w:World):PySem.KeyKind prog w Key where
 is:=n8
 hash:=Ls w
 inj:=fun v a b ha hb=>by
  rcases ZM ha with ⟨i,t,rfl,rfl⟩ |⟨x,t,rfl,rfl⟩
  ·rcases ZM hb with ⟨j,u,rfl,e⟩ |⟨y,u,rfl,e⟩
   ·injection e with e1 _;rw[e1]
   ·exact nomatch e
  ·rcases ZM hb with ⟨j,u,rfl,e⟩ |⟨y,u,rfl,e⟩
   ·exact nomatch e
   ·injection e with e1 _;rw[e1]
 byValue:=fun k v h=>by
  rcases ZM h with ⟨i,t,rfl,rfl⟩ |⟨x,t,rfl,rfl⟩<;>rfl
 pyHash:=fun hv h=>by
  rcases ZM hv with ⟨i,t,rfl,rfl⟩ |⟨x,t,rfl,rfl⟩
  ·exact wpAny_pyHash_int h
  ·exact wpAny_pyHash_str h
 eqBool:=fun hu hv h=>by
  rcases ZM hu with ⟨i,t,rfl,rfl⟩ |⟨x,t,rfl,rfl⟩
  ·rcases ZM hv with ⟨j,u,rfl,rfl⟩ |⟨y,u,rfl,rfl⟩
   ·rw[Qt]at h;exact wpAny_eqBool_int h
   ·rw[Qu]at h;exact SeqAt.EqAt.int_str i t y u _ _ _ _ h
  ·rcases ZM hv with ⟨j,u,rfl,rfl⟩ |⟨y,u,rfl,rfl⟩
   ·rw[Qv]at h;exact SeqAt.EqAt.str_int x t j u _ _ _ _ h
   ·rw[Qw]at h;exact wpAny_eqBool_str h
 «strs» :=fun k x t v h=>by
  rcases ZM h with ⟨i,u,rfl,e⟩ |⟨y,u,rfl,e⟩
  ·exact nomatch e
  ·injection e with e1 _
   subst e1
   cases v<;>rfl
theorem Vc (prog:Program) (w:World) (i:Int) (t:Tok):(dU prog w).is (.inl i) (.int i t)=true:=Tj i t
theorem Vd (prog:Program) (w:World) (x:Str) (t:Tok):(dU prog w).is (.inr x) (.str x t)=true:=Tn x t
inductive V where
 |ah |bl (b:Bool) |int (i:Int) |str (x:Str) |ig (b:Array UInt8) |iU (b:UInt64) |ref (a:Addr) |ty (n:String)
 deriving DecidableEq
def RelV:V->Value->Prop
 | .ah,u=>u=Value.none
 | .bl b,u=>u=Value.bool b
 | .int i,u=> ∃t,u=Value.int i t
 | .str x,u=> ∃t,u=Value.str x t
 | .ig b,u=> ∃t,u=Value.bytes b t
 | .iU b,u=> ∃t,u=Value.float b t
 | .ref a,u=>u=Value.ref a
 | .ty n,u=>u=Value.type n
abbrev Vals:List V->List Value->Prop:=Paired RelV
theorem Vals.length {xs:List V}{us:List Value}(r:Vals xs us):xs.length=us.length:=ZaA r
theorem Vals.get:∀{xs:List V}{us:List Value}{i:Nat}{x:V},Vals xs us->xs[i]? =some x->∃u,us[i]? =some u/\RelV x u
 |_,_,_,_,.nil,e=>by simp at e
 |_,_,0,_,.cons r _,e=>by simp at e;subst e;exact⟨_,rfl,r⟩
 |_,_,i+1,x,.cons _ t,e=>by
  obtain⟨u,h1,h2⟩:=Vals.get (i:=i) (x:=x) t (by simpa using e)
  exact⟨u,by simpa using h1,h2⟩
theorem Vals.set {x:V}{u:Value}(r:RelV x u):∀{xs:List V}{us:List Value}(i:Nat),Vals xs us->Vals (xs.set i x) (us.set i u)
 |_,_,_,.nil=> .nil
 |_,_,0,.cons _ t=> .cons r t
 |_,_,i+1,.cons q t=> .cons q (Vals.set r i t)
theorem Vals.append:∀{xs ys:List V}{us ws:List Value},Vals xs us->Vals ys ws->Vals (xs++ys) (us++ws)
 |_,_,_,_,.nil,s=>s
 |_,_,_,_,.cons r t,s=> .cons r (Vals.append t s)
theorem Vals.take:∀{xs:List V}{us:List Value}(n:Nat),Vals xs us->Vals (xs.take n) (us.take n)
 |_,_,0,_=> .nil
 |_,_,_+1,.nil=> .nil
 |_,_,n+1,.cons r t=> .cons r (Vals.take n t)
theorem Vals.drop:∀{xs:List V}{us:List Value}(n:Nat),Vals xs us->Vals (xs.drop n) (us.drop n)
 |_,_,0,r=>r
 |_,_,_+1,.nil=> .nil
 |_,_,n+1,.cons _ t=>Vals.drop n t
def gN:Option V->Option Value->Prop
 |some v,some u=>RelV v u
 |none,none=>True
 |_,_=>False
def KV {κ:Type} :List (κ×V)->List (κ×Value)->Prop:=Paired fun(p:κ×V) (q:κ×Value)=>p.1=q.1/\RelV p.2 q.2
def kV:Key->V
 | .inl i=> .int i
 | .inr x=> .str x
inductive HO where
  |lst (xs:List V)
  |tup (xs:List V)
  |par (xs:List V)
  |dK (ae:List (Key×V)) |dT (ae:List (List Key×V))
  |set (S:Int->Bool) (n:Nat)
  |ins (C dx:Addr) (fs:List (Str×V))
  |own (x:Addr)
  |xd (fs:List (Str×V))
  |met (f x:Addr)
  |sO (lo hi:Int)
  |cD (o:Obj) (u:HO)
  |cz (ps:Array Value)
  |ext (φ:Heap->Prop)
abbrev Hp:=Addr->Option HO
def upd (H:Hp) (a:Addr) (o:HO):Hp:=fun b=>if b=a then some o else H b
theorem Zc {H:Hp}{a:Addr}{o:HO} :upd H a o a=some o:=by unfold upd;rw[Zay rfl]
theorem Zi {H:Hp}{a b:Addr}{o:HO}(h:b≠a):upd H a o b=H b:=by unfold upd;rw[Zav h]
theorem Wt {H:Hp}{a b:Addr}{o u:HO}(h:H a=some o) (h':H b=some u) (d:o≠u):a≠b:=by
 intro e;subst e;rw[h]at h';exact d (ZaV h')
theorem Ze {H:Hp}{a b:Addr}{o:HO}(h:H a=some o) (h':H b=none):a≠b:=by
 intro e;subst e;rw[h]at h';cases h'
section
variable (P:Program) (w:World)
def bt (H:Hp) (h:Heap) (a:Addr):HO->Prop
 | .lst xs=>xs.length<=sizeLine/\∃(aa:List Value) (n:Nat),Vals xs aa/\h.get? a=some {cls:=.type "list",data:=.seq aa.toArray n}
 | .tup xs=>xs.length<=sizeLine/\∃aa:List Value,Vals xs aa/\IsTup h a aa.toArray/\∃o,h.get? a=some o/\o.dict=none
 | .par xs=>xs.length<=sizeLine/\∃aa:List Value,Vals xs aa/\IsTup h a aa.toArray
 | .dK ae=>ae.length<=sizeLine/\(a==sysModules)=false/\∃vs,KV ae vs/\h.DictOf (dU P w) a vs
 | .dT ae=>ae.length<=sizeLine/\(a==sysModules)=false/\∃xs:List (List Key×Addr×Value),
   Paired (fun(p:List Key×V) (q:List Key×Addr×Value)=>p.1=q.1/\H q.2.1=some (.tup (p.1.map kV))/\RelV p.2 q.2.2) ae xs/\
   ∃o es ep,h.get? a=some o/\o.ExactDict/\o.data=.dict es ep/\es.toList=xs.map (entryOfKey (tupleKind (dU P w)))/\(xs.map (·.1)).Nodup
 | .set S n=>h.SetOf (intKind P w) a S n
 | .ins C dx fs=>H dx=some (.own a)/\fs.length<=1000/\dx≠a/\h.get? a=some (PySem.W.instObj C dx)/\
   ∃mA,h.Ns1 dx mA/\(∀f,gN (fs.lookup f) (mA f))/\PySem.Within mA (fs.map (·.1))
 | .own _=> ∃o,h.get? a=some o
 | .xd fs=> ∃mA,h.Ns1 a mA/\∀f,gN (fs.lookup f) (mA f)
 | .sO lo hi=> ∃t u v,h.get? a=some {cls:=.type "range",data:=.fields #[.int lo t,.int hi u,.int 1 v]}
 | .cD o u=>h.get? a=some o/\bt H h a u
 | .cz ps=>h.get? a=some {cls:=.none,data:=.fields ps}
 | .met f x=>h.get? a=some (PySem.W.methodObj (.ref f) (.ref x))
 | .ext φ=>φ h/\(∃o,h.get? a=some o)/\∀h1 h2:Heap,φ h1->(∀o,h1.get? a=some o->h2.get? a=some o)->φ h2
def bw (H:Hp) (h:Heap):Prop:=∀a o,H a=some o->bt P w H h a o
end
section
variable {P:Program}{w:World}{H H':Hp}{h h':Heap}{a:Addr}{o:HO}
theorem bt.lt (x:bt P w H h a o):a<h.objs.size:=by
 cases o with
 |lst xs=>obtain⟨_,_,_,_,e⟩:=x;exact Zad e
 |tup xs=>obtain⟨_,_,_,p,_⟩:=x;exact p.lt
 |par xs=>obtain⟨_,_,_,p⟩:=x;exact p.lt
 |dK ae=>obtain⟨_,_,_,_,o,_,_,e,_⟩:=x;exact Zad e
 |dT ae=>obtain⟨_,_,_,_,o,_,_,e,_⟩:=x;exact Zad e
 |set S n=>obtain⟨o,_,_,_,e,_⟩:=x;exact Zad e
 |ins C dx fs=>obtain⟨_,_,_,e,_⟩:=x;exact Zad e
 |own y=>obtain⟨_,e⟩:=x;exact Zad e
 |xd fs=>obtain⟨_,⟨_,_,_,e,_⟩,_⟩:=x;exact Zad e
 |sO lo hi=>obtain⟨_,_,_,e⟩:=x;exact Zad e
 |cD ob u=>obtain⟨e,_⟩:=x;exact Zad e
 |cz ps=>exact Zad (show h.get? a=some _ from x)
 |met f y=>exact Zad (show h.get? a=some _ from x)
 |ext φ=>obtain⟨_,⟨_,e⟩,_⟩:=x;exact Zad e
theorem Paired.aS {α β:Type}{F G:α->β->Prop} :∀{kS:List α}{kQ:List β},Paired F kS kQ->(∀a b,F a b->G a b)->Paired G kS kQ
 |_,_,.nil,_=> .nil
 |_,_,.cons r t,f=> .cons (f _ _ r) (Paired.aS t f)
theorem bt.cg (x:bt P w H h a o) (k:∀b u,(b=a∨H b=some (.own a))->h.get? b=some u->h'.get? b=some u)
  (ho:∀b,H b=some (.own a)->H' b=some (.own a)) (ht:∀b xs,H b=some (.tup xs)->H' b=some (.tup xs)):bt P w H' h' a o:=by
 induction o with
 |lst xs=>obtain⟨z,aa,n,r,e⟩:=x;exact⟨z,aa,n,r,k _ _ (.inl rfl) e⟩
 |tup xs=>obtain⟨z,aa,r,⟨ob,e,c⟩,o2,e2,c2⟩:=x;exact⟨z,aa,r,⟨ob,k _ _ (.inl rfl) e,c⟩,o2,k _ _ (.inl rfl) e2,c2⟩
 |par xs=>obtain⟨z,aa,r,ob,e,c⟩:=x;exact⟨z,aa,r,ob,k _ _ (.inl rfl) e,c⟩
 |dK ae=>obtain⟨z,y,vs,r,ob,es,ep,e,c⟩:=x;exact⟨z,y,vs,r,ob,es,ep,k _ _ (.inl rfl) e,c⟩
 |dT ae=>
  obtain⟨z,y,xs,r,ob,es,ep,e,c⟩:=x
  exact⟨z,y,xs,Paired.aS r fun p q z=> ⟨z.1,ht _ _ z.2.1,z.2.2⟩,ob,es,ep,k _ _ (.inl rfl) e,c⟩
 |set S n=>obtain⟨ob,es,ep,t,e,c⟩:=x;exact⟨ob,es,ep,t,k _ _ (.inl rfl) e,c⟩
 |ins C dx fs=>
  obtain⟨d,z,ne,e,mA,⟨od,es,ep,e2,c⟩,r⟩:=x
  exact⟨ho _ d,z,ne,k _ _ (.inl rfl) e,mA,⟨od,es,ep,k _ _ (.inr d) e2,c⟩,r⟩
 |own y=>obtain⟨ob,e⟩:=x;exact⟨ob,k _ _ (.inl rfl) e⟩
 |xd fs=>obtain⟨mA,⟨od,es,ep,e,c⟩,r⟩:=x;exact⟨mA,⟨od,es,ep,k _ _ (.inl rfl) e,c⟩,r⟩
 |sO lo hi=>obtain⟨t,u,v,e⟩:=x;exact⟨t,u,v,k _ _ (.inl rfl) e⟩
 |cD ob u ih=>obtain⟨e,q⟩:=x;exact⟨k _ _ (.inl rfl) e,ih q⟩
 |cz ps=>
  have e:h.get? a=some {cls:=.none,data:=.fields ps} :=x
  show h'.get? a=some {cls:=.none,data:=.fields ps}
  exact k a _ (.inl rfl) e
 |met f y=>
  have e:h.get? a=some (PySem.W.methodObj (.ref f) (.ref y)):=x
  show h'.get? a=some (PySem.W.methodObj (.ref f) (.ref y))
  exact k a _ (.inl rfl) e
 |ext φ=>obtain⟨p,⟨o,e⟩,st⟩:=x;exact⟨st _ _ p fun o q=>k _ _ (.inl rfl) q,⟨o,k _ _ (.inl rfl) e⟩,st⟩
theorem bw.lt (x:bw P w H h) (e:H a=some o):a<h.objs.size:=(x a o e).lt
theorem bw.fresh (x:bw P w H h) (e:h.objs.size<=a):H a=none:=by
 cases q:H a with
 |none=>rfl
 |some u=>exact absurd (Zar (x.lt q) e) (Zba _)
theorem bw.kept (x:bw P w H h) (k:∀b u,h.get? b=some u->h'.get? b=some u):bw P w H h':=fun a o e=>
 (x a o e).cg (fun b u _ q=>k b u q) (fun _ q=>q) fun _ _ q=>q
theorem bw.laid (x:bw P w H h) (k:∀b u,h.get? b=some u->h'.get? b=some u) (hp:h.objs.size<=a) (new:bt P w (upd H a o) h' a o):bw P w (upd H a o) h':=fun b u e=>by
 have hn:=x.fresh hp
 by_cases hb:b=a
 ·subst hb;rw[Zc]at e;cases e;exact new
 ·rw[Zi hb]at e
  exact(x b u e).cg (fun c v _ q=>k c v q) (fun c q=>by rw[Zi (Ze q hn)];exact q) fun c xs q=>by rw[Zi (Ze q hn)];exact q
end
def Rd (H:Hp) (a:Addr) (u:HO):Prop:=H a=some u∨∃o,H a=some (.cD o u)
theorem Rd.ok {P:Program}{w:World}{H:Hp}{h:Heap}{a:Addr}{u:HO}(r:Rd H a u) (x:bw P w H h):bt P w H h a u:=by
 rcases r with r |⟨o,r⟩
 ·exact x a u r
 ·obtain⟨_,q⟩:=x a _ r
  exact q
def rb:Option HO->Prop
 |some (.lst _)=>True
 |some (.dK _)=>True
 |some (.dT _)=>True
 |some (.set _ _)=>True
 |some (.ins _ _ _)=>True
 |some (.ext _)=>True
 |_=>False
section
variable {P:Program}{w:World}{H:Hp}{h h':Heap}{x e:Addr}{o':HO}
theorem bw.write (ok:bw P w H h) (mu:rb (H x)) (he:e=x∨H e=some (.own x)) (k:∀b u,b≠e->h.get? b=some u->h'.get? b=some u) (oD:∃u,h'.get? e=some u)
  (new:bt P w (upd H x o') h' x o'):bw P w (upd H x o') h':=fun b u q=>by
 have Bm:∀c y,H c=some (.own y)->c≠x:=fun c y r z=>by subst z;rw[r]at mu;exact mu
 have Kv:∀c xs,H c=some (.tup xs)->c≠x:=fun c xs r z=>by subst z;rw[r]at mu;exact mu
 by_cases hb:b=x
 ·subst hb;rw[Zc]at q;cases q;exact new
 ·rw[Zi hb]at q
  by_cases js:b=e
  ·have q':H b=some (.own x):=by
    rcases he with z |z
    ·exact absurd (js.trans z) hb
    ·rw[js];exact z
   rw[q]at q';cases q'
   obtain⟨v,hv⟩:=oD
   exact⟨v,by rw[js];exact hv⟩
  ·refine(ok b u q).cg (fun c v hc r=>k c v ?_ r) (fun c r=>by rw[Zi (Bm c b r)];exact r) fun c xs r=>by rw[Zi (Kv c xs r)];exact r
   rcases hc with rfl |hc
   ·exact js
   ·rintro rfl
    rcases he with z |z
    ·exact Bm c b hc z
    ·rw[hc]at z;cases z;exact hb rfl
end
structure Un (fs ex:List Addr) (H H':Hp) (h h':Heap):Prop where
 keep:∀b o,h.get? b=some o->H b=none->b∉fs->b∉ex->h'.get? b=some o
 slot:∀b o,h.get? b=some o->H b=none->b∈fs->b∉ex->∃sl,h'.get? b=some {o with slots:=sl}
 free:∀b o,h.get? b=some o->H b=none->b∉ex->H' b=none
 there:∀b o,h.get? b=some o->b∉ex->∃o',h'.get? b=some o'
 fQ:∀b xs,H b=some (.tup xs)->H' b=some (.tup xs)
 fL:∀b o u,H b=some (.cD o u)->H' b=some (.cD o u)
 fv:∀b ps,H b=some (.cz ps)->∃more,H' b=some (.cz (ps++more))
section
variable {fs Of ex XS:List Addr}{H H1 H2:Hp}{h h1 h2 h':Heap}{a x e:Addr}{o:HO}
theorem Un.any (u:Un fs ex H H1 h h1) {b:Addr}{ob:Obj}(q:h.get? b=some ob) (n:H b=none) (hx:b∉ex):∃sl,h1.get? b=some {ob with slots:=sl} :=by
 by_cases hb:b∈fs
 ·exact u.slot b ob q n hb hx
 ·exact⟨ob.slots,u.keep b ob q n hb hx⟩
theorem Un.kept (k:∀b u,h.get? b=some u->h'.get? b=some u):Un fs ex H H h h':=
 ⟨fun b ob q _ _ _=>k b ob q,fun b ob q _ _ _=> ⟨ob.slots,k b ob q⟩,fun _ _ _ n _=>n,fun b ob q _=> ⟨ob,k b ob q⟩,fun _ _ q=>q,fun _ _ _ q=>q,fun _ ps q=> ⟨#[],by rw[q];simp⟩⟩
theorem Un.refl:Un fs ex H H h h:=Un.kept fun _ _ q=>q
theorem Un.laid (k:∀b u,h.get? b=some u->h'.get? b=some u) (hp:h.objs.size<=a) (hn:H a=none):Un fs ex H (upd H a o) h h' where
 keep:=fun b u q _ _ _=>k b u q
 slot:=fun b u q _ _ _=> ⟨u.slots,k b u q⟩
 free:=fun b u q n _=>by rw[Zi (Zan (Zar (Zad q) hp))];exact n
 there:=fun b u q _=> ⟨u,k b u q⟩
 fQ:=fun b xs q=>by rw[Zi (Ze q hn)];exact q
 fL:=fun b u xs q=>by rw[Zi (Ze q hn)];exact q
 fv:=fun b ps q=> ⟨#[],by rw[Zi (Ze q hn),q];simp⟩
theorem Un.write (mu:rb (H x)) (he:e=x∨H e=some (.own x)) (k:∀b u,b≠e->h.get? b=some u->h'.get? b=some u) (oD:∃u,h'.get? e=some u):Un fs ex H (upd H x o) h h':=by
 have hx:∀b,H b=none->b≠x:=fun b n z=>by subst z;rw[n]at mu;exact mu
 have hb:∀b,H b=none->b≠e:=fun b n z=>by
  subst z
  rcases he with r |r
  ·exact hx b n r
  ·rw[n]at r;cases r
 have hm:∀b u,H b=some u->¬rb (some u)->b≠x:=fun b u q nm z=>by subst z;rw[q]at mu;exact nm mu
 refine⟨fun b u q n _ _=>k b u (hb b n) q,fun b u q n _ _=> ⟨u.slots,k b u (hb b n) q⟩,fun b u q n _=>by rw[Zi (hx b n)];exact n,fun b u q _=> ?_,
  fun b xs q=>by rw[Zi (hm b _ q fun z=>z)];exact q,fun b u xs q=>by rw[Zi (hm b _ q fun z=>z)];exact q,fun b ps q=> ⟨#[],by rw[Zi (hm b _ q fun z=>z),q];simp⟩⟩
 by_cases js:b=e
 ·subst js;exact oD
 ·exact⟨u,k b u js q⟩
end
def rH (h:Heap) (H:Hp):List Addr:=(List.range h.objs.size).filter fun a=> (H a).isSome
def hG (h:Heap) (H:Hp):Heap:=PySem.W.hideAll h (rH h H)
theorem Up (h:Heap) (H:Hp):(hG h H).objs.size=h.objs.size:=PySem.W.hideAll_size _ _
theorem FH {h:Heap}{H:Hp}{b:Addr}{o:Obj}(e:h.get? b=some o) (n:H b=none):(hG h H).get? b=some o:=
 PySem.W.hideAll_get _ e fun hm=>by
  have q:(H b).isSome=true:=(ZaW.mp hm).2
  rw[n]at q;simp at q
theorem EE {h:Heap}{H:Hp}{b:Addr}{o:Obj}(e:(hG h H).get? b=some o):h.get? b=some o/\H b=none:=by
 have e':h.get? b=some o:=PySem.W.of_hideAll (rH h H) e
 refine⟨e',?_⟩
 cases q:H b with
 |none=>rfl
 |some x=>
  have hm:b∈rH h H:=ZaW.mpr ⟨ZaU.mpr (Zad e'),by simp[q]⟩
  have z:(hG h H).get? b=none:=PySem.W.hideAll_none (rH h H) hm
  rw[z]at e;cases e
def Pr (g h:Heap) (L:Addr):List (Addr×Obj):=(List.range h.objs.size).filterMap fun a=>if a=L∨(g.get? a).isSome=true then none else (h.get? a).map fun o=> (a,o)
def rest (g h:Heap) (L d:Addr):List (Addr×Obj):=(Pr g h L).filter fun p=>decide (p.1≠d)
structure Mod (K:Zgc) (mg:Str->Option Value) (base:Heap):Prop where
 kU:K.In base
 glob:base.Ns mainGlobals mg
 blt:∃mb,base.Ns builtinsNs mb/\∀x:Str,x≠ "__name__" ->mb x=bootBuiltins x
 nolimit:base.NoLimit
structure Cx where
 prog:Program
 w:World
 K:Zgc
 mg:Str->Option Value
 base:Heap
 A:Around
 N:List Str
 bX:Shared
 kA:Hp
 env:Env
 outer:List Env
 stack:List Env
 ex:List Addr
 fn:Str->Bool
 calm:Bool
 pn:List (Addr×Obj)
 xe:Value->Shared->Prop
def aY (l:List Env):List Addr:=l.filterMap (·.frame)
abbrev Cx.fs (X:Cx):List Addr:=aY X.outer
def q0 (sc:Scope) (x:Str):Prop:=sc.names.lookup x=some .local∨sc.names.lookup x=some .cell∨sc.names.lookup x=some .free
def Loc (sc:Scope) (x:Str):Prop:=sc.names.lookup x=some .local∨sc.names.lookup x=some .cell
def Look (env:Env) (h:Heap) (m:Str->Option Value) (x:Str) (u:Value):Prop:=
 (env.kindOf x=some .local/\m x=some u)∨((env.kindOf x=some .cell∨env.kindOf x=some .free)/\∃c,env.cells.lookup x=some c/\h.IsCell c (some u))
structure Cx.Ok (X:Cx):Prop where
 mod:Mod X.K X.mg X.base
 kind:X.env.scope.kind=.function
 glob:X.env.globals=mainGlobals
 blt:X.env.builtins=builtinsNs
 above:X.bX.heap.objs.size<=X.env.locals
 inj:∀x y c,X.env.cells.lookup x=some c->X.env.cells.lookup y=some c->x=y
 has:∀x,(X.env.kindOf x=some .cell∨X.env.kindOf x=some .free)->∃c,X.env.cells.lookup x=some c
 kg:∀x c,X.fn x=true->X.env.cells.lookup x=some c->X.bX.heap.objs.size<=c
 hd:X.calm=true->X.A.handled=none
 frames:X.A.frames=some X.stack
 lL:X.stack=X.outer∨(X.stack=X.env::X.outer/\X.env.frame=some X.env.locals)
 kc:∀b∈X.ex,b≠X.env.locals/\∀x c,X.env.cells.lookup x=some c->c≠b
 bs:∀b o,X.base.get? b=some o->X.bX.heap.get? b=some o/\X.kA b=none
 iX:X.base.objs.size<=X.bX.heap.objs.size
 kN:∀b o,X.base.get? b=some o->b∉X.ex
 j9:∀b∈X.ex,b∉X.fs
 dJ:X.bX.heap.FunFrames X.base X.outer
 gM:∀b∈X.fs,X.kA b=none
structure Inv (X:Cx) (pins:List (Addr×Obj)) (σ:List (Option V)) (H:Hp) (s:Shared):Prop where
 ok:X.Ok
 os:s.os=X.bX.os
 bare:AllBare s.gens
 base:Un X.fs X.ex X.kA H X.bX.heap s.heap
 loc:∃m,s.heap.Ns X.env.locals m/\∀(i:Nat) (x:Str) (v:V),X.N[i]? =some x->σ[i]? =some (some v)->q0 X.env.scope x->∃u,RelV v u/\Look X.env s.heap m x u
 cell:∀x c,X.env.cells.lookup x=some c->∃v,s.heap.IsCell c v
 free:H X.env.locals=none
 fM:∀x c,X.env.cells.lookup x=some c->H c=none
 pin:∀p∈X.pn++pins,s.heap.get? p.1=some p.2/\H p.1=none/\p.1≠X.env.locals/\p.1∉X.fs/\∀v,p.2.data≠.cell v
 ak:bw X.prog X.w H s.heap
 len:σ.length=X.N.length
section
variable {X:Cx}{pins:List (Addr×Obj)}{σ:List (Option V)}{H H':Hp}{s:Shared}{h':Heap}
theorem Cx.Ok.Kz (ok:X.Ok) {b:Addr}{o:Obj}(e:X.base.get? b=some o):b∉X.fs:=fun hb=>by
 have:=(ok.dJ.mem hb).1
 rw[e]at this;cases this
theorem Inv.bs (I:Inv X pins σ H s):∀b o,X.base.get? b=some o->s.heap.get? b=some o/\H b=none:=fun b o e=>
 ⟨I.base.keep b o (I.ok.bs b o e).1 (I.ok.bs b o e).2 (I.ok.Kz e) (I.ok.kN b o e),I.base.free b o (I.ok.bs b o e).1 (I.ok.bs b o e).2 (I.ok.kN b o e)⟩
theorem Inv.bk (I:Inv X pins σ H s):∀b o,X.base.get? b=some o->s.heap.get? b=some o:=fun b o e=> (I.bs b o e).1
theorem Inv.mod (I:Inv X pins σ H s):Mod X.K X.mg X.base:=I.ok.mod
theorem Inv.bN (I:Inv X pins σ H s):X.K.In s.heap:=I.ok.mod.kU.keeps I.bk
theorem Inv.lt (I:Inv X pins σ H s):X.env.locals<s.heap.objs.size:=let ⟨_,hn,_⟩:=I.loc;hn.lt
theorem Inv.sz (I:Inv X pins σ H s):X.bX.heap.objs.size<=s.heap.objs.size:=Zbf I.ok.above (ZbD I.lt)
theorem Inv.Kx (I:Inv X pins σ H s) {a:Addr}(h:s.heap.objs.size<=a):a∉X.fs:=fun hb=>by
 obtain⟨_,o,ho,_⟩:=I.ok.dJ.mem hb
 exact absurd (Zar (Zad ho) (Zbf I.sz h)) (Zba _)
theorem Inv.hX (I:Inv X pins σ H s):∀x c,X.env.cells.lookup x=some c->c≠X.env.locals:=fun x c e z=>by
 obtain⟨v,o,ho,hd⟩:=I.cell x c e
 obtain⟨m,⟨o',es,ep,bE,gp,_⟩,_⟩:=I.loc
 rw[z,bE]at ho;cases ho;rw[gp]at hd;cases hd
theorem Inv.dJ (I:Inv X pins σ H s):s.heap.FunFrames X.base X.outer:=by
 have all:∀(l:List Env),(∀b∈aY l,b∈X.fs)->X.bX.heap.FunFrames X.base l->s.heap.FunFrames X.base l:=by
  intro l
  induction l with
  |nil=>intro _ _;trivial
  |cons env r ih=>
   intro hs hl
   obtain⟨hk,⟨L,o,hf,hn,ho,hd⟩,hr⟩:=hl
   have hL:L∈X.fs:=hs L (by unfold aY;rw[Zb2,hf];exact Zab)
   obtain⟨sl,e⟩:=I.base.slot L o ho (I.ok.gM L hL) hL fun z=>I.ok.j9 L z hL
   exact⟨hk,⟨L,_,hf,hn,e,hd⟩,ih (fun b hb=>hs b (by unfold aY;rw[Zb2,hf];exact Zaa _ hb)) hr⟩
 exact all X.outer (fun _ hb=>hb) I.ok.dJ
theorem Inv.stack (I:Inv X pins σ H s):s.heap.FunFrames X.base X.stack:=by
 rcases I.ok.lL with e |⟨e,hf⟩
 ·rw[e];exact I.dJ
 ·rw[e]
  obtain⟨m,hn,_⟩:=I.loc
  refine .cons (by rw[I.ok.kind];decide) hf hn ?_ I.dJ
  exact PySem.Heap.get?_none_of_le (Zbf I.ok.iX I.ok.above)
theorem Inv.rS (I:Inv X pins σ H s):∀b∈aY X.stack,b∈X.env.locals::X.fs:=fun b hb=>by
 rcases I.ok.lL with e |⟨e,hf⟩
 ·rw[e]at hb;exact Zaa _ hb
 ·rw[e]at hb
  unfold aY at hb
  rw[Zb2,hf]at hb
  exact hb
theorem Inv.ph (I:Inv X pins σ H s):∀b∈aY X.stack,H b=none:=fun b hb=>by
 rcases Zaj.mp (I.rS b hb) with e |hb
 ·rw[e];exact I.free
 ·obtain⟨_,o,ho,_⟩:=I.ok.dJ.mem hb
  exact I.base.free b o ho (I.ok.gM b hb) fun z=>I.ok.j9 b z hb
theorem Inv.step {g':Array GenState}{t':Nat}{d':Drawn}{ch:List Addr}(I:Inv X pins σ H s)
  (jq:∀b∈ch,(b∈X.ex∨X.bX.heap.objs.size<=b)/\b≠X.env.locals/\(∀x c,X.env.cells.lookup x=some c->c≠b)/\∀p∈X.pn++pins,p.1≠b)
  (keep:∀b o,b≠X.env.locals->b∉X.fs->b∉ch->s.heap.get? b=some o->H b=none->h'.get? b=some o)
  (slot:∀b o,b≠X.env.locals->b∈X.fs->b∉ch->s.heap.get? b=some o->H b=none->∃sl,h'.get? b=some {o with slots:=sl}) (free:∀b o,b∉ch->s.heap.get? b=some o->H b=none->H' b=none)
  (there:∀b o,b∉ch->s.heap.get? b=some o->∃o',h'.get? b=some o')
  (fQ:∀b xs,H b=some (.tup xs)->H' b=some (.tup xs)) (fL:∀b o u,H b=some (.cD o u)->H' b=some (.cD o u)) (fv:∀b ps,H b=some (.cz ps)->∃more,H' b=some (.cz (ps++more)))
  (ns:∀m,s.heap.Ns X.env.locals m->h'.Ns X.env.locals m) (ak:bw X.prog X.w H' h') (hg:AllBare g'):
  Inv X pins σ H' {s with heap:=h',gens:=g',drawn:=d',toks:=t'} :=by
 have Bv:∀b o,X.bX.heap.get? b=some o->b≠X.env.locals:=fun b o e=>Zan (Zar (Zad e) I.ok.above)
 have dS:∀b o,X.bX.heap.get? b=some o->b∉X.ex->b∉ch:=fun b o e hx hb=>by
  rcases (jq b hb).1 with z |z
  ·exact hx z
  ·exact absurd (Zar (Zad e) z) (Zba _)
 have cellK:∀x c,X.env.cells.lookup x=some c->∀v,s.heap.IsCell c v->h'.IsCell c v:=fun x c e v ⟨o,ho,hd⟩=>by
  have pP:c∉ch:=fun z=> (jq c z).2.2.1 x c e rfl
  by_cases hc:c∈X.fs
  ·obtain⟨sl,q⟩:=slot c o (I.hX x c e) hc pP ho (I.fM x c e)
   exact⟨_,q,hd⟩
  ·exact⟨o,keep c o (I.hX x c e) hc pP ho (I.fM x c e),hd⟩
 refine⟨I.ok,I.os,hg,⟨fun b o e n hb hx=> ?_,fun b o e n hb hx=> ?_,fun b o e n hx=> ?_,fun b o e hx=> ?_,fun b xs e=>fQ b xs (I.base.fQ b xs e),fun b o xs e=>fL b o xs (I.base.fL b o xs e),fun b ps e=> ?_⟩,?_,fun x c e=> ?_,?_,fun x c e=> ?_,fun p hp=> ?_,ak,I.len⟩
 ·exact keep b o (Bv b o e) hb (dS b o e hx) (I.base.keep b o e n hb hx) (I.base.free b o e n hx)
 ·obtain⟨sl,e1⟩:=I.base.slot b o e n hb hx
  obtain⟨Hr,e2⟩:=slot b _ (Bv b o e) hb (dS b o e hx) e1 (I.base.free b o e n hx)
  exact⟨Hr,e2⟩
 ·obtain⟨o',e1⟩:=I.base.there b o e hx
  exact free b o' (dS b o e hx) e1 (I.base.free b o e n hx)
 ·obtain⟨o',e1⟩:=I.base.there b o e hx
  exact there b o' (dS b o e hx) e1
 ·obtain⟨m1,e1⟩:=I.base.fv b ps e
  obtain⟨m2,e2⟩:=fv b _ e1
  exact⟨m1++m2,by rw[e2,Array.append_assoc]⟩
 ·obtain⟨m,hn,hl⟩:=I.loc
  refine⟨m,ns m hn,fun i x v e1 e2 e3=> ?_⟩
  obtain⟨u,r,l⟩:=hl i x v e1 e2 e3
  refine⟨u,r,?_⟩
  rcases l with l |⟨k,c,e,z⟩
  ·exact .inl l
  ·exact .inr ⟨k,c,e,cellK x c e _ z⟩
 ·obtain⟨v,z⟩:=I.cell x c e
  exact⟨v,cellK x c e v z⟩
 ·obtain⟨m,⟨o,_,_,ho,_⟩,_⟩:=I.loc
  exact free _ o (fun z=> (jq _ z).2.1 rfl) ho I.free
 ·obtain⟨v,o,ho,hd⟩:=I.cell x c e
  exact free c o (fun z=> (jq c z).2.2.1 x c e rfl) ho (I.fM x c e)
 ·obtain⟨e,n,ne,nf,d⟩:=I.pin p hp
  have pP:p.1∉ch:=fun z=> (jq p.1 z).2.2.2 p hp rfl
  exact⟨keep p.1 p.2 ne nf pP e n,free p.1 p.2 pP e n,ne,nf,d⟩
theorem Inv.un {t':Nat}(I:Inv X pins σ H s) (u:Un X.fs [] H H' s.heap h') (ak:bw X.prog X.w H' h'):Inv X pins σ H' {s with heap:=h',toks:=t'} :=by
 obtain⟨m,⟨o,es,ep,ho,r⟩,_⟩:=id I.loc
 obtain⟨sl,hL⟩:=u.any ho I.free (by simp)
 exact I.step (g':=s.gens) (d':=s.drawn) (ch:=[]) (fun _ z=>nomatch z) (fun b o _ hb _ e n=>u.keep b o e n hb (by simp)) (fun b o _ hb _ e n=>u.slot b o e n hb (by simp)) (fun b o _ e n=>u.free b o e n (by simp)) (fun b o _ e=>u.there b o e (by simp)) u.fQ u.fL u.fv (fun m' hm=>by
  obtain⟨o',cE,zd,bE,r'⟩:=hm
  rw[ho]at bE;cases bE
  exact⟨_,cE,zd,hL,r'⟩) ak I.bare
theorem Inv.call {g':Array GenState}{t':Nat}{d':Drawn}{ch:List Addr}(I:Inv X pins σ H s) (u:Un (aY X.stack) ch H H' s.heap h') (ak:bw X.prog X.w H' h') (hg:AllBare g')
  (jq:∀b∈ch,(b∈X.ex∨X.bX.heap.objs.size<=b)/\b≠X.env.locals/\(∀x c,X.env.cells.lookup x=some c->c≠b)/\∀p∈X.pn++pins,p.1≠b):
  Inv X pins σ H' {s with heap:=h',gens:=g',drawn:=d',toks:=t'} :=by
 obtain⟨m,⟨o,es,ep,ho,r⟩,_⟩:=id I.loc
 obtain⟨sl,hL⟩:=u.any ho I.free fun z=> (jq _ z).2.1 rfl
 exact I.step (ch:=ch) jq (fun b o hL hb hc e n=>u.keep b o e n (fun z=> (Zaj.mp (I.rS b z)).elim hL hb) hc) (fun b o _ _ hc e n=>u.any e n hc) (fun b o hc e n=>u.free b o e n hc) (fun b o hc e=>u.there b o e hc) u.fQ u.fL u.fv (fun m' hm=>by
  obtain⟨o',cE,zd,bE,r'⟩:=hm
  rw[ho]at bE;cases bE
  exact⟨_,cE,zd,hL,r'⟩) ak hg
theorem Inv.turned {t':Nat}{it:Addr}(I:Inv X pins σ H s) (k:∀b o,b≠it->s.heap.get? b=some o->h'.get? b=some o) (hn:H it=none) (hL:it≠X.env.locals)
  (h1:it∈X.ex∨X.bX.heap.objs.size<=it) (h2:∀x c,X.env.cells.lookup x=some c->c≠it) (h3:∀p∈X.pn++pins,p.1≠it):Inv X pins σ H {s with heap:=h',toks:=t'} :=by
 have Bu:∀b u,H b=some u->b≠it:=fun b u e z=>by rw[z,hn]at e;cases e
 refine I.step (g':=s.gens) (d':=s.drawn) (ch:=[it]) (fun b hb=> ?_) (fun b o _ _ hc e _=>k b o (fun z=>hc (by simp[z])) e) (fun b o _ _ hc e _=> ⟨o.slots,k b o (fun z=>hc (by simp[z])) e⟩) (fun _ _ _ _ n=>n)
  (fun b o hc e=> ⟨o,k b o (fun z=>hc (by simp[z])) e⟩) (fun _ _ e=>e) (fun _ _ _ e=>e) (fun b ps e=> ⟨#[],by rw[e];simp⟩) (fun m hm=> ?_) (fun b u e=> ?_) I.bare
 ·have e:b=it:=by simpa using hb
  subst e
  exact⟨h1,hL,h2,h3⟩
 ·obtain⟨o,es,ep,ho,r⟩:=hm
  exact⟨o,es,ep,k _ o (ZcE hL) ho,r⟩
 ·refine(I.ak b u e).cg (fun c v hc q=>k c v ?_ q) (fun _ q=>q) fun _ _ q=>q
  rcases hc with z |z
  ·rw[z];exact Bu b u e
  ·exact Bu c _ z
theorem Inv.tok (I:Inv X pins σ H s) (t:Nat):Inv X pins σ H {s with toks:=t} :=I.un (h':=s.heap) (t':=t) Un.refl I.ak
theorem Inv.kept {t':Nat}(I:Inv X pins σ H s) (k:∀b u,s.heap.get? b=some u->h'.get? b=some u):Inv X pins σ H {s with heap:=h',toks:=t'} :=I.un (Un.kept k) (I.ak.kept k)
theorem Inv.laid {a:Addr}{o:HO}{t':Nat}(I:Inv X pins σ H s) (k:∀b u,s.heap.get? b=some u->h'.get? b=some u) (hp:s.heap.objs.size<=a) (new:bt X.prog X.w (upd H a o) h' a o):
  Inv X pins σ (upd H a o) {s with heap:=h',toks:=t'} :=I.un (Un.laid k hp (I.ak.fresh hp)) (I.ak.laid k hp new)
theorem Inv.write {x e:Addr}{o:HO}{t':Nat}(I:Inv X pins σ H s) (mu:rb (H x)) (he:e=x∨H e=some (.own x)) (k:∀b u,b≠e->s.heap.get? b=some u->h'.get? b=some u) (oD:∃u,h'.get? e=some u)
  (new:bt X.prog X.w (upd H x o) h' x o):Inv X pins σ (upd H x o) {s with heap:=h',toks:=t'} :=I.un (Un.write mu he k oD) (I.ak.write mu he k oD new)
theorem Inv.Bd {Be:List (Addr×Obj)}(I:Inv X pins σ H s) (h:∀p∈Be,s.heap.get? p.1=some p.2/\H p.1=none/\p.1≠X.env.locals/\p.1∉X.fs/\∀v,p.2.data≠.cell v):Inv X Be σ H s:=
 ⟨I.ok,I.os,I.bare,I.base,I.loc,I.cell,I.free,I.fM,fun p hp=> (ZaG.mp hp).elim (fun z=>I.pin p (Zbb _ z)) (h p),I.ak,I.len⟩
theorem Wr {N:List Str}(hN:N.Nodup) {i j:Nat}{x:Str}(a:N[i]? =some x) (b:N[j]? =some x):i=j:=by
 obtain⟨h1,e1⟩:=X8.mp a
 obtain⟨h2,e2⟩:=X8.mp b
 exact(List.getElem_inj hN).mp (e1.trans e2.symm)
theorem W5 {M:Model}{A:Around}{E:Value->Shared->Prop}{i:Nat}{x:Str}{v:V}{u:Value}{Q:Unit->Shared->Prop}(I:Inv X pins σ H s) (hN:X.N.Nodup) (hi:X.N[i]? =some x) (hx:Loc X.env.scope x) (r:RelV v u)
  (h:∀s',Inv X pins (σ.set i (some v)) H s'->(∃a,Heap.SameBut a s.heap s'.heap/\(a=X.env.locals∨X.env.cells.lookup x=some a))->Q () s') (hf:X.fn x=true∨X.env.scope.names.lookup x=some .local:=by first |exact .inl rfl |exact .inr rfl |assumption):wpAny M A (storeName X.env x u) Q E s:=by
 obtain⟨m,hn,hl⟩:=id I.loc
 have yA:(X.env.scope.kind==.class||(X.env.scope.kind==.module&&X.env.locals !=X.env.globals))=false:=by rw[I.ok.kind];rfl
 have Cn:i<σ.length:=by rw[I.len];exact(X8.mp hi).1
 have hX:=I.hX
 have tracked:∀{a:Addr}{h':Heap},(∃o,s.heap.get? a=some o/\H a=none)->Heap.SameBut a s.heap h'->bw X.prog X.w H h':=fun {a h'} ha hs b ob e=>by
  obtain⟨_,_,Cr⟩:=ha
  refine(I.ak b ob e).cg (fun c w' hc q=> (hs.2 c ?_).trans q) (fun _ q=>q) fun _ _ q=>q
  rintro rfl
  rcases hc with rfl |hc
  ·rw[Cr]at e;cases e
  ·rw[Cr]at hc;cases hc
 rcases hx with hk |hk
 ·refine wpAny_storeName_local hk hn (fun h' qm hs=> ?_) yA
  obtain⟨oL,_,_,jX,_⟩:=id hn
  refine h _ ⟨I.ok,I.os,I.bare,⟨fun b o e n hb hx=> ?_,fun b o e n hb hx=> ?_,I.base.free,fun b o e hx=> ?_,I.base.fQ,I.base.fL,I.base.fv⟩,⟨_,qm,fun j y v' e1 e2 e3=> ?_⟩,fun y c e=> ?_,I.free,I.fM,fun p hp=> ?_,tracked ⟨oL,jX,I.free⟩ hs,by simpa using I.len⟩ ⟨_,hs,.inl rfl⟩
  ·exact(hs.2 b (Zan (Zar (Zad e) I.ok.above))).trans (I.base.keep b o e n hb hx)
  ·obtain⟨sl,e1⟩:=I.base.slot b o e n hb hx
   exact⟨sl,(hs.2 b (Zan (Zar (Zad e) I.ok.above))).trans e1⟩
  ·obtain⟨o',e1⟩:=I.base.there b o e hx
   exact⟨o',(hs.2 b (Zan (Zar (Zad e) I.ok.above))).trans e1⟩
  ·by_cases hj:j=i
   ·subst hj
    rw[hi]at e1;cases e1
    rw[List.getElem?_set_self Cn]at e2
    cases e2
    exact⟨u,r,.inl ⟨hk,by simp⟩⟩
   ·rw[List.getElem?_set_ne (ZcE hj)]at e2
    obtain⟨u',r',q⟩:=hl j y v' e1 e2 e3
    refine⟨u',r',?_⟩
    rcases q with ⟨k,e⟩ |⟨k,c,e,z⟩
    ·refine .inl ⟨k,?_⟩
     have:y≠x:=fun e=>hj (Wr hN e1 (e▸hi))
     simp[this,e]
    ·exact .inr ⟨k,c,e,z.sameBut hs (hX y c e)⟩
  ·obtain⟨w',z⟩:=I.cell y c e
   exact⟨w',z.sameBut hs (hX y c e)⟩
  ·obtain⟨e,n,ne,nf,d⟩:=I.pin p hp
   exact⟨(hs.2 p.1 ne).trans e,n,ne,nf,d⟩
 ·have gm:X.fn x=true:=by
   rcases hf with z |z
   ·exact z
   ·rw[z]at hk;cases hk
  obtain⟨c,hc⟩:=I.ok.has x (.inl hk)
  obtain⟨w',z⟩:=I.cell x c hc
  refine wpAny_storeName_cell I.ok.kind hk hc z (fun h' bC hs=> ?_)
  obtain⟨oc,Cc,MD⟩:=id z
  refine h {s with heap:=h'} ⟨I.ok,I.os,I.bare,⟨fun b o e n hb hx=> ?_,fun b o e n hb hx=> ?_,I.base.free,fun b o e hx=> ?_,I.base.fQ,I.base.fL,I.base.fv⟩,⟨m,hn.sameBut hs (ZcE (hX x c hc)),fun j y v' e1 e2 e3=> ?_⟩,fun y c' e=> ?_,I.free,I.fM,fun p hp=> ?_,tracked ⟨oc,Cc,I.fM x c hc⟩ hs,by simpa using I.len⟩ ⟨c,hs,.inr hc⟩
  ·exact(hs.2 b (Zan (Zar (Zad e) (I.ok.kg x c gm hc)))).trans (I.base.keep b o e n hb hx)
  ·obtain⟨sl,e1⟩:=I.base.slot b o e n hb hx
   exact⟨sl,(hs.2 b (Zan (Zar (Zad e) (I.ok.kg x c gm hc)))).trans e1⟩
  ·obtain⟨o',e1⟩:=I.base.there b o e hx
   exact⟨o',(hs.2 b (Zan (Zar (Zad e) (I.ok.kg x c gm hc)))).trans e1⟩
  ·by_cases hj:j=i
   ·subst hj
    rw[hi]at e1;cases e1
    rw[List.getElem?_set_self Cn]at e2
    cases e2
    exact⟨u,r,.inr ⟨.inl hk,c,hc,bC⟩⟩
   ·rw[List.getElem?_set_ne (ZcE hj)]at e2
    obtain⟨u',r',q⟩:=hl j y v' e1 e2 e3
    refine⟨u',r',?_⟩
    rcases q with q |⟨k,c',e,z'⟩
    ·exact .inl q
    ·refine .inr ⟨k,c',e,z'.sameBut hs ?_⟩
     rintro rfl
     exact hj (Wr hN e1 (I.ok.inj _ _ _ e hc▸hi))
  ·by_cases jr:c'=c
   ·subst jr;exact⟨_,bC⟩
   ·obtain⟨w2,z2⟩:=I.cell y c' e
    exact⟨w2,z2.sameBut hs jr⟩
  ·obtain⟨e,n,ne,nf,d⟩:=I.pin p hp
   refine⟨(hs.2 p.1 ?_).trans e,n,ne,nf,d⟩
   intro q
   rw[q,Cc]at e
   have q':oc=p.2:=ZaV e
   exact d w' (by rw[<-q'];exact MD)
theorem Yt {M:Model}{A:Around}{E:Value->Shared->Prop}{i:Nat}{x:Str}{v:V}{u:Value}{Q:Unit->Shared->Prop}(I:Inv X pins σ H s) (hN:X.N.Nodup) (hi:X.N[i]? =some x) (hx:Loc X.env.scope x) (r:RelV v u)
  (h:∀s',Inv X pins (σ.set i (some v)) H s'->Q () s') (hf:X.fn x=true∨X.env.scope.names.lookup x=some .local:=by first |exact .inl rfl |exact .inr rfl |assumption):wpAny M A (storeName X.env x u) Q E s:=
 W5 I hN hi hx r (fun s' I' _=>h s' I') hf
theorem Inv.zt {s':Shared}{ch:List Addr}(I:Inv X pins σ H s) (ho:s'.os=s.os) (u:Un (aY X.stack) ch H H' s.heap s'.heap) (ak:bw X.prog X.w H' s'.heap) (hg:AllBare s'.gens)
  (jq:∀b∈ch,(b∈X.ex∨X.bX.heap.objs.size<=b)/\b≠X.env.locals/\(∀x c,X.env.cells.lookup x=some c->c≠b)/\∀p∈X.pn++pins,p.1≠b):Inv X pins σ H' s':=by
 obtain⟨h',g',d',t',o'⟩:=s'
 have e:o'=s.os:=ho
 subst e
 exact I.call (g':=g') (t':=t') (d':=d') u ak hg jq
end
abbrev XK:=Value->Option Addr->Hp->Prop
abbrev St:=List (Option V)
abbrev VK:=V->Hp->Prop
abbrev TE:=St->Hp->VK->Prop
abbrev TT:=St->Hp->(Bool->Hp->Prop)->Prop
abbrev TA:=St->Hp->(List V->Hp->Prop)->Prop
structure Ends where
 nx:St->Hp->Prop
 rt:VK
 bk:St->Hp->Prop:=fun _ _=>False
 ct:St->Hp->Prop:=fun _ _=>False
abbrev TS:=Ends->St->Hp->Prop
def EP (X:Cx) (pins:List (Addr×Obj)) (σ:St) (Q:VK) (u:Value) (s':Shared):Prop:=∃v H',Inv X pins σ H' s'/\RelV v u/\Q v H'
def TP (X:Cx) (pins:List (Addr×Obj)) (σ:St) (Q:Bool->Hp->Prop) (b:Bool) (s':Shared):Prop:=∃H',Inv X pins σ H' s'/\Q b H'
def AP (X:Cx) (pins:List (Addr×Obj)) (σ:St) (Q:List V->Hp->Prop) (us:List Value) (s':Shared):Prop:=∃vs H',Inv X pins σ H' s'/\Vals vs us/\Q vs H'
def SP (X:Cx) (pins:List (Addr×Obj)) (D:Ends) (f:Flow) (s':Shared):Prop:=
 match f with
 | .next=> ∃aj H',Inv X pins aj H' s'/\D.nx aj H'
 | .brk=> ∃aj H',Inv X pins aj H' s'/\D.bk aj H'
 | .cont=> ∃aj H',Inv X pins aj H' s'/\D.ct aj H'
 | .ret u=> ∃v aj H',Inv X pins aj H' s'/\RelV v u/\D.rt v H'
def PE (X:Cx) (e:Expr) (t:TE):Prop:=
 ∀(pins:List (Addr×Obj)) (s:Shared) (σ:St) (H:Hp) (Q:VK),Inv X pins σ H s->t σ H Q->wpAny (model X.prog X.w) X.A (eval e X.env) (EP X pins σ Q) X.xe s
def PT (X:Cx) (e:Expr) (t:TT):Prop:=
 ∀(pins:List (Addr×Obj)) (s:Shared) (σ:St) (H:Hp) (Q:Bool->Hp->Prop),Inv X pins σ H s->t σ H Q->wpAny (model X.prog X.w) X.A (isTrue e X.env (eval e X.env)) (TP X pins σ Q) X.xe s
def PW (X:Cx) (e:Expr) (t:TT):Prop:=
 ∀(whole:Sem Value) (pins:List (Addr×Obj)) (s:Shared) (σ:St) (H:Hp) (Q:Bool->Hp->Prop),Inv X pins σ H s->t σ H Q->wpAny (model X.prog X.w) X.A (isTrue e X.env whole) (TP X pins σ Q) X.xe s
theorem PW.pt {X:Cx}{e:Expr}{t:TT}(h:PW X e t):PT X e t:=h _
def PA (X:Cx) (es:List Expr) (t:TA):Prop:=
 ∀(pos:Pos) (pins:List (Addr×Obj)) (s:Shared) (σ:St) (H:Hp) (Q:List V->Hp->Prop),Inv X pins σ H s->t σ H Q->wpAny (model X.prog X.w) X.A (spliced (backTo pos (starEach es X.env))) (AP X pins σ Q) X.xe s
def PS (X:Cx) (st:Stmt) (t:TS):Prop:=
 ∀(pins:List (Addr×Obj)) (s:Shared) (σ:St) (H:Hp) (D:Ends),Inv X pins σ H s->t D σ H->wpAny (model X.prog X.w) X.A (exec st X.env) (SP X pins D) X.xe s
def eB (X:Cx) (st:List Stmt) (t:TS):Prop:=
 ∀(pins:List (Addr×Obj)) (s:Shared) (σ:St) (H:Hp) (D:Ends),Inv X pins σ H s->t D σ H->wpAny (model X.prog X.w) X.A (execs st X.env) (SP X pins D) X.xe s
theorem au {α:Type}{t:Sem α}{Q Q':α->Shared->Prop}{M:Model}{A:Around}{E:Value->Shared->Prop}{s:Shared}(h:wpAny M A t Q E s) (hQ:∀a s,Q a s->Q' a s):wpAny M A t Q' E s:=ZaL h hQ fun _ _ x=>x
section
variable {X:Cx}
def pd (i:Nat):TE:=fun σ H Q=> ∃v,σ[i]? =some (some v)/\Q v H
def tC (v:V):TE:=fun _ H Q=>Q v H
theorem UK {i:Nat}{x:Str}{pos:Pos}(hN:X.N[i]? =some x) (hv:q0 X.env.scope x) (hd:(x==("__debug__" :Str))=false:=by decide) (cO:(x==("__classdict__" :Str))=false:=by decide):PE X (.Name x pos) (pd i):=by
 intro pins s σ H Q I h
 obtain⟨v,e,h⟩:=h
 obtain⟨m,hn,hl⟩:=I.loc
 obtain⟨u,r,l⟩:=hl i x v hN e hv
 have fin:EP X pins σ Q u s:=⟨v,H,I,r,h⟩
 rcases l with ⟨hk,hm⟩ |⟨hk,c,hc,lj⟩
 ·exact wpAny_Name (wpAny_loadName_local I.ok.kind hk hn hm fin) hd
 ·rcases hk with hk |hk
  ·exact wpAny_Name (wpAny_loadName_cell I.ok.kind hk hc lj fin) hd
  ·exact wpAny_Name (wpAny_loadName_free I.ok.kind hk hc lj fin cO) hd
theorem Zg {i j pos} :PE X (.Constant (.int i) j pos) (tC (.int i)):=fun _ _ _ H _ I h=>wpAny_Constant_int ⟨.int i,H,I.tok _,⟨_,rfl⟩,h⟩
theorem Wl {b j pos} :PE X (.Constant (.bool b) j pos) (tC (.bl b)):=fun _ _ _ H _ I h=>Constant_bool ⟨.bl b,H,I,rfl,h⟩
theorem Jx {j pos} :PE X (.Constant .none j pos) (tC .ah):=fun _ _ _ H _ I h=>Constant_none ⟨.ah,H,I,rfl,h⟩
theorem Jw {x j pos} :PE X (.Constant (.str x) j pos) (tC (.str x)):=fun _ _ _ H _ I h=>Calls.Constant_str ⟨.str x,H,I.tok _,⟨_,rfl⟩,h⟩
def Gl (X:Cx) (x:Str):Prop:=X.env.kindOf x=some .globalImplicit
theorem YX {E:Value->Shared->Prop}{pins:List (Addr×Obj)}{s:Shared}{σ:St}{H:Hp}{x:Str}{u:Value}{pos:Pos}{Q:Value->Shared->Prop}(I:Inv X pins σ H s) (hg:Gl X x) (hm:X.mg x=some u) (h:Q u s)
  (hd:(x==("__debug__" :Str))=false:=by decide):wpAny (model X.prog X.w) X.A (eval (.Name x pos) X.env) Q E s:=
 PySem.Calls.Name_function_global I.ok.kind hg (Calls.loadGlobal_global (by rw[I.ok.glob];exact I.mod.glob.keeps I.bk) hm h) hd
theorem ZU {E:Value->Shared->Prop}{pins:List (Addr×Obj)}{s:Shared}{σ:St}{H:Hp}{x:Str}{u:Value}{pos:Pos}{Q:Value->Shared->Prop}(I:Inv X pins σ H s) (hg:Gl X x) (hm:X.mg x=none) (hv:bootBuiltins x=some u) (h:Q u s)
  (hn:x≠ "__name__" :=by decide) (hd:(x==("__debug__" :Str))=false:=by decide):wpAny (model X.prog X.w) X.A (eval (.Name x pos) X.env) Q E s:=by
 obtain⟨mb,h1,h2⟩:=I.mod.blt
 exact PySem.Calls.Name_function_global I.ok.kind hg (Calls.loadGlobal_builtin (by rw[I.ok.glob];exact I.mod.glob.keeps I.bk) hm (by rw[I.ok.blt];exact h1.keeps I.bk) ((h2 x hn).trans hv) h) hd
theorem Z6 {x:Str}{v:V}{u:Value}{pos:Pos}(hg:Gl X x) (hm:X.mg x=some u) (r:RelV v u) (hd:(x==("__debug__" :Str))=false:=by decide):PE X (.Name x pos) (tC v):=
 fun _ _ _ H _ I h=>YX I hg hm ⟨v,H,I,r,h⟩ hd
theorem ZB {x:Str}{v:V}{u:Value}{pos:Pos}(hg:Gl X x) (hm:X.mg x=none) (hv:bootBuiltins x=some u) (r:RelV v u) (hn:x≠ "__name__" :=by decide) (hd:(x==("__debug__" :Str))=false:=by decide):PE X (.Name x pos) (tC v):=
 fun _ _ _ H _ I h=>ZU I hg hm hv ⟨v,H,I,r,h⟩ hn hd
variable {a b:Expr}{ta tb:TE}{pos:Pos}
def PC (X:Cx) (op:CmpOp) (a b:Expr) (t:TE):Prop:=
 ∀(pins:List (Addr×Obj)) (s:Shared) (σ:St) (H:Hp) (Q:VK),Inv X pins σ H s->t σ H Q->
  wpAny (model X.prog X.w) X.A (eval a X.env) (fun v aF=>wpAny (model X.prog X.w) X.A (eval b X.env) (fun u fU=>wpAny (model X.prog X.w) X.A (compareOp op v u) (EP X pins σ Q) X.xe fU) X.xe aF) X.xe s
theorem Br (b:Expr) {op:CmpOp}(h:op≠.In) (h2:op≠.NotIn):behindInMarks op b=false:=by
 have e1:(op==CmpOp.In)=false:=by cases op<;>first |rfl |exact absurd rfl h
 have e2:(op==CmpOp.NotIn)=false:=by cases op<;>first |rfl |exact absurd rfl h2
 cases b<;>simp[behindInMarks,e1,e2]
def GZ (ta:TE):TE:=fun σ H Q=>ta σ H fun x H1=>Q (.bl (decide (x=.ah))) H1
def GP (ta:TE):TE:=fun σ H Q=>ta σ H fun x H1=>Q (.bl (!decide (x=.ah))) H1
theorem RelV.Bp {x:V}{v:Value}(r:RelV x v):(v==Value.none)=decide (x=.ah):=by
 cases x with
 |ah=>cases r;rfl
 |bl _=>cases r;rfl
 |int _=>obtain⟨t,rfl⟩:=r;rfl
 |str _=>obtain⟨t,rfl⟩:=r;rfl
 |ig _=>obtain⟨t,rfl⟩:=r;rfl
 |iU _=>obtain⟨t,rfl⟩:=r;rfl
 |ref _=>cases r;rfl
 |ty _=>cases r;rfl
theorem Jy {j pos'} (ha:PE X a ta):PC X .Is a (.Constant .none j pos') (GZ ta):=by
 intro pins s σ H Q I h
 refine au (ha pins s σ H _ I h) fun v s1 ⟨x,H1,I1,r1,q1⟩=> ?_
 exact Constant_none (is_none_gen ⟨.bl _,H1,I1,by rw[r1.Bp];rfl,q1⟩)
theorem YV {j pos'} (ha:PE X a ta):PC X .IsNot a (.Constant .none j pos') (GP ta):=by
 intro pins s σ H Q I h
 refine au (ha pins s σ H _ I h) fun v s1 ⟨x,H1,I1,r1,q1⟩=> ?_
 exact Constant_none (isnot_none_gen ⟨.bl _,H1,I1,by rw[r1.Bp];rfl,q1⟩)
def tB (t:TE):TT:=fun σ H Q=>t σ H fun x H1=> ∃c,x=.bl c/\Q c H1
theorem PR {op:CmpOp}{t:TE}(h:PC X op a b t) (h1:behindInMarks op b=false:=by first |exact Br _ .d .d |rfl):PE X (.Compare a [op] [b] pos) t:=fun pins s σ H Q I hw=>wpAny_Compare1 (h pins s σ H Q I hw) h1
theorem Yg {op:CmpOp}{t:TE}(h:PC X op a b t) (h1:behindInMarks op b=false:=by first |exact Br _ .d .d |rfl):PT X (.Compare a [op] [b] pos) (tB t):=by
 intro pins s σ H Q I hw
 refine wpAny_isTrue_Compare1 (au (h pins s σ H _ I hw) fun v s1 h1=>au h1 fun u s2 h2=>au h2 fun c s3 ⟨x,H1,I1,r1,q1⟩=> ?_) h1
 obtain⟨d,rfl,q⟩:=q1
 cases r1
 exact ZbG ⟨H1,I1,q⟩
theorem ZT {e:Expr}{t:TE}(h:PE X e t) (he:∀whole,isTrue e X.env whole=(do let v <-whole;standAt e.pos;holding [v] (truthy v)):=by intro _;rfl):PT X e (tB t):=by
 intro pins s σ H Q I hw
 refine isTrue_plain (au (h pins s σ H _ I hw) fun v s1 ⟨x,H1,I1,r1,q1⟩=> ?_) (he _)
 obtain⟨d,rfl,q⟩:=q1
 cases r1
 exact ZbG ⟨H1,I1,q⟩
variable {tA rR:TT}{rest:List Expr}
def Hb (t u:TT):TT:=fun σ H Q=>t σ H fun c H1=>if c=true then u σ H1 Q else Q false H1
def GN (t u:TT):TT:=fun σ H Q=>t σ H fun c H1=>if c=true then Q true H1 else u σ H1 Q
def GQ (t:TT):TT:=fun σ H Q=>t σ H fun c H1=>Q (!c) H1
theorem QN (ha:PT X a tA):PW X (.BoolOp .And [a] pos) tA:=by
 intro wh pins s σ H Q I h
 refine isTrue_and (au (ha pins s σ H Q I h) fun c s1 e=> ?_)
 cases c with
 |true=>exact isTrue_and_nil e
 |false=>exact e
theorem YI (ha:PT X a tA):PW X (.BoolOp .Or [a] pos) tA:=by
 intro wh pins s σ H Q I h
 refine isTrue_or (au (ha pins s σ H Q I h) fun c s1 e=> ?_)
 cases c with
 |false=>exact isTrue_or_nil e
 |true=>exact e
theorem PY (ha:PT X a tA) (hb:PW X (.BoolOp .And (b::rest) pos) rR):PW X (.BoolOp .And (a::b::rest) pos) (Hb tA rR):=by
 intro wh pins s σ H Q I h
 refine isTrue_and (au (ha pins s σ H _ I h) fun c s1 ⟨H1,I1,q1⟩=> ?_)
 cases c with
 |true=>exact hb wh pins s1 σ H1 Q I1 q1
 |false=>exact⟨H1,I1,q1⟩
theorem JQ (ha:PT X a tA) (hb:PW X (.BoolOp .Or (b::rest) pos) rR):PW X (.BoolOp .Or (a::b::rest) pos) (GN tA rR):=by
 intro wh pins s σ H Q I h
 refine isTrue_or (au (ha pins s σ H _ I h) fun c s1 ⟨H1,I1,q1⟩=> ?_)
 cases c with
 |true=>exact⟨H1,I1,q1⟩
 |false=>exact hb wh pins s1 σ H1 Q I1 q1
theorem Z9 (ha:PT X a tA):PT X (.UnaryOp .Not a pos) (GQ tA):=by
 intro pins s σ H Q I h
 exact isTrue_not (ha pins s σ H (fun c H1=>Q (!c) H1) I h)
def Ha (ta tb:TE):TE:=fun σ H Q=>ta σ H fun x H1=> ∃c,x=.bl c/\if c=true then tb σ H1 Q else Q (.bl false) H1
def GO (ta:TE):TE:=fun σ H Q=>ta σ H fun x H1=> ∃c,x=.bl c/\Q (.bl (!c)) H1
theorem Yi {op}{t:TE}(h:PE X a t):PE X (.BoolOp op [a] pos) t:=fun pins s σ H Q I hw=>BoolOp_one (h pins s σ H Q I hw)
theorem Yk (ha:PE X a ta) (hb:PE X (.BoolOp .And (b::rest) pos) tb):PE X (.BoolOp .And (a::b::rest) pos) (Ha ta tb):=by
 intro pins s σ H Q I h
 refine BoolOp_and (au (ha pins s σ H _ I h) fun v s1 ⟨x,H1,I1,r1,q1⟩=> ?_)
 obtain⟨c,rfl,q1⟩:=q1
 cases r1
 refine ZbG ?_
 cases c with
 |true=>exact hb pins s1 σ H1 Q I1 q1
 |false=>exact⟨.bl false,H1,I1,rfl,q1⟩
theorem PV (ha:PE X a ta):PE X (.UnaryOp .Not a pos) (GO ta):=by
 intro pins s σ H Q I h
 refine UnaryOp_ (au (ha pins s σ H _ I h) fun v s1 ⟨x,H1,I1,r1,q1⟩=> ?_)
 obtain⟨c,rfl,q1⟩:=q1
 cases r1
 exact not_of (ZbG ⟨.bl (!c),H1,I1,rfl,q1⟩)
def AF (t:TT) (ta tb:TE):TE:=fun σ H Q=>t σ H fun c H1=>if c=true then ta σ H1 Q else tb σ H1 Q
theorem Je {c:Expr}(hc:PT X c tA) (ha:PE X a ta) (hb:PE X b tb):PE X (.IfExp c a b pos) (AF tA ta tb):=by
 intro pins s σ H Q I h
 refine wpAny_IfExp (au (hc pins s σ H _ I h) fun d s1 ⟨H1,I1,q1⟩=> ?_)
 cases d with
 |true=>exact ha pins s1 σ H1 Q I1 q1
 |false=>exact hb pins s1 σ H1 Q I1 q1
end
def ai (K:Zgc) (H:Hp) (a:Addr) (xs:List V):Prop:=
 Rd H a (.lst xs)∨
  ∃(o:Obj) (aa:Array Value) (n:Nat),K.lookup a=some o/\o.cls=.type "list" /\o.dict=none/\o.data=.seq aa n/\aa.size<=sizeLine/\Vals xs aa.toList
def ag (K:Zgc) (H:Hp) (a:Addr) (xs:List V):Prop:=
 Rd H a (.tup xs)∨
  (∃(o:Obj) (aa:Array Value) (n:Nat),K.lookup a=some o/\o.cls=.type "tuple" /\o.data=.seq aa n/\aa.size<=sizeLine/\Vals xs aa.toList)∨H a=some (.par xs)
def qV:Value->Option V
 | .none=>some .ah
 | .bool b=>some (.bl b)
 | .int i _=>some (.int i)
 | .str x _=>some (.str x)
 | .bytes b _=>some (.ig b)
 | .float b _=>some (.iU b)
 | .ref a=>some (.ref a)
 | .type n=>some (.ty n)
 |_=>none
theorem RelV.abs {x:V}{u:Value}(r:RelV x u):qV u=some x:=by
 cases x with
 |ah=>cases r;rfl
 |bl _=>cases r;rfl
 |int _=>obtain⟨t,rfl⟩:=r;rfl
 |str _=>obtain⟨t,rfl⟩:=r;rfl
 |ig _=>obtain⟨t,rfl⟩:=r;rfl
 |iU _=>obtain⟨t,rfl⟩:=r;rfl
 |ref _=>cases r;rfl
 |ty _=>cases r;rfl
theorem RelV.inj {x y:V}{u:Value}(r:RelV x u) (q:RelV y u):x=y:=ZaV (r.abs.symm.trans q.abs)
theorem Vals.inj:∀{xs ys:List V}{us:List Value},Vals xs us->Vals ys us->xs=ys
 |_,_,_,.nil,.nil=>rfl
 |_,_,_,.cons r t,.cons r' t'=>by rw[r.inj r',Vals.inj t t']
section
variable {X:Cx}{pins:List (Addr×Obj)}{σ:St}{H:Hp}{s:Shared}{a:Addr}{xs ys:List V}
theorem ai.of {K:Zgc}(h:H a=some (.lst xs)):ai K H a xs:=.inl (.inl h)
theorem ag.of {K:Zgc}(h:H a=some (.tup xs)):ag K H a xs:=.inl (.inl h)
theorem ag.kL {K:Zgc}(h:H a=some (.par xs)):ag K H a xs:=.inr (.inr h)
theorem Inv.list (I:Inv X pins σ H s) (h:ai X.K H a xs):∃aa:List Value,Vals xs aa/\PlainL s.heap a aa.toArray/\xs.length<=sizeLine:=by
 rcases h with h |⟨o,aa,n,hk,hc,hd,hs,hz,r⟩
 ·obtain⟨z,aa,n,r,e⟩:=h.ok I.ak
  exact⟨aa,r,⟨_,n,e,rfl,rfl,rfl⟩,z⟩
 ·refine⟨aa.toList,r,⟨o,n,I.bN a o hk,hc,hd,by simpa using hs⟩,?_⟩
  have e:=r.length
  simp only[Zas]at e
  omega
theorem Inv.tuple (I:Inv X pins σ H s) (h:ag X.K H a xs):∃aa:List Value,Vals xs aa/\IsTup s.heap a aa.toArray/\xs.length<=sizeLine:=by
 rcases h with h |⟨o,aa,n,hk,hc,hs,hz,r⟩ |h
 ·obtain⟨z,aa,r,p,_⟩:=h.ok I.ak
  exact⟨aa,r,p,z⟩
 rotate_left
 ·obtain⟨z,aa,r,p⟩:=(show bt X.prog X.w H s.heap a (.par xs) from I.ak a _ h)
  exact⟨aa,r,p,z⟩
 ·refine⟨aa.toList,r,⟨o,I.bN a o hk,hc,n,by simpa using hs⟩,?_⟩
  have e:=r.length
  simp only[Zas]at e
  omega
theorem Inv.tF (I:Inv X pins σ H s) (h:ai X.K H a xs) (h':ai X.K H a ys):xs=ys:=by
 obtain⟨aa,r,⟨o,n,e,_,_,d⟩,_⟩:=I.list h
 obtain⟨its',r',⟨o',n',e',_,_,d'⟩,_⟩:=I.list h'
 rw[e]at e';cases e'
 rw[d]at d'
 injection d' with d1 _
 have:aa=its':=by simpa using congrArg Array.toList d1
 subst this
 exact r.inj r'
theorem Inv.o8 (I:Inv X pins σ H s) (h:ag X.K H a xs) (h':ag X.K H a ys):xs=ys:=by
 obtain⟨aa,r,⟨o,e,_,n,d⟩,_⟩:=I.tuple h
 obtain⟨its',r',⟨o',e',_,n',d'⟩,_⟩:=I.tuple h'
 rw[e]at e';cases e'
 rw[d]at d'
 injection d' with d1 _
 have:aa=its':=by simpa using congrArg Array.toList d1
 subst this
 exact r.inj r'
end
abbrev Cx.gP (X:Cx) (E:Value->Shared->Prop):Cx:= {X with xe:=E}
abbrev Cx.dw (X:Cx):Cx:=X.gP fun _ _=>False
theorem Cx.Ok.gP {X:Cx}(ok:X.Ok) (E:Value->Shared->Prop):(X.gP E).Ok:=
 ⟨ok.mod,ok.kind,ok.glob,ok.blt,ok.above,ok.inj,ok.has,ok.kg,ok.hd,ok.frames,ok.lL,ok.kc,ok.bs,ok.iX,ok.kN,ok.j9,ok.dJ,ok.gM⟩
theorem Cx.Ok.jK {X:Cx}{E:Value->Shared->Prop}(ok:(X.gP E).Ok):X.Ok:=
 ⟨ok.mod,ok.kind,ok.glob,ok.blt,ok.above,ok.inj,ok.has,ok.kg,ok.hd,ok.frames,ok.lL,ok.kc,ok.bs,ok.iX,ok.kN,ok.j9,ok.dJ,ok.gM⟩
section
variable {X:Cx}{pins:List (Addr×Obj)}{σ:St}{H:Hp}{s:Shared}{E:Value->Shared->Prop}
theorem Inv.gP (I:Inv X pins σ H s) (E:Value->Shared->Prop):Inv (X.gP E) pins σ H s:=⟨I.ok.gP E,I.os,I.bare,I.base,I.loc,I.cell,I.free,I.fM,I.pin,I.ak,I.len⟩
theorem Inv.jK (I:Inv (X.gP E) pins σ H s):Inv X pins σ H s:=⟨I.ok.jK,I.os,I.bare,I.base,I.loc,I.cell,I.free,I.fM,I.pin,I.ak,I.len⟩
theorem SP.jK {D:Ends}{f:Flow}{s':Shared}(h:SP (X.gP E) pins D f s'):SP X pins D f s':=by
 cases f with
 |next=>obtain⟨aj,H',I,q⟩:=h;exact⟨aj,H',I.jK,q⟩
 |brk=>obtain⟨aj,H',I,q⟩:=h;exact⟨aj,H',I.jK,q⟩
 |cont=>obtain⟨aj,H',I,q⟩:=h;exact⟨aj,H',I.jK,q⟩
 |ret u=>obtain⟨v,aj,H',I,r,q⟩:=h;exact⟨v,aj,H',I.jK,r,q⟩
theorem eB.dw {st:List Stmt}{t:TS}(h:eB X.dw st t):eB X st t:=fun pins s σ H D I hw=>
 ZaL (h pins s σ H D (I.gP _) hw) (fun _ _ q=>q.jK) fun _ _ z=>False.elim z
end
section
variable {X:Cx}{st:Stmt}{rest:List Stmt}{t u:TS}{e:Expr}{te:TE}{pos:Pos}
def uW:TS:=fun D σ H=>D.nx σ H
def gQ (t u:TS):TS:=fun D σ H=>t {D with nx:=u D} σ H
theorem Zw:eB X [] uW:=fun _ _ σ H _ I h=>PySem.wpAny_execs_nil ⟨σ,H,I,h⟩
theorem Zd (h1:PS X st t) (h2:eB X rest u):eB X (st::rest) (gQ t u):=by
 intro pins s σ H D I h
 refine PySem.wpAny_execs_cons (au (h1 pins s σ H {D with nx:=u D} I h) fun f s1 q=> ?_)
 cases f with
 |next=>
  obtain⟨aj,H',I',q⟩:=q
  exact h2 pins s1 aj H' D I' q
 |ret v=>exact q
 |brk=>exact q
 |cont=>exact q
theorem Zh (h1:PS X st t):eB X [st] t:=by
 intro pins s σ H D I h
 refine PySem.wpAny_execs_cons (au (h1 pins s σ H D I h) fun f s1 q=> ?_)
 cases f with
 |next=>exact PySem.wpAny_execs_nil q
 |ret v=>exact q
 |brk=>exact q
 |cont=>exact q
theorem Inv.quiet {pins:List (Addr×Obj)}{σ:St}{H:Hp}{s:Shared}(I:Inv X pins σ H s):interactive X.env=false:=by simp[interactive,I.ok.kind]
def G4 (te:TE):TS:=fun D σ H=>te σ H fun _ H1=>D.nx σ H1
theorem ZL (he:PE X e te) (hs:swapsWith e none pos.line X.env=pure false:=by rfl):PS X (.Expr e pos) (G4 te):=by
 intro pins s σ H D I h
 exact wpAny_Expr_any (au (he pins s σ H _ I h) fun v s1 ⟨x,H1,I1,r1,q1⟩=> ⟨σ,H1,I1,q1⟩) I.quiet hs
def uV (te:TE):TS:=fun D σ H=>te σ H D.rt
theorem Zm (he:PE X e te):PS X (.Return (some e) pos) (uV te):=by
 intro pins s σ H D I h
 exact wpAny_Return_some (au (he pins s σ H _ I h) fun v s1 ⟨x,H1,I1,r1,q1⟩=> ⟨x,σ,H1,I1,r1,q1⟩)
def G0 (c:TT) (t u:TS):TS:=fun D σ H=>c σ H fun b H1=>if b=true then t D σ H1 else u D σ H1
theorem ZS {c:Expr}{a b:List Stmt}{tc:TT}(hc:PT X c tc) (ha:eB X a t) (hb:eB X b u):PS X (.If c a b pos) (G0 tc t u):=by
 intro pins s σ H D I h
 refine wpAny_If (au (hc pins s σ H _ I h) fun d s1 ⟨H1,I1,q1⟩=> ?_)
 cases d with
 |true=>exact ha pins s1 σ H1 D I1 q1
 |false=>exact hb pins s1 σ H1 D I1 q1
def GS:TS:=fun _ _ _=>False
theorem Zs {Hl:List Stmt} :eB X Hl GS:=fun _ _ _ _ _ _ h=>h.elim
end
abbrev TG:=V->St->Hp->(St->Hp->Prop)->Prop
abbrev mV:=List V->St->Hp->(St->Hp->Prop)->Prop
def PG (X:Cx) (target:Expr) (t:TG):Prop:=
 ∀(pins:List (Addr×Obj)) (s:Shared) (σ:St) (H:Hp) (v:V) (u:Value) (Q:St->Hp->Prop),Inv X pins σ H s->RelV v u->t v σ H Q->
  wpAny (model X.prog X.w) X.A (assign target X.env u) (fun _ s'=> ∃aj H',Inv X pins aj H' s'/\Q aj H') X.xe s
def uF (X:Cx) (ts:List Expr) (t:mV):Prop:=
 ∀(pins:List (Addr×Obj)) (s:Shared) (σ:St) (H:Hp) (vs:List V) (us:List Value) (Q:St->Hp->Prop),Inv X pins σ H s->Vals vs us->t vs σ H Q->
  wpAny (model X.prog X.w) X.A (assignInOrder ((assignEach ts X.env).map (·.2)) us) (fun _ s'=> ∃aj H',Inv X pins aj H' s'/\Q aj H') X.xe s
abbrev zN:=V->V->V->Hp->(Hp->Prop)->Prop
def FY (X:Cx) (t:zN):Prop:=
 ∀(pins:List (Addr×Obj)) (s:Shared) (σ:St) (H:Hp) (o i v:V) (ov iv u:Value) (Q:Hp->Prop),Inv X pins σ H s->RelV o ov->RelV i iv->RelV v u->t o i v H Q->
  wpAny (model X.prog X.w) X.A (setItem ov iv u) (fun _ s'=> ∃H',Inv X pins σ H' s'/\Q H') X.xe s
section
variable {X:Cx}{pos:Pos}
def bF (i:Nat):TG:=fun v σ H Q=>Q (σ.set i (some v)) H
theorem Zp {i:Nat}{x:Str}(hN:X.N.Nodup) (hi:X.N[i]? =some x) (hx:Loc X.env.scope x) (hf:X.fn x=true∨X.env.scope.names.lookup x=some .local:=by first |exact .inl rfl |exact .inr rfl |assumption):PG X (.Name x pos) (bF i):=by
 intro pins s σ H v u Q I r h
 exact wpAny_assign_Name (Yt I hN hi hx r (fun s' I'=> ⟨_,H,I',h⟩) hf)
def gK:mV:=fun vs σ H Q=>vs=[]/\Q σ H
def bR (t:TG) (u:mV):mV:=fun vs σ H Q=> ∃v r,vs=v::r/\t v σ H fun aj H'=>u r aj H' Q
theorem ZF:uF X [] gK:=by
 intro pins s σ H vs us Q I r h
 obtain⟨e,h⟩:=h
 subst e
 cases r
 exact assignInOrder_nil ⟨σ,H,I,h⟩
theorem Zj {e:Expr}{es:List Expr}{t:TG}{u:mV}(h1:PG X e t) (h2:uF X es u)
  (hs:(assignEach (e::es) X.env).map (·.2)=assign e X.env::(assignEach es X.env).map (·.2):=by rfl):uF X (e::es) (bR t u):=by
 intro pins s σ H vs us Q I r h
 obtain⟨v,vr,e1,h⟩:=h
 subst e1
 cases r with
 |cons r rr=>
  rw[hs]
  refine PyProof.Rows.assignInOrder_cons (au (h1 pins s σ H _ _ _ I r h) fun _ s1 ⟨Ga,H1,I1,q1⟩=> ?_)
  exact h2 pins s1 Ga H1 _ _ Q I1 rr q1
def gJ (K:Zgc) (n:Nat) (t:mV):TG:=fun v σ H Q=> ∃a xs,v=.ref a/\ag K H a xs/\xs.length=n/\t xs σ H Q
theorem ZO {es:List Expr}{k:Nat}{t:mV}{n:Nat}(hc:X.calm=true) (h:uF X es t)
  (hn:(assignEach es X.env).length=n:=by rfl) (jU:(assignEach es X.env).findIdx? (·.1)=none:=by rfl):PG X (.Tuple es k pos) (gJ X.K n t):=by
 intro pins s σ H v u Q I r hw
 obtain⟨a,xs,e1,hq,hl,hw⟩:=hw
 subst e1
 cases r
 obtain⟨aa,rv,ht,hz⟩:=I.tuple hq
 refine assign_Tuple_tuple (I.ok.hd hc) ht (by simp[hn,<-hl,rv.length]) jU fun h' hx=> ?_
 have I1:Inv X pins σ H {s with heap:=h'} :=I.kept (t':=s.toks) fun b o e=>hx b o (Zan (Zad e)) e
 exact h pins _ σ H xs _ Q I1 (by simpa using rv) hw
def N8 (to ti:TE) (t:zN):TG:=fun v σ H Q=>to σ H fun o H1=>ti σ H1 fun i H2=>t o i v H2 fun H3=>Q σ H3
theorem zK {o i:Expr}{to ti:TE}{t:zN}(ho:PE X o to) (hi:PE X i ti) (hs:FY X t)
    (ha:∀v,assign (.Subscript o i pos) X.env v=(do
      let ov <-holding [v] (eval o X.env)
      let iv <-holding [v,ov] (eval i X.env)
      standAt pos
      holding [v,ov,iv] (setItem ov iv v)
      release [v,ov,iv] []):=by intro _;rfl):PG X (.Subscript o i pos) (N8 to ti t):=by
  intro pins s σ H v u Q I r h
  rw[ha]
  refine eg (ZaO (au (ho pins s σ H _ I h) fun ov s1 ⟨x,H1,I1,r1,q1⟩=> ?_))
  refine eg (ZaO (au (hi pins s1 σ H1 _ I1 q1) fun iv s2 ⟨y,H2,I2,r2,q2⟩=> ?_))
  refine eg (Zcf (eg (ZaO (au (hs pins s2 σ H2 x y v ov iv u _ I2 r1 r2 r q2) fun _ s3 ⟨H3,I3,q3⟩=> ?_))))
  exact wpAny_release ⟨σ,H3,I3,q3⟩
def pf (te:TE) (g:TG):TS:=fun D σ H=>te σ H fun x H1=>g x σ H1 D.nx
theorem YB {tg e:Expr}{te:TE}{g:TG}(he:PE X e te) (hg:PG X tg g) (hs:swapsWithSole [tg] e pos.line X.env=pure false:=by rfl) (hw:swappedStores [tg] e X.env=pure none:=by rfl)
  (h1:(assignEach [tg] X.env).map (·.2)=[assign tg X.env]:=by rfl):PS X (.Assign [tg] e pos) (pf te g):=by
 intro pins s σ H D I h
 refine wpAny_Assign_stores (au (he pins s σ H _ I h) fun v s1 ⟨x,H1,I1,r1,q1⟩=> ?_) hs hw
 rw[h1]
 exact au (hg pins s1 σ H1 x v _ I1 r1 q1) fun _ s2 q=>q
theorem Zo {i:Nat}{x:Str}{e:Expr}{te:TE}{pos':Pos}(hN:X.N.Nodup) (hi:X.N[i]? =some x) (hx:Loc X.env.scope x) (he:PE X e te) (hs:swapsWith e (some (.Name x pos')) pos.line X.env=pure false:=by rfl) (hf:X.fn x=true∨X.env.scope.names.lookup x=some .local:=by first |exact .inl rfl |exact .inr rfl |assumption):
  PS X (.Assign [.Name x pos'] e pos) (pf te (bF i)):=by
 intro pins s σ H D I h
 refine wpAny_Assign_Name (au (he pins s σ H _ I h) fun v s1 ⟨y,H1,I1,r1,q1⟩=> ?_) hs
 exact Yt I1 hN hi hx r1 (fun s2 I2=> ⟨_,H1,I2,q1⟩) hf
def GL (i j:Nat) (ta:TA):TS:=fun D σ H=>ta σ H fun vs H1=> ∃v w,vs=[v,w]/\D.nx ((σ.set i (some v)).set j (some w)) H1
theorem DY {i j:Nat}{x y:Str}{a b:Expr}{ta:TA}{px py pt:Pos}{kt k2 w9} (hc:X.calm=true) (hN:X.N.Nodup) (hi:X.N[i]? =some x) (hj:X.N[j]? =some y) (iP:i≠j)
  (hx:X.env.scope.names.lookup x=some .local) (hy:X.env.scope.names.lookup y=some .local) (ha:PA X [a,b] ta)
  (hw:swappedStores [.Tuple [.Name x px,.Name y py] kt pt] (.Tuple [a,b] k2 w9) X.env=pure (some [x,y]))
  (hs:swapsWithSole [.Tuple [.Name x px,.Name y py] kt pt] (.Tuple [a,b] k2 w9) pos.line X.env=pure false:=by rfl):
  PS X (.Assign [.Tuple [.Name x px,.Name y py] kt pt] (.Tuple [a,b] k2 w9) pos) (GL i j ta):=by
 intro pins s σ H D I h
 rw[exec_Assign_arm]
 refine eg (Zcf ?_)
 rw[hs]
 refine eg (X6 ?_)
 rw[Zav .d]
 refine eg (Tuple_ (au (ha _ pins s σ H _ I h) fun us s1 ⟨vs,H1,I1,r1,q1⟩=> ?_))
 obtain⟨v,w,e1,q1⟩:=q1
 subst e1
 obtain⟨u1,u2,rfl,rv,fA⟩:∃u1 u2,us=[u1,u2]/\RelV v u1/\RelV w u2:=by
  cases r1 with
  |cons p q=>
   cases q with
   |cons p' q'=>
    cases q'
    exact⟨_,_,rfl,p,p'⟩
 refine ZaX ?_ bf
 have I2:Inv X pins σ H1 {s1 with heap:=s1.heap.push {cls:=.type "tuple",data:=.seq [u1,u2].toArray} } :=I1.kept (t':=s1.toks) fun b o e=>X7 _ e
 rw[hw]
 refine eg (X6 ?_)
 show wpAny (model X.prog X.w) X.A (do rule "assign.swapped-stores";let items <-unpackItems (.ref s1.heap.objs.size) 2 none;assignInOrder [fun v=>bindName X.env y v,fun v=>bindName X.env x v] items.reverse;pure Flow.next) _ _ _
 refine eg (Zck (eg (unpackItems_tuple (items:= #[u1,u2]) (I.ok.hd hc) (IsTup.new s1.heap _) fun h' tJ=> ?_)))
 have I3:=I2.kept (h':=h') (t':=s1.toks) fun b o e=>tJ b o (Zan (Zad e)) e
 show wpAny _ _ (assignInOrder [fun v=>bindName X.env y v,fun v=>bindName X.env x v] [u2,u1] >>=fun _=>pure Flow.next) _ _ _
 refine eg (PyProof.Rows.assignInOrder_cons (wpAny_bindName (Yt I3 hN hj (.inl hy) fA (fun s2 I4=> ?_) (.inr hy))))
 refine PyProof.Rows.assignInOrder_cons (wpAny_bindName (Yt I4 hN hi (.inl hx) rv (fun s3 I5=>assignInOrder_nil (X6 ?_)) (.inr hx)))
 rw[List.set_comm _ _ (ZcE iP)]at I5
 exact⟨_,H1,I5,q1⟩
end
structure It where
 go:Nat->Hp->Prop
 nA:Nat->Hp->V->Hp->Prop
 stop:Nat->Hp->Prop
def aH (X:Cx) (pins:List (Addr×Obj)) (H:Hp) (b:Addr):Prop:=
 H b=none/\b≠X.env.locals/\b∉X.fs/\(b∈X.ex∨X.bX.heap.objs.size<=b)/\(∀x c,X.env.cells.lookup x=some c->c≠b)/\∀p∈X.pn++pins,p.1≠b
theorem Inv.jB {X:Cx}{pins:List (Addr×Obj)}{σ:St}{H H':Hp}{s:Shared}{b:Addr}(I:Inv X pins σ H s) (hb:s.heap.objs.size<=b) (hn:H' b=none):aH X pins H' b:=by
 refine⟨hn,ZbZ (Zar I.lt hb),I.Kx hb,.inr (Zbf I.sz hb),fun x c e z=> ?_,fun p hp z=> ?_⟩
 ·obtain⟨v,q⟩:=I.cell x c e
  exact absurd (Zar q.lt (by rw[z];exact hb)) (Zba _)
 ·exact absurd (Zar (Zad (I.pin p hp).1) (by rw[z];exact hb)) (Zba _)
structure Turn (P:Program) (w:World) (K:Zgc) (tg:Expr) (J:It) (fp:List Addr) (it:Addr) (tn:Nat->Heap->Prop):Prop where
 mem:it∈fp
 obj:∀i h,tn i h->∀b∈fp,∃o,h.get? b=some o/\∀v,o.data≠.cell v
 keep:∀i h h',tn i h->(∀b∈fp,∀o,h.get? b=some o->h'.get? b=some o)->tn i h'
 item:∀(X:Cx),X.prog=P->X.w=w->X.K=K->X.calm=true->∀(i:Nat) (pins:List (Addr×Obj)) (s:Shared) (σ:St) (H:Hp) (E:Value->Shared->Prop),Inv X pins σ H s->(∀b∈fp,aH X pins H b)->tn i s.heap->J.go i H->
  wpAny (model P w) X.A (pyNext (.ref it)) (fun r s1=> ∃u,r=some u/\
   wpAny (model P w) X.A (letOwnedTupleGo tg (.ref it) u) (fun _ s2=> ∃x H',Inv X pins σ H' s2/\RelV x u/\J.nA i H x H'/\tn (i+1) s2.heap/\∀b∈fp,H' b=none) E s1) E s
 done:∀(X:Cx),X.prog=P->X.w=w->X.K=K->X.calm=true->∀(i:Nat) (pins:List (Addr×Obj)) (s:Shared) (σ:St) (H:Hp) (E:Value->Shared->Prop),Inv X pins σ H s->(∀b∈fp,aH X pins H b)->tn i s.heap->J.stop i H->
  wpAny (model P w) X.A (pyNext (.ref it)) (fun r s1=>r=none/\Inv X pins σ H s1) E s
 self:∀(A:Around) (i:Nat) (s:Shared) (Q:Value->Shared->Prop) (E:Value->Shared->Prop),tn i s.heap->Q (.ref it) s->wpAny (model P w) A (pyIter (.ref it)) Q E s
abbrev TI:=St->Hp->(It->Hp->Prop)->Prop
def FZ (X:Cx) (pins:List (Addr×Obj)) (σ:St) (tg:Expr) (R:It->Hp->Prop) (fY:Value) (s2:Shared):Prop:=
 ∃(it:Addr) (fp:List Addr) (tn:Nat->Heap->Prop) (J:It) (H':Hp),fY=.ref it/\Inv X pins σ H' s2/\Turn X.prog X.w X.K tg J fp it tn/\tn 0 s2.heap/\(∀b∈fp,aH X pins H' b)/\R J H'
def PI (X:Cx) (tg iter:Expr) (wi:TI):Prop:=
 ∀(pins:List (Addr×Obj)) (s:Shared) (σ:St) (H:Hp) (R:It->Hp->Prop),Inv X pins σ H s->wi σ H R->
  wpAny (model X.prog X.w) X.A (eval iter X.env) (fun v s1=>wpAny (model X.prog X.w) X.A (pyIter v) (FZ X pins σ tg R) X.xe s1) X.xe s
theorem zD {M:Model}{A:Around}{E:Value->Shared->Prop}{s:Shared}{tg:Expr}{it:Addr}{u:Value}{o:Obj}{n:String}{vs:Array Value}{Q:Unit->Shared->Prop}(ho:s.heap.get? it=some o) (hc:o.cls=.type n) (hd:o.data=.fields vs)
    (hn:["enumerate", "zip", "dict_itemiterator", "dict_reverseitemiterator", "odict_iterator", "itertools.zip_longest", "itertools.pairwise"].contains n=false) (hQ:Q () s):wpAny M A (letOwnedTupleGo tg (.ref it) u) Q E s:=by
  unfold letOwnedTupleGo
  cases tg<;>first
    |exact X6 hQ
    |(cases u<;>first
        |exact X6 hQ
        |(refine eg (wpAny_load ho ?_)
          rw[hc,hd]
          show wpAny M A (if (["enumerate", "zip", "dict_itemiterator", "dict_reverseitemiterator", "odict_iterator", "itertools.zip_longest", "itertools.pairwise"].contains n&&vs[0]? ==some (rawInt _))=true then _ else _) Q E s
          rw[Zav (by intro h;rw[hn,Bool.false_and]at h;cases h)]
          exact X6 hQ))
def oU (K:Zgc) (a:Addr):It:=
 ⟨fun i H=> ∃xs x,ai K H a xs/\xs[i]? =some x,fun i H x H'=>H'=H/\∀xs,ai K H a xs->xs[i]? =some x,fun i H=> ∃xs,ai K H a xs/\xs.length<=i⟩
def zY (K:Zgc) (a:Addr):It:=
 ⟨fun i H=> ∃xs x,ag K H a xs/\xs[i]? =some x,fun i H x H'=>H'=H/\∀xs,ag K H a xs->xs[i]? =some x,fun i H=> ∃xs,ag K H a xs/\xs.length<=i⟩
def lF (lo:Int) (n:Nat):It:=⟨fun i _=>i<n,fun i H x H'=>H'=H/\x=.int (lo+i),fun i _=>n<=i⟩
theorem SO {P:Program}{w:World}{K:Zgc}{tg:Expr}(a it:Addr):Turn P w K tg (oU K a) [it] it (fun i h=>h.IsListIter it a i) where
 mem:=by simp
 obj:=fun i h st b hb=>by
  have e:b=it:=by simpa using hb
  subst e
  obtain⟨o,e,c,d⟩:=st
  exact⟨o,e,fun v z=>by rw[d]at z;cases z⟩
 keep:=fun i h h' st k=>st.at fun o e=>k it (by simp) o e
 item:=by
  intro X hP hw hK hc i pins s σ H E I hf st hg
  subst hP hw hK
  obtain⟨xs,x,hq,hx⟩:=hg
  obtain⟨aa,rv,p,hz⟩:=I.list hq
  obtain⟨u,hu,ru⟩:=rv.get hx
  obtain⟨f0,f1,f2,f3,f4,f5⟩:=hf it (by simp)
  refine wpAny_pyNext_list_item st p.isList (x:=u) (by simpa using hu) fun h' ao sb=> ?_
  have I1:Inv X pins σ H {s with heap:=h'} :=I.turned (t':=s.toks) (fun b o hb e=> (sb.2 b hb).trans e) f0 f1 f3 f4 f5
  obtain⟨o,e,c,d⟩:=id ao
  exact⟨u,rfl,zD (s:= {s with heap:=h'}) e c d .d ⟨x,H,I1,ru,⟨rfl,fun ys hy=>by rw[I.tF hy hq];exact hx⟩,ao,fun b hb=> (hf b hb).1⟩⟩
 done:=by
  intro X hP hw hK hc i pins s σ H E I hf st hg
  subst hP hw hK
  obtain⟨xs,hq,hx⟩:=hg
  obtain⟨aa,rv,p,hz⟩:=I.list hq
  obtain⟨f0,f1,f2,f3,f4,f5⟩:=hf it (by simp)
  have hl:=rv.length
  exact wpAny_pyNext_list_end (I.ok.hd hc) st p.isList (by simp;omega) fun h' eb=> ⟨rfl,I.turned (t':=s.toks) (fun b o hb e=>eb b o hb e) f0 f1 f3 f4 f5⟩
 self:=fun _ _ _ _ _ st h=>wpAny_pyIter_listiter st h
theorem Vu {P:Program}{w:World}{K:Zgc}{tg:Expr}(a it:Addr):Turn P w K tg (zY K a) [it] it (fun i h=>h.IsTupleIter it a i) where
 mem:=by simp
 obj:=fun i h st b hb=>by
  have e:b=it:=by simpa using hb
  subst e
  obtain⟨o,e,c,d⟩:=st
  exact⟨o,e,fun v z=>by rw[d]at z;cases z⟩
 keep:=fun i h h' st k=>st.at fun o e=>k it (by simp) o e
 item:=by
  intro X hP hw hK hc i pins s σ H E I hf st hg
  subst hP hw hK
  obtain⟨xs,x,hq,hx⟩:=hg
  obtain⟨aa,rv,p,hz⟩:=I.tuple hq
  obtain⟨u,hu,ru⟩:=rv.get hx
  obtain⟨f0,f1,f2,f3,f4,f5⟩:=hf it (by simp)
  refine wpAny_pyNext_tuple_item st (show s.heap.IsTuple a aa.toArray from p) (x:=u) (by simpa using hu) fun h' ao sb=> ?_
  have I1:Inv X pins σ H {s with heap:=h'} :=I.turned (t':=s.toks) (fun b o hb e=> (sb.2 b hb).trans e) f0 f1 f3 f4 f5
  obtain⟨o,e,c,d⟩:=id ao
  exact⟨u,rfl,zD (s:= {s with heap:=h'}) e c d .d ⟨x,H,I1,ru,⟨rfl,fun ys hy=>by rw[I.o8 hy hq];exact hx⟩,ao,fun b hb=> (hf b hb).1⟩⟩
 done:=by
  intro X hP hw hK hc i pins s σ H E I hf st hg
  subst hP hw hK
  obtain⟨xs,hq,hx⟩:=hg
  obtain⟨aa,rv,p,hz⟩:=I.tuple hq
  obtain⟨f0,f1,f2,f3,f4,f5⟩:=hf it (by simp)
  have hl:=rv.length
  exact wpAny_pyNext_tuple_end (I.ok.hd hc) st (show s.heap.IsTuple a aa.toArray from p) (by simp;omega) fun h' eb=> ⟨rfl,I.turned (t':=s.toks) (fun b o hb e=>eb b o hb e) f0 f1 f3 f4 f5⟩
 self:=fun _ _ _ _ _ st h=>wpAny_pyIter_tupleiter st h
theorem Vt {P:Program}{w:World}{K:Zgc}{tg:Expr}(it:Addr) (lo:Int) (n:Nat):Turn P w K tg (lF lo n) [it] it (fun i h=>IsRangeIter h it (lo+(i:Nat)*1) ((n:Int) - (i:Nat)) 1) where
 mem:=by simp
 obj:=fun i h st b hb=>by
  have e:b=it:=by simpa using hb
  subst e
  exact⟨_,st,fun v z=>by
   have z':Data.fields _=Data.cell v:=z
   cases z'⟩
 keep:=fun i h h' st k=>k it (by simp) _ st
 item:=by
  intro X hP hw hK hc i pins s σ H E I hf st hg
  subst hP hw hK
  obtain⟨f0,f1,f2,f3,f4,f5⟩:=hf it (by simp)
  have W:=Walks.range (prog:=X.prog) (w:=X.w) (I.ok.hd hc) it lo 1 n
  refine W.item i s _ _ hg st fun v h' tk hv ao kk=> ?_
  obtain⟨t,rfl⟩:=hv
  have I1:Inv X pins σ H {s with heap:=h',toks:=tk} :=I.turned (fun b o hb e=>kk b o (by simpa using hb) e) f0 f1 f3 f4 f5
  refine⟨_,rfl,zD (s:= {s with heap:=h',toks:=tk}) (n:= "range_iterator") ao rfl rfl .d ⟨.int (lo+i),H,I1,⟨t,?_⟩,⟨rfl,rfl⟩,ao,fun b hb=> (hf b hb).1⟩⟩
  rw[Int.mul_one]
 done:=by
  intro X hP hw hK hc i pins s σ H E I hf st hg
  subst hP hw hK
  obtain⟨f0,f1,f2,f3,f4,f5⟩:=hf it (by simp)
  exact wpAny_pyNext_range_end (I.ok.hd hc) st (by have:n<=i:=hg;omega) fun h' eb=> ⟨rfl,I.turned (t':=s.toks) (fun b o hb e=>eb b o hb e) f0 f1 f3 f4 f5⟩
 self:=fun _ _ _ _ _ st h=>wpAny_pyIter_rangeiter st h
section
variable {X:Cx}{tg:Expr}
def xD (K:Zgc) (tl:TE):TI:=fun σ H R=>tl σ H fun x H1=> ∃a,x=.ref a/\(∃xs,ai K H1 a xs)/\R (oU K a) H1
def LJ (K:Zgc) (tl:TE):TI:=fun σ H R=>tl σ H fun x H1=> ∃a,x=.ref a/\(∃xs,ag K H1 a xs)/\R (zY K a) H1
theorem ZD {l:Expr}{tl:TE}(hl:PE X l tl):PI X tg l (xD X.K tl):=by
 intro pins s σ H R I h
 refine au (hl pins s σ H _ I h) fun v s1 ⟨x,H1,I1,r1,q1⟩=> ?_
 obtain⟨a,e,⟨xs,hq⟩,q⟩:=q1
 subst e
 cases r1
 obtain⟨aa,rv,p,hz⟩:=I1.list hq
 refine Zcl p.isList ?_
 refine⟨s1.heap.objs.size,[s1.heap.objs.size],_,_,H1,rfl,I1.kept (t':=s1.toks) fun b o e=>X7 _ e,SO a _,⟨_,Zaf _ rfl,rfl,rfl⟩,fun b hb=> ?_,q⟩
 have e:b=s1.heap.objs.size:=by simpa using hb
 subst e
 exact I1.jB (Zal _) (I1.ak.fresh (Zal _))
theorem Wj {l:Expr}{tl:TE}(hl:PE X l tl):PI X tg l (LJ X.K tl):=by
 intro pins s σ H R I h
 refine au (hl pins s σ H _ I h) fun v s1 ⟨x,H1,I1,r1,q1⟩=> ?_
 obtain⟨a,e,⟨xs,hq⟩,q⟩:=q1
 subst e
 cases r1
 obtain⟨aa,rv,p,hz⟩:=I1.tuple hq
 refine PySem.wpAny_pyIter_tuple (show s1.heap.IsTuple a aa.toArray from p) ?_
 refine⟨s1.heap.objs.size,[s1.heap.objs.size],_,_,H1,rfl,I1.kept (t':=s1.toks) fun b o e=>X7 _ e,Vu a _,⟨_,Zaf _ rfl,rfl,rfl⟩,fun b hb=> ?_,q⟩
 have e:b=s1.heap.objs.size:=by simpa using hb
 subst e
 exact I1.jB (Zal _) (I1.ak.fresh (Zal _))
theorem Fq {pins:List (Addr×Obj)}{σ:St}{H:Hp}{s:Shared}{R:It->Hp->Prop}{E:Value->Shared->Prop}{lo hi:Int}{t u v:Tok}{tk:Nat}(I:Inv X pins σ H s) (h1: -(2^62)<=lo) (h2:lo<2^62) (h3: -(2^62)<=hi) (h4:hi<2^62)
  (q:R (lF lo (hi - lo).toNat) H):wpAny (model X.prog X.w) X.A (pyIter (.ref s.heap.objs.size)) (FZ X pins σ tg R) E {s with heap:=s.heap.push {cls:=.type "range",data:=.fields #[.int lo t,.int hi u,.int 1 v]},toks:=tk} :=by
 refine wpAny_pyIter_range (IsRange.new ..) (small_one h1 h2 h3 h4) ?_
 have I1:Inv X pins σ H {s with heap:=s.heap.push {cls:=.type "range",data:=.fields #[.int lo t,.int hi u,.int 1 v]},toks:=tk} :=I.kept fun b o e=>X7 _ e
 refine⟨(s.heap.push {cls:=.type "range",data:=.fields #[.int lo t,.int hi u,.int 1 v]}).objs.size,[(s.heap.push {cls:=.type "range",data:=.fields #[.int lo t,.int hi u,.int 1 v]}).objs.size],_,_,H,rfl,
  I1.kept (t':=tk) fun b o e=>X7 _ e,Vt _ lo (hi - lo).toNat,?_,fun b hb=> ?_,q⟩
 ·have e1:lo+((0:Nat):Int)*1=lo:=by simp
  have e2:(((hi - lo).toNat:Nat):Int) - ((0:Nat):Int)=Builtin.Range.rangeSize lo hi 1:=by rw[rangeSize_one];split<;>omega
  show IsRangeIter _ _ (lo+((0:Nat):Int)*1) ((((hi - lo).toNat:Nat):Int) - ((0:Nat):Int)) 1
  rw[e1,e2]
  exact Zaf _ rfl
 ·have e:b=(s.heap.push {cls:=.type "range",data:=.fields #[.int lo t,.int hi u,.int 1 v]}).objs.size:=by simpa using hb
  subst e
  exact I1.jB (Zal _) (I1.ak.fresh (Zal _))
def LL (ta:TA):TI:=fun σ H R=>ta σ H fun vs H1=> ∃j:Int,vs=[.int j]/\ -(2^62)<=j/\j<2^62/\R (lF 0 j.toNat) H1
def LK (ta:TA):TI:=fun σ H R=>ta σ H fun vs H1=> ∃i j:Int,vs=[.int i,.int j]/\(-(2^62)<=i/\i<2^62/\ -(2^62)<=j/\j<2^62)/\R (lF i (j - i).toNat) H1
theorem ZY {a:Expr}{ta:TA}{p pos:Pos}(hg:Gl X "range") (hm:X.mg "range" =none) (ha:PA X [a] ta) (hs:starEach [a] X.env=[(false,eval a X.env)]:=by rfl):PI X tg (.Call (.Name "range" p) [a] [] pos) (LL ta):=by
 intro pins s σ H R I h
 refine Call_ (ZU I hg hm boot_range (Za1 (au (ha pos pins s σ H _ I h) fun us s1 ⟨vs,H1,I1,r1,q1⟩=> ?_) hs rfl))
 obtain⟨j,e,q1,q2,q⟩:=q1
 subst e
 cases r1 with
 |cons r rr=>
  cases rr
  obtain⟨t,rfl⟩:=r
  exact call_range_1 (Fq I1 .o .o q1 q2 (by simpa using q))
theorem Sz {a b:Expr}{ta:TA}{p pos:Pos}(hg:Gl X "range") (hm:X.mg "range" =none) (ha:PA X [a,b] ta) (hs:starEach [a,b] X.env=[(false,eval a X.env),(false,eval b X.env)]:=by rfl) (dz:starEach [b] X.env=[(false,eval b X.env)]:=by rfl):
  PI X tg (.Call (.Name "range" p) [a,b] [] pos) (LK ta):=by
 intro pins s σ H R I h
 refine Call_ (ZU I hg hm boot_range (Za1 (au (ha pos pins s σ H _ I h) fun us s1 ⟨vs,H1,I1,r1,q1⟩=> ?_) (by rw[hs,dz]) (by rw[dz];rfl)))
 obtain⟨i,j,e,⟨q1,q2,q3,q4⟩,q⟩:=q1
 subst e
 cases r1 with
 |cons r rr=>
  cases rr with
  |cons r' rr=>
   cases rr
   obtain⟨t,rfl⟩:=r
   obtain⟨t',rfl⟩:=r'
   exact call_range_2 (Fq I1 q1 q2 q3 q4 q)
def G3 (wi:TI) (g:TG) (tb:TS):TS:=fun D σ H=>wi σ H fun J H1=> ∃W:Nat->Nat->St->Hp->Prop,(∃m,W 0 m σ H1)/\∀i m σ H,W i m σ H->
 (J.stop i H/\D.nx σ H)∨(J.go i H/\∃N:St->Hp->Prop,(∀aj H',N aj H'->∃m',m'<m/\W (i+1) m' aj H')/\∀x H',J.nA i H x H'->g x σ H' fun bc H2=>tb {D with nx:=N,ct:=N,bk:=D.nx} bc H2)
def fg (fp:List Addr) (h:Heap):List (Addr×Obj):=fp.filterMap fun b=> (h.get? b).map fun o=> (b,o)
theorem Zu {fp:List Addr}{h:Heap}{b:Addr}{o:Obj}(hb:b∈fp) (e:h.get? b=some o):(b,o)∈fg fp h:=Zbn.mpr ⟨b,hb,by rw[e];rfl⟩
theorem Yw {fp:List Addr}{h:Heap}{p:Addr×Obj}(hp:p∈fg fp h):p.1∈fp/\h.get? p.1=some p.2:=by
 obtain⟨b,hb,e⟩:=Zbn.mp hp
 cases q:h.get? b with
 |none=>rw[q]at e;cases e
 |some o=>
  rw[q]at e
  have e':(b,o)=p:=ZaV e
  subst e'
  exact⟨hb,q⟩
theorem Inv.pinned {pins:List (Addr×Obj)}{σ:St}{H:Hp}{s:Shared}{fp:List Addr}(I:Inv X pins σ H s) (hf:∀b∈fp,aH X pins H b) (ho:∀b∈fp,∃o,s.heap.get? b=some o/\∀v,o.data≠.cell v):Inv X (pins++fg fp s.heap) σ H s:=
 I.Bd fun p hp=> (ZaG.mp hp).elim (fun z=>I.pin p (Zah _ z)) fun z=>by
  obtain⟨hb,e⟩:=Yw z
  obtain⟨f0,f1,f2,_⟩:=hf p.1 hb
  obtain⟨o,e',d⟩:=ho p.1 hb
  rw[e]at e';cases e'
  exact⟨e,f0,f1,f2,d⟩
theorem Inv.eD {pins pl:List (Addr×Obj)}{σ:St}{H:Hp}{s:Shared}(I:Inv X (pins++pl) σ H s):Inv X pins σ H s:=I.Bd fun p hp=>I.pin p (Zah _ (Zbb _ hp))
theorem Z3 {iter:Expr}{body:List Stmt}{wi:TI}{g:TG}{tb:TS}{pos:Pos}(hp:PassesOwn (model X.prog X.w) X.A X.env X.xe) (hc:X.calm=true) (hi:PI X tg iter wi) (hg:PG X tg g) (hb:eB X body tb)
  (hs:∀x,foldedSetIterable iter X.env x=pure x:=by intro _;rfl):PS X (.For tg iter body [] pos) (G3 wi g tb):=by
 intro pins s σ H D I h
 refine wpAny_For (au (hi pins s σ H _ I h) fun v s1 h1=>au h1 fun fY s2 h2=> ?_) hs
 obtain⟨it,fp,tn,J,H2,e,I2,T,cA,f2,W,⟨m0,w0⟩,turn⟩:=h2
 subst e
 have stat:∀{H':Hp},(∀b∈fp,H' b=none)->∀b∈fp,aH X pins H' b:=fun hn b hb=> ⟨hn b hb,(f2 b hb).2⟩
 refine codeAny_forLoop_any (fun n s'=> ∃i aj H',Inv X pins aj H' s'/\tn i s'.heap/\(∀b∈fp,H' b=none)/\W i n aj H') ?_ m0 ⟨0,σ,H2,I2,cA,fun b hb=> (f2 b hb).1,w0⟩
 rintro n s3 ⟨i,eC,H3,I3,fw,oH,w3⟩
 rcases turn i n eC H3 w3 with ⟨stop,qn⟩ |⟨go,N,hN,step⟩
 ·refine ZdB hp (au (T.done X rfl rfl rfl hc i pins s3 eC H3 X.xe I3 (stat oH) fw stop) fun r s4 ⟨hr,I4⟩=> ?_)
  subst hr
  exact PySem.wpAny_execs_nil ⟨eC,H3,I4,qn⟩
 ·refine ZdB hp (au (T.item X rfl rfl rfl hc i pins s3 eC H3 X.xe I3 (stat oH) fw go) fun r s4 ⟨u,hr,h4⟩=> ?_)
  subst hr
  refine ZdB hp (au h4 fun _ s5 ⟨x,H5,I5,r5,y5,gD,qI⟩=> ?_)
  have rh:=I5.pinned (stat qI) (T.obj _ _ gD)
  refine ZdB hp (au (hg _ s5 eC H5 x u _ rh r5 (step x H5 y5)) fun _ s6 ⟨jJ,H6,I6,q6⟩=> ?_)
  refine ZdB hp (au (hb _ s6 jJ H6 _ I6 q6) fun f s7 q7=> ?_)
  have again:∀{cF:St}{H7:Hp},Inv X (pins++fg fp s5.heap) cF H7 s7->N cF H7->∃m,m<n/\∃i aj H',Inv X pins aj H' s7/\tn i s7.heap/\(∀b∈fp,H' b=none)/\W i m aj H':=fun {cF H7} I7 n7=>by
   obtain⟨m',hm,w7⟩:=hN cF H7 n7
   refine⟨m',hm,i+1,cF,H7,I7.eD,T.keep _ _ _ gD fun b hb o e=> (I7.pin (b,o) (Zah _ (Zah _ (Zu hb e)))).1,fun b hb=> ?_,w7⟩
   obtain⟨o,e,d⟩:=T.obj _ _ gD b hb
   exact(I7.pin (b,o) (Zah _ (Zah _ (Zu hb e)))).2.1
  cases f with
  |next=>obtain⟨cF,H7,I7,n7⟩:=q7;exact again I7 n7
  |cont=>obtain⟨cF,H7,I7,n7⟩:=q7;exact again I7 n7
  |brk=>obtain⟨cF,H7,I7,q7⟩:=q7;exact⟨cF,H7,I7.eD,q7⟩
  |ret v=>obtain⟨x7,cF,H7,I7,r7,q7⟩:=q7;exact⟨x7,cF,H7,I7.eD,r7,q7⟩
end
theorem Yz {K:Zgc}{a:Addr}{xs:List V}{g:TG}{tb:TS}{D:Ends}{σ:St}{H:Hp}(Pv:Nat->St->Hp->Prop) (h0:Pv 0 σ H) (hl:∀i σ H,i<=xs.length->Pv i σ H->ai K H a xs)
  (hs:∀i x σ H,xs[i]? =some x->Pv i σ H->g x σ H fun bc H2=>tb {D with nx:=Pv (i+1),ct:=Pv (i+1),bk:=D.nx} bc H2) (hd:∀σ H,Pv xs.length σ H->D.nx σ H):
  ∃W:Nat->Nat->St->Hp->Prop,(∃m,W 0 m σ H)/\∀i m σ H,W i m σ H->
   ((oU K a).stop i H/\D.nx σ H)∨((oU K a).go i H/\∃N:St->Hp->Prop,(∀aj H',N aj H'->∃m',m'<m/\W (i+1) m' aj H')/\∀x H',(oU K a).nA i H x H'->g x σ H' fun bc H2=>tb {D with nx:=N,ct:=N,bk:=D.nx} bc H2):=by
 refine⟨fun i m σ H=>m=xs.length - i/\i<=xs.length/\Pv i σ H,⟨xs.length,by simp,Zaz _,h0⟩,?_⟩
 rintro i m σ H ⟨rfl,hi,p⟩
 have q:=hl i σ H hi p
 by_cases ar:i<xs.length
 ·refine .inr ⟨⟨xs,xs[i],q,by simp[ar]⟩,Pv (i+1),fun aj H' p'=> ⟨xs.length - (i+1),.o,rfl,ar,p'⟩,fun x H' y=> ?_⟩
  obtain⟨e,y⟩:=y
  subst e
  exact hs i x σ _ (y xs q) p
 ·have e:i=xs.length:=.o
  subst e
  exact .inl ⟨⟨xs,q,Zal _⟩,hd σ H p⟩
theorem Ye {lo:Int}{n:Nat}{g:TG}{tb:TS}{D:Ends}{σ:St}{H:Hp}(Pv:Nat->St->Hp->Prop) (h0:Pv 0 σ H)
  (hs:∀i σ H,i<n->Pv i σ H->g (.int (lo+i)) σ H fun bc H2=>tb {D with nx:=Pv (i+1),ct:=Pv (i+1),bk:=D.nx} bc H2) (hd:∀σ H,Pv n σ H->D.nx σ H):
  ∃W:Nat->Nat->St->Hp->Prop,(∃m,W 0 m σ H)/\∀i m σ H,W i m σ H->
   ((lF lo n).stop i H/\D.nx σ H)∨((lF lo n).go i H/\∃N:St->Hp->Prop,(∀aj H',N aj H'->∃m',m'<m/\W (i+1) m' aj H')/\∀x H',(lF lo n).nA i H x H'->g x σ H' fun bc H2=>tb {D with nx:=N,ct:=N,bk:=D.nx} bc H2):=by
 refine⟨fun i m σ H=>m=n - i/\i<=n/\Pv i σ H,⟨n,by simp,Zaz _,h0⟩,?_⟩
 rintro i m σ H ⟨rfl,hi,p⟩
 by_cases ar:i<n
 ·refine .inr ⟨ar,Pv (i+1),fun aj H' p'=> ⟨n - (i+1),.o,rfl,ar,p'⟩,fun x H' y=> ?_⟩
  obtain⟨e,y⟩:=y
  subst e y
  exact hs i σ _ ar p
 ·have e:i=n:=.o
  subst e
  exact .inl ⟨Zal _,hd σ H p⟩
abbrev R2:=V->V->Hp->VK->Prop
def bo (X:Cx) (f:Value->Value->Sem Value) (r:R2):Prop:=
 ∀(pins:List (Addr×Obj)) (s:Shared) (σ:St) (H:Hp) (x y:V) (v u:Value) (Q:VK),Inv X pins σ H s->RelV x v->RelV y u->r x y H Q->
  wpAny (model X.prog X.w) X.A (f v u) (EP X pins σ Q) X.xe s
def zM (X:Cx) (f:Value->Sem Value) (r:V->Hp->VK->Prop):Prop:=
 ∀(pins:List (Addr×Obj)) (s:Shared) (σ:St) (H:Hp) (x:V) (v:Value) (Q:VK),Inv X pins σ H s->RelV x v->r x H Q->
  wpAny (model X.prog X.w) X.A (f v) (EP X pins σ Q) X.xe s
def fc (X:Cx) (f:Value) (r:List V->Hp->VK->Prop):Prop:=
 ∀(pins:List (Addr×Obj)) (s:Shared) (σ:St) (H:Hp) (xs:List V) (us:List Value) (Q:VK),Inv X pins σ H s->Vals xs us->r xs H Q->
  wpAny (model X.prog X.w) X.A (call f us) (EP X pins σ Q) X.xe s
def rQ (r:R2) (ta tb:TE):TE:=fun σ H Q=>ta σ H fun x H1=>tb σ H1 fun y H2=>r x y H2 Q
def GC (r:V->Hp->VK->Prop) (ta:TE):TE:=fun σ H Q=>ta σ H fun x H1=>r x H1 Q
def rI (C:Int->Int->Prop) (g:Int->Int->V):R2:=fun x y H Q=> ∃i j,x=.int i/\y=.int j/\C i j/\Q (g i j) H
def kK (g:Int->Int->V):R2:=fun x y H Q=> ∃i j,x=.int i/\y=.int j/\Q (g i j) H
def rU (g:Int->V):V->Hp->VK->Prop:=fun x H Q=> ∃i,x=.int i/\Q (g i) H
section
variable {X:Cx}{a b c:Expr}{ta tb tc:TE}{pos:Pos}
theorem zv (ha:PE X a ta) (hb:PE X b tb) {pins:List (Addr×Obj)}{s:Shared}{σ:St}{H:Hp}{R:V->V->Hp->Prop}(I:Inv X pins σ H s)
  (h:ta σ H fun x H1=>tb σ H1 fun y H2=>R x y H2) {Q:Value->Shared->Prop}{f:Value->Value->Sem Value}
  (hf:∀v u s2 x y H2,Inv X pins σ H2 s2->RelV x v->RelV y u->R x y H2->wpAny (model X.prog X.w) X.A (f v u) Q X.xe s2):
  wpAny (model X.prog X.w) X.A (eval a X.env) (fun v aF=>wpAny (model X.prog X.w) X.A (eval b X.env) (fun u fU=>wpAny (model X.prog X.w) X.A (f v u) Q X.xe fU) X.xe aF) X.xe s:=by
 refine au (ha pins s σ H _ I h) fun v s1 ⟨x,H1,I1,r1,q1⟩=> ?_
 refine au (hb pins s1 σ H1 _ I1 q1) fun u s2 ⟨y,H2,I2,r2,q2⟩=> ?_
 exact hf v u s2 x y H2 I2 r1 r2 q2
theorem Zn {op:Operator}{r:R2}(ho:bo X (binaryOp op) r) (ha:PE X a ta) (hb:PE X b tb):PE X (.BinOp a op b pos) (rQ r ta tb):=by
 intro pins s σ H Q I h
 exact wpAny_BinOp (zv ha hb I h fun v u s2 x y H2 I2 rx ry q=>ho pins s2 σ H2 x y v u Q I2 rx ry q)
theorem DU {op:UnaryOp}{r:V->Hp->VK->Prop}(ho:zM X (unaryOp op) r) (ha:PE X a ta):PE X (.UnaryOp op a pos) (GC r ta):=by
 intro pins s σ H Q I h
 exact UnaryOp_ (au (ha pins s σ H _ I h) fun v s1 ⟨x,H1,I1,r1,q1⟩=>ho pins s1 σ H1 x v Q I1 r1 q1)
theorem sV {f:Value->Value->Sem Value}{C:Int->Int->Prop}{g:Int->Int->Int}
  (rule:∀(i j:Int) (t u:Tok) (s:Shared) (Q:Value->Shared->Prop) (E:Value->Shared->Prop),C i j->Q (.int (g i j) s.toks) {s with toks:=s.toks+1}->wpAny (model X.prog X.w) X.A (f (.int i t) (.int j u)) Q E s):
  bo X f (rI C fun i j=> .int (g i j)):=by
 intro pins s σ H x y v u Q I rx ry h
 obtain⟨i,j,rfl,rfl,hc,q⟩:=h
 obtain⟨t,rfl⟩:=rx
 obtain⟨t',rfl⟩:=ry
 exact rule i j t t' s _ _ hc ⟨.int (g i j),H,I.tok _,⟨_,rfl⟩,q⟩
theorem Bh {f:Value->Value->Sem Value}{g:Int->Int->Int}
  (rule:∀(i j:Int) (t u:Tok) (s:Shared) (Q:Value->Shared->Prop) (E:Value->Shared->Prop),Q (.int (g i j) s.toks) {s with toks:=s.toks+1}->wpAny (model X.prog X.w) X.A (f (.int i t) (.int j u)) Q E s):
  bo X f (kK fun i j=> .int (g i j)):=by
 intro pins s σ H x y v u Q I rx ry h
 obtain⟨i,j,rfl,rfl,q⟩:=h
 obtain⟨t,rfl⟩:=rx
 obtain⟨t',rfl⟩:=ry
 exact rule i j t t' s _ _ ⟨.int (g i j),H,I.tok _,⟨_,rfl⟩,q⟩
theorem sW {f:Value->Value->Sem Value}{g:Int->Int->Bool}
  (rule:∀(i j:Int) (t u:Tok) (s:Shared) (Q:Value->Shared->Prop) (E:Value->Shared->Prop),Q (.bool (g i j)) s->wpAny (model X.prog X.w) X.A (f (.int i t) (.int j u)) Q E s):
  bo X f (kK fun i j=> .bl (g i j)):=by
 intro pins s σ H x y v u Q I rx ry h
 obtain⟨i,j,rfl,rfl,q⟩:=h
 obtain⟨t,rfl⟩:=rx
 obtain⟨t',rfl⟩:=ry
 exact rule i j t t' s _ _ ⟨.bl (g i j),H,I,rfl,q⟩
def Xg (i j:Int):Prop:=0<j/\j<1073741824
def Xf (i j:Int):Prop:=0<=j/\j<=1000000/\i.natAbs<2^64
def Aq (i j:Int):Prop:=(-(2^64)<i/\i<2^64)∨(-(2^64)<j/\j<2^64)
theorem Aq.ok {i j:Int}(h:Aq i j):IntMulOk i j:=by
 rcases h with ⟨h1,h2⟩ |⟨h1,h2⟩
 ·exact .of_left (intBits_le_64 h1 h2)
 ·exact .of_right (intBits_le_64 h1 h2)
theorem YJ:bo X (binaryOp .Add) (kK fun i j=> .int (i+j)):=Bh fun _ _ _ _ _ _ _ q=>add_int q
theorem ZW:bo X (binaryOp .Sub) (kK fun i j=> .int (i - j)):=Bh fun _ _ _ _ _ _ _ q=>sub_int q
theorem Wp:bo X (binaryOp .Mult) (rI Aq fun i j=> .int (i*j)):=sV fun _ _ _ _ _ _ _ hc q=>mul_int q hc.ok
theorem EH:bo X (binaryOp .FloorDiv) (rI Xg fun i j=> .int (i/j)):=sV fun i j _ _ _ _ _ hc q=>by
 have h1:(0:Int)<j:=hc.1
 have h2:j<1073741824:=hc.2
 exact floordiv_int .o (by rw[Int.fdiv_eq_ediv_of_nonneg i .o];exact q) (.inl (PyProof.noPylong_small .o))
theorem Jz:bo X (binaryOp .Mod) (rI (fun _ j=>0<j) fun i j=> .int (i%j)):=sV fun i j _ _ _ _ _ hc q=>by
 have h1:(0:Int)<j:=hc
 exact mod_int' .o (by rw[Int.fmod_eq_emod_of_nonneg i .o];exact q)
theorem Wo:bo X (binaryOp .Pow) (rI Xf fun i j=> .int (i^j.toNat)):=sV fun _ _ _ _ _ _ _ hc q=>pow_int_small hc.1 hc.2.1 hc.2.2 q
theorem Gj {f:Value->Sem Value}{g:Int->Int}
  (rule:∀(i:Int) (t:Tok) (s:Shared) (Q:Value->Shared->Prop) (E:Value->Shared->Prop),Q (.int (g i) s.toks) {s with toks:=s.toks+1}->wpAny (model X.prog X.w) X.A (f (.int i t)) Q E s):
  zM X f (rU fun i=> .int (g i)):=by
 intro pins s σ H x v Q I rx h
 obtain⟨i,rfl,q⟩:=h
 obtain⟨t,rfl⟩:=rx
 exact rule i t s _ _ ⟨.int (g i),H,I.tok _,⟨_,rfl⟩,q⟩
theorem Er:zM X (unaryOp .USub) (rU fun i=> .int (-i)):=Gj fun _ _ _ _ _ q=>neg_int q
end
def AN:V->V->Bool
 | .ah,.ah=>true | .ah,.int _=>true | .int _,.ah=>true | .ah,.bl _=>true | .bl _,.ah=>true | .ah,.str _=>true | .str _,.ah=>true
 | .int _,.int _=>true | .bl _,.bl _=>true | .str _,.str _=>true | .ig _,.ig _=>true
 | .int _,.str _=>true | .str _,.int _=>true | .bl _,.str _=>true | .str _,.bl _=>true
 |_,_=>false
def Ip:R2:=fun x y H Q=>AN x y=true/\Q (.bl (decide (x=y))) H
def Ii:R2:=fun x y H Q=>AN x y=true/\Q (.bl (!decide (x=y))) H
theorem UX {i j:Int} :decide (V.int i=V.int j)=(i==j):=by
 rw[Zb6]
 simp
theorem DJ {i j:Bool} :decide (V.bl i=V.bl j)=(i==j):=by
 rw[Zb6]
 simp
theorem Et {i j:Str} :decide (V.str i=V.str j)=(i==j):=by
 rw[Zb6]
 simp
theorem Fb {i j:Array UInt8} :decide (V.ig i=V.ig j)=(i.toList==j.toList):=by
 rw[Zb6]
 cases i
 cases j
 simp
section
variable {X:Cx}{a b c:Expr}{ta tb tc:TE}{pos:Pos}
theorem Zz {pins:List (Addr×Obj)}{σ:St}{H:Hp}{s:Shared}{Q:VK}{k k':Bool}(I:Inv X pins σ H s) (q:Q (.bl k) H) (e:k=k'):EP X pins σ Q (.bool k') s:=by
 subst e
 exact⟨.bl k,H,I,rfl,q⟩
theorem YG:bo X (compareOp .Eq) Ip:=by
 intro pins s σ H x y v u Q I rx ry h
 obtain⟨hs,q⟩:=h
 cases x with
 |ah=>
  cases rx
  cases y with
  |ah=>cases ry;exact PySem.EqNone.eq_none_none (Zz I q (by simp))
  |bl j=>cases ry;exact PySem.EqNone.eq_none_bool (Zz I q (by simp))
  |int j=>obtain⟨t',rfl⟩:=ry;exact PySem.EqNone.eq_none_int (Zz I q (by simp))
  |str j=>obtain⟨t',rfl⟩:=ry;exact PySem.EqNone.eq_none_str (Zz I q (by simp))
  |_=>exact absurd (show false=true from hs) Zag
 |bl i=>
  cases rx
  cases y with
  |ah=>cases ry;exact PySem.EqNone.eq_bool_none (Zz I q (by simp))
  |bl j=>cases ry;exact eq_bool (Zz I q DJ)
  |str j=>obtain⟨t',rfl⟩:=ry;exact PySem.EqMixed.eq_bool_str (Zz I q (by simp))
  |_=>exact absurd (show false=true from hs) Zag
 |int i=>
  obtain⟨t,rfl⟩:=rx
  cases y with
  |ah=>cases ry;exact PySem.EqNone.eq_int_none (Zz I q (by simp))
  |int j=>obtain⟨t',rfl⟩:=ry;exact eq_int (Zz I q UX)
  |str j=>obtain⟨t',rfl⟩:=ry;exact PySem.EqMixed.eq_int_str (Zz I q (by simp))
  |_=>exact absurd (show false=true from hs) Zag
 |str i=>
  obtain⟨t,rfl⟩:=rx
  cases y with
  |ah=>cases ry;exact PySem.EqNone.eq_str_none (Zz I q (by simp))
  |bl j=>cases ry;exact PySem.EqMixed.eq_str_bool (Zz I q (by simp))
  |int j=>obtain⟨t',rfl⟩:=ry;exact PySem.EqMixed.eq_str_int (Zz I q (by simp))
  |str j=>obtain⟨t',rfl⟩:=ry;exact eq_str (Zz I q Et)
  |_=>exact absurd (show false=true from hs) Zag
 |ig i=>
  obtain⟨t,rfl⟩:=rx
  cases y with
  |ig j=>obtain⟨t',rfl⟩:=ry;exact PySem.W.eq_bytes (Zz I q Fb)
  |_=>exact absurd (show false=true from hs) Zag
 |_=>cases y<;>exact absurd (show false=true from hs) Zag
theorem Uf:bo X (compareOp .NotEq) Ii:=by
 intro pins s σ H x y v u Q I rx ry h
 obtain⟨hs,q⟩:=h
 cases x with
 |ah=>
  cases rx
  cases y with
  |ah=>cases ry;exact PySem.EqNone.ne_none_none (Zz I q (by simp))
  |bl j=>cases ry;exact PySem.EqNone.ne_none_bool (Zz I q (by simp))
  |int j=>obtain⟨t',rfl⟩:=ry;exact PySem.EqNone.ne_none_int (Zz I q (by simp))
  |str j=>obtain⟨t',rfl⟩:=ry;exact PySem.EqNone.ne_none_str (Zz I q (by simp))
  |_=>exact absurd (show false=true from hs) Zag
 |bl i=>
  cases rx
  cases y with
  |ah=>cases ry;exact PySem.EqNone.ne_bool_none (Zz I q (by simp))
  |bl j=>cases ry;exact ne_bool (Zz I q (Zce not DJ))
  |str j=>obtain⟨t',rfl⟩:=ry;exact PySem.EqMixed.ne_bool_str (Zz I q (by simp))
  |_=>exact absurd (show false=true from hs) Zag
 |int i=>
  obtain⟨t,rfl⟩:=rx
  cases y with
  |ah=>cases ry;exact PySem.EqNone.ne_int_none (Zz I q (by simp))
  |int j=>obtain⟨t',rfl⟩:=ry;exact ne_int (Zz I q (Zce not UX))
  |str j=>obtain⟨t',rfl⟩:=ry;exact PySem.EqMixed.ne_int_str (Zz I q (by simp))
  |_=>exact absurd (show false=true from hs) Zag
 |str i=>
  obtain⟨t,rfl⟩:=rx
  cases y with
  |ah=>cases ry;exact PySem.EqNone.ne_str_none (Zz I q (by simp))
  |bl j=>cases ry;exact PySem.EqMixed.ne_str_bool (Zz I q (by simp))
  |int j=>obtain⟨t',rfl⟩:=ry;exact PySem.EqMixed.ne_str_int (Zz I q (by simp))
  |str j=>obtain⟨t',rfl⟩:=ry;exact ne_str (Zz I q (Zce not Et))
  |_=>exact absurd (show false=true from hs) Zag
 |ig i=>
  obtain⟨t,rfl⟩:=rx
  cases y with
  |ig j=>obtain⟨t',rfl⟩:=ry;exact PySem.W.ne_bytes (Zz I q (Zce not Fb))
  |_=>exact absurd (show false=true from hs) Zag
 |_=>cases y<;>exact absurd (show false=true from hs) Zag
theorem DT:bo X (compareOp .Lt) (kK fun i j=> .bl (decide (i<j))):=sW fun _ _ _ _ _ _ _ q=>lt_int q
theorem DS:bo X (compareOp .LtE) (kK fun i j=> .bl (decide (i<=j))):=sW fun _ _ _ _ _ _ _ q=>le_int q
theorem DR:bo X (compareOp .Gt) (kK fun i j=> .bl (decide (j<i))):=sW fun _ _ _ _ _ _ _ q=>gt_int q
theorem Qc:bo X (compareOp .GtE) (kK fun i j=> .bl (decide (j<=i))):=sW fun _ _ _ _ _ _ _ q=>ge_int q
theorem bo.or {f:Value->Value->Sem Value}{r r':R2}(h:bo X f r) (h':bo X f r'):bo X f (fun x y H Q=>r x y H Q∨r' x y H Q):=by
 intro pins s σ H x y v u Q I rx ry q
 rcases q with q |q
 ·exact h pins s σ H x y v u Q I rx ry q
 ·exact h' pins s σ H x y v u Q I rx ry q
theorem cC (b:Expr) {op:CmpOp}(h:op≠.In:=by decide) (h2:op≠.NotIn:=by decide):behindInMarks op b=false:=by
 have e1:(op==CmpOp.In)=false:=by cases op<;>first |rfl |exact absurd rfl h
 have e2:(op==CmpOp.NotIn)=false:=by cases op<;>first |rfl |exact absurd rfl h2
 cases b<;>simp[behindInMarks,e1,e2]
theorem Yq {op:CmpOp}{r:R2}(ho:bo X (compareOp op) r) (ha:PE X a ta) (hb:PE X b tb) (hm:behindInMarks op b=false):PE X (.Compare a [op] [b] pos) (rQ r ta tb):=by
 intro pins s σ H Q I h
 exact wpAny_Compare1 (zv ha hb I h fun v u s2 x y H2 I2 rx ry q=>ho pins s2 σ H2 x y v u Q I2 rx ry q) hm
def GG (t:TE):TT:=fun σ H Q=>t σ H fun x H'=> ∃k,x=.bl k/\Q k H'
theorem ZI {op:CmpOp}{r:R2}(ho:bo X (compareOp op) r) (ha:PE X a ta) (hb:PE X b tb) (hm:behindInMarks op b=false):PT X (.Compare a [op] [b] pos) (GG (rQ r ta tb)):=by
 intro pins s σ H Q I h
 refine wpAny_isTrue_Compare1 (au (ha pins s σ H _ I h) fun v s1 ⟨x,H1,I1,r1,q1⟩=>au (hb pins s1 σ H1 _ I1 q1) fun u s2 ⟨y,H2,I2,r2,q2⟩=>
  au (ho pins s2 σ H2 x y v u _ I2 r1 r2 q2) fun c s3 ⟨z,H3,I3,r3,k,e,q3⟩=> ?_) hm
 subst e
 cases r3
 exact ZbG ⟨H3,I3,q3⟩
def G8 (r r':R2) (ta tb tc:TE):TE:=fun σ H Q=>ta σ H fun x H1=>tb σ H1 fun y H2=>r x y H2 fun z H3=> ∃k,z=.bl k/\
 (if k=true then tc σ H3 fun w' H4=>r' y w' H4 Q else Q (.bl false) H3)
theorem RC {op xi:CmpOp}{r r':R2}(ho:bo X (compareOp op) r) (bE:bo X (compareOp xi) r') (ha:PE X a ta) (hb:PE X b tb) (hc:PE X c tc)
  (hm:lastMarks [op,xi] [b,c]=false:=by with_unfolding_all rfl):PE X (.Compare a [op,xi] [b,c] pos) (G8 r r' ta tb tc):=by
 intro pins s σ H Q I h
 refine Compare_chain (au (ha pins s σ H _ I h) fun v s1 ⟨x,H1,I1,r1,q1⟩=>chain_link (au (hb pins s1 σ H1 _ I1 q1) fun u s2 ⟨y,H2,I2,r2,q2⟩=>
  au (ho pins s2 σ H2 x y v u _ I2 r1 r2 q2) fun d s3 ⟨z,H3,I3,r3,k,e,q3⟩=> ?_)) hm
 subst e
 cases r3
 refine ZbG ?_
 cases k with
 |false=>exact ite_ff ⟨.bl false,H3,I3,rfl,q3⟩
 |true=>exact ite_tt (chain_last (au (hc pins s3 σ H3 _ I3 q3) fun w' s4 ⟨z',H4,I4,r4,q4⟩=>bE pins s4 σ H4 y z' u w' Q I4 r2 r4 q4))
theorem tG:(sizeLine:Nat)<2^63:=by rw[Zau];decide
theorem ZeN {x:V}{us:List Value}(r:Vals [x] us):∃u,us=[u]/\RelV x u:=by
 cases r with
 |cons r1 r2=>cases r2;exact⟨_,rfl,r1⟩
theorem vals2 {x y:V}{us:List Value}(r:Vals [x,y] us):∃u w',us=[u,w']/\RelV x u/\RelV y w':=by
 cases r with
 |cons r1 r2=>
  cases r2 with
  |cons r3 r4=>cases r4;exact⟨_,_,rfl,r1,r3⟩
theorem Uy (hc:X.calm=true):fc X (.builtin "max") (fun xs H Q=> ∃i j,xs=[.int i,.int j]/\Q (.int (if j>i then j else i)) H):=by
 intro pins s σ H xs us Q I r h
 obtain⟨i,j,rfl,q⟩:=h
 obtain⟨u,w',rfl,⟨t,rfl⟩,⟨t',rfl⟩⟩:=vals2 r
 refine max_two_ints (I.ok.hd hc) fun h' tk k=> ⟨_,H,I.kept k,?_,q⟩
 by_cases hj:j>i
 ·rw[Zay hj,Zay hj];exact⟨_,rfl⟩
 ·rw[Zav hj,Zav hj];exact⟨_,rfl⟩
theorem SV (hc:X.calm=true):fc X (.builtin "min") (fun xs H Q=> ∃i j,xs=[.int i,.int j]/\Q (.int (if j<i then j else i)) H):=by
 intro pins s σ H xs us Q I r h
 obtain⟨i,j,rfl,q⟩:=h
 obtain⟨u,w',rfl,⟨t,rfl⟩,⟨t',rfl⟩⟩:=vals2 r
 refine min_two_ints (I.ok.hd hc) fun h' tk k=> ⟨_,H,I.kept k,?_,q⟩
 by_cases hj:j<i
 ·rw[Zay hj,Zay hj];exact⟨_,rfl⟩
 ·rw[Zav hj,Zav hj];exact⟨_,rfl⟩
end
structure zR (h:Heap) (x dx C:Addr) (mA:Str->Option Value):Prop where
 obj:h.get? x=some (PySem.W.instObj C dx)
 ns:h.Ns1 dx mA
 ne:dx≠x
theorem Sm {h:Heap}{dx:Addr}{mA:Str->Option Value}(n:h.Ns1 dx mA):∃od,h.get? dx=some od/\∀name,PySem.W.lookIn name od=some (mA name):=by
 obtain⟨o,es,ep,ho,hd,hk,_,hm⟩:=n
 refine⟨o,ho,fun name=> ?_⟩
 have e:=hm name
 unfold nsFind findBy at e
 rw[<-Array.find?_toList]at e
 unfold PySem.W.lookIn
 rw[hd]
 dsimp only
 split
 ·rename_i y q
  rw[q]at e
  exact Zce some e
 ·rename_i q
  rw[q]at e
  have a:es.toList.any (·.refKey)=false:=by
   rw[List.any_eq_false]
   intro y hy
   obtain⟨z,t,MY⟩:=hk y (Array.mem_toList_iff.mp hy)
   simp[DictEntry.refKey,MY]
  have a':¬es.toList.any (·.refKey)=true:=by rw[a];exact Zag
  rw[Zav a']
  exact Zce some e
theorem zR.look {h:Heap}{x dx C:Addr}{mA:Str->Option Value}(I:zR h x dx C mA):∃od,PySem.W.InstAt h x (PySem.W.instObj C dx) C (some od)/\∀name,PySem.W.lookIn name od=some (mA name):=
 let ⟨od,ho,hl⟩:=Sm I.ns
 ⟨od,⟨I.obj,rfl,rfl,ho⟩,hl⟩
theorem gN.some_of {v:V}{o:Option Value}(r:gN (some v) o):∃u,o=some u/\RelV v u:=by
 cases o with
 |none=>exact(show False from r).elim
 |some u=>exact⟨u,rfl,r⟩
section
variable {P:Program}{w:World}{H H':Hp}{h h':Heap}{a C dx:Addr}{fs Of:List (Str×V)}
theorem Rf (ak:bw P w H h) (e:H a=some (.ins C dx fs)):∃mA,zR h a dx C mA/\(∀f,gN (fs.lookup f) (mA f))/\PySem.Within mA (fs.map (·.1))/\fs.length<=1000/\H dx=some (.own a):=by
 obtain⟨d,z,ne,ob,mA,n,r,q⟩:=(show bt P w H h a (.ins C dx fs) from ak a _ e)
 exact⟨mA,⟨ob,n,ne⟩,r,q,z,d⟩
end
structure Ap (K:Zgc) (C:Addr):Prop where
 pg:PySem.W.plainGet K C Str.empty=true
 hd:PySem.W.hasDictIn K C=true
 po:PySem.W.plainOver K C=true
 sa:PySem.W.findIn K (.ref C) "__setattr__" =some (some (.builtin "object.__setattr__"))
theorem Ap.get {K:Zgc}{C:Addr}(c:Ap K C) (f:Str):PySem.W.plainGet K C f=true:=c.pg
structure X4 (K:Zgc) (C:Addr) (f:Str) (v:V) (u:Value):Prop where
 at_:PySem.W.findIn K (.ref C) f=some (some u)
 rel:RelV v u
 get:PySem.W.specialIn K u "__get__" =some none
 cp:PySem.W.copiedNames.contains f=false
structure Meth (K:Zgc) (C:Addr) (m:Str) (f:Addr):Prop where
 at_:PySem.W.findIn K (.ref C) m=some (some (.ref f))
 fn:PySem.W.isFn K (.ref f)=true
 kp:PySem.W.keepIn K (.ref f)=true
section
variable {X:Cx}{pins:List (Addr×Obj)}{σ:St}{H:Hp}{s:Shared}{A:Around}{E:Value->Shared->Prop}{Q:Value->Shared->Prop}{c:Value}{b:Bool}
inductive eX (K:Zgc) (H:Hp):V->Value->Prop where
 |ah:eX K H .ah (.type "NoneType")
 |bl (x:Bool):eX K H (.bl x) (.type "bool")
 |int (i:Int):eX K H (.int i) (.type "int")
 |str (x:Str):eX K H (.str x) (.type "str")
 |iU (x:UInt64):eX K H (.iU x) (.type "float")
 |lst {a:Addr}{xs:List V} (e:H a=some (.lst xs)):eX K H (.ref a) (.type "list")
 |cD {a:Addr}{o:Obj}{xs:List V} (e:H a=some (.cD o (.lst xs))):eX K H (.ref a) (.type "list")
 |tup {a:Addr}{xs:List V} (e:H a=some (.tup xs)):eX K H (.ref a) (.type "tuple")
 |dK {a:Addr}{ae:List (Key×V)} (e:H a=some (.dK ae)):eX K H (.ref a) (.type "dict")
 |dT {a:Addr}{ae:List (List Key×V)} (e:H a=some (.dT ae)):eX K H (.ref a) (.type "dict")
 |ins {a C dx:Addr}{fs:List (Str×V)} (e:H a=some (.ins C dx fs)) (cl:Ap K C) (ha:PySem.W.findIn K (.ref C) "__class__" =some (some (.builtin "object.__class__")))
  (hn:PySem.W.specialIn K (.builtin "object.__class__") "__get__" =some (some (.builtin "getset_descriptor.__get__"))) (BS:PySem.W.takesIn K (.builtin "object.__class__")=some true)
  (hm:PySem.W.mroIn K C (.type "object")=some true):eX K H (.ref a) (.ref C)
theorem Th {x:V}{u t:Value}(I:Inv X pins σ H s) (rx:RelV x u) (ty:eX X.K H x t) (e:PySem.W.kitOne X.K t c=some b) (h:∀tk,Q (.bool b) {s with toks:=tk}):
  wpAny (model X.prog X.w) A (call (.builtin "isinstance") [u,c]) Q E s:=by
 cases ty with
 |ah=>cases (show u=Value.none from rx);exact Zbu PySem.W.kitx_none I.bN True.intro e (fun z=>nomatch z) h
 |bl y=>cases (show u=Value.bool y from rx);exact Zbu PySem.W.kitx_bool I.bN True.intro e (fun z=>nomatch z) h
 |int i=>obtain⟨t,q⟩:=(show ∃t,u=Value.int i t from rx);cases q;exact Zbu PySem.W.kitx_int I.bN True.intro e (fun z=>nomatch z) h
 |str y=>obtain⟨t,q⟩:=(show ∃t,u=Value.str y t from rx);cases q;exact Zbu PySem.W.kitx_str I.bN True.intro e (fun z=>nomatch z) h
 |iU y=>obtain⟨t,q⟩:=(show ∃t,u=Value.float y t from rx);cases q;exact Zbu PySem.W.kitx_float I.bN True.intro e (fun z=>nomatch z) h
 | @lst a xs ea=>
  cases (show u=Value.ref a from rx)
  obtain⟨_,_,n,_,h1⟩:=(show bt X.prog X.w H s.heap a (.lst xs) from I.ak a _ ea)
  exact Zbu PySem.W.kitx_list I.bN ⟨_,h1,rfl⟩ e (fun z=>nomatch z) h
 | @cD a ob xs ea=>
  cases (show u=Value.ref a from rx)
  obtain⟨_,_,_,n,_,h1⟩:=(show bt X.prog X.w H s.heap a (.cD ob (.lst xs)) from I.ak a _ ea)
  exact Zbu PySem.W.kitx_list I.bN ⟨_,h1,rfl⟩ e (fun z=>nomatch z) h
 | @tup a xs ea=>
  cases (show u=Value.ref a from rx)
  obtain⟨_,_,_,p,_⟩:=(show bt X.prog X.w H s.heap a (.tup xs) from I.ak a _ ea)
  obtain⟨o,h1,h2,_⟩:=p
  exact Zbu PySem.W.kitx_tuple I.bN ⟨o,h1,h2⟩ e (fun z=>nomatch z) h
 | @dK a ae ea=>
  cases (show u=Value.ref a from rx)
  obtain⟨_,_,vs,_,p⟩:=(show bt X.prog X.w H s.heap a (.dK ae) from I.ak a _ ea)
  obtain⟨o,es,ep,h1,h2,_⟩:=p
  exact Zbu PySem.W.kitx_dict I.bN ⟨o,h1,h2.1⟩ e (fun z=>nomatch z) h
 | @dT a ae ea=>
  cases (show u=Value.ref a from rx)
  obtain⟨_,_,xs,_,o,es,ep,h1,h2,_⟩:=(show bt X.prog X.w H s.heap a (.dT ae) from I.ak a _ ea)
  exact Zbu PySem.W.kitx_dict I.bN ⟨o,h1,h2.1⟩ e (fun z=>nomatch z) h
 | @ins a C dx fs ea cl ha hn BS hm=>
  cases (show u=Value.ref a from rx)
  obtain⟨mA,O,_⟩:=Rf I.ak ea
  obtain⟨od,J,_⟩:=O.look
  exact Zbu (PySem.W.kitx_own (cl.get _) cl.hd ha hn BS hm) I.bN J e (fun z=>nomatch z) h
end
structure bj (k:Nat) (A:Around):Prop where
 hd:A.handled=none
 dp:A.depth+3*k+5<recursionLimit
 un:A.units+16*k+200<cLine
 gd:A.guards=some []
theorem bj.mono {j k:Nat}{A:Around}(r:bj k A) (h:j<=k):bj j A:=⟨r.hd,by have:=r.dp;omega,by have:=r.un;omega,r.gd⟩
theorem bj.deeper {k:Nat}{A:Around}(r:bj (k+1) A) (env:Env):bj k (A.deeper env):=
 ⟨r.hd,by have:=r.dp;show A.depth+1+3*k+5<_;omega,by have:=r.un;show A.units+3+16*k+200<_;omega,r.gd⟩
theorem bj.in1 {k:Nat}{A:Around}(r:bj (k+1) A):bj k A.in1:=
 ⟨r.hd,by have:=r.dp;show A.depth+3*k+5<_;omega,by have:=r.un;show A.units+1+16*k+200<_;omega,r.gd⟩
theorem bj.depth {k:Nat}{A:Around}(r:bj k A):A.depth<recursionLimit:=by have:=r.dp;omega
theorem bj.units {k:Nat}{A:Around}(r:bj k A):A.units+64<cLine:=by have:=r.un;omega
theorem bj.Gh {k:Nat}{A:Around}(r:bj k A):A.units<cLine:=by have:=r.un;omega
def i8:TA:=fun _ H Q=>Q [] H
def i9 (ta:TE) (tr:TA):TA:=fun σ H Q=>ta σ H fun x H1=>tr σ H1 fun xs H2=>Q (x::xs) H2
section
variable {X:Cx}{e:Expr}{es:List Expr}{te:TE}{t:TA}{pos:Pos}
theorem Zb:PA X [] i8:=fun _ _ _ _ H Q I h=>ZcH ⟨[],H,I,.nil,h⟩
theorem Za (ha:PE X e te) (hr:PA X es t) (hs:starEach (e::es) X.env=(false,eval e X.env)::starEach es X.env:=by rfl):PA X (e::es) (i9 te t):=by
 intro pos pins s σ H Q I h
 rw[hs]
 show wpAny _ _ (spliced ((false,eval e X.env)::backTo pos (starEach es X.env))) _ _ s
 refine Zcz (au (ha pins s σ H _ I h) fun u s1 ⟨x,H1,I1,r1,q1⟩=> ?_)
 exact au (hr pos pins s1 σ H1 _ I1 q1) fun us s2 ⟨xs,H2,I2,r2,q2⟩=> ⟨x::xs,H2,I2,.cons r1 r2,q2⟩
def GD (t:TA):TE:=fun σ H Q=>t σ H fun xs H1=>xs.length<=sizeLine/\∀p,H1 p=none->Q (.ref p) (upd H1 p (.tup xs))
def AE (t:TA):TE:=fun σ H Q=>t σ H fun xs H1=>xs.length<=sizeLine/\∀p,H1 p=none->Q (.ref p) (upd H1 p (.lst xs))
theorem Zt {x1} (h:PA X es t):PE X (.Tuple es x1 pos) (GD t):=by
 intro pins s σ H Q I hq
 refine wpAny_Tuple_spliced (au (h pos pins s σ H _ I hq) fun us s1 ⟨xs,H1,I1,r,z,q⟩=> ⟨by rw[<-r.length];exact z,?_⟩)
 have hf:H1 s1.heap.objs.size=none:=I1.ak.fresh (Zal _)
 refine⟨.ref s1.heap.objs.size,upd H1 s1.heap.objs.size (.tup xs),I1.laid (t':=s1.toks) (fun b u e=>X7 _ e) (Zal _) ?_,rfl,q _ hf⟩
 exact⟨z,us,r,⟨_,Zaf _ rfl,rfl,_,rfl⟩,_,Zaf _ rfl,rfl⟩
theorem ZE (h:PA X es t):PE X (.List es pos) (AE t):=by
 intro pins s σ H Q I hq
 refine wpAny_List_spliced (au (h pos pins s σ H _ I hq) fun us s1 ⟨xs,H1,I1,r,z,q⟩=> ⟨by rw[<-r.length];exact z,?_⟩)
 have hf:H1 s1.heap.objs.size=none:=I1.ak.fresh (Zal _)
 refine⟨.ref s1.heap.objs.size,upd H1 s1.heap.objs.size (.lst xs),I1.laid (t':=s1.toks) (fun b u e=>X7 _ e) (Zal _) ?_,rfl,q _ hf⟩
 exact⟨z,us,0,r,Zaf _ rfl⟩
end
abbrev Sp:=List V->Hp->VK->XK->Prop
abbrev i6:=List Env->Hp->Shared->XK->Value->Shared->Prop
structure rm (P:Program) (w:World) (K:Zgc) (mg:Str->Option Value) (base:Heap) (A:Around) (outer:List Env) (s:Shared) (H:Hp):Prop where
 frames:A.frames=some outer
 mod:Mod K mg base
 bs:∀b o,base.get? b=some o->s.heap.get? b=some o/\H b=none
 iX:base.objs.size<=s.heap.objs.size
 dJ:s.heap.FunFrames base outer
 gM:∀b∈aY outer,H b=none
 ak:bw P w H s.heap
 bare:AllBare s.gens
def CE (outer:List Env) (P:Program) (w:World) (H:Hp) (s:Shared) (Q:VK) (u:Value) (s':Shared):Prop:=
 ∃v H',s'.os=s.os/\AllBare s'.gens/\Un (aY outer) [] H H' s.heap s'.heap/\bw P w H' s'.heap/\RelV v u/\Q v H'
def CR (CX:i6) (outer:List Env) (P:Program) (w:World) (H:Hp) (s:Shared) (Q:VK) (E:XK) (r:Result) (s':Shared):Prop:=
 match r with
 | .ok (.ret u)=>CE outer P w H s Q u s'
 | .ok _=>False
 | .error e=>CX outer H s E e s'
structure aA (P:Program) (w:World) (K:Zgc) (mg:Str->Option Value) (base:Heap) (CX:i6) (k:Nat) (f:Addr) (fd:FuncData) (ps:List Str) (sp:Sp):Prop where
 len:∀vs H Q E,sp vs H Q E->vs.length=ps.length
 run:∀(A:Around) (outer:List Env) (s:Shared) (H:Hp) (args:Args) (us:List Value) (vs:List V) (Q:VK) (E:XK),bj k A->rm P w K mg base A outer s H->BindsTo s fd args (ps.zip us)->Vals vs us->sp vs H Q E->
  codeAny (model P w) A (.call (.ref f) args) (CR CX outer P w H s Q E) s
section
variable {X:Cx}{pins:List (Addr×Obj)}{σ:St}{H:Hp}{s s':Shared}
theorem Inv.C7 (I:Inv X pins σ H s):rm X.prog X.w X.K X.mg X.base X.A X.stack s H:=
 ⟨I.ok.frames,I.ok.mod,I.bs,Zbf I.ok.iX I.sz,I.stack,I.ph,I.ak,I.bare⟩
theorem Inv.after {Q:VK}{u:Value}(I:Inv X pins σ H s) (h:CE X.stack X.prog X.w H s Q u s'):EP X pins σ Q u s':=by
 obtain⟨v,H',os,bare,un,ak,r,q⟩:=h
 obtain⟨hh,g,d,t,lU⟩:=s'
 obtain rfl:lU=s.os:=os
 exact⟨v,H',I.call (h':=hh) (g':=g) (d':=d) (t':=t) (ch:=[]) un ak bare (fun b z=>absurd z (by simp)),r,q⟩
end
def nC (sp:Sp) (gw:List V) (E:XK) (t:TA):TE:=fun σ H Q=>t σ H fun vs H1=>sp (vs++gw) H1 Q E
def Binds (K:Zgc) (fd:FuncData) (ps:List Str) (ds:List Value):Prop:=
 ∀(s:Shared) (us:List Value),K.In s.heap->(us++ds).length=ps.length->BindsTo s fd ⟨us,[]⟩ (ps.zip (us++ds))
theorem Binds.all {K:Zgc}{fd:FuncData}{ps:List Str}(h:∀us:List Value,us.length=ps.length->bindArgs fd ⟨us,[]⟩=pure (ps.zip us)):Binds K fd ps []:=fun s us _ hl=>by
 rw[ZbN]at hl |-
 exact .of_eq (h us hl)
def Passes (CX:i6) (X:Cx) (E:XK):Prop:=∀(pins:List (Addr×Obj)) (σ:St) (H:Hp) (s:Shared) (e:Value) (s':Shared),Inv X pins σ H s->CX X.stack H s E e s'->X.xe e s'
section
variable {X:Cx}{CX:i6}{k:Nat}{f C:Addr}{fd:FuncData}{ps:List Str}{sp:Sp}{gw:List V}{ds:List Value}{E:XK}{x m:Str}{p pos apos:Pos}{e o:Expr}{es:List Expr}{ta:TE}{t:TA}
theorem UG {pins:List (Addr×Obj)}{σ:St}{H:Hp}{s:Shared}{Q:VK}{us:List Value}{vs:List V}(F:aA X.prog X.w X.K X.mg X.base CX k f fd ps sp) (hr:bj k X.A) (hb:Binds X.K fd ps ds) (hd:Vals gw ds) (hx:Passes CX X E)
  (I:Inv X pins σ H s) (r:Vals vs us) (h:sp (vs++gw) H Q E):wpAny (model X.prog X.w) X.A (call (.ref f) us) (EP X pins σ Q) X.xe s:=by
 have r2:Vals (vs++gw) (us++ds):=r.append hd
 have hl:(us++ds).length=ps.length:=by rw[<-r2.length];exact F.len _ _ _ _ h
 refine PySem.wpAny_call (Zb7 (F.run X.A X.stack s H ⟨us,[]⟩ (us++ds) (vs++gw) Q E hr I.C7 (hb s us I.bN hl) r2 h) fun r s' hq=> ?_)
 cases r with
 |error e=>exact hx pins σ H s e s' I hq
 |ok fl=>
  cases fl with
  |ret u=>exact I.after hq
  |next=>exact False.elim hq
  |brk=>exact False.elim hq
  |cont=>exact False.elim hq
theorem EJ (F:aA X.prog X.w X.K X.mg X.base CX k f fd ps sp) (hr:bj k X.A) (hg:Gl X x) (hm:X.mg x=some (.ref f)) (hk:PySem.W.keepIn X.K (.ref f)=true) (hb:Binds X.K fd ps ds) (hd:Vals gw ds) (hx:Passes CX X E)
  (ha:PA X (e::es) t) (dI:(x==("__debug__" :Str))=false:=by decide) (he:starEach (e::es) X.env=(false,eval e X.env)::starEach es X.env:=by rfl) (dm:(backTo pos (starEach es X.env)).any (·.1)=false:=by rfl):
  PE X (.Call (.Name x p) (e::es) [] pos) (nC sp gw E t):=by
 intro pins s σ H Q I h
 refine Za2 (YX I hg hm ?_ dI)
 refine PySem.W.callWith_K (h₀:=X.base) I.ok.mod.kU hk (au (ha pos pins s σ H _ I h) fun us s1 ⟨vs,H1,I1,r,q⟩=> ⟨I1.bN,?_⟩) he dm
 exact UG F hr hb hd hx I1 r q
theorem RB (F:aA X.prog X.w X.K X.mg X.base CX k f fd ps sp) (hr:bj k X.A) (hg:Gl X x) (hm:X.mg x=some (.ref f)) (hk:PySem.W.keepIn X.K (.ref f)=true) (hb:Binds X.K fd ps ds) (hd:Vals gw ds) (hx:Passes CX X E)
  (dI:(x==("__debug__" :Str))=false:=by decide):PE X (.Call (.Name x p) [] [] pos) (nC sp gw E i8):=by
 intro pins s σ H Q I h
 refine Za2 (YX I hg hm ?_ dI)
 exact PySem.W.callWith_K0 I.bN hk (UG (us:=[]) F hr hb hd hx I .nil h)
structure Mk (K:Zgc) (C f:Addr):Prop where
 makes:PySem.W.makesIn K C=true
 init:PySem.W.findIn K (.ref C) "__init__" =some (some (.ref f))
 fn:PySem.W.isFn K (.ref f)=true
 kp:PySem.W.keepIn K (.ref C)=true
end
def PK (X:Cx) (pU:List Keyword) (t:TA):Prop:=
 ∀(pos:Pos) (pins:List (Addr×Obj)) (s:Shared) (σ:St) (H:Hp) (Q:List V->Hp->Prop),Inv X pins σ H s->t σ H Q->wpAny (model X.prog X.w) X.A (evalAll ((backToKw pos (keywordEach pU X.env)).map (·.2))) (AP X pins σ Q) X.xe s
section
variable {X:Cx}{CX:i6}{k:Nat}{f C:Addr}{fd:FuncData}{ps ks:List Str}{sp:Sp}{E:XK}{x m:Str}{p pos apos jQ:Pos}{e o:Expr}{es:List Expr}{pU:List Keyword}{te ta:TE}{t tk:TA}{nm:Option Str}
theorem DX:PK X [] i8:=fun _ _ _ _ H Q I h=>wpAny_evalAll_nil ⟨[],H,I,.nil,h⟩
theorem EN (ha:PE X e te) (hr:PK X pU t):PK X (⟨nm,e,jQ⟩::pU) (i9 te t):=by
 intro pos pins s σ H Q I h
 show wpAny _ _ (evalAll ((do let v <-eval e X.env;standAt pos;pure v)::(backToKw pos (keywordEach pU X.env)).map (·.2))) _ _ s
 refine wpAny_evalAll_cons (eg (au (ha pins s σ H _ I h) fun u s1 ⟨x,H1,I1,r1,q1⟩=>eg (Zcf (X6 ?_))))
 exact au (hr pos pins s1 σ H1 _ I1 q1) fun us s2 ⟨xs,H2,I2,r2,q2⟩=> ⟨x::xs,H2,I2,.cons r1 r2,q2⟩
structure XY (K:Zgc) (fd:FuncData) (ps ks:List Str) (g:List Value->List Value->List Value) (gV:List V->List V->List V):Prop where
 to:∀(s:Shared) (us ws:List Value),K.In s.heap->(g us ws).length=ps.length->BindsTo s fd ⟨us,ks.zip ws⟩ (ps.zip (g us ws))
 rel:∀{vs:List V}{us:List Value}{zs:List V}{ws:List Value},Vals vs us->Vals zs ws->Vals (gV vs zs) (g us ws)
variable {g:List Value->List Value->List Value}{gV:List V->List V->List V}
end
structure aQ (N P:List Str) (sc:Scope):Prop where
 kind:sc.kind=.function
 co:sc.isCoroutine=false
 gen:sc.isGenerator=false
 nd:N.Nodup
 pre:N.take P.length=P
 par:∀x∈P,sc.names.lookup x=some .local∨sc.names.lookup x=some .cell
 Ky:∀y∈sc.names,y.2≠.free
def HM (N P:List Str) (sc:Scope):Bool:=decide (sc.kind=.function/\sc.isCoroutine=false/\sc.isGenerator=false/\N.Nodup/\N.take P.length=P/\(∀x∈P,sc.names.lookup x=some .local∨sc.names.lookup x=some .cell)/\∀y∈sc.names,y.2≠.free)
theorem Zr {N P:List Str}{sc:Scope}(h:HM N P sc=true):aQ N P sc:=let ⟨a,b,c,d,e,f,g⟩:=ZbU h;⟨a,b,c,d,e,f,g⟩
theorem Uz {kindOf:Str->Option NameKind}{x:Str} :∀{binds:List (Str×Value)}{m:Str->Option Value},(∀v,(x,v)∉binds)->bindL kindOf binds m x=m x
 | [],_,_=>rfl
 |(n,v)::r,m,h=>by
  unfold bindL
  rw[Uz fun w hw=>h w (Zaa _ hw)]
  split
  ·have:x≠n:=by rintro rfl;exact h v Zab
   simp[this]
  ·rfl
theorem UB {kindOf:Str->Option NameKind}{x:Str} :∀{binds:List (Str×Value)}{m:Str->Option Value},(∀v,(x,v)∉binds)->bindC kindOf binds m x=m x
 | [],_,_=>rfl
 |(n,v)::r,m,h=>by
  unfold bindC
  rw[UB fun w hw=>h w (Zaa _ hw)]
  split
  ·rfl
  ·have:x≠n:=by rintro rfl;exact h v Zab
   simp[this]
theorem UA {kindOf:Str->Option NameKind}{x:Str}{v:Value} :∀{P:List Str}{vs:List Value}{i:Nat}{m:Str->Option Value},P.Nodup->P[i]? =some x->vs[i]? =some v->kindOf x=some .local->
  bindL kindOf (P.zip vs) m x=some v
 | [],_,_,_,_,h,_,_=>by simp at h
 |_::_,[],_,_,_,_,h,_=>by simp at h
 |p::P,w::vs,0,m,nd,h1,h2,hk=>by
  simp at h1 h2;subst h1;subst h2
  show bindL kindOf ((p,w)::P.zip vs) m p=_
  unfold bindL
  rw[Uz fun v hv=> (Zbk.mp nd).1 (List.of_mem_zip hv).1,Zay hk]
  simp
 |p::P,w::vs,i+1,m,nd,h1,h2,hk=>by
  show bindL kindOf ((p,w)::P.zip vs) m x=_
  unfold bindL
  exact UA (i:=i) (Zbk.mp nd).2 (by simpa using h1) (by simpa using h2) hk
theorem UC {kindOf:Str->Option NameKind}{x:Str}{v:Value} :∀{P:List Str}{vs:List Value}{i:Nat}{m:Str->Option Value},P.Nodup->P[i]? =some x->vs[i]? =some v->kindOf x≠some .local->
  bindC kindOf (P.zip vs) m x=some v
 | [],_,_,_,_,h,_,_=>by simp at h
 |_::_,[],_,_,_,_,h,_=>by simp at h
 |p::P,w::vs,0,m,nd,h1,h2,hk=>by
  simp at h1 h2;subst h1;subst h2
  show bindC kindOf ((p,w)::P.zip vs) m p=_
  unfold bindC
  rw[UB fun v hv=> (Zbk.mp nd).1 (List.of_mem_zip hv).1,Zav hk]
  simp
 |p::P,w::vs,i+1,m,nd,h1,h2,hk=>by
  show bindC kindOf ((p,w)::P.zip vs) m x=_
  unfold bindC
  exact UC (i:=i) (Zbk.mp nd).2 (by simpa using h1) (by simpa using h2) hk
def start (N:List Str) (vs:List V):St:=vs.map some++List.replicate (N.length - vs.length) none
def bG (CX:i6) (P:Program) (w:World) (K:Zgc) (mg:Str->Option Value) (base:Heap) (N:List Str) (qual:Str) (scope:Scope) (f:Addr) (cd:Value) (A:Around) (outer:List Env) (s:Shared) (H:Hp) (E:XK):Cx where
 prog:=P
 w:=w
 K:=K
 mg:=mg
 base:=base
 A:=A.deeper (envOfC qual scope s.heap.objs.size f cd)
 N:=N
 bX:=s
 kA:=H
 env:=envOfC qual scope s.heap.objs.size f cd
 outer:=outer
 stack:=envOfC qual scope s.heap.objs.size f cd::outer
 ex:=[]
 calm:=true
 fn:=fun _=>true
 pn:=[]
 xe:=fun e s'=>wpAny (model P w) (A.deeper (envOfC qual scope s.heap.objs.size f cd)) (leaving (envOfC qual scope s.heap.objs.size f cd) e) (fun _ eG=>CX outer H s E e eG) (fun e' eG=>CX outer H s E e' eG) s'
theorem Fw {sc:Scope}{n:Nat}{x:Str}(h:sc.names.lookup x=some .cell):∃c,(cellsFrom n sc.names []).lookup x=some c:=by
 have q:=PySem.W.cellsFrom_some sc.names n [] (.inl h)
 exact Zca.mp q
theorem Tg {CX:i6}{P:Program}{w:World}{K:Zgc}{mg:Str->Option Value}{base:Heap}{N ps:List Str}{qual:Str}{scope:Scope}{f:Addr}{cd:Value}{A:Around}{outer:List Env}{s s1:Shared}{H:Hp}{E:XK}{us:List Value}{vs:List V}
  (S:aQ N ps scope) (hd:A.handled=none) (e0:rm P w K mg base A outer s H) (hl:vs.length=ps.length) (r:Vals vs us)
  (x:InCallC s s.heap.objs.size (bindL (envOfC qual scope s.heap.objs.size f cd).kindOf (ps.zip us) fun _=>none) (cellsFrom (s.heap.objs.size+1) scope.names []) (bindC (envOfC qual scope s.heap.objs.size f cd).kindOf (ps.zip us) fun _=>none) s1):
  Inv (bG CX P w K mg base N qual scope f cd A outer s H E) [] (start N vs) H s1:=by
 have dm:ps.length<=N.length:=by have:=Zce List.length S.pre;rw[ZaI]at this;omega
 obtain⟨h1,tk,rfl,hk⟩:=x.done
 have kO:∀b:Addr,b∉(bG CX P w K mg base N qual scope f cd A outer s H E).ex:=fun b z=>absurd (show b∈([]:List Addr) from z) (by simp)
 refine⟨⟨e0.mod,S.kind,rfl,rfl,Zal _,fun y z c h1 h2=> ?_,fun y hy=> ?_,fun y c _ h=> ?_,fun _=>hd,Around.frames_deeper e0.frames,.inr ⟨rfl,rfl⟩,fun b z=>absurd z (kO b),e0.bs,e0.iX,fun b _ _=>kO b,fun b z=>absurd z (kO b),e0.dJ,e0.gM⟩,
  rfl,e0.bare,Un.kept hk,⟨_,x.toInCall.ns,fun i y v h1 h2 h3=> ?_⟩,fun y c h=> ⟨_,x.cell y c h⟩,e0.ak.fresh (Zal _),fun y c h=> ?_,fun p hp=>absurd (show p∈([]:List (Addr×Obj)) from hp) (by simp),e0.ak.kept hk,?_⟩
 ·exact name_of_addr x.apart (ZbT h1) (ZbT h2)
 ·have hy:scope.names.lookup y=some .cell∨scope.names.lookup y=some .free:=hy
  rcases hy with hy |hy
  ·exact Fw hy
  ·exact absurd rfl (S.Ky _ (ZbT hy))
 ·exact ZbD (x.above y c (ZbT h))
 ·have hi:i<vs.length:=by
   unfold start at h2
   by_cases hi:i<vs.length
   ·exact hi
   ·rw[ZbJ (by simpa using hi)]at h2
    rw[Zcg]at h2
    split at h2<;>cases h2
  have ha:vs[i]? =some v:=by
   unfold start at h2
   rw[ZbO (by simpa using hi),ZaH]at h2
   cases e:vs[i]? with
   |none=>rw[e]at h2;cases h2
   |some a=>rw[e]at h2;cases h2;rfl
  obtain⟨u,hu,rv⟩:=r.get ha
  have hp:ps[i]? =some y:=by
   rw[<-S.pre,List.getElem?_take_of_lt .o];exact h1
  have Bx:ps.Nodup:=by rw[<-S.pre];exact S.nd.sublist (List.take_sublist _ _)
  refine⟨u,rv,?_⟩
  rcases S.par y (Zap hp) with k |k
  ·exact .inl ⟨k,UA Bx hp hu k⟩
  ·obtain⟨c,e⟩:=Fw (n:=s.heap.objs.size+1) k
   refine .inr ⟨.inl k,c,e,?_⟩
   have q:=x.cell y c e
   rw[UC Bx hp hu (by show scope.names.lookup y≠_;rw[k];decide)]at q
   exact q
 ·exact e0.ak.fresh (ZbD (x.above y c (ZbT h)))
 ·unfold start
  show _=N.length
  rw[Zam,Zac,Zbc]
  omega
theorem zC {CX:i6}{P:Program}{w:World}{K:Zgc}{mg:Str->Option Value}{base:Heap}{k:Nat}{f:Addr}{name qual:Str}{params:Arguments}{body:List Stmt}{scope:Scope}{dV kV doc pm aq ct oc:Value}{an od:Option Addr}
    {fB:Array (Option Value)}{N ps:List Str}{sp:Sp} (lk:K.lookup f=some ⟨oc,od,.func (PySem.W.fnOf name qual params body scope dV kV doc pm an aq ct),fB⟩) (cO:PySem.W.codeIn K aq qual=true) (S:aQ N ps scope)
    (len:∀vs H Q E,sp vs H Q E->vs.length=ps.length)
    (yB:∀(A:Around) (outer:List Env) (s:Shared) (H:Hp) (vs:List V) (Q:VK) (E:XK),bj k (A.deeper (envOfC qual scope s.heap.objs.size f aq))->sp vs H Q E->
      ∃t,eB (bG CX P w K mg base N qual scope f aq A outer s H E) body t/\t {nx:=fun _ H'=>Q .ah H',rt:=Q} (start N vs) H):
    aA P w K mg base CX (k+1) f (PySem.W.fnOf name qual params body scope dV kV doc pm an aq ct) ps sp:=by
  refine⟨len,fun A outer s H args us vs Q E hr e0 hb r dG=> ?_⟩
  have hl:=len _ _ _ _ dG
  have KX:K.In s.heap:=e0.mod.kU.keeps fun b o e=> (e0.bs b o e).1
  have lim:s.heap.NoLimit:=e0.mod.nolimit.keeps fun b o e=> (e0.bs b o e).1
  have MW:∀y∈ps.zip us,scope.names.lookup y.1=some .local∨(scope.names.lookup y.1=some .cell/\((cellsFrom (s.heap.objs.size+1) scope.names []).lookup y.1).isSome=true):=fun⟨n,v⟩ hy=>by
    rcases S.par n (List.of_mem_zip hy).1 with q |q
    · exact .inl q
    · exact .inr ⟨q,PySem.W.cellsFrom_some _ _ _ (.inl q)⟩
  refine codeAny_call_function hr.depth (KX _ _ lk) rfl S.co S.gen rfl (PySem.W.codeRec_of KX cO) (hb _ _ _ _ ?_)
  refine wpAny_newFunctionEnv_cells S.kind MW fun env he s1 x=> ?_
  subst he
  refine⟨lim.keeps x.toInCall.keep,codeAny_func ?_⟩
  obtain⟨t,ht,hq⟩:=yB A outer s H vs Q E (hr.deeper _) dG
  have I:Inv (bG CX P w K mg base N qual scope f aq A outer s H E) [] (start N vs) H s1:=Tg S hr.hd e0 hl r x
  refine ZaL (ht [] s1 (start N vs) H _ I hq) (fun fl s' hs=> ?_) fun e s' hs=>hs
  have fin:∀{aj:St}{H':Hp}{v:V}{u:Value},Inv (bG CX P w K mg base N qual scope f aq A outer s H E) [] aj H' s'->RelV v u->Q v H'->CE outer P w H s Q u s':=
    fun {aj H' v u} J rv q=> ⟨v,H',J.os,J.bare,J.base,J.ak,rv,q⟩
  cases fl with
  |ret u=>
   obtain⟨v,aj,H',J,rv,q⟩:=hs
   exact fin J rv q
  |next=>
   obtain⟨aj,H',J,q⟩:=hs
   exact fin (v:=V.ah) (u:=Value.none) J rfl q
  |brk=>
   obtain⟨_,_,_,q⟩:=hs
   exact False.elim q
  |cont=>
   obtain⟨_,_,_,q⟩:=hs
   exact False.elim q
section
variable {X:Cx}{x:Str}{p pos:Pos}{e:Expr}{es:List Expr}{t:TA}{id T:String}{r:List V->Hp->VK->Prop}
def AH (r:List V->Hp->VK->Prop) (t:TA):TE:=fun σ H Q=>t σ H fun vs H1=>r vs H1 Q
theorem Zk (hc:fc X (.builtin id) r) (hg:Gl X x) (hm:X.mg x=none) (hv:bootBuiltins x=some (.builtin id)) (ha:PA X (e::es) t) (hn:x≠ "__name__" :=by decide) (dI:(x==("__debug__" :Str))=false:=by decide)
  (he:starEach (e::es) X.env=(false,eval e X.env)::starEach es X.env:=by rfl) (dm:(backTo pos (starEach es X.env)).any (·.1)=false:=by rfl):PE X (.Call (.Name x p) (e::es) [] pos) (AH r t):=by
 intro pins s σ H Q I h
 refine Za2 (ZU I hg hm hv ?_ hn dI)
 exact ZbL (au (ha pos pins s σ H _ I h) fun us s1 ⟨vs,H1,I1,r1,q1⟩=>hc pins s1 σ H1 vs us Q I1 r1 q1) he dm
theorem Yv (hc:fc X (.type T) r) (hg:Gl X x) (hm:X.mg x=none) (hv:bootBuiltins x=some (.type T)) (ha:PA X (e::es) t) (hn:x≠ "__name__" :=by decide) (dI:(x==("__debug__" :Str))=false:=by decide)
  (he:starEach (e::es) X.env=(false,eval e X.env)::starEach es X.env:=by rfl) (dm:(backTo pos (starEach es X.env)).any (·.1)=false:=by rfl):PE X (.Call (.Name x p) (e::es) [] pos) (AH r t):=by
 intro pins s σ H Q I h
 refine Za2 (ZU I hg hm hv ?_ hn dI)
 exact Za1 (au (ha pos pins s σ H _ I h) fun us s1 ⟨vs,H1,I1,r1,q1⟩=>hc pins s1 σ H1 vs us Q I1 r1 q1) he dm
end
end L2
namespace HT
open PySem PyProof.Rows
def lexLt:List Int->List Int->Bool
 | [],[]=>false
 | [],_::_=>true
 |_::_,[]=>false
 |x::xs,y::ys=>if x=y then lexLt xs ys else decide (x<y)
theorem xx (x y:Int) (xs ys:List Int):lexLt (x::xs) (y::ys)=if x=y then lexLt xs ys else decide (x<y):=rfl
theorem WV:lexLt [] []=false:=rfl
theorem Wz (y:Int) (ys:List Int):lexLt [] (y::ys)=true:=rfl
theorem WA (x:Int) (xs:List Int):lexLt (x::xs) []=false:=rfl
theorem Sa (A:Around) (s:Shared) (a:Int) (t:Tok) (c:Int) (u:Tok):∃e,SeqAt.EqAt A s (.int a t) (.int c u) e/\(e=true↔a=c):=
 ⟨(a==c),ZcA a t c u,by simp⟩
theorem A8 (A:Around) (s:Shared) (a:Int) (t:Tok) (c:Int) (u:Tok) (prog:Program) (w:World) (E:Value->Shared->Prop) (Q:Value->Shared->Prop) (h:Q (.bool (decide (a<c))) s):
  wpAny (model prog w) A (richCompare .Lt (.int a t) (.int c u)) Q E s:=
 (PyProof.Rows.lt_int h:wpAny (model prog w) A (compareOp .Lt (.int a t) (.int c u)) Q E s)
section
open PySem.SeqAt
open PySem.AutoSeq1 (wpAny_loadPart')
open PySem.MeetsSeq PySem.MeetsSeq2 PySem.MeetsSeq3
theorem WR (l b:Addr) (items items2:Array Value) (n n2:Nat) (dd hJ:Option Addr) (sl eF:Array (Option Value)) (ns ms:List Int) (hi:IntsAre items.toList ns) (hj:IntsAre items2.toList ms):
  Meets (Builtin.«tuple.__lt__» ⟨[.ref l,.ref b],[]⟩)
   (fun _ R s=>s.heap.get? l=some {cls:=.type "tuple",dict:=dd,data:=.seq items n,slots:=sl}/\s.heap.get? b=some {cls:=.type "tuple",dict:=hJ,data:=.seq items2 n2,slots:=eF}/\
    R (.ok (.ret (.bool (lexLt ns ms)))) s):=
 .of_wp fun prog w A R s h=>by
  obtain⟨hp,g,d,tk,os⟩:=s;obtain⟨hl,hb,h⟩:=h
  have f2:=PySem.AutoSeq1.sub_tuple_tuple
  have z1:items.size=ns.length:=by rw[<-hi.length];simp
  have z2:items2.size=ms.length:=by rw[<-hj.length];simp
  wp_walk using wpAny_loadPart' hl,PySem.wpAny_loadPart' hb,Zbj _ (fun rest b s'=>b.1=none/\s'=⟨hp,g,d,tk,os⟩/\∃(vs ws:List Value) (iE nV:List Int),rest=vs.zip ws/\
   IntsAre vs iE/\IntsAre ws nV/\iE.length+items2.size=nV.length+items.size/\R (.ok (.ret (.bool (lexLt iE nV)))) ⟨hp,g,d,tk,os⟩) _
  case turn=>
   rintro⟨y,x⟩ rest b s' ⟨bY,rfl,vs,ws,iE,nV,hz,xH,tK,hlen,hR⟩
   cases xH with
   |nil=>rw[List.zip_nil_left]at hz;cases hz
   |cons a t LZ=>
    cases tK with
    |nil=>rw[List.zip_nil_right]at hz;cases hz
    |cons c u LY=>
     rw[Zbo]at hz
     injection hz with pY tM
     injection pY with hy hx
     subst hy hx
     rw[xx]at hR
     simp only[ZaJ]at hlen
     obtain⟨e,he,Co⟩:=Sa A.in1 ⟨hp,g,d,tk,os⟩ a t c u
     refine eg (he prog w _ _ ?_)
     cases e with
     |true=>
      rw[Zay (Co.mp rfl)]at hR
      wp_walk
      exact⟨rfl,rfl,_,_,_,_,tM,LZ,LY,.o,hR⟩
     |false=>
      rw[Zav (fun q=>absurd (Co.mpr q) Zag)]at hR
      have xT:=A8 A.in1 ⟨hp,g,d,tk,os⟩ a t c u prog w
      wp_walk using xT
      exact⟨_,rfl,by simpa using hR⟩
  case fin=>
   rintro⟨b1,b2⟩ s' ⟨bY,rfl,vs,ws,iE,nV,hz,xH,tK,hlen,hR⟩
   simp only at bY
   subst bY
   have hv:lexLt iE nV=decide (items.size<items2.size):=by
    cases xH with
    |nil=>
     cases tK with
     |nil=>
      simp only[ZbP]at hlen
      rw[WV]
      exact(Zaq .o).symm
     |cons c u hw=>
      simp only[ZbP,ZaJ]at hlen
      rw[Wz]
      exact(Zat .o).symm
    |cons a t hv=>
     cases tK with
     |nil=>
      simp only[ZbP,ZaJ]at hlen
      rw[WA]
      exact(Zaq .o).symm
     |cons c u hw=>
      rw[Zbo]at hz
      cases hz
   rw[hv]at hR
   wp_walk
   exact⟨_,rfl,by simpa[Builtin.Tuple.tupleCompareSizes] using hR⟩
  case h=>
   exact⟨rfl,rfl,items.toList,items2.toList,ns,ms,rfl,hi,hj,.o,h⟩
end
section
variable {prog:Program}{w:World}{A:Around}{E:Value->Shared->Prop}{s:Shared}
theorem BE {l b:Addr}{items items2:Array Value}{ns ms:List Int}{Q:Value->Shared->Prop}(hl:IsTup s.heap l items) (hb:IsTup s.heap b items2) (hi:IntsAre items.toList ns) (hj:IntsAre items2.toList ms)
  (hu:A.units<cLine) (h:Q (.bool (lexLt ns ms)) s):wpAny (model prog w) A (compareOp .Lt (.ref l) (.ref b)) Q E s:=by
 obtain⟨⟨cls,dd,data,sl⟩,ho,hc,n,hd⟩:=id hl
 obtain⟨⟨zq,hJ,data2,eF⟩,fj,gq,n2,hd2⟩:=id hb
 simp only at hc hd gq hd2
 subst hc hd gq hd2
 exact richCompare_meets_room (op:=.Lt) ⟨_,ho,rfl⟩ ⟨_,fj,rfl⟩ PySem.F.slot_tuple_lt PySem.F.entry_tuple_lt (PySem.F.args_tuple_lt_2 _ _) (WR l b items items2 n n2 dd hJ sl eF ns ms hi hj)
  ⟨ho,fj,show Value.bool (lexLt ns ms)≠Value.notImplemented/\Q (.bool (lexLt ns ms)) s from ⟨(fun x=>nomatch x),h⟩⟩ hu
theorem Ph {t b:Addr}{vs ws:List Value}{Q:Value->Shared->Prop}(ht:IsTup s.heap t vs.toArray) (hb:IsTup s.heap b ws.toArray) (hv:vs≠[])
  (h1:ws=[]->Q (.ref t) s) (h2:ws≠[]->Q (.ref s.heap.objs.size) {s with heap:=s.heap.push {cls:=.type "tuple",data:=.seq (vs++ws).toArray} })
  (hsz:vs.length+ws.length<=sizeLine):wpAny (model prog w) A (binaryOp .Add (.ref t) (.ref b)) Q E s:=by
 obtain⟨⟨cls,dd,data,sl⟩,ho,hc,n,hd⟩:=id ht
 obtain⟨⟨zq,hJ,data2,eF⟩,fj,gq,n2,hd2⟩:=id hb
 simp only at hc hd gq hd2
 subst hc hd gq hd2
 have e:vs.toArray++ws.toArray=(vs++ws).toArray:=by simp
 by_cases hw:ws=[]
 ·exact concat_meets ⟨_,ho,rfl⟩ ⟨_,fj,rfl⟩ PySem.noFill_tuple_add PySem.seq_tuple_add PySem.F.slot_tuple_add PySem.F.entry_tuple_add (PySem.F.args_tuple_add_2 _ _)
   (tuple_addW1 t b vs.toArray ws.toArray n n2 dd hJ sl eF (by simpa using hv) (by simp[hw])) ⟨ho,fj,h1 hw⟩
 ·refine concat_meets ⟨_,ho,rfl⟩ ⟨_,fj,rfl⟩ PySem.noFill_tuple_add PySem.seq_tuple_add PySem.F.slot_tuple_add PySem.F.entry_tuple_add (PySem.F.args_tuple_add_2 _ _)
   (tuple_addW2 t b vs.toArray ws.toArray n n2 dd hJ sl eF (by simpa using hv) (by simpa using hw) (by rw[Zae,Zae];exact hsz)) ⟨ho,fj,?_⟩
  rw[e]
  exact h2 hw
def aK (n d:Nat):Option Int->Nat
 |none=>d
 |some v=>if v<0 then (v+(n:Int)).toNat else min v.toNat n
theorem A0 (n d:Nat):aK n d none=d:=rfl
theorem sH (n d k:Nat):aK n d (some (k:Int))=min k n:=by
 show(if (k:Int)<0 then ((k:Int)+(n:Int)).toNat else min (k:Int).toNat n)=min k n
 rw[Zav .o,Za7]
theorem P1 (n d:Nat) (hd:d<=n) (o:Option Int):aK n d o<=n:=by
 cases o with
 |none=>exact hd
 |some v=>
  show(if v<0 then (v+(n:Int)).toNat else min v.toNat n)<=n
  by_cases hv:v<0
  ·rw[Zay hv];omega
  ·rw[Zav hv];exact Nat.min_le_right _ _
theorem EX (v:Int) (n d:Nat):(if v<0 then max (v+(n:Int)) 0 else min v (n:Int))=((aK n d (some v):Nat):Int):=by
 show(if v<0 then max (v+(n:Int)) 0 else min v (n:Int))=(((if v<0 then (v+(n:Int)).toNat else min v.toNat n):Nat):Int)
 by_cases hv:v<0
 ·simp only[Zay hv];omega
 ·simp only[Zav hv];omega
theorem T5 (lo hi:Option Int) (n:Nat):Builtin.Slice.sliceAdjust lo hi 1 (n:Int)=(((aK n 0 lo:Nat):Int),((aK n n hi:Nat):Int)):=by
 have h1:¬((1:Int)<0):=.o
 unfold Builtin.Slice.sliceAdjust
 simp only[h1,Za0]
 refine Prod.ext ?_ ?_
 ·cases lo with
  |none=>rfl
  |some v=>exact EX v n 0
 ·cases hi with
  |none=>rfl
  |some v=>exact EX v n n
theorem TU (i j:Nat):Builtin.Slice.slicePlaces (i:Int) (j:Int) 1=j - i:=by
 unfold Builtin.Slice.slicePlaces
 have h1:(1:Int)>0:=.o
 simp only[h1,Zch,Int.ediv_one]
 split<;>omega
theorem Wg {v:Value}{o:Option Int}{Q:Option Int->Shared->Prop}(p:IsPart v o) (h:Q o s):wpAny (model prog w) A (Builtin.Slice.slicePartIndex v) Q E s:=by
 cases p with
 |none=>exact slicePart_none h
 |int i t=>exact slicePart_int h
theorem Jv {sl:Addr}{vl vu:Value}{lo hi:Option Int}{n:Nat}{Q:Int×Int×Nat->Shared->Prop}(hs:s.heap.IsSliceOf sl vl vu .none) (pl:IsPart vl lo) (pu:IsPart vu hi)
  (h:Q (((aK n 0 lo:Nat):Int),1,aK n n hi - aK n 0 lo) s):wpAny (model prog w) A (Builtin.Slice.sliceApplied (.ref sl) (pure (n:Int))) Q E s:=by
 obtain⟨os,qj,Cy,uc⟩:=id hs
 unfold Builtin.Slice.sliceApplied Builtin.Slice.sliceFields
 refine eg (eg (ZbA qj uc (x:=vl) rfl (eg (ZbA qj uc (x:=vu) rfl (eg (ZbA qj uc (x:=.none) rfl (X6 ?_)))))))
 refine eg (slicePart_none ?_)
 show wpAny _ _ (if ((1:Int)==0)=true then _ else _) _ _ s
 rw[Zav .d]
 refine eg (Wg pl (eg (Wg pu (eg (X6 ?_)))))
 show wpAny _ _ (match Builtin.Slice.sliceAdjust lo hi 1 (n:Int) with |(lo,hi)=>pure (lo,(1:Int),Builtin.Slice.slicePlaces lo hi 1)) _ _ s
 rw[T5 lo hi n]
 show wpAny _ _ (pure (((aK n 0 lo:Nat):Int),(1:Int),Builtin.Slice.slicePlaces ((aK n 0 lo:Nat):Int) ((aK n n hi:Nat):Int) 1)) _ _ s
 rw[TU]
 exact X6 h
theorem RH (xs:Array Value) (i k:Nat):((List.range k).filterMap fun(m:Nat)=>xs[((i:Int)+(m:Int)*1).toNat]?).toArray=((xs.toList.drop i).take k).toArray:=by
 have e:(fun(m:Nat)=>xs[((i:Int)+(m:Int)*1).toNat]?)=fun m=>xs[i+m]? :=by
  funext m
  have:((i:Int)+(m:Int)*1).toNat=i+m:=.o
  rw[this]
 rw[e]
 have:=pick_run xs i k
 rw[List.filterMap_map]at this
 have e2:((fun x=>xs[x]?)∘fun x=>i+x)=fun m=>xs[i+m]? :=rfl
 rw[e2]at this
 rw[this]
theorem NX {t sl:Addr}{items:Array Value}{vl vu:Value}{lo hi:Option Int}{Q:Value->Shared->Prop}(ht:IsTup s.heap t items) (hs:s.heap.IsSliceOf sl vl vu .none) (pl:IsPart vl lo) (pu:IsPart vu hi)
  (hw:¬(aK items.size 0 lo=0/\aK items.size items.size hi=items.size))
  (h:Q (.ref s.heap.objs.size) {s with heap:=s.heap.push {cls:=.type "tuple",data:=.seq ((items.toList.drop (aK items.size 0 lo)).take (aK items.size items.size hi - aK items.size 0 lo)).toArray} })
  (hsz:items.size<=sizeLine):wpAny (model prog w) A (getItem (.ref t) (.ref sl)) Q E s:=by
 have tL:sizeOk (.seq ((items.toList.drop (aK items.size 0 lo)).take (aK items.size items.size hi - aK items.size 0 lo)).toArray):=by
  show((items.toList.drop (aK items.size 0 lo)).take (aK items.size items.size hi - aK items.size 0 lo)).toArray.size<=sizeLine
  rw[Zae,ZaI,Zcb,Zas]
  omega
 have hj:aK items.size items.size hi<=items.size:=P1 _ _ (Zal _) hi
 obtain⟨os,qj,Cy,uc⟩:=id hs
 have cP:s.TypeIs (.ref sl) "slice" :=⟨os,qj,Cy⟩
 unfold getItem
 try with_reducible refine ZaO ?_
 first |refine eg (X6 ?_) |skip
 refine eg (wpAny_sequenceKey ht.typeIs .d ?_)
 refine eg (Za8 (name:=Str.ofString "__getitem__") ht.typeIs PyProof.Rows.slot_tuple_getitem
  (ZaY PyProof.Rows.slot_tuple_getitem ht.typeIs entry_tuple_getitem ?_ (args_tuple_getitem _ _)))
 show wpAny _ _ (Builtin.Tuple.tupleItemsOf (.ref t) >>=_) _ _ s
 refine eg (tupleItemsOf_ ht ?_)
 refine eg (Zc8 cP ?_)
 rw[Zay .d]
 refine eg (Jv hs pl pu ?_)
 have yb:¬((((aK items.size 0 lo:Nat):Int)==0&&(1:Int)==1&&(aK items.size items.size hi - aK items.size 0 lo)==items.size)=true):=by
  intro q
  rw[Zaw,Zaw]at q
  have q1:((aK items.size 0 lo:Nat):Int)=0:=eq_of_beq q.1.1
  have q2:aK items.size items.size hi - aK items.size 0 lo=items.size:=eq_of_beq q.2
  exact hw ⟨.o,.o⟩
 show wpAny _ _ (if (((aK items.size 0 lo:Nat):Int)==0&&(1:Int)==1&&(aK items.size items.size hi - aK items.size 0 lo)==items.size)=true then _ else _) _ _ s
 rw[Zav yb,RH]
 first
  |exact eg (m:=Builtin.Tuple.tupleExact _) (ZaX (X6 ⟨_,rfl,X6 h⟩) tL)
  |exact eg (m:=Builtin.Tuple.tupleExact _) (ZaX (eg (X6 (X6 ⟨_,rfl,X6 h⟩))) tL)
  |exact eg (eg (m:=Builtin.Tuple.tupleExact _) (ZaX (X6 (X6 ⟨_,rfl,X6 h⟩)) tL))
  |exact eg (eg (m:=Builtin.Tuple.tupleExact _) (ZaX (X6 ⟨_,rfl,X6 h⟩) tL))
end
end HT
namespace L2
open PySem PySem.Spec PyProof.Rows
abbrev TO:=St->Hp->(Option Int->Hp->Prop)->Prop
def PO (X:Cx) (e:Option Expr) (t:TO):Prop:=
 ∀(pins:List (Addr×Obj)) (s:Shared) (σ:St) (H:Hp) (Q:Option Int->Hp->Prop),Inv X pins σ H s->t σ H Q->
  wpAny (model X.prog X.w) X.A (evalPart e X.env) (fun u s'=> ∃o H',Inv X pins σ H' s'/\IsPart u o/\Q o H') X.xe s
def GR:TO:=fun _ H Q=>Q none H
def GK (t:TE):TO:=fun σ H Q=>t σ H fun x H1=> ∃i,x=.int i/\Q (some i) H1
theorem ZP {ns:List Int} :∀{us:List Value},Vals (ns.map V.int) us->IntsAre us ns:=by
 induction ns with
 |nil=>intro us r;rw[List.map_nil]at r;cases r;exact .nil
 |cons n ns ih=>
  intro us r
  rw[ZaR]at r
  cases r with
  |cons r1 r2=>
   obtain⟨t,e⟩:=r1
   subst e
   exact .cons n t (ih r2)
section
variable {X:Cx}{e:Expr}{te:TE}{lo hi:Option Expr}{tl th:TO}{pos p2:Pos}
theorem J5:PO X none GR:=by
 intro pins s σ H Q I h
 rw[evalPart_none]
 exact X6 ⟨none,H,I,.none,h⟩
theorem J4 (h:PE X e te):PO X (some e) (GK te):=by
 intro pins s σ H Q I hw
 rw[evalPart_some]
 refine au (h pins s σ H _ I hw) fun u s1 ⟨x,H1,I1,r1,q1⟩=> ?_
 obtain⟨i,rfl,q⟩:=q1
 obtain⟨t,rfl⟩:=r1
 exact⟨some i,H1,I1,.int i t,q⟩
def zO (X:Cx) (r:V->Option Int->Option Int->Hp->VK->Prop):Prop:=
 ∀(pins:List (Addr×Obj)) (s:Shared) (σ:St) (H:Hp) (x:V) (v vl vu:Value) (lo hi:Option Int) (sl:Addr) (Q:VK),Inv X pins σ H s->RelV x v->s.heap.IsSliceOf sl vl vu .none->IsPart vl lo->IsPart vu hi->r x lo hi H Q->
  ∃T id,typeLookup (.type T) "__getitem__" =pure (some (.builtin id))/\s.TypeIs v T/\wpAny (model X.prog X.w) X.A (getItem v (.ref sl)) (EP X pins σ Q) X.xe s
def GI (r:V->Option Int->Option Int->Hp->VK->Prop) (te:TE) (tl th:TO):TE:=fun σ H Q=>te σ H fun x H1=>tl σ H1 fun l H2=>th σ H2 fun u H3=>r x l u H3 Q
theorem Jd {r:V->Option Int->Option Int->Hp->VK->Prop}(hr:zO X r) (he:PE X e te) (hl:PO X lo tl) (hu:PO X hi th):PE X (.Subscript e (.Slice lo hi none p2) pos) (GI r te tl th):=by
 intro pins s σ H Q I h
 refine Subscript_ (au (he pins s σ H _ I h) fun v s1 ⟨x,H1,I1,r1,q1⟩=> ?_)
 refine wpAny_Slice (au (hl pins s1 σ H1 _ I1 q1) fun vl s2 ⟨l,H2,I2,pl,q2⟩=>au (hu pins s2 σ H2 _ I2 q2) fun vu s3 ⟨u,H3,I3,pu,q3⟩=> ?_)
 rw[evalPart_none]
 refine X6 ?_
 have I4:Inv X pins σ H3 {s3 with heap:=s3.heap.push {cls:=.type "slice",data:=.fields #[vl,vu,.none]} } :=I3.kept (t':=s3.toks) fun b ob q=>X7 _ q
 obtain⟨T,id,hT,ht,hg⟩:=hr pins {s3 with heap:=s3.heap.push {cls:=.type "slice",data:=.fields #[vl,vu,.none]} } σ H3 x v vl vu l u s3.heap.objs.size Q I4 r1 (Heap.IsSliceOf.new ..) pl pu q3
 show wpAny (model X.prog X.w) X.A (subscriptTail e (.Slice lo hi none p2) v (.ref s3.heap.objs.size)) (EP X pins σ Q) X.xe {s3 with heap:=s3.heap.push {cls:=.type "slice",data:=.fields #[vl,vu,.none]} }
 exact tail_any (ops:=[.ref s3.heap.objs.size,v]) ht hT hg (by with_unfolding_all rfl)
def fo (xs:List V) (lo hi:Option Int):List V:=(xs.drop (HT.aK xs.length 0 lo)).take (HT.aK xs.length xs.length hi - HT.aK xs.length 0 lo)
theorem JV (xs:List V) (lo hi:Option Int):(fo xs lo hi).length<=xs.length:=by
 unfold fo
 rw[ZaI,Zcb]
 omega
def Ib (K:Zgc):V->Option Int->Option Int->Hp->VK->Prop:=fun x lo hi H Q=> ∃a xs,x=.ref a/\ag K H a xs/\
 ¬(HT.aK xs.length 0 lo=0/\HT.aK xs.length xs.length hi=xs.length)/\∀p,H p=none->Q (.ref p) (upd H p (.tup (fo xs lo hi)))
theorem Eo:zO X (Ib X.K):=by
 intro pins s σ H x v vl vu lo hi sl Q I rx hs pl pu h
 obtain⟨a,xs,rfl,hx,hw,q⟩:=h
 cases rx
 obtain⟨aa,r,ht,hz⟩:=I.tuple hx
 have hlen:aa.toArray.size=xs.length:=by rw[Zae];exact r.length.symm
 refine⟨"tuple",_,PyProof.Rows.slot_tuple_getitem.lookup,ht.typeIs,?_⟩
 refine HT.NX ht hs pl pu (by rw[hlen];exact hw) ?_ (by rw[hlen];exact hz)
 rw[hlen]
 refine⟨.ref s.heap.objs.size,_,I.laid (t':=s.toks) (o:=.tup (fo xs lo hi)) (fun b ob q=>X7 _ q) (Zal _) ?_,rfl,q _ (I.ak.fresh (Zal _))⟩
 exact⟨Zbf (JV xs lo hi) hz,_,(r.drop (HT.aK xs.length 0 lo)).take (HT.aK xs.length xs.length hi - HT.aK xs.length 0 lo),IsTup.new _ _,_,Zaf _ rfl,rfl⟩
def wY (K:Zgc):R2:=fun x y H Q=> ∃a b xs ys,x=.ref a/\y=.ref b/\ag K H a xs/\ag K H b ys/\xs≠[]/\xs.length+ys.length<=sizeLine/\
 (ys=[]->Q (.ref a) H)/\(ys≠[]->∀p,H p=none->Q (.ref p) (upd H p (.tup (xs++ys))))
theorem Vals.xm {xs:List V}{us:List Value}(r:Vals xs us):us=[]↔xs=[]:=by
 cases r with
 |nil=>simp
 |cons _ _=>simp
theorem EG:bo X (binaryOp .Add) (wY X.K):=by
 intro pins s σ H x y v u Q I rx ry h
 obtain⟨a,b,xs,ys,rfl,rfl,ha,hb,hx,hz,q1,q2⟩:=h
 cases rx
 cases ry
 obtain⟨aa,r1,p1,_⟩:=I.tuple ha
 obtain⟨jj,r2,p2,_⟩:=I.tuple hb
 refine HT.Ph p1 p2 (fun z=>hx (r1.xm.mp z)) (fun z=> ⟨.ref a,H,I,rfl,q1 (r2.xm.mp z)⟩) (fun z=> ?_) (by rw[<-r1.length,<-r2.length];exact hz)
 refine⟨.ref s.heap.objs.size,_,I.laid (t':=s.toks) (o:=.tup (xs++ys)) (fun b ob q=>X7 _ q) (Zal _) ?_,rfl,q2 (fun w=>z (r2.xm.mpr w)) _ (I.ak.fresh (Zal _))⟩
 exact⟨by rw[Zam];exact hz,_,r1.append r2,IsTup.new _ _,_,Zaf _ rfl,rfl⟩
end
def ji (n:Nat) (i:Int):Option Nat:=if 0<=i then (if i<n then some i.toNat else none) else if -(n:Int)<=i then some (i+n).toNat else none
def eW {α:Type} (xs:List α) (i:Int):Option α:=(ji xs.length i).bind fun j=>xs[j]?
theorem Ez {n:Nat}{i:Int}{j:Nat}(h:ji n i=some j):seqIndex? i n=some j/\j<n/\ -(n:Int)<=i/\i<n:=by
 unfold ji at h
 by_cases h0:0<=i
 ·rw[Zay h0]at h
  by_cases h1:i<n
  ·rw[Zay h1]at h
   have e:i.toNat=j:=ZaV h
   exact⟨by rw[seqIndex_of h0 h1,e],.o,.o,h1⟩
  ·rw[Zav h1]at h;cases h
 ·rw[Zav h0]at h
  by_cases h1: -(n:Int)<=i
  ·rw[Zay h1]at h
   have e:(i+n).toNat=j:=ZaV h
   exact⟨by rw[seqIndex_neg .o h1,e],.o,h1,.o⟩
  ·rw[Zav h1]at h;cases h
theorem EV {α:Type}{xs:List α}{i:Int}{v:α}(h:eW xs i=some v):∃j,seqIndex? i xs.length=some j/\xs[j]? =some v/\j<xs.length/\ -(xs.length:Int)<=i/\i<xs.length:=by
 unfold eW at h
 cases e:ji xs.length i with
 |none=>rw[e]at h;cases h
 |some j=>
  rw[e]at h
  obtain⟨h1,h2,h3,h4⟩:=Ez e
  exact⟨j,h1,h,h2,h3,h4⟩
theorem YE {α:Type}{xs:List α}{j:Nat}{v:α}(h:xs[j]? =some v):eW xs (j:Int)=some v:=by
 have hj:j<xs.length:=(X8.mp h).1
 have e:ji xs.length (j:Int)=some j:=by
  unfold ji
  rw[Zay .o,Zay .o];simp
 unfold eW;rw[e];exact h
def VC (b:Expr):Prop:=∀o i,subscripted b false o i=operate [o,i] (getItem o i)
def nk (X:Cx) (r:R2):Prop:=
 ∀(value slice:Expr) (pins:List (Addr×Obj)) (s:Shared) (σ:St) (H:Hp) (x y:V) (v u:Value) (Q:VK),Inv X pins σ H s->RelV x v->RelV y u->r x y H Q->
  subscripted slice false v u=operate [v,u] (getItem v u)->wpAny (model X.prog X.w) X.A (subscriptTail value slice v u) (EP X pins σ Q) X.xe s
def zT (X:Cx) (id:String) (r:V->List V->Hp->VK->Prop):Prop:=
 ∀(pins:List (Addr×Obj)) (s:Shared) (σ:St) (H:Hp) (x:V) (xs:List V) (v:Value) (us:List Value) (Q:VK),Inv X pins σ H s->RelV x v->Vals xs us->r x xs H Q->
  wpAny (model X.prog X.w) X.A (call (.builtin id) (v::us)) (EP X pins σ Q) X.xe s
section
variable {X:Cx}{a b:Expr}{ta tb:TE}{pos:Pos}
theorem Zy {r:R2}(hr:nk X r) (ha:PE X a ta) (hb:PE X b tb) (hs:VC b):PE X (.Subscript a b pos) (rQ r ta tb):=by
 intro pins s σ H Q I h
 exact Subscript_ (zv ha hb I h fun v u s2 x y H2 I2 rx ry q=>hr a b pins s2 σ H2 x y v u Q I2 rx ry q (hs _ _))
def Im (K:Zgc):R2:=fun x y H Q=> ∃p xs i v,x=.ref p/\y=.int i/\ai K H p xs/\eW xs i=some v/\Q v H
def pI (K:Zgc):R2:=fun x y H Q=> ∃p xs i v,x=.ref p/\y=.int i/\ag K H p xs/\eW xs i=some v/\Q v H
theorem ZN:nk X (Im X.K):=by
 intro value slice pins s σ H x y v u Q I rx ry h hs
 obtain⟨p,xs,i,z,rfl,rfl,hq,he,q⟩:=h
 cases rx
 obtain⟨t,rfl⟩:=ry
 obtain⟨aa,r,pl,hz⟩:=I.list hq
 obtain⟨j,h1,h2,h3,h4,h5⟩:=EV he
 obtain⟨w,ew,fA⟩:=r.get h2
 have hl:=r.length
 have hn:=tG
 have fin:EP X pins σ Q w s:=⟨z,H,I,fA,q⟩
 by_cases h0:0<=i
 ·have hj:i.toNat=j:=by
   rw[seqIndex_of h0 h5]at h1
   exact ZaV h1
  exact item_listR pl.isList h0 .o (by rw[hj];simpa using ew) fin hs
 ·have hj:(i+(aa.toArray.size:Int)).toNat=j:=by
   rw[seqIndex_neg .o h4]at h1
   rw[Zae,<-hl]
   exact ZaV h1
  exact subscriptTail_builtinR (x:=w) pl.isList.typeIs slot_list_getitem.lookup
   (wpAny_getItem_list_neg (Q:=fun r s'=>r=w/\EP X pins σ Q r s') pl.isList .o (by rw[Zae]<;>omega) .o (by rw[hj];simpa using ew) ⟨rfl,fin⟩) hs
theorem ZH:nk X (pI X.K):=by
 intro value slice pins s σ H x y v u Q I rx ry h hs
 obtain⟨p,xs,i,z,rfl,rfl,hq,he,q⟩:=h
 cases rx
 obtain⟨t,rfl⟩:=ry
 obtain⟨aa,r,pl,hz⟩:=I.tuple hq
 obtain⟨j,h1,h2,h3,h4,h5⟩:=EV he
 obtain⟨w,ew,fA⟩:=r.get h2
 have hl:=r.length
 have hn:=tG
 have fin:EP X pins σ Q w s:=⟨z,H,I,fA,q⟩
 exact subscriptTail_builtinR (x:=w) pl.typeIs slot_tuple_getitem.lookup
  (getItem_tuple (j:=j) (Q:=fun r s'=>r=w/\EP X pins σ Q r s') pl .o .o (by rw[Zae,<-hl];exact h1) (by simpa using ew) ⟨rfl,fin⟩) hs
theorem TL (aa:List Value) (n j:Nat) (u:Value):Obj.mapSeq (·.setIfInBounds j u) {cls:=.type "list",data:=.seq aa.toArray n} = {cls:=.type "list",data:=.seq (aa.set j u).toArray n} :=by
 simp[Obj.mapSeq]
theorem Inv.lst {pins:List (Addr×Obj)}{σ:St}{H:Hp}{s:Shared}{p:Addr}{xs:List V}(I:Inv X pins σ H s) (h:H p=some (.lst xs)):
  ∃(aa:List Value) (n:Nat),Vals xs aa/\s.heap.get? p=some {cls:=.type "list",data:=.seq aa.toArray n}/\xs.length<=sizeLine:=by
 obtain⟨z,aa,n,r,e⟩:=I.ak p _ h
 exact⟨aa,n,r,e,z⟩
theorem Inv.Ld {pins:List (Addr×Obj)}{σ:St}{H:Hp}{s:Shared}{p:Addr}{xs ys:List V}{aa its':List Value}{n n':Nat}{f:Obj->Obj}(I:Inv X pins σ H s) (h:H p=some (.lst xs))
  (ho:s.heap.get? p=some {cls:=.type "list",data:=.seq aa.toArray n}) (hf:f {cls:=.type "list",data:=.seq aa.toArray n} = {cls:=.type "list",data:=.seq its'.toArray n'}) (r:Vals ys its') (hz:ys.length<=sizeLine) (t:Nat):
  Inv X pins σ (upd H p (.lst ys)) {s with heap:=s.heap.update p f,toks:=t} :=by
 have e:(s.heap.update p f).get? p=some {cls:=.type "list",data:=.seq its'.toArray n'} :=by
  rw[Zbq f ho (by rw[hf]<;>rfl),hf]
 refine I.write (x:=p) (e:=p) (by rw[h];trivial) (.inl rfl) (fun b u hb q=> (ZaZ _ _ (ZcE hb)).trans q) ⟨_,e⟩ ?_
 exact⟨hz,its',n',r,e⟩
def Ie:V->V->V->Hp->(Hp->Prop)->Prop:=fun o i v H Q=> ∃p xs k j,o=.ref p/\i=.int k/\H p=some (.lst xs)/\ji xs.length k=some j/\Q (upd H p (.lst (xs.set j v)))
theorem Wh:FY X Ie:=by
 intro pins s σ H o i v ov iv u Q I ro ri rv h
 obtain⟨p,xs,k,j,rfl,rfl,hp,hj,q⟩:=h
 cases ro
 obtain⟨t,rfl⟩:=ri
 obtain⟨aa,n,r,ho,hz⟩:=I.lst hp
 obtain⟨h1,h2,h3,h4⟩:=Ez hj
 have hl:=r.length
 have hn:=tG
 have I':Inv X pins σ (upd H p (.lst (xs.set j v))) {s with heap:=s.heap.update p (Obj.mapSeq (·.setIfInBounds j u))} :=
  I.Ld hp ho (TL aa n j u) (r.set rv j) (by rw[List.length_set];exact hz) s.toks
 by_cases h0:0<=k
 ·have hk:k.toNat=j:=by
   rw[seqIndex_of h0 h4]at h1
   exact ZaV h1
  exact PySem.W.ki_setAt ho h0 .o (by rw[Zae,<-hl];exact h4) (by rw[hk];exact⟨_,I',q⟩)
 ·have hk:(k+(aa.toArray.size:Int)).toNat=j:=by
   rw[seqIndex_neg .o h3]at h1
   rw[Zae,<-hl]
   exact ZaV h1
  exact PySem.W.ki_setBack ho .o (by rw[Zae,<-hl];exact h3) .o (by rw[hk];exact⟨_,I',q⟩)
theorem UE (lo hi:Option Int) (n:Nat):(sliceBounds lo hi none n).1=((HT.aK n 0 lo:Nat):Int)/\(sliceBounds lo hi none n).2.1=((HT.aK n n hi:Nat):Int)/\(sliceBounds lo hi none n).2.2=1:=by
 refine⟨?_,?_,rfl⟩
 ·cases lo with
  |none=>simp[sliceBounds,HT.aK]
  |some i=>
   simp only[sliceBounds,HT.aK,Option.getD_none,show(1:Int)>0 by decide,Zch]
   by_cases h:i<0
   ·simp only[h,Zch]<;>omega
   ·simp only[h,Za0]<;>omega
 ·cases hi with
  |none=>simp[sliceBounds,HT.aK]
  |some i=>
   simp only[sliceBounds,HT.aK,Option.getD_none,show(1:Int)>0 by decide,Zch]
   by_cases h:i<0
   ·simp only[h,Zch]<;>omega
   ·simp only[h,Za0]<;>omega
theorem WS (aa:List Value) (lo hi:Option Int):slicePick aa.toArray lo hi none=((aa.drop (HT.aK aa.length 0 lo)).take (HT.aK aa.length aa.length hi - HT.aK aa.length 0 lo)).toArray:=by
 obtain⟨h1,h2,h3⟩:=UE lo hi aa.toArray.size
 unfold slicePick
 rw[h1,h2,h3]
 simp only[sliceRange_one,pick_run,Zae]<;>rfl
def Ic (K:Zgc):V->Option Int->Option Int->Hp->VK->Prop:=fun x lo hi H Q=> ∃a xs,x=.ref a/\ai K H a xs/\∀p,H p=none->Q (.ref p) (upd H p (.lst (fo xs lo hi)))
theorem ET:zO X (Ic X.K):=by
 intro pins s σ H x v vl vu lo hi sl Q I rx hs pl pu h
 obtain⟨a,xs,rfl,hx,q⟩:=h
 cases rx
 obtain⟨aa,r,ht,hz⟩:=I.list hx
 have hlen:=r.length
 refine⟨"list",_,slot_list_getitem.lookup,ht.isList.typeIs,?_⟩
 refine wpAny_getItem_list_slice ht.isList hs pl pu .none (by simp) ?_ (by rw[Zae]<;>omega)
 rw[WS,<-hlen]
 refine⟨.ref s.heap.objs.size,_,I.laid (t':=s.toks) (o:=.lst (fo xs lo hi)) (fun b ob q=>X7 _ q) (Zal _) ?_,rfl,q _ (I.ak.fresh (Zal _))⟩
 exact⟨Zbf (JV xs lo hi) hz,_,0,(r.drop (HT.aK xs.length 0 lo)).take (HT.aK xs.length xs.length hi - HT.aK xs.length 0 lo),Zaf _ rfl⟩
def eV:V->Bool
 | .ah=>true
 | .bl _=>true
 | .int _=>true
 | .str _=>true
 |_=>false
def dX:V->V->Bool
 | .ah,.ah=>true
 | .bl a,.bl b=>a==b
 | .bl a,.int b=> (if a then 1 else 0)==b
 | .int a,.bl b=>a==(if b then 1 else 0)
 | .int a,.int b=>a==b
 | .str a,.str b=>a==b
 |_,_=>false
theorem Qo {A:Around}{s:Shared}{y x:V}{u v:Value}(ry:RelV y u) (rx:RelV x v) (fy:eV y=true) (fx:eV x=true):SeqAt.EqAt A s u v (dX y x):=by
 cases y with
 |ah=>
  cases ry
  cases x with
  |ah=>cases rx;exact SeqAt.EqAt.same _
  |bl b=>cases rx;exact SeqAt.EqAt.none_bool b
  |int b=>obtain⟨t,rfl⟩:=rx;exact SeqAt.EqAt.none_int b t
  |str b=>obtain⟨t,rfl⟩:=rx;exact SeqAt.EqAt.none_str b t
  |_=>exact absurd (show false=true from fx) Zag
 |bl a=>
  cases ry
  cases x with
  |ah=>cases rx;exact SeqAt.EqAt.bool_none a
  |bl b=>cases rx;exact SeqAt.EqAt.bool_bool a b
  |int b=>obtain⟨t,rfl⟩:=rx;exact SeqAt.EqAt.bool_int a b t
  |str b=>obtain⟨t,rfl⟩:=rx;exact SeqAt.EqAt.bool_str a b t
  |_=>exact absurd (show false=true from fx) Zag
 |int a=>
  obtain⟨t',rfl⟩:=ry
  cases x with
  |ah=>cases rx;exact SeqAt.EqAt.int_none a t'
  |bl b=>cases rx;exact SeqAt.EqAt.int_bool a t' b
  |int b=>obtain⟨t,rfl⟩:=rx;exact ZcA a t' b t
  |str b=>obtain⟨t,rfl⟩:=rx;exact SeqAt.EqAt.int_str a t' b t
  |_=>exact absurd (show false=true from fx) Zag
 |str a=>
  obtain⟨t',rfl⟩:=ry
  cases x with
  |ah=>cases rx;exact SeqAt.EqAt.str_none a t'
  |bl b=>cases rx;exact SeqAt.EqAt.str_bool a t' b
  |int b=>obtain⟨t,rfl⟩:=rx;exact SeqAt.EqAt.str_int a t' b t
  |str b=>obtain⟨t,rfl⟩:=rx;exact SeqAt.EqAt.str_str a t' b t
  |_=>exact absurd (show false=true from fx) Zag
 |_=>exact absurd (show false=true from fy) Zag
def dM (x:V) (u:Value):Bool:=match u with
 | .none=>dX .ah x
 | .bool b=>dX (.bl b) x
 | .int i _=>dX (.int i) x
 | .str z _=>dX (.str z) x
 |_=>false
theorem UV {x y:V}{u:Value}(r:RelV y u) (f:eV y=true):dM x u=dX y x:=by
 cases y with
 |ah=>cases r;rfl
 |bl b=>cases r;rfl
 |int i=>obtain⟨t,rfl⟩:=r;rfl
 |str z=>obtain⟨t,rfl⟩:=r;rfl
 |_=>exact absurd (show false=true from f) Zag
theorem Jt {x:V} :∀{xs:List V}{us:List Value},Vals xs us->xs.all eV=true->us.any (dM x)=xs.any fun y=>dX y x
 |_,_,.nil,_=>rfl
 |y::xs,u::us,.cons r t,f=>by
  rw[List.all_cons,Zaw]at f
  rw[List.any_cons,List.any_cons,UV r f.1,Jt t f.2]
theorem Yl {A:Around}{s:Shared}{x:V}{v:Value}(rx:RelV x v) (fx:eV x=true):∀{xs:List V}{us:List Value},Vals xs us->xs.all eV=true->∀u∈us,SeqAt.EqAt A s u v (dM x u)
 |_,_,.nil,_=>fun u hu=>by cases hu
 |y::xs,u::us,.cons r t,f=>fun u' hu=>by
  rw[List.all_cons,Zaw]at f
  rcases Zaj.mp hu with rfl |hu
  ·rw[UV r f.1];exact Qo r rx f.1 fx
  ·exact Yl rx fx t f.2 u' hu
def bD (x:V) (xs:List V):Bool:=xs.any fun y=>dX y x
def sP (K:Zgc) (neg:Bool):R2:=fun x y H Q=> ∃p xs,y=.ref p/\(ai K H p xs∨ag K H p xs)/\eV x=true/\xs.all eV=true/\Q (.bl (if neg then !bD x xs else bD x xs)) H
theorem Sx:bo X (compareOp .In) (sP X.K false):=by
 intro pins s σ H x y v u Q I rx ry h
 obtain⟨p,xs,rfl,hq,fx,fs,q⟩:=h
 cases ry
 rcases hq with hq |hq
 ·obtain⟨aa,r,pl,hz⟩:=I.list hq
  refine SeqAt.in_listAt (dM x) pl.isList (fun w hw=>Yl rx fx r fs w (by simpa using hw)) ⟨.bl _,H,I,rfl,?_⟩
  rw[show aa.toArray.any (dM x)=aa.any (dM x) by simp,Jt r fs]
  exact q
 ·obtain⟨aa,r,pl,hz⟩:=I.tuple hq
  refine SeqAt.in_tupleAt (dM x) pl (fun w hw=>Yl rx fx r fs w (by simpa using hw)) ⟨.bl _,H,I,rfl,?_⟩
  rw[show aa.toArray.any (dM x)=aa.any (dM x) by simp,Jt r fs]
  exact q
theorem Jg:bo X (compareOp .NotIn) (sP X.K true):=by
 intro pins s σ H x y v u Q I rx ry h
 obtain⟨p,xs,rfl,hq,fx,fs,q⟩:=h
 cases ry
 rcases hq with hq |hq
 ·obtain⟨aa,r,pl,hz⟩:=I.list hq
  refine SeqAt.notIn_listAt (dM x) pl.isList (fun w hw=>Yl rx fx r fs w (by simpa using hw)) ⟨.bl _,H,I,rfl,?_⟩
  rw[show aa.toArray.any (dM x)=aa.any (dM x) by simp,Jt r fs]
  exact q
 ·obtain⟨aa,r,pl,hz⟩:=I.tuple hq
  refine SeqAt.notIn_tupleAt (dM x) pl (fun w hw=>Yl rx fx r fs w (by simpa using hw)) ⟨.bl _,H,I,rfl,?_⟩
  rw[show aa.toArray.any (dM x)=aa.any (dM x) by simp,Jt r fs]
  exact q
theorem Zx:fc X (.builtin "len") (fun xs H Q=> ∃p ys,xs=[.ref p]/\(ai X.K H p ys∨ag X.K H p ys)/\Q (.int ys.length) H):=by
 intro pins s σ H xs us Q I r h
 obtain⟨p,ys,rfl,hq,q⟩:=h
 obtain⟨u,rfl,rx⟩:=ZeN r
 cases rx
 have hn:=tG
 rcases hq with hq |hq
 ·obtain⟨aa,r',pl,hz⟩:=I.list hq
  have hlen:=r'.length
  exact Calls.call_len_list pl.isList (by simp only[Zae]<;>omega) ⟨.int ys.length,H,I.tok _,⟨s.toks+1,by rw[Zae,hlen]⟩,q⟩
 ·obtain⟨aa,r',pl,hz⟩:=I.tuple hq
  have hlen:=r'.length
  exact len_tuple pl (by simp only[Zae]<;>omega) ⟨.int ys.length,H,I.tok _,⟨s.toks+1,by rw[Zae,hlen]⟩,q⟩
theorem Ys:fc X (.type "tuple") (fun xs H Q=> ∃p ys,xs=[.ref p]/\((ai X.K H p ys/\∀l,H l=none->Q (.ref l) (upd H l (.tup ys)))∨(ag X.K H p ys/\Q (.ref p) H))):=by
 intro pins s σ H xs us Q I r h
 obtain⟨p,ys,rfl,h⟩:=h
 obtain⟨u,rfl,rx⟩:=ZeN r
 cases rx
 rcases h with ⟨hq,q⟩ |⟨hq,q⟩
 ·obtain⟨aa,r',pl,hz⟩:=I.list hq
  have hlen:=r'.length
  refine call_tuple_list pl.isList (fun h' kp=> ?_) (by simp only[Zae]<;>omega)
  have I1:Inv X pins σ H {s with heap:=h'} :=I.kept (t':=s.toks) kp
  have I2:Inv X pins σ (upd H h'.objs.size (.tup ys)) {s with heap:=h'.push {cls:=.type "tuple",data:=.seq aa.toArray} } :=
   I1.laid (t':=s.toks) (fun b o e=>X7 _ e) (Zal _) (show bt X.prog X.w _ _ _ (.tup ys) from ⟨hz,aa,r',IsTup.new _ _,_,Zaf _ rfl,rfl⟩)
  exact⟨.ref h'.objs.size,_,I2,rfl,q _ (I1.ak.fresh (Zal _))⟩
 ·obtain⟨aa,r',pl,hz⟩:=I.tuple hq
  exact call_tuple_same pl ⟨.ref p,H,I,rfl,q⟩
def Ax (K:Zgc) (T:String) (x:V) (H:Hp):Prop:=match x with
 | .str _=>T= "str"
 | .int _=>T= "int"
 | .ref p=> (T= "list" /\∃xs,ai K H p xs)∨(T= "tuple" /\((∃o,K.lookup p=some o/\o.cls=.type "tuple" /\o.dict=none)∨∃xs,H p=some (.tup xs)))∨
   (T= "dict" /\((∃ae,H p=some (.dK ae))∨∃ae,H p=some (.dT ae)))∨(T= "set" /\∃S n,H p=some (.set S n))
 |_=>False
theorem P2 {pins:List (Addr×Obj)}{σ:St}{H:Hp}{s:Shared}{T:String}{x:V}{v:Value}(I:Inv X pins σ H s) (r:RelV x v) (ty:Ax X.K T x H):
  s.TypeIs v T/\∀a,v=.ref a->∃ob,s.heap.get? a=some ob/\ob.dict=none:=by
 cases x with
 |str z=>
  obtain⟨t,rfl⟩:=r
  cases (show T= "str" from ty)
  exact⟨typeIs_str s z t,fun _ e=>nomatch e⟩
 |int i=>
  obtain⟨t,rfl⟩:=r
  cases (show T= "int" from ty)
  exact⟨PySem.typeIs_int s i t,fun _ e=>nomatch e⟩
 |ref p=>
  cases r
  rcases ty with ⟨rfl,xs,hq⟩ |⟨rfl,⟨o,hk,hc,hd⟩ |⟨xs,hx⟩⟩ |⟨rfl,hk⟩ |⟨rfl,S,n,hk⟩
  ·obtain⟨aa,_,pl,_⟩:=I.list hq
   refine⟨pl.isList.typeIs,fun a e=> ?_⟩
   cases e
   obtain⟨o,n,e,c,hd,_⟩:=pl
   exact⟨o,e,hd⟩
  ·refine⟨⟨o,I.bN p o hk,hc⟩,fun a e=> ?_⟩
   cases e
   exact⟨o,I.bN _ o hk,hd⟩
  ·obtain⟨_,_,_,⟨o,e,c,_⟩,o2,e2,hd⟩:=(show bt X.prog X.w H s.heap p (.tup xs) from I.ak p _ hx)
   refine⟨⟨o,e,c⟩,fun a e3=> ?_⟩
   cases e3
   exact⟨o2,e2,hd⟩
  ·have z:∃o,s.heap.get? p=some o/\o.ExactDict:=by
    rcases hk with ⟨ae,hk⟩ |⟨ae,hk⟩
    ·obtain⟨_,_,_,_,o,_,_,e,ex,_⟩:=I.ak p _ hk
     exact⟨o,e,ex⟩
    ·obtain⟨_,_,_,_,o,_,_,e,ex,_⟩:=I.ak p _ hk
     exact⟨o,e,ex⟩
   obtain⟨o,e,ex⟩:=z
   refine⟨⟨o,e,ex.1⟩,fun a e2=> ?_⟩
   cases e2
   exact⟨o,e,ex.2.1⟩
  ·obtain⟨o,_,_,_,e,ex,_⟩:=I.ak p _ hk
   refine⟨⟨o,e,ex.1⟩,fun a e2=> ?_⟩
   cases e2
   exact⟨o,e,ex.2.1⟩
 |_=>exact False.elim ty
def G9 (K:Zgc) (T:String) (r:V->List V->Hp->VK->Prop) (to:TE) (t:TA):TE:=fun σ H Q=>to σ H fun x H1=>Ax K T x H1/\t σ H1 fun xs H2=>r x xs H2 Q
variable {o e:Expr}{es:List Expr}{to:TE}{t:TA}{name:Str}{apos bT:Pos}{T id:String}{r:V->List V->Hp->VK->Prop}
theorem JR (pa:PlainAttrs T) (slot:Slot T name id) (Md:typeOf (.builtin id)=pure (.type "method_descriptor")) (hm:zT X id r) (ho:PE X o to) (ha:PA X (e::es) t)
    (Nw:attributeBase o name X.env (eval o X.env)=eval o X.env:=by rfl)
    (Na:((backTo bT (starEach (e::es) X.env)).all (fun x=> !x.1)&&(backToKw bT (keywordEach [] X.env)).all (fun x=>x.1.isSome)
      &&decide ((e::es).length+([]:List Keyword).length+(if ([]:List Keyword).isEmpty then 0 else 1)<30))=true:=by rfl)
    (MS:(apos.endLine==bT.line)=true:=by rfl) (hs:starEach (e::es) X.env=(false,eval e X.env)::starEach es X.env:=by rfl) (Mw:(backTo bT (starEach es X.env)).any (·.1)=false:=by rfl):
    PE X (.Call (.Attribute o name apos) (e::es) [] bT) (G9 X.K T r to t):=by
  intro pins s σ H Q I h
  refine wpAny_Call_method_late Nw Na MS rfl (au (ho pins s σ H _ I h) fun v s1 ⟨x,H1,I1,r1,ty,q1⟩=> ?_)
  obtain⟨h1,h2⟩:=P2 I1 r1 ty
  refine⟨T,id,pa,slot,Md,h1,h2,?_⟩
  have hA:=ha bT pins s1 σ H1 _ I1 q1
  rw[hs]at hA |-
  refine Calls.callWith_builtin (by show(false||(backTo bT (starEach es X.env)).any (·.1))=false;rw[Mw]<;>rfl) (PySem.Calls.evalArgs_plain ?_)
  exact au hA fun us s2 ⟨vs,H2,I2,r2,q2⟩=>hm pins s2 σ H2 x vs v us Q I2 r1 r2 q2
end
def F1 (X:Cx) (id:String) (r:V->List V->Hp->VK->Prop):Prop:=
 ∀(pins:List (Addr×Obj)) (s:Shared) (σ:St) (H:Hp) (x:V) (xs:List V) (v:Value) (us:List Value) (Q:VK),Inv X pins σ H s->RelV x v->Vals xs us->r x xs H Q->
  wpAny (model X.prog X.w) X.A (call (.builtin id) (v::us)) (EP X pins σ Q) X.xe s
theorem Vals.one:∀{x:V}{us:List Value},Vals [x] us->∃u,us=[u]/\RelV x u
 |_,_,.cons r .nil=> ⟨_,rfl,r⟩
theorem Vals.rep {xs:List V}{us:List Value}(h:Vals xs us):∀k:Nat,Vals (List.replicate k xs).flatten (List.replicate k us).flatten
 |0=> .nil
 |k+1=>by
  rw[ZbE,ZbE,ZcJ,ZcJ]
  exact Vals.append h (Vals.rep h k)
theorem JJ (aa:List Value):∀(k:Nat) (acc:List Value),
  List.foldl (fun x1 x2=>x1++x2) acc.toArray (List.replicate k aa.toArray)=(acc++(List.replicate k aa).flatten).toArray
 |0,acc=>by simp
 |k+1,acc=>by
  have e:acc.toArray++aa.toArray=(acc++aa).toArray:=by simp
  have e2:(acc++aa)++(List.replicate k aa).flatten=acc++(List.replicate (k+1) aa).flatten:=by
   rw[ZbE,ZcJ,ZbV]
  rw[<-e2,<-JJ aa k (acc++aa),<-e,ZbE,Zc9]
section
variable {X:Cx}{pins:List (Addr×Obj)}{σ:St}{H:Hp}{s:Shared}{l b:Addr}{xs ys zs:List V}
theorem Inv.BF {aa its':List Value}{n:Nat}{f:Array Value->Array Value}{t':Nat}(I:Inv X pins σ H s) (hH:H l=some (.lst xs))
  (e:s.heap.get? l=some {cls:=.type "list",data:=.seq aa.toArray n}) (hf:f aa.toArray=its'.toArray) (hv:Vals ys its') (hz:ys.length<=sizeLine):
  Inv X pins σ (upd H l (.lst ys)) {s with heap:=s.heap.update l (Obj.mapSeq f),toks:=t'} :=by
 have q:=PySem.IsL.update e f
 rw[hf]at q
 refine I.write (x:=l) (e:=l) (by rw[hH];exact trivial) (.inl rfl) (fun b' u hb hu=> (ZaZ s.heap (Obj.mapSeq f) (ZcE hb)).trans hu) ⟨_,q⟩ ?_
 exact⟨hz,its',_,hv,q⟩
theorem Inv.BG {aa:List Value}{t':Nat}(I:Inv X pins σ H s) (hv:Vals ys aa) (hz:ys.length<=sizeLine):
  Inv X pins σ (upd H s.heap.objs.size (.lst ys)) {s with heap:=s.heap.push {cls:=.type "list",data:=.seq aa.toArray},toks:=t'} :=
 I.laid (fun _ _ q=>X7 _ q) (Zal _) ⟨hz,aa,0,hv,Zaf _ rfl⟩
theorem Inv.fresh (I:Inv X pins σ H s):H s.heap.objs.size=none:=I.ak.fresh (Zal _)
theorem Inv.nW (I:Inv X pins σ H s) (hH:H l=some (.lst xs)):xs.length<=sizeLine/\∃(aa:List Value) (n:Nat),Vals xs aa/\xs.length=aa.length/\s.heap.get? l=some {cls:=.type "list",data:=.seq aa.toArray n} :=by
 obtain⟨z,aa,n,r,e⟩:=I.ak l _ hH
 exact⟨z,aa,n,r,r.length,e⟩
theorem Bn {n:Nat}(h:n<=sizeLine):Builtin.List.listTooLong n=false:=by
 unfold Builtin.List.listTooLong
 exact Zaq .o
end
section
variable {X:Cx}
def Iu:V->List V->Hp->VK->Prop:=fun x vs H Q=> ∃l xs y,x=.ref l/\vs=[y]/\H l=some (.lst xs)/\xs.length<sizeLine/\Q .ah (upd H l (.lst (xs++[y])))
theorem JE:F1 X "list.append" Iu:=by
 intro pins s σ H x vs v us Q I rx rv h
 obtain⟨l,xs,y,rfl,rfl,hH,hz,q⟩:=h
 cases rx
 obtain⟨u,rfl,ru⟩:=rv.one
 obtain⟨z,aa,n,r,hl,e⟩:=I.nW hH
 refine ZcZ F.slot_list_append ⟨_,e,rfl⟩ F.entry_list_append (F.args_list_append_2 _ _) (PySem.list_append l aa.toArray n u (by rw[Zae];omega)) ⟨e,?_⟩
 refine⟨.ah,_,I.BF (its':=aa++[u]) hH e (by simp) (r.append (.cons ru .nil)) ?_,rfl,q⟩
 rw[Zam,ZbW]
 omega
def Io:V->List V->Hp->VK->Prop:=fun x vs H Q=> ∃l b xs zs,x=.ref l/\vs=[.ref b]/\H l=some (.lst xs)/\H b=some (.lst zs)/\xs.length+zs.length<=sizeLine/\Q .ah (upd H l (.lst (xs++zs)))
theorem JD:F1 X "list.extend" Io:=by
 intro pins s σ H x vs v us Q I rx rv h
 obtain⟨l,b,xs,zs,rfl,rfl,hH,hB,hz,q⟩:=h
 cases rx
 obtain⟨u,rfl,ru⟩:=rv.one
 cases ru
 obtain⟨z,aa,n,r,hl,e⟩:=I.nW hH
 obtain⟨z2,jj,n2,r2,fk,e2⟩:=I.nW hB
 have hsz:aa.toArray.size+jj.toArray.size<=sizeLine:=by rw[Zae,Zae];omega
 have yd:¬(!aa.toArray.isEmpty&&Builtin.List.listTooLong (aa.toArray.size+jj.toArray.size))=true:=by
  rw[Bn hsz,Zc0]
  exact Zag
 refine ZcZ F.slot_list_extend ⟨_,e,rfl⟩ F.entry_list_extend (F.args_list_extend_2 _ _)
  (AutoSeq1.list_extend_list_list_0 l aa.toArray n b jj.toArray n2 yd (by rw[Zae];omega) .o) ⟨e,e2,?_⟩
 refine⟨.ah,_,I.BF (its':=aa++jj) hH e (by simp) (r.append r2) ?_,rfl,q⟩
 rw[Zam]
 omega
def Ir:R2:=fun x y H Q=> ∃l b xs zs,x=.ref l/\y=.ref b/\H l=some (.lst xs)/\H b=some (.lst zs)/\xs.length+zs.length<=sizeLine/\∀p,H p=none->Q (.ref p) (upd H p (.lst (xs++zs)))
theorem JA:bo X (binaryOp .Add) Ir:=by
 intro pins s σ H x y v u Q I rx ry h
 obtain⟨l,b,xs,zs,rfl,rfl,hH,hB,hz,q⟩:=h
 cases rx
 cases ry
 obtain⟨z,aa,n,r,hl,e⟩:=I.nW hH
 obtain⟨z2,jj,n2,r2,fk,e2⟩:=I.nW hB
 refine PySem.P.add_list e e2 ?_ (by rw[Zae,Zae];omega)
 have ea:aa.toArray++jj.toArray=(aa++jj).toArray:=by simp
 rw[ea]
 exact⟨.ref _,_,I.BG (t':=s.toks) (r.append r2) (by rw[Zam];omega),rfl,q _ I.fresh⟩
def Ih:R2:=fun x y H Q=> ∃l k xs,x=.ref l/\y=.int k/\H l=some (.lst xs)/\ -(2^63)<=k/\k<2^63/\xs.length*k.toNat<=sizeLine/\
 ∀p,H p=none->Q (.ref p) (upd H p (.lst (List.replicate k.toNat xs).flatten))
theorem UR {α:Type}(xs:List α) (k:Nat):(List.replicate k xs).flatten.length=k*xs.length:=by
 induction k with
 |zero=>simp
 |succ k ih=>rw[ZbE,ZcJ,Zam,ih,Nat.succ_mul,Nat.add_comm]
theorem PQ:bo X (binaryOp .Mult) Ih:=by
  intro pins s σ H x y v u Q I rx ry h
  obtain⟨l,k,xs,rfl,rfl,hH,h1,h2,hz,q⟩:=h
  cases rx
  obtain⟨t,rfl⟩:=ry
  obtain⟨z,aa,n,r,hl,e⟩:=I.nW hH
  have hlen:aa.toArray.size*k.toNat<=sizeLine:=by rw[Zae,<-hl];exact hz
  have Nt:¬aa.toArray.size*k.toNat> (2^63 - 1)/8:=by
    have:(sizeLine:Nat)<=(2^63 - 1)/8:=.d
    omega
  have iQ:¬(!Builtin.List.listFitsIndex k)=true:=by
    rw[fitsIndex_both h1 h2]
    exact Zag
  have yd:¬Builtin.List.listTooLong (aa.toArray.size*k.toNat)=true:=by
    rw[Bn hlen]
    exact Zag
  have ow:List.foldl (fun x1 x2=>x1++x2) #[] (List.replicate (if aa.toArray.isEmpty=true then 0 else k.toNat) aa.toArray)=(List.replicate k.toNat aa).flatten.toArray:=by
    have f0:∀m:Nat,List.foldl (fun x1 x2=>x1++x2) #[] (List.replicate m aa.toArray)=(List.replicate m aa).flatten.toArray:=fun m=>by
      have:=JJ aa m []
      rw[List.nil_append]at this
      exact this
    rw[f0]
    cases aa with
    |nil=>simp
    |cons a r'=>rw[Zav (by simp)]
  refine PySem.wpAny_binaryOp_repeat_ref (T:= "list") (U:= "int") .d ⟨_,e,rfl⟩ (fun s'=>PySem.typeIs_int s' k t) noFill_list_mul F.fills_int_mul F.slot_int_rmul repeat_list F.slot_int_index.lookup
    (ZcZ F.slot_int_rmul (PySem.typeIs_int s k t) F.entry_int_rmul (F.args_int_rmul_2 _ _) (int___rmul___int_list k t l aa.toArray n)
      ⟨e,rfl,⟨_,e,rfl⟩,ZcZ F.slot_list_mul ⟨_,e,rfl⟩ F.entry_list_mul (F.args_list_mul_2 _ _) (AutoListH.list___mul___list_int_3 l aa.toArray n k t iQ Nt yd) ⟨e,?_⟩⟩)
  rw[ow]
  exact⟨.ref _,_,I.BG (t':=s.toks) (r.rep k.toNat) (by rw[UR,Nat.mul_comm];exact hz),rfl,q _ I.fresh⟩
end
end L2
namespace F9
open PySem PySem.W PySem.Calls PyProof.Rows
theorem JZ {P:Params}{h:Heap} :∀(ns:List Int) (vs:List Value),WellAll P h vs (ns.map WData.int)->IntsAre vs ns:=by
 intro ns
 induction ns with
 |nil=>
  intro vs w
  rw[List.map_nil]at w
  cases w
  exact .nil
 |cons n ns ih=>
  intro vs w
  rw[ZaR]at w
  cases w with
  |cons a b=>
   cases a
   exact .cons _ _ (ih _ b)
theorem SG {l:OpenLaw}{n:Nat}(hn:l.most=some n) {P:Params}{h:Heap}{args:List WData}{vals:List Value}
  (tP:l.row.toRowW.claim.pre args=true) (xG:WellAll P h vals args):
  ∃a vs ns,vals=[Value.ref a]/\args=[WData.list (ns.map WData.int)]/\h.get? a=some {cls:=.type "list",data:=.seq vs.toArray}/\IntsAre vs ns/\ns.length<=n:=by
 have qg:WShape.hasAll [] args [.list .int]=true:=(pre_splitW tP).1
 have hc:l.pre.holds [] {args:=args} =true:=(pre_splitW tP).2
 obtain⟨d,r,rfl,h1,h2⟩:=hasAllW_cons qg
 obtain rfl:=hasAllW_nil h2
 obtain⟨xs,rfl,h3⟩:=hasW_list h1
 obtain⟨ns,rfl⟩:=items_int h3
 have hlen:ns.length<=n:=by
  unfold OpenLaw.pre at hc
  have h4:(WTm.not (.lt (.lit (.int (n:Int))) (.len (.arg 0)))).holds [] {args:=[.list (ns.map .int)]} =true:=by
   have h4:=(holds_andW hc).1
   rw[hn]at h4
   exact h4
  have h5:=condW_of h4 (w_not (w_lt w_lit (w_len_list (w_arg rfl))))
  rw[Zac]at h5
  refine Nat.le_of_not_lt fun q=> ?_
  have q':(n:Int)< ((ns.length:Nat):Int):=.o
  first
   |(rw[Zat q']at h5;exact absurd h5 .d)
   |(simp at h5;omega)
 cases xG with
 |cons w1 w2=>
  cases w2
  cases w1 with
  |list ho aM=>exact⟨_,_,ns,rfl,rfl,ho,JZ ns _ aM,hlen⟩
theorem SE (l:OpenLaw) (args:List WData):l.row.toRowW.claim.post args (.bool true) args=true:=
 postW_of (r:=l.row.toRowW) (X:=(true==true))
  (show WShape.has [] (.bool true) .bool=true by first |rfl |decide |simp[WShape.has,WShape.arms,WShape.armsAll])
  (show(WTm.eq .res (.lit (.bool true))).value [] {args:=args,res:=some (.bool true),after:=args} =some (.bool (true==true)) from w_eq_bool (w_res rfl) w_lit) rfl
theorem Pp {l:OpenLaw}{n:Nat}{q:Program}{loose:List Str}{XP:(Str->Option Value)->Heap->Prop}{YP:World->Heap->Prop}{d:DefRec}
    (hn:l.most=some n) (yx:d.params.defaults=[])
    (call:∀(w:World) (bX aF:Shared) (mg mb:Str->Option Value) (fa:Addr) (o:Obj) (pm cd doc:Value) (a:Addr) (vs:List Value) (ns:List Int),
      Ground q loose [] XP w bX mg mb aF.heap->YP w aF.heap->
      aF.heap.get? fa=some o->o.data=.func (docDef d.name d.params d.body d.scope pm cd doc)->aF.heap.CodeRec cd d.name->mg d.name=some (.ref fa)->
      aF.heap.get? a=some {cls:=.type "list",data:=.seq vs.toArray}->IntsAre vs ns->ns.length<=n->aF.gens= #[]->
      codeAny (model l.prog w) callerA (.call (.ref fa) ⟨[.ref a],[]⟩) (fun r s'=>r=.ok (.ret (.bool true))/\OldK aF.heap s'.heap/\s'.os=aF.os/\AllBare s'.gens) aF):
    WalkO q loose XP YP l.row.toRowW d [] (fun f vs=>PySem.call f vs):=by
  intro w bX aF mg mb G Y fa o pm cd doc dV kV ho hd cO hD hmg hg args vals as tP XH XC xG ye
  obtain rfl:dV=.none:=Dflts.none hD yx
  obtain rfl:kV=.none:=Dflts.noKw hD
  obtain⟨a,vs,ns,rfl,rfl,x6,hints,hlen⟩:=SG hn tP xG
  refine enter_call (Zb7 (call w bX aF mg mb fa o pm cd doc a vs ns G Y ho (fd_plain hd) cO hmg x6 hints hlen hg) fun r s' hq=> ?_)
  obtain⟨rfl,h2,h3,h4⟩:=hq
  exact⟨.inl ⟨.bool true,.bool true,[],rfl,fun _=>rfl,.bool true,SE l _,fun _=> ⟨List.Pairwise.nil,fun _ hm=> (nomatch hm)⟩⟩,h2,h3,h4⟩
end F9
namespace L2
open PySem PySem.Spec PyProof.Rows
theorem W1:∀{vs:List Value}{ns:List Int},IntsAre vs ns->Vals (ns.map V.int) vs
 |_,_,.nil=> .nil
 |_,_,.cons n t h=> .cons ⟨t,rfl⟩ (W1 h)
def gz (s:Stmt):Arguments:=match s with
 | .FunctionDef _ a _ _ _ _ _ _ _ _=>a
 |_=> {posonlyargs:=[],args:=[],vararg:=none,kwonlyargs:=[],kw_defaults:=[],kwarg:=none,defaults:=[]}
def cY (s:Stmt):List Stmt:=match s with
 | .FunctionDef _ _ b _ _ _ _ _ _ _=>b
 |_=> []
def aw (s:Stmt):Scope:=match s with
 | .FunctionDef _ _ _ _ _ _ sc _ _ _=>sc
 |_=> {kind:=.function,names:=[],isGenerator:=false,isCoroutine:=false}
abbrev az:i6:=fun _ _ _ _ _ _=>False
abbrev E0:XK:=fun _ _ _=>False
theorem xc {X:Cx} :Passes az X E0:=fun _ _ _ _ _ _ _ h=>h.elim
structure aC (K:Zgc) (x qual:Str) (st:Stmt) (f:Addr) (fd:FuncData):Prop where
 ex:∃(oc:Value) (od:Option Addr) (kV doc pm:Value) (an:Option Addr) (aq ct:Value) (fB:Array (Option Value)),
  fd=PySem.W.fnOf x qual (gz st) (cY st) (aw st) .none kV doc pm an aq ct/\K.lookup f=some ⟨oc,od,.func fd,fB⟩/\PySem.W.codeIn K aq qual=true
 kp:PySem.W.keepIn K (.ref f)=true
section
variable {P:Program}{w:World}{K:Zgc}{mg:Str->Option Value}{base:Heap}
theorem aC.ok {x qual:Str}{st:Stmt}{f:Addr}{fd:FuncData}{N ps:List Str}{k:Nat}{sp:Sp}(F:aC K x qual st f fd) (S:aQ N ps (aw st)) (len:∀vs H Q E,sp vs H Q E->vs.length=ps.length)
    (yB:∀(aq:Value) (A:Around) (outer:List Env) (s:Shared) (H:Hp) (vs:List V) (Q:VK) (E:XK),bj k (A.deeper (envOfC qual (aw st) s.heap.objs.size f aq))->sp vs H Q E->
      ∃t,eB (bG az P w K mg base N qual (aw st) f aq A outer s H E).dw (cY st) t/\t {nx:=fun _ H'=>Q .ah H',rt:=Q} (start N vs) H):aA P w K mg base az (k+1) f fd ps sp:=by
  obtain⟨oc,od,kV,doc,pm,an,aq,ct,fB,rfl,lk,cO⟩:=F.ex
  refine zC lk cO S len fun A outer s H vs Q E hr dG=> ?_
  obtain⟨t,h,q⟩:=yB aq A outer s H vs Q E hr dG
  exact⟨t,h.dw,q⟩
theorem aC.binds {x qual:Str}{st:Stmt}{f:Addr}{fd:FuncData}{ps:List Str}(F:aC K x qual st f fd)
  (h:∀(kV doc pm:Value) (an:Option Addr) (aq ct:Value) (us:List Value),us.length=ps.length->bindArgs (PySem.W.fnOf x qual (gz st) (cY st) (aw st) .none kV doc pm an aq ct) ⟨us,[]⟩=pure (ps.zip us)):Binds K fd ps []:=by
 obtain⟨oc,od,kV,doc,pm,an,aq,ct,fB,rfl,lk,cO⟩:=F.ex
 exact .all (h kV doc pm an aq ct)
theorem Qq {x qual:Str}{st:Stmt}{f:Addr}{oc:Value}{od an:Option Addr}{fB:Array (Option Value)}{kV doc pm aq ct:Value}(l:K.lookup f=some ⟨oc,od,.func (PySem.W.fnOf x qual (gz st) (cY st) (aw st) .none kV doc pm an aq ct),fB⟩)
  (c:PySem.W.codeIn K aq qual=true) (k:PySem.W.keepIn K (.ref f)=true):aC K x qual st f (PySem.W.fnOf x qual (gz st) (cY st) (aw st) .none kV doc pm an aq ct):=⟨⟨oc,od,kV,doc,pm,an,aq,ct,fB,rfl,l,c⟩,k⟩
end
theorem qY {A:Around}{k:Nat}(hr:bj k A):A.units+1<cLine:=Nat.lt_of_le_of_lt (Nat.add_le_add_left (by decide:1<=64) _) hr.units
section
variable {X:Cx}
theorem pv (i:Nat) {x:Str}{pos:Pos}(hN:X.N[i]? =some x:=by rfl) (hv:q0 X.env.scope x:=by first |exact Or.inl rfl |exact Or.inr (Or.inl rfl) |exact Or.inr (Or.inr rfl)) (hd:(x==("__debug__" :Str))=false:=by decide)
  (cO:(x==("__classdict__" :Str))=false:=by decide):PE X (.Name x pos) (pd i):=UK hN hv hd cO
end
theorem aP {A B:Prop}(h:B):if false=true then A else B:=by
 rw[Zav Zag]
 exact h
theorem bg {A B:Prop}(h:A):if true=true then A else B:=by
 rw[Zay rfl]
 exact h
def af (H H':Hp):Prop:=∀b o,H b=some o->H' b=some o
theorem af.refl (H:Hp):af H H:=fun _ _ h=>h
theorem af.trans {H H1 H2:Hp}(a:af H H1) (b:af H1 H2):af H H2:=fun c o h=>b c o (a c o h)
theorem af.free {H H':Hp}(e:af H H') {l:Addr}(h:H' l=Option.none):H l=Option.none:=by
 cases q:H l with
 |none=>rfl
 |some o=>
  rw[e l o q]at h
  cases h
section
variable {κ:Type} [DecidableEq κ]
def bV (ae:List (κ×V)) (k:κ):Option V:=(ae.find? fun kv=>decide (kv.1=k)).map (·.2)
def putK (ae:List (κ×V)) (k:κ) (v:V):List (κ×V):=
 if (ae.any fun kv=>decide (kv.1=k))=true then ae.map (fun kv=>if kv.1=k then (kv.1,v) else kv) else ae++[(k,v)]
theorem ZQ {p:κ×V}{r:List (κ×V)}{k:κ}(e:p.1=k):bV (p::r) k=some p.2:=by simp[bV,Zda,e]
theorem ZR {p:κ×V}{r:List (κ×V)}{k:κ}(e:¬p.1=k):bV (p::r) k=bV r k:=by simp[bV,Zda,e]
theorem Ja (k:κ):∀ae:List (κ×V),(ae.any fun kv=>decide (kv.1=k))=(bV ae k).isSome
 | []=>rfl
 |p::r=>by
  rw[List.any_cons]
  by_cases e:p.1=k
  ·simp only[ZQ e,Zat e,Bool.true_or,Option.isSome_some]
  ·rw[ZR e,Zaq e,Bool.false_or];exact Ja k r
theorem U5 (k j:κ) (y:V):∀ae:List (κ×V),bV (ae.map fun kv=>if kv.1=k then (kv.1,y) else kv) j=(bV ae j).map fun x=>if j=k then y else x
 | []=>rfl
 |p::r=>by
  have ih:=U5 k j y r
  rw[ZaR]
  by_cases h:p.1=k
  ·rw[Zay h]
   by_cases e:p.1=j
   ·rw[ZQ (p:=(p.1,y)) e,ZQ e,Zdb,Zay (e.symm.trans h)]
   ·rw[ZR (p:=(p.1,y)) e,ZR e,ih]
  ·rw[Zav h]
   by_cases e:p.1=j
   ·rw[ZQ (p:=p) e,ZQ e,Zdb,Zav (fun z=>h (e.trans z))]
   ·rw[ZR (p:=p) e,ZR e,ih]
theorem W2 (k j:κ) (y:V):∀ae:List (κ×V),bV ae k=none->bV (ae++[(k,y)]) j=if j=k then some y else bV ae j
 | [],_=>by
  by_cases e:k=j
  ·rw[Zay e.symm];exact ZQ (p:=(k,y)) e
  ·rw[Zav (fun z=>e z.symm)];exact ZR (p:=(k,y)) e
 |p::r,hn=>by
  rw[List.cons_append]
  have hk:¬p.1=k:=fun z=>by rw[ZQ z]at hn;cases hn
  rw[ZR hk]at hn
  have ih:=W2 k j y r hn
  by_cases e:p.1=j
  ·rw[ZQ e,ZQ e,Zav (fun z=>hk (e.trans z))]
  ·rw[ZR e,ZR e,ih]
theorem SS (ae:List (κ×V)) (k j:κ) (y:V):bV (putK ae k y) j=if j=k then some y else bV ae j:=by
 unfold putK
 by_cases a:(ae.any fun kv=>decide (kv.1=k))=true
 ·rw[Zay a,U5]
  rw[Ja]at a
  by_cases e:j=k
  ·obtain⟨x,hx⟩:=Zca.mp a
   rw[Zay e,e,hx,Zdb,Zay rfl]
  ·rw[Zav e]
   cases bV ae j with
   |none=>rfl
   |some x=>rw[Zdb,Zav e]
 ·rw[Zav a]
  refine W2 k j y ae ?_
  rw[Ja]at a
  cases q:bV ae k with
  |none=>rfl
  |some x=>rw[q]at a;exact(a rfl).elim
theorem YL (ae:List (κ×V)) (k:κ) (v:V):(putK ae k v).length<=ae.length+1:=by
 unfold putK
 split
 ·rw[Zac];omega
 ·rw[Zam,ZaJ,ZbP];omega
theorem gN.LA {o:Option V}{u:Option Value}(r:gN o u):o.isSome=u.isSome:=by
 cases o with
 |none=>cases u with
  |none=>rfl
  |some _=>exact(show False from r).elim
 |some _=>cases u with
  |none=>exact(show False from r).elim
  |some _=>rfl
theorem gN.getD {o:Option V}{u:Option Value}{d:V}{d':Value}(r:gN o u) (rd:RelV d d'):RelV (o.getD d) (u.getD d'):=by
 cases o with
 |none=>cases u with
  |none=>exact rd
  |some _=>exact(show False from r).elim
 |some _=>cases u with
  |none=>exact(show False from r).elim
  |some _=>exact r
theorem KV.val {ae:List (κ×V)}{vs:List (κ×Value)}(r:KV ae vs) (k:κ):gN (bV ae k) (valueAt vs k):=by
 unfold KV at r
 induction r with
 |nil=>exact True.intro
 | @cons p q ps qs h t ih=>
  obtain⟨h1,h2⟩:=h
  by_cases e:p.1=k
  ·have e':q.1=k:=h1.symm.trans e
   have b:valueAt (q::qs) k=some q.2:=by simp[valueAt,Zda,e']
   rw[ZQ e,b];exact h2
  ·have e':¬q.1=k:=fun z=>e (h1.trans z)
   have b:valueAt (q::qs) k=valueAt qs k:=by simp[valueAt,Zda,e']
   rw[ZR e,b];exact ih
theorem KV.any {ae:List (κ×V)}{vs:List (κ×Value)}(r:KV ae vs) (k:κ):(ae.any fun kv=>decide (kv.1=k))=vs.any fun kv=>decide (kv.1=k):=by
 unfold KV at r
 induction r with
 |nil=>rfl
 |cons h t ih=>rw[List.any_cons,List.any_cons,ih,h.1]
theorem KV.wW {ae:List (κ×V)}{vs:List (κ×Value)}(r:KV ae vs) (k:κ) {y:V}{u:Value}(ry:RelV y u):
  KV (ae.map fun kv=>if kv.1=k then (kv.1,y) else kv) (vs.map fun kv=>if kv.1=k then (kv.1,u) else kv):=by
 unfold KV at r |-
 induction r with
 |nil=>exact .nil
 | @cons p q ps qs h t ih=>
  rw[ZaR,ZaR]
  refine .cons ?_ ih
  obtain⟨h1,h2⟩:=h
  by_cases e:p.1=k
  ·rw[Zay e,Zay (h1.symm.trans e)];exact⟨h1,ry⟩
  ·rw[Zav e,Zav (fun z=>e (h1.trans z))];exact⟨h1,h2⟩
theorem KV.put {ae:List (κ×V)}{vs:List (κ×Value)}(r:KV ae vs) (k:κ) {y:V}{u:Value}(ry:RelV y u):KV (putK ae k y) (stored vs k u):=by
 unfold putK stored
 rw[r.any k]
 by_cases e:(vs.any fun kv=>decide (kv.1=k))=true
 ·rw[Zay e,Zay e];exact r.wW k ry
 ·rw[Zav e,Zav e];exact ZbK r ⟨rfl,ry⟩
theorem KV.length {ae:List (κ×V)}{vs:List (κ×Value)}(r:KV ae vs):ae.length=vs.length:=ZaA r
end
theorem qZ {P:Program}{w:World}{k:Key}{u:Value}(r:RelV (kV k) u):(dU P w).is k u=true:=by
 cases k with
 |inl i=>obtain⟨t,e⟩:=(show ∃t,u=Value.int i t from r);subst e;exact Vc P w i t
 |inr x=>obtain⟨t,e⟩:=(show ∃t,u=Value.str x t from r);subst e;exact Vd P w x t
theorem Um {P:Program}{w:World} :∀{ks:List Key}{us:List Value},Vals (ks.map kV) us->ItemsAre (dU P w) ks us
 | [],_,r=>by rw[List.map_nil]at r;cases r;exact .nil
 |k::ks,_,r=>by
  rw[ZaR]at r
  cases r with
  |cons h t=>exact .cons (qZ h) (Um t)
abbrev KT (H:Hp):List (List Key×V)->List (List Key×Addr×Value)->Prop:=Paired fun p q=>p.1=q.1/\H q.2.1=some (.tup (p.1.map kV))/\RelV p.2 q.2.2
theorem KT.val {H:Hp}{ae:List (List Key×V)}{xs:List (List Key×Addr×Value)}(r:KT H ae xs) (k:List Key):gN (bV ae k) ((atKey xs k).map (·.2)):=by
 induction r with
 |nil=>exact True.intro
 | @cons p q ps qs h t ih=>
  obtain⟨h1,_,h2⟩:=h
  by_cases e:p.1=k
  ·have e':q.1=k:=h1.symm.trans e
   have b:atKey (q::qs) k=some q.2:=by simp[atKey,Zda,e']
   rw[ZQ e,b];exact h2
  ·have e':¬q.1=k:=fun z=>e (h1.trans z)
   have b:atKey (q::qs) k=atKey qs k:=by simp[atKey,Zda,e']
   rw[ZR e,b];exact ih
theorem KT.wW {H:Hp}{ae:List (List Key×V)}{xs:List (List Key×Addr×Value)}(r:KT H ae xs) (k:List Key) {y:V}{u:Value}(ry:RelV y u):
  KT H (ae.map fun kv=>if kv.1=k then (kv.1,y) else kv) (xs.map (putAt k u)):=by
 induction r with
 |nil=>exact .nil
 | @cons p q ps qs h t ih=>
  rw[ZaR,ZaR]
  refine .cons ?_ ih
  obtain⟨h1,h2,h3⟩:=h
  unfold putAt
  by_cases e:p.1=k
  ·rw[Zay e,Zay (h1.symm.trans e)];exact⟨h1,h2,ry⟩
  ·rw[Zav e,Zav (fun z=>e (h1.trans z))];exact⟨h1,h2,h3⟩
theorem KT.put {H:Hp}{ae:List (List Key×V)}{xs:List (List Key×Addr×Value)}(r:KT H ae xs) (k:List Key) {b:Addr}{y:V}{u:Value}(hb:H b=some (.tup (k.map kV))) (ry:RelV y u):
  KT H (putK ae k y) (storedH xs k b u):=by
 have e:(ae.any fun kv=>decide (kv.1=k))=(atKey xs k).isSome:=by
  rw[Ja,(r.val k).LA,Option.isSome_map]
 unfold putK storedH
 rw[e]
 by_cases q:(atKey xs k).isSome=true
 ·rw[Zay q,Zay q];exact r.wW k ry
 ·rw[Zav q,Zav q];exact ZbK r ⟨rfl,hb,ry⟩
theorem KT.keeps {H H':Hp}{ae:List (List Key×V)}{xs:List (List Key×Addr×Value)}(r:KT H ae xs) (ht:∀b ys,H b=some (.tup ys)->H' b=some (.tup ys)):KT H' ae xs:=
 Paired.aS r fun _ _ z=> ⟨z.1,ht _ _ z.2.1,z.2.2⟩
section
variable {P:Program}{w:World}{H:Hp}{h:Heap}{a:Addr}
theorem DK {u:HO}(ok:bw P w H h) (e:Rd H a u):bt P w H h a u:=e.ok ok
theorem qW {ae:List (Key×V)}(ok:bw P w H h) (e:Rd H a (.dK ae)):ae.length<=sizeLine/\(a==sysModules)=false/\∃vs,KV ae vs/\h.DictOf (dU P w) a vs:=
 show bt P w H h a (.dK ae) from DK ok e
theorem QA {ae:List (Key×V)}(ok:bw P w H h) (e:H a=some (.dK ae)):ae.length<=sizeLine/\(a==sysModules)=false/\∃vs,KV ae vs/\h.DictOf (dU P w) a vs:=qW ok (.inl e)
theorem US {ks:List Key}(ok:bw P w H h) (e:H a=some (.tup (ks.map kV))):(tupleKind (dU P w)).is h ks a:=by
 obtain⟨_,aa,r,⟨o,h1,h2,n,h3⟩,_⟩:=(show bt P w H h a (.tup (ks.map kV)) from ok a _ e)
 exact⟨o,aa.toArray,n,h1,h2,h3,by simpa using Um r⟩
theorem qX {ae:List (List Key×V)}(ok:bw P w H h) (e:Rd H a (.dT ae)):ae.length<=sizeLine/\(a==sysModules)=false/\
  ∃xs,KT H ae xs/\h.DictOfH (tupleKind (dU P w)) a xs:=by
 obtain⟨z,y,xs,r,o,es,ep,h1,h2,h3,h4,h5⟩:=(show bt P w H h a (.dT ae) from DK ok e)
 refine⟨z,y,xs,r,o,es,ep,h1,h2,h3,h4,fun x hx=> ?_,h5⟩
 have all:∀{l:List (List Key×V)}{m:List (List Key×Addr×Value)},KT H l m->∀x∈m,(tupleKind (dU P w)).is h x.1 x.2.1:=by
  intro l m q
  induction q with
  |nil=>intro x hx;exact nomatch hx
  | @cons p q ps qs hq t ih=>
   intro x hx
   rcases Zaj.mp hx with e |hx
   ·subst e
    exact US ok (by rw[<-hq.1];exact hq.2.1)
   ·exact ih x hx
 exact all r x hx
theorem QB {ae:List (List Key×V)}(ok:bw P w H h) (e:H a=some (.dT ae)):ae.length<=sizeLine/\(a==sysModules)=false/\
  ∃xs,KT H ae xs/\h.DictOfH (tupleKind (dU P w)) a xs:=qX ok (.inl e)
end
def iw (H:Hp) (a:Addr) (y:V) (r:Option V):Prop:=
 (∃ae k,Rd H a (.dK ae)/\y=kV k/\r=bV ae k)∨∃ae k b,Rd H a (.dT ae)/\y=.ref b/\H b=some (.tup (k.map kV))/\r=bV ae k
def rp (H:Hp) (a:Addr) (y v:V) (H':Hp):Prop:=
 (∃ae k,H a=some (.dK ae)/\y=kV k/\ae.length<sizeLine/\H'=upd H a (.dK (putK ae k v)))∨
 ∃ae k b,H a=some (.dT ae)/\y=.ref b/\H b=some (.tup (k.map kV))/\ae.length<sizeLine/\H'=upd H a (.dT (putK ae k v))
theorem iw.k {H:Hp}{a:Addr}{ae:List (Key×V)}{k:Key}(e:H a=some (.dK ae)):iw H a (kV k) (bV ae k):=.inl ⟨ae,k,.inl e,rfl,rfl⟩
theorem iw.t {H:Hp}{a b:Addr}{ae:List (List Key×V)}{k:List Key}(e:H a=some (.dT ae)) (eb:H b=some (.tup (k.map kV))):iw H a (.ref b) (bV ae k):=.inr ⟨ae,k,b,.inl e,rfl,eb,rfl⟩
theorem rp.t {H:Hp}{a b:Addr}{ae:List (List Key×V)}{k:List Key}{v:V}(e:H a=some (.dT ae)) (eb:H b=some (.tup (k.map kV))) (hl:ae.length<sizeLine):
  rp H a (.ref b) v (upd H a (.dT (putK ae k v))):=.inr ⟨ae,k,b,e,rfl,eb,hl,rfl⟩
section
variable {X:Cx}{pins:List (Addr×Obj)}{σ:St}{H:Hp}{s:Shared}{a:Addr}{y v:V}{u r:Value}{o:Option V}{A:Around}{E:Value->Shared->Prop}
theorem Inv.big (I:Inv X pins σ H s):sysModules<s.heap.objs.size:=by
 have h:mainGlobals<s.heap.objs.size:=(I.mod.glob.keeps I.bk).lt
 exact Nat.lt_trans .d h
theorem SY {Q:Value->Shared->Prop}(hu:A.units+1<cLine) (I:Inv X pins σ H s) (g:iw H a y (some v)) (ry:RelV y u) (h:∀w' s',Inv X pins σ H s'->RelV v w'->Q w' s'):
  wpAny (model X.prog X.w) A (getItem (.ref a) u) Q E s:=by
 rcases g with ⟨ae,k,e,ey,l⟩ |⟨ae,k,b,e,ey,eb,l⟩
 ·subst ey
  obtain⟨z,hd,vs,rel,dd⟩:=qW I.ak e
  obtain⟨w',hw,fA⟩:=gN.some_of (v:=v) (o:=valueAt vs k) (by rw[l];exact rel.val k)
  exact wpAny_getItem_of (qZ ry) dd.mapOf hw (h w' _ (I.tok _) fA)
 ·subst ey
  cases (show u=Value.ref b from ry)
  obtain⟨z,hd,xs,rel,dd⟩:=qX I.ak e
  obtain⟨w',hw,fA⟩:=gN.some_of (v:=v) (o:=(atKey xs k).map (·.2)) (by rw[l];exact rel.val k)
  obtain⟨p,hp,gk⟩:=ZaB.mp hw
  refine wpAny_getItem_heap (PySem.tupleKind_room_in1 hu) (US I.ak eb) dd hp ?_
  rw[gk]
  exact h w' _ (I.tok _) fA
theorem EZ {h':Heap}{t':Nat}{ob:HO}(I:Inv X pins σ H s) (mu:rb (H a)) (hs:Heap.SameBut a s.heap h') (he:∃q,h'.get? a=some q) (new:bt X.prog X.w (upd H a ob) h' a ob):
  Inv X pins σ (upd H a ob) {s with heap:=h',toks:=t'} :=
 I.write (x:=a) (e:=a) mu (.inl rfl) (fun b q hb z=> (hs.2 b hb).trans z) he new
theorem El {P:Program}{w:World}{H':Hp}{h':Heap}{ae:List (Key×V)}{vs:List (Key×Value)}(z:ae.length<=sizeLine) (hd:(a==sysModules)=false) (rel:KV ae vs) (dd:h'.DictOf (dU P w) a vs):
  bt P w H' h' a (.dK ae):=⟨z,hd,vs,rel,dd⟩
theorem S4 {H':Hp}{Q:Unit->Shared->Prop}(hu:A.units+1<cLine) (I:Inv X pins σ H s) (g:rp H a y v H') (ry:RelV y u) (rv:RelV v r) (h:∀s',Inv X pins σ H' s'->Q () s'):
  wpAny (model X.prog X.w) A (setItem (.ref a) u r) Q E s:=by
 rcases g with ⟨ae,k,e,ey,l,eH⟩ |⟨ae,k,b,e,ey,eb,l,eH⟩
 ·subst ey eH
  obtain⟨z,hd,vs,rel,dd⟩:=QA I.ak e
  have hz:vs.length<=sizeLine:=by rw[<-rel.length];exact z
  have hl:(putK ae k v).length<=sizeLine:=by have:=YL ae k v;omega
  refine wpAny_setItem_pairs (hsz:=hz) (qZ ry) dd fun h' uu hs=>h _ ?_
  have he:∃q,h'.get? a=some q:=let ⟨q,_,_,hq,_⟩:=uu;⟨q,hq⟩
  exact EZ I (by rw[e];exact True.intro) hs he (El hl hd (rel.put k rv) uu)
 ·subst ey eH
  cases (show u=Value.ref b from ry)
  obtain⟨z,hd,xs,rel,dd⟩:=QB I.ak e
  have hz:xs.length<=sizeLine:=by rw[<-ZaA rel];exact z
  have hl:(putK ae k v).length<=sizeLine:=by have:=YL ae k v;omega
  refine wpAny_setItem_heap (hsz:=hz) (PySem.tupleKind_room_in1 hu) (US I.ak eb) dd fun h' uu hs=>h _ ?_
  obtain⟨q,es,ep,hq,h2,h3,h4,_,h5⟩:=uu
  refine EZ I (by rw[e];exact True.intro) hs ⟨q,hq⟩ ⟨hl,hd,_,(rel.put k eb rv).keeps fun c ys ec=> ?_,q,es,ep,hq,h2,h3,h4,h5⟩
  rw[Zi (Wt ec e (fun z=>nomatch z))]
  exact ec
end
def F0 (i:Expr):Prop:=∀ov iv,subscripted i false ov iv=operate [ov,iv] (getItem ov iv)
theorem QQ {prog:Program}{w:World}{A:Around}{E:Value->Shared->Prop}{s:Shared}{env:Env}{value slice:Expr}{pos:Pos}{T id:String}{Q:Value->Shared->Prop}
  (hl:typeLookup (.type T) "__getitem__" =pure (some (.builtin id))) (hs:F0 slice)
  (h:wpAny (model prog w) A (eval value env) (fun o aF=>wpAny (model prog w) A (eval slice env) (fun i fU=>fU.TypeIs o T/\wpAny (model prog w) A (getItem o i) Q E fU) E aF) E s):
  wpAny (model prog w) A (eval (.Subscript value slice pos) env) Q E s:=by
 refine Subscript_ (ZaL h (fun o aF gG=>ZaL gG (fun i fU xE=> ?_) fun _ _ x=>x) fun _ _ x=>x)
 obtain⟨hT,xE⟩:=xE
 unfold subscriptTail
 refine eg ?_
 rw[getitemInPython_of_ne hT.not_modules]
 refine eg (Zb8 hT hl ?_)
 have fin:wpAny (model prog w) A (subscripted slice false o i) (fun r nD=>wpAny (model prog w) A (letTemporaryGo value o r >>=fun _=>pure r) Q E nD) E fU:=by
  rw[hs o i]
  exact wpAny_operating (ZaL xE (fun r nD LQ=>eg (wpAny_letTemporaryGo (X6 LQ))) fun _ _ x=>x)
 first
  |exact X6 (eg fin)
  |exact eg (X6 (eg fin))
  |exact eg fin
theorem Vi {X:Cx}{pins:List (Addr×Obj)}{σ:St}{H:Hp}{s:Shared}{a:Addr}{y:V}{o:Option V}(I:Inv X pins σ H s) (g:iw H a y o):s.TypeIs (.ref a) "dict" :=by
 rcases g with ⟨ae,k,e,_,_⟩ |⟨ae,k,b,e,_,_,_⟩
 ·obtain⟨_,_,vs,_,dd⟩:=qW I.ak e
  exact dd.typeIs
 ·obtain⟨_,_,xs,_,dd⟩:=qX I.ak e
  exact dd.typeIs
def G7 (td ty:TE):TE:=fun σ H Q=>td σ H fun x H1=>ty σ H1 fun y H2=> ∃a v,x=.ref a/\iw H2 a y (some v)/\Q v H2
def HV (td ty tv:TE):TS:=fun D σ H=>tv σ H fun v H1=>td σ H1 fun x H2=>ty σ H2 fun y H3=> ∃a H4,x=.ref a/\rp H3 a y v H4/\D.nx σ H4
section
variable {X:Cx}{o i e value:Expr}{pos pos' Xk:Pos}{td ty tv:TE}
theorem QH (hu:X.A.units+1<cLine) (ho:PE X o td) (hi:PE X i ty) (hs:F0 i):PE X (.Subscript o i pos) (G7 td ty):=by
 intro pins s σ H Q I h
 refine QQ PySem.F.slot_dict_getitem.lookup hs (au (ho pins s σ H _ I h) fun u s1 ⟨x,H1,I1,rx,q1⟩=>au (hi pins s1 σ H1 _ I1 q1) fun iv s2 ⟨y,H2,I2,ry,a,v,ex,g,q2⟩=> ?_)
 subst ex
 obtain rfl:u=Value.ref a:=rx
 exact⟨Vi I2 g,SY hu I2 g ry fun w' s3 I3 fA=> ⟨v,H2,I3,fA,q2⟩⟩
theorem QK (hu:X.A.units+1<cLine) (ho:PE X o td) (hi:PE X i ty) (hv:PE X value tv) (hs:swapsWith value (some (.Subscript o i pos')) pos.line X.env=pure false):
  PS X (.Assign [.Subscript o i pos'] value pos) (HV td ty tv):=by
 intro pins s σ H D I h
 refine wpAny_Assign_Subscript (au (hv pins s σ H _ I h) fun r s1 ⟨v,H1,I1,rv,q1⟩=>au (ho pins s1 σ H1 _ I1 q1) fun u s2 ⟨x,H2,I2,rx,q2⟩=>au (hi pins s2 σ H2 _ I2 q2) fun iv s3 ⟨y,H3,I3,ry,a,H4,ex,g,q3⟩=> ?_) hs
 subst ex
 obtain rfl:u=Value.ref a:=rx
 exact S4 hu I3 g ry rv fun s4 I4=> ⟨σ,H4,I4,q3⟩
end
theorem R9 {P:Program}{w:World}{H:Hp}(h:Heap) (hb:sysModules<h.objs.size):bt P w H (h.push {cls:=.type "dict",data:=.dict #[]}) h.objs.size (.dT []):=
 ⟨Zaz _,Zcq.mpr (ZcE (Zan hb)),[],.nil,_, #[],0,Zaf _ rfl,⟨rfl,rfl,rfl⟩,rfl,rfl,List.nodup_nil⟩
def G5:TE:=fun _ H Q=> ∀p,H p=none->Q (.ref p) (upd H p (.dT []))
section
variable {X:Cx}{pos:Pos}
theorem RE:PE X (.Dict [] [] pos) G5:=fun pins s σ H Q I h=>
 wpAny_Dict_empty ⟨.ref s.heap.objs.size,_,I.laid (a:=s.heap.objs.size) (o:=.dT []) (t':=s.toks) (fun _ _ q=>X7 _ q) (Zal _) (R9 s.heap I.big),rfl,h _ (I.ak.fresh (Zal _))⟩
end
def jP (ae more:List (Key×V)):List (Key×V):=more.foldl (fun acc kv=>putK acc kv.1 kv.2) ae
theorem KV.merge:∀{more:List (Key×V)}{rs:List (Key×Value)}{ae:List (Key×V)}{vs:List (Key×Value)},KV more rs->KV ae vs->KV (jP ae more) (merged vs rs):=by
 intro more rs ae vs r
 unfold KV at r
 induction r generalizing ae vs with
 |nil=>intro q;exact q
 | @cons p q ps qs h t ih=>
  intro r0
  have e:KV (putK ae p.1 p.2) (stored vs q.1 q.2):=by
   have:=r0.put p.1 h.2
   rw[<-h.1];exact this
  exact ih e
theorem Y3:∀(more ae:List (Key×V)),(jP ae more).length<=ae.length+more.length
 | [],ae=>by show ae.length<=ae.length+0;omega
 |p::r,ae=>by
  have h1:=Y3 r (putK ae p.1 p.2)
  have h2:=YL ae p.1 p.2
  show(jP (putK ae p.1 p.2) r).length<=_
  rw[ZaJ];omega
structure M1 (X:Cx) (o:Expr) (m:Str) (apos:Pos) (e:Expr) (bT:Pos):Prop where
 base:attributeBase o m X.env (eval o X.env)=eval o X.env
 mO:((backTo bT (starEach [e] X.env)).all (fun x=> !x.1)&&(backToKw bT (keywordEach [] X.env)).all (fun x=>x.1.isSome)
  &&decide (([e]:List Expr).length+([]:List Keyword).length+(if ([]:List Keyword).isEmpty then 0 else 1)<30))=true
 line:(apos.endLine==bT.line)=true
 trees:backTo bT (starEach [e] X.env)=[(false,eval e X.env)]
structure M2 (X:Cx) (o:Expr) (m:Str) (apos:Pos) (e f:Expr) (bT:Pos):Prop where
 base:attributeBase o m X.env (eval o X.env)=eval o X.env
 mO:((backTo bT (starEach [e,f] X.env)).all (fun x=> !x.1)&&(backToKw bT (keywordEach [] X.env)).all (fun x=>x.1.isSome)
  &&decide (([e,f]:List Expr).length+([]:List Keyword).length+(if ([]:List Keyword).isEmpty then 0 else 1)<30))=true
 line:(apos.endLine==bT.line)=true
 trees:backTo bT (starEach [e,f] X.env)=[(false,eval e X.env),(false,eval f X.env)]
def F3 (H:Hp) (a:Addr):Prop:=(∃ae,Rd H a (.dK ae))∨∃ae,Rd H a (.dT ae)
theorem Qr {X:Cx}{pins:List (Addr×Obj)}{σ:St}{H:Hp}{s:Shared}{a:Addr}(I:Inv X pins σ H s) (d:F3 H a):
  s.TypeIs (.ref a) "dict" /\(∀b,Value.ref a=.ref b->∃ob,s.heap.get? b=some ob/\ob.dict=none)/\(a==sysModules)=false:=by
 rcases d with ⟨ae,e⟩ |⟨ae,e⟩
 ·obtain⟨_,hd,vs,_,dd⟩:=qW I.ak e
  refine⟨dd.typeIs,fun b q=> ?_,hd⟩
  cases q
  obtain⟨ob,_,_,h1,h2,_⟩:=dd
  exact⟨ob,h1,h2.2.1⟩
 ·obtain⟨_,hd,xs,_,dd⟩:=qX I.ak e
  refine⟨dd.typeIs,fun b q=> ?_,hd⟩
  cases q
  obtain⟨ob,_,_,h1,h2,_⟩:=dd
  exact⟨ob,h1,h2.2.1⟩
section
variable {X:Cx}{pins:List (Addr×Obj)}{σ:St}{H:Hp}{s:Shared}{a:Addr}{y d:V}{u r:Value}{o:Option V}{A:Around}{E:Value->Shared->Prop}
theorem Qn {Q:Value->Shared->Prop}(hu:A.units+1<cLine) (I:Inv X pins σ H s) (g:iw H a y o) (ry:RelV y u) (h:∀w' s',Inv X pins σ H s'->RelV (o.getD .ah) w'->Q w' s'):
  wpAny (model X.prog X.w) A (call (.builtin "dict.get") [.ref a,u]) Q E s:=by
 rcases g with ⟨ae,k,e,ey,l⟩ |⟨ae,k,b,e,ey,eb,l⟩
 ·subst ey
  obtain⟨z,hd,vs,rel,dd⟩:=qW I.ak e
  refine call_meetsIn PySem.F.slot_dict_get dd.typeIs PySem.F.entry_dict_get (PySem.F.args_dict_get_2 _ _) (meets_dict_get (dU X.prog X.w) a (qZ ry) hd) ⟨_,dd.mapOf,h _ _ (I.tok _) ?_⟩
  rw[l]
  exact(rel.val k).getD rfl
 ·subst ey
  cases (show u=Value.ref b from ry)
  obtain⟨z,hd,xs,rel,dd⟩:=qX I.ak e
  refine call_meetsIn PySem.F.slot_dict_get dd.typeIs PySem.F.entry_dict_get (PySem.F.args_dict_get_2 _ _) (meetsH_dict_get (tupleKind (dU X.prog X.w)) a b hd) ⟨PySem.tupleKind_room_in1 hu,k,xs,US I.ak eb,dd,h _ _ (I.tok _) ?_⟩
  rw[l]
  exact(rel.val k).getD rfl
end
def G6 (td ty:TE):TE:=fun σ H Q=>td σ H fun x H1=> ∃a,x=.ref a/\F3 H1 a/\ty σ H1 fun y H2=> ∃o,iw H2 a y o/\Q (o.getD .ah) H2
section
variable {X:Cx}{o e f:Expr}{apos bT:Pos}{td ty tx:TE}
theorem RD (hu:X.A.units+1<cLine) (ho:PE X o td) (he:PE X e ty) (m:M1 X o "get" apos e bT):PE X (.Call (.Attribute o "get" apos) [e] [] bT) (G6 td ty):=by
 intro pins s σ H Q I h
 refine wpAny_Call_method m.base m.mO m.line PySem.F.plainAttrs_dict PySem.F.slot_dict_get PySem.F.type_dict_get (au (ho pins s σ H _ I h) fun u s1 ⟨x,H1,I1,rx,a,ex,d,q1⟩=> ?_)
 subst ex
 obtain rfl:u=Value.ref a:=rx
 obtain⟨t1,t2,_⟩:=Qr I1 d
 refine⟨t1,t2,?_⟩
 rw[m.trees]
 refine Calls.callWith_builtin rfl (PySem.Calls.evalArgs_plain (Zcz (au (he pins s1 σ H1 _ I1 q1) fun iv s2 ⟨y,H2,I2,ry,ov,g,q2⟩=>ZcH ?_)))
 exact Qn hu I2 g ry fun w' s3 I3 fA=> ⟨_,H2,I3,fA,q2⟩
end
def dN (scope:Scope) (env:Env):List (Str×Addr):=scope.names.foldl (fun cs y=>if y.2==.free then (y.1,(env.cells.lookup y.1).getD 0)::cs else cs) []
theorem Z7 {scope:Scope}{env:Env}(h:∀y∈scope.names,y.2=.free->∃c,env.cells.lookup y.1=some c):closureFor scope env=pure (dN scope env):=by
 unfold closureFor dN
 have key:∀(l:List (Str×NameKind)) (cs:List (Str×Addr)),(∀y∈l,y.2=.free->∃c,env.cells.lookup y.1=some c)->
   (forIn l cs (fun x r=>match x with |(name,kind)=>if (kind==NameKind.free)=true then do let c <-cellOf env name;pure (ForInStep.yield ((name,c)::r)) else pure (ForInStep.yield r)):Sem (List (Str×Addr)))
    =pure (l.foldl (fun cs y=>if y.2==.free then (y.1,(env.cells.lookup y.1).getD 0)::cs else cs) cs):=by
  intro l
  induction l with
  |nil=>intro cs _;rfl
  |cons y l ih=>
   intro cs hl
   obtain⟨n,k⟩:=y
   rw[List.forIn_cons,Zc9]
   by_cases hk:k=.free
   ·subst hk
    obtain⟨c,hc⟩:=hl (n,.free) Zab rfl
    have bC:env.cells.lookup n=some c:=hc
    have e1:cellOf env n=pure c:=by unfold cellOf;rw[bC]
    simp only[beq_self_eq_true,Zch,e1,bC,Zcv,pure_bind]
    exact ih _ fun y hy=>hl y (Zaa _ hy)
   ·have hb:(k==NameKind.free)=false:=by simpa using hk
    simp only[hb,Zak,Za0,pure_bind]
    exact ih _ fun y hy=>hl y (Zaa _ hy)
 simp only[key scope.names [] h,pure_bind]
 all_goals rfl
theorem Yn {scope:Scope}{env:Env}{x:Str}{c:Addr}(h:(dN scope env).lookup x=some c):c=(env.cells.lookup x).getD 0/\(x,NameKind.free)∈scope.names:=by
 unfold dN at h
 have key:∀(l:List (Str×NameKind)) (cs:List (Str×Addr)),(l.foldl (fun cs y=>if y.2==.free then (y.1,(env.cells.lookup y.1).getD 0)::cs else cs) cs).lookup x=some c->
   (c=(env.cells.lookup x).getD 0/\(x,NameKind.free)∈l)∨cs.lookup x=some c:=by
  intro l
  induction l with
  |nil=>intro cs h;exact .inr h
  |cons y l ih=>
   intro cs h
   obtain⟨n,k⟩:=y
   rw[Zc9]at h
   rcases ih _ h with ⟨h1,h2⟩ |h'
   ·exact .inl ⟨h1,Zaa _ h2⟩
   ·by_cases hk:k=.free
    ·subst hk
     simp only[beq_self_eq_true,Zch]at h'
     rw[ZcS]at h'
     cases hx:x==n with
     |true=>
      rw[hx]at h'
      have e:x=n:=by simpa using hx
      subst e
      have e':(env.cells.lookup x).getD 0=c:=ZaV h'
      exact .inl ⟨e'.symm,Zab⟩
     |false=>rw[hx]at h';exact .inr h'
    ·have hb:(k==NameKind.free)=false:=by simpa using hk
     simp only[hb,Zak,Za0]at h'
     exact .inr h'
 rcases key _ _ h with h |h
 ·exact h
 ·simp at h
theorem WL {scope:Scope}{env:Env}{x:Str}(h:(x,NameKind.free)∈scope.names):∃c,(dN scope env).lookup x=some c:=by
 unfold dN
 have key:∀(l:List (Str×NameKind)) (cs:List (Str×Addr)),((x,NameKind.free)∈l∨∃c,cs.lookup x=some c)->∃c,(l.foldl (fun cs y=>if y.2==.free then (y.1,(env.cells.lookup y.1).getD 0)::cs else cs) cs).lookup x=some c:=by
  intro l
  induction l with
  |nil=>
   intro cs h
   rcases h with h |h
   ·simp at h
   ·exact h
  |cons y l ih=>
   intro cs h
   obtain⟨n,k⟩:=y
   rw[Zc9]
   refine ih _ ?_
   by_cases hk:k=.free
   ·subst hk
    simp only[beq_self_eq_true,Zch]
    rw[ZcS]
    cases hx:x==n with
    |true=>exact .inr ⟨_,rfl⟩
    |false=>
     rcases h with h |h
     ·rcases Zaj.mp h with e |h
      ·have e1:x=n:=Zce Prod.fst e
       simp[e1]at hx
      ·exact .inl h
     ·exact .inr h
   ·have hb:(k==NameKind.free)=false:=by simpa using hk
    simp only[hb,Zak,Za0]
    rcases h with h |h
    ·rcases Zaj.mp h with e |h
     ·exact absurd (Zce Prod.snd e).symm hk
     ·exact .inl h
    ·exact .inr h
 exact key _ _ (.inl h)
def rl (env:Env) (y:Str×NameKind):Str×NameKind:=if (y.2==NameKind.free&&env.scope.kind==.function&&env.kindOf y.1==some .cell) then (y.1,NameKind.cell) else y
theorem Ed (env:Env) (y:Str×NameKind):(rl env y).1=y.1:=by unfold rl;split<;>rfl
theorem QO {env:Env}{y:Str×NameKind}(h:y.2=.free):(rl env y).2=.cell∨(rl env y).2=.free:=by
 unfold rl;split
 ·exact .inl rfl
 ·exact .inr h
theorem PZ {env:Env}{y:Str×NameKind}(h:y.2≠.free):rl env y=y:=by
 have hb:(y.2==NameKind.free)=false:=by simpa using h
 unfold rl;rw[hb];simp
theorem Y1 (scope:Scope) (env:Env):(relabel scope env).names=scope.names.map (rl env):=rfl
theorem UI {scope:Scope}{env:Env}{x:Str}(hc:∀y∈scope.names,y.2≠.cell) (h:(relabel scope env).names.lookup x=some .cell∨(relabel scope env).names.lookup x=some .free):(x,NameKind.free)∈scope.names:=by
 rw[Y1]at h
 have key:∀(l:List (Str×NameKind)),(∀y∈l,y.2≠.cell)->(∃k,(k=NameKind.cell∨k=.free)/\(l.map (rl env)).lookup x=some k)->(x,NameKind.free)∈l:=by
  intro l
  induction l with
  |nil=>rintro _ ⟨k,_,h⟩;simp at h
  |cons y l ih=>
   rintro hl ⟨k',ay,h⟩
   obtain⟨n,k⟩:=y
   have e1:(rl env (n,k))=(n,(rl env (n,k)).2):=Prod.ext (Ed env _) rfl
   rw[ZaR,e1,ZcS]at h
   cases hx:x==n with
   |true=>
    have e:x=n:=by simpa using hx
    subst e
    by_cases hk:k=.free
    ·subst hk;exact Zab
    ·rw[hx]at h
     rw[PZ (env:=env) (y:=(x,k)) hk]at h
     have e:k=k':=ZaV h
     subst e
     rcases ay with z |z
     ·exact absurd z (hl _ Zab)
     ·exact absurd z hk
   |false=>
    rw[hx]at h
    exact Zaa _ (ih (fun y hy=>hl y (Zaa _ hy)) ⟨k',ay,h⟩)
 refine key _ hc ?_
 rcases h with h |h
 ·exact⟨_,.inl rfl,h⟩
 ·exact⟨_,.inr rfl,h⟩
theorem Y0 {scope:Scope}{env:Env}{x:Str}(h:scope.names.lookup x=some .free):(relabel scope env).names.lookup x=some .cell∨(relabel scope env).names.lookup x=some .free:=by
 rw[Y1]
 have key:∀(l:List (Str×NameKind)),l.lookup x=some .free->(l.map (rl env)).lookup x=some .cell∨(l.map (rl env)).lookup x=some .free:=by
  intro l
  induction l with
  |nil=>intro h;simp at h
  |cons y l ih=>
   intro h
   obtain⟨n,k⟩:=y
   have e1:(rl env (n,k))=(n,(rl env (n,k)).2):=Prod.ext (Ed env _) rfl
   rw[ZaR,e1,ZcS]
   rw[ZcS]at h
   cases hx:x==n with
   |true=>
    rw[hx]at h
    have e:k=.free:=ZaV h
    rcases QO (env:=env) (y:=(n,k)) e with z |z
    ·exact .inl (Zce some z)
    ·exact .inr (Zce some z)
   |false=>rw[hx]at h;exact ih h
 exact key _ h
def aG (X:Cx) (N':List Str) (scope:Scope) (C:Addr) (s2:Shared) (H2:Hp) (fp:List Addr):Cx:=
 {X with N:=N',bX:=s2,kA:=H2,env:=compEnvC scope (dN scope X.env) C X.env,outer:=X.stack,stack:=X.stack,ex:=fp,fn:=fun _=>false,pn:=[],xe:=fun _ _=>False}
def qR (so si:Scope) (N N':List Str) (ts:Nat) (ba:List Nat):Bool:=
 decide (si.kind=.function)&&si.names.all (fun y=>y.2 !=.cell)&&si.names.all (fun y=>y.2 !=.local||si.names.lookup y.1==some .local)
 &&si.names.all (fun y=>y.2 !=.free||so.names.lookup y.1==some .cell||so.names.lookup y.1==some .free)
 &&decide N'.Nodup&&decide (N'.length=ts+ba.length)
 &&(List.range ba.length).all (fun k=> (N'[ts+k]? ==(ba[k]?.bind fun j=>N[j]?))&&(N'[ts+k]?.isSome)&&(N'[ts+k]?.all fun x=>so.names.lookup x !=some .local&&si.names.lookup x==some .free))
def hZ (ts:Nat) (ba:List Nat) (σ:St):St:=List.replicate ts none++ba.map fun j=> (σ[j]?).join
structure uJ (X:Cx) (N':List Str) (ts:Nat) (ba:List Nat) (scope:Scope):Prop where
 kind:scope.kind=.function
 fE:∀y∈scope.names,y.2≠.cell
 names:∀y∈scope.names,y.2=.local->scope.names.lookup y.1=some .local
 free:∀y∈scope.names,y.2=.free->X.env.kindOf y.1=some .cell∨X.env.kindOf y.1=some .free
 nd:N'.Nodup
 len:N'.length=ts+ba.length
 Dv:∀k j,ba[k]? =some j->∃x,N'[ts+k]? =some x/\X.N[j]? =some x/\X.env.kindOf x≠some .local/\scope.names.lookup x=some .free
theorem Y6 {x:Str}{k:NameKind} :∀{l:List (Str×NameKind)},l.lookup x=some k->(x,k)∈l
 | [],h=>by simp at h
 |(n,j)::l,h=>by
  rw[ZcS]at h
  cases hx:x==n with
  |true=>
   rw[hx]at h
   have e:x=n:=by simpa using hx
   have e':j=k:=ZaV h
   subst e e'
   exact Zab
  |false=>rw[hx]at h;exact Zaa _ (Y6 h)
theorem WK {X:Cx}{N':List Str}{ts:Nat}{ba:List Nat}{scope:Scope}(h:qR X.env.scope scope X.N N' ts ba=true):uJ X N' ts ba scope:=by
 unfold qR at h
 simp only[Zaw]at h
 obtain⟨⟨⟨⟨⟨⟨h1,h2⟩,h3⟩,h4⟩,h5⟩,h6⟩,h7⟩:=h
 refine⟨ZbU h1,fun y hy z=> ?_,fun y hy z=> ?_,fun y hy z=> ?_,ZbU h5,ZbU h6,fun k j hk=> ?_⟩
 ·have q:=ZaF.mp h2 y hy
  rw[z]at q;exact absurd q .d
 ·have q:=ZaF.mp h3 y hy
  rw[z]at q
  simpa using q
 ·have q:=ZaF.mp h4 y hy
  rw[z]at q
  simpa[Env.kindOf] using q
 ·have ar:k<ba.length:=(X8.mp hk).1
  have q:=ZaF.mp h7 k (ZaU.mpr ar)
  simp only[Zaw]at q
  obtain⟨⟨q1,q2⟩,q3⟩:=q
  obtain⟨x,hx⟩:=Zca.mp q2
  rw[hx]at q1 q3
  rw[hk]at q1
  have e1:some x=X.N[j]? :=by simpa using q1
  have wZ:(X.env.scope.names.lookup x !=some .local&&scope.names.lookup x==some .free)=true:=q3
  simp only[Zaw]at wZ
  refine⟨x,hx,e1.symm,?_,by simpa using wZ.2⟩
  have z:=wZ.1
  intro e
  have e':X.env.scope.names.lookup x=some .local:=e
  rw[e']at z
  exact absurd z .d
section
variable {X:Cx}{pins:List (Addr×Obj)}{σ:St}{H:Hp}{s:Shared}
theorem Ey {N':List Str}{ts:Nat}{ba:List Nat}{scope:Scope}{fp:List Addr}{h':Heap}{t':Nat}{m:Str->Option Value}{C:Addr}(S:uJ X N' ts ba scope) (I:Inv X pins σ H s) (hf:∀b∈fp,aH X pins H b)
  (ho:∀b∈fp,∃o,s.heap.get? b=some o) (hC:s.heap.objs.size<=C) (hn:h'.Ns C m) (k:∀b o,s.heap.get? b=some o->h'.get? b=some o):
  Inv (aG X N' scope C s H fp) [] (hZ ts ba σ) H {s with heap:=h',toks:=t'} :=by
 have sub:∀x c,(dN scope X.env).lookup x=some c->X.env.cells.lookup x=some c:=fun x c e=>by
  obtain⟨e1,e2⟩:=Yn e
  obtain⟨c',bC⟩:=I.ok.has x (S.free _ e2 rfl)
  rw[bC]at e1
  rw[bC,e1];rfl
 have dS:∀b o,s.heap.get? b=some o->b≠C:=fun b o e=>Zan (Zar (Zad e) hC)
 refine⟨⟨I.ok.mod,?_,I.ok.glob,I.ok.blt,hC,fun x y c e1 e2=>I.ok.inj x y c (sub x c e1) (sub y c e2),fun x hx=> ?_,fun x c z _=>absurd z Zag,I.ok.hd,I.ok.frames,.inl rfl,fun b hb=> ?_,fun b o e=>I.bs b o e,Zbf I.ok.iX I.sz,fun b o e hb=> ?_,fun b hb=> ?_,I.stack,I.ph⟩,
  rfl,I.bare,Un.kept k,⟨m,hn,fun i x v e1 e2 e3=> ?_⟩,fun x c e=> ?_,I.ak.fresh hC,fun x c e=>I.fM x c (sub x c e),fun p hp=>absurd (show p∈([]:List (Addr×Obj)) from hp) (by simp),I.ak.kept k,?_⟩
 ·show(relabel scope X.env).kind=.function
  exact S.kind
 ·exact WL (UI S.fE hx)
 ·obtain⟨o,e⟩:=ho b hb
  refine⟨dS b o e,fun x c ec=> ?_⟩
  exact(hf b hb).2.2.2.2.1 x c (sub x c ec)
 ·obtain⟨e1,e2⟩:=I.bs b o e
  obtain⟨f0,f1,f2,f3,f4,f5⟩:=hf b hb
  rcases f3 with z |z
  ·exact I.ok.kN b o e z
  ·exact absurd (Zar (Zad (I.ok.bs b o e).1) z) (Zba _)
 ·intro z
  obtain⟨f0,f1,f2,f3,f4,f5⟩:=hf b hb
  rcases Zaj.mp (I.rS b z) with q |q
  ·exact f1 q
  ·exact f2 q
 ·-- Xm Xs values
  have hlen:¬i<ts:=fun ar=>by
   unfold hZ at e2
   rw[ZbO (by simpa using ar),Zcg]at e2
   split at e2<;>cases e2
  have qL:(ba.map fun j=> (σ[j]?).join)[i - ts]? =some (some v):=by
   unfold hZ at e2
   rw[ZbJ (by simpa using hlen),Zbc]at e2
   exact e2
  rw[ZaH]at qL
  cases hc:ba[i - ts]? with
  |none=>rw[hc]at qL;cases qL
  |some j=>
   rw[hc]at qL
   have uq:(σ[j]?).join=some v:=ZaV qL
   have e4:σ[j]? =some (some v):=by
    cases q:σ[j]? with
    |none=>rw[q]at uq;cases uq
    |some o=>rw[q]at uq;exact Zce some uq
   obtain⟨x',n1,n2,n3,n4⟩:=S.Dv _ _ hc
   have ei:ts+(i - ts)=i:=.o
   rw[ei]at n1
   have ex:x=x':=by
    have ur:N'[i]? =some x:=e1
    rw[n1]at ur;exact(ZaV ur).symm
   subst ex
   obtain⟨mX,XG,hl⟩:=I.loc
   have Gf:q0 X.env.scope x:=by
    rcases S.free _ (Y6 n4) rfl with z |z
    ·exact .inr (.inl z)
    ·exact .inr (.inr z)
   obtain⟨u,ru,lk⟩:=hl j x v n2 e4 Gf
   refine⟨u,ru,?_⟩
   rcases lk with ⟨z,_⟩ |⟨z,c,ec,lj⟩
   ·exact absurd z n3
   ·obtain⟨c',bC⟩:=WL (env:=X.env) (Y6 n4)
    have:=sub x c' bC
    rw[ec]at this
    cases this
    refine .inr ⟨?_,c,bC,lj.keeps k⟩
    exact Y0 n4
 ·obtain⟨v,z⟩:=I.cell x c (sub x c e)
  exact⟨v,z.keeps k⟩
 ·show(hZ ts ba σ).length=N'.length
  unfold hZ
  rw[Zam,Zbc,Zac,S.len]
end
def AccAt (h:Heap) (D:Addr) (ys:List V):Prop:=ys.length<=sizeLine/\∃(aa:List Value) (n:Nat),Vals ys aa/\h.get? D=some {cls:=.type "list",data:=.seq aa.toArray n}
theorem AccAt.keep {h h':Heap}{D:Addr}{ys:List V}(a:AccAt h D ys) (k:∀o,h.get? D=some o->h'.get? D=some o):AccAt h' D ys:=by
 obtain⟨z,aa,n,r,e⟩:=a
 exact⟨z,aa,n,r,k _ e⟩
abbrev TC:=List V->St->Hp->(List V->St->Hp->Prop)->Prop
def gC (Y:Cx) (D:Addr) (m:Sem PySem.Fin->Sem PySem.Fin) (t:TC):Prop:=
 ∀(pins:List (Addr×Obj)) (s:Shared) (σ:St) (H:Hp) (ys:List V) (Q:List V->St->Hp->Prop) (k:Sem PySem.Fin) (R:PySem.Fin->Shared->Prop),Inv Y pins σ H s->aH Y pins H D->AccAt s.heap D ys->t ys σ H Q->
  (∀s' aV aj H',Inv Y pins aj H' s'->aH Y pins H' D->AccAt s'.heap D aV->Q aV aj H'->wpAny (model Y.prog Y.w) Y.A k R (fun _ _=>False) s')->wpAny (model Y.prog Y.w) Y.A (m k) R (fun _ _=>False) s
def uS (ifs:List Expr) (env:Env):Sem Bool:=forIn ifs true fun c r=>if r=true then do let ok <-isTrue c env (eval c env);pure (ForInStep.yield ok) else pure (ForInStep.yield r)
def jF (Y:Cx) (ifs:List Expr) (t:TT):Prop:=
 ∀(pins:List (Addr×Obj)) (s:Shared) (σ:St) (H:Hp) (Q:Bool->Hp->Prop),Inv Y pins σ H s->t σ H Q->wpAny (model Y.prog Y.w) Y.A (uS ifs Y.env) (TP Y pins σ Q) Y.xe s
def rP:TT:=fun _ H Q=>Q true H
section
variable {Y:Cx}{D:Addr}
theorem ZC:jF Y [] rP:=fun pins s σ H Q I h=>wpAny_tests_nil ⟨H,I,h⟩
theorem Z5 {c:Expr}{t:TT}(hc:PT Y c t):jF Y [c] t:=fun pins s σ H Q I h=>wpAny_tests_one (hc pins s σ H Q I h)
def pe (te:TE):TC:=fun ys σ H Q=>te σ H fun v H1=>ys.length<sizeLine/\Q (ys++[v]) σ H1
theorem AccAt.fE {h:Heap}{ys:List V}(a:AccAt h D ys):∀b∈[D],∃o,h.get? b=some o/\∀v,o.data≠.cell v:=fun b hb=>by
 have e:b=D:=by simpa using hb
 subst e
 obtain⟨z,aa,n,r,e⟩:=a
 exact⟨_,e,fun v z=>by
  have z':Data.seq aa.toArray n=Data.cell v:=z
  cases z'⟩
theorem AccAt.through {h:Heap}{pins:List (Addr×Obj)}{aj:St}{H':Hp}{s':Shared}{ys:List V}(a:AccAt h D ys) (I:Inv Y (pins++fg [D] h) aj H' s'):AccAt s'.heap D ys/\H' D=none:=by
 obtain⟨z,aa,n,r,e⟩:=a
 have q:=I.pin (D,_) (Zah _ (Zah _ (Zu (Zao.mpr rfl) e)))
 exact⟨⟨z,aa,n,r,q.1⟩,q.2.1⟩
theorem bL {elt:Expr}{te:TE}(hx:Y.xe=fun _ _=>False) (he:PE Y elt te):
    gC Y D (fun k=> (do let _ <-call (.builtin "list.append") [.ref D,<-eval elt Y.env]) >>=fun _=>k) (pe te):=by
  intro pins s σ H ys Q k R I f a h hk
  refine eg (ZaL (Q:=fun _ s'=> ∃aV aj H',Inv Y pins aj H' s'/\aH Y pins H' D/\AccAt s'.heap D aV/\Q aV aj H') ?_ (fun _ s' ⟨aV,aj,H',q1,q2,q3,q4⟩=>hk s' aV aj H' q1 q2 q3 q4) fun _ _ z=>z)
  have I':=I.pinned (fp:=[D]) (fun b hb=>by have e:b=D:=by simpa using hb
                                            subst e;exact f) a.fE
  refine eg (ZaL (he _ s σ H _ I' h) (fun u s1 ⟨v,H1,I1,ru,hz,q⟩=> ?_) fun e s1 z=>by rw[hx]at z;exact z)
  obtain⟨a1,n1⟩:=a.through I1
  have f1:aH Y pins H1 D:=⟨n1,f.2⟩
  obtain⟨z,aa,n,r,e⟩:=a1
  have hl:=r.length
  refine eg (ZcZ F.slot_list_append ⟨_,e,rfl⟩ F.entry_list_append (F.args_list_append_2 _ _) (PySem.list_append D aa.toArray n u (by rw[Zae];omega)) ⟨e,X6 ?_⟩)
  have q2:=PySem.IsL.update e (·.push u)
  obtain⟨f0,g1,g2,g3,g4,g5⟩:=f1
  have I2:Inv Y pins σ H1 {s1 with heap:=s1.heap.update D (Obj.mapSeq (·.push u))} :=I1.eD.turned (t':=s1.toks) (it:=D) (fun b o hb eb=> (ZaZ s1.heap _ (ZcE hb)).trans eb) f0 g1 g3 g4 g5
  refine⟨ys++[v],σ,H1,I2,⟨f0,g1,g2,g3,g4,g5⟩,⟨by rw[Zam,ZbW];omega,aa++[u],(if ((aa.toArray.push u).size==aa.toArray.size)=true then n else n+1),r.append (.cons ru .nil),?_⟩,q⟩
  have e3:aa.toArray.push u=(aa++[u]).toArray:=by simp
  rw[<-e3]
  exact q2
def inner (elt:Expr) (gens:List Comprehension) (scope:Scope) (pos:Pos) (d:Nat) (acc:Value) (env:Env) (k:Sem PySem.Fin):Sem PySem.Fin:=
 match gens[d+1]? with
 |some g'=>eval g'.iter env >>=fun x=>standAt g'.iter.pos >>=fun _=>foldedSetIterable g'.iter env x >>=fun x=>holding [x] (pyIter x) >>=fun fY=>
  runOwn (.compStart (.ListComp elt gens scope pos) (d+1) fY acc env) env >>=fun _=>k
 |none=> (do let _ <-call (.builtin "list.append") [acc,<-eval elt env]) >>=fun _=>k
set_option maxHeartbeats 400000 in
theorem zo (elt tg iter:Expr) (ifs:List Expr) (gens:List Comprehension) (scope:Scope) (pos:Pos) (d:Nat) (it acc:Value) (env:Env) (hg:gens[d]? =some ⟨tg,iter,ifs,0⟩) (h2:∀g',gens[d+1]? =some g'->g'.is_async=0):
  compTurn (.ListComp elt gens scope pos) d it acc env=(standAt iter.pos >>=fun _=>pyNext it >>=fun r=>match r with
   |none=>pure (.done .next)
   |some v=>letOwnedTupleGo tg it v >>=fun _=>assign tg env v >>=fun _=>uS ifs env >>=fun ok=>
    if ok=true then inner elt gens scope pos d acc env (again (.compLoop (.ListComp elt gens scope pos) d it acc env)) else again (.compLoop (.ListComp elt gens scope pos) d it acc env)):=by
 unfold compTurn inner
 dsimp only
 rw[hg]
 generalize hn:gens[d+1]? =o
 cases o with
 |none=>rfl
 |some g'=>
  have e:=h2 g' hn
  obtain⟨t',i',f',a'⟩:=g'
  have e':a'=0:=e
  subst e'
  rfl
def fT (g:TG) (tt:TT) (ti:TC) (J:It):TC:=fun ys σ H Q=> ∃W:Nat->Nat->List V->St->Hp->Prop,(∃m,W 0 m ys σ H)/\∀i m ys σ H,W i m ys σ H->
 (J.stop i H/\Q ys σ H)∨(J.go i H/\∃N:List V->St->Hp->Prop,(∀aV aj H',N aV aj H'->∃m',m'<m/\W (i+1) m' aV aj H')/\
  ∀x H',J.nA i H x H'->g x σ H' fun bc H2=>tt bc H2 fun b H3=>if b=true then ti ys bc H3 N else N ys bc H3)
theorem uy {elt tg iter:Expr}{ifs:List Expr}{gens:List Comprehension}{scope:Scope}{pos:Pos}{d:Nat}{it:Addr}{fp:List Addr}{tn:Nat->Heap->Prop}{J:It}{g:TG}{tt:TT}{ti:TC}{pins:List (Addr×Obj)}{s:Shared}{σ:St}{H:Hp}{ys:List V}{Q:List V->St->Hp->Prop}
    (hx:Y.xe=fun _ _=>False) (hc:Y.calm=true) (hg:gens[d]? =some ⟨tg,iter,ifs,0⟩) (T:Turn Y.prog Y.w Y.K tg J fp it tn) (hf:∀b∈fp,aH Y pins H b) (st:tn 0 s.heap) (hD:D∉fp)
    (h2:∀g',gens[d+1]? =some g'->g'.is_async=0) (pg:PG Y tg g) (pt:jF Y ifs tt) (pi:gC Y D (inner elt gens scope pos d (.ref D) Y.env) ti)
    (I:Inv Y pins σ H s) (f:aH Y pins H D) (a:AccAt s.heap D ys) (h:fT g tt ti J ys σ H Q):
    codeAny (model Y.prog Y.w) Y.A (.compLoop (.ListComp elt gens scope pos) d (.ref it) (.ref D) Y.env) (fun r s'=>match r with
      | .ok _=> ∃aV aj H',Inv Y pins aj H' s'/\aH Y pins H' D/\AccAt s'.heap D aV/\Q aV aj H'
      | .error _=>False) s:=by
  obtain⟨W,⟨m0,w0⟩,turn⟩:=h
  have stat:∀{H':Hp},(∀b∈fp,H' b=none)->∀b∈fp,aH Y pins H' b:=fun hn b hb=> ⟨hn b hb,(hf b hb).2⟩
  refine codeAny_loop rfl (fun n s'=> ∃i aV aj H',Inv Y pins aj H' s'/\aH Y pins H' D/\AccAt s'.heap D aV/\tn i s'.heap/\(∀b∈fp,H' b=none)/\W i n aV aj H') (fun n s3 hI=> ?_) m0 ⟨0,ys,σ,H,I,f,a,st,fun b hb=> (hf b hb).1,w0⟩
  obtain⟨i,iz,eC,H3,I3,f3,a3,fw,oH,w3⟩:=hI
  show wpAny _ Y.A ((compTurn (.ListComp elt gens scope pos) d (.ref it) (.ref D) Y.env).onRaise (fun x=>do noteFrame x Y.env;theTreesLotGoes x)) _ _ s3
  refine wpAny_noted (ZaL (E:=fun _ _=>False) ?_ (fun _ _ q=>q) fun _ _ z=>z.elim)
  rw[zo elt tg iter ifs gens scope pos d (.ref it) (.ref D) Y.env hg h2]
  refine eg (Zcf (eg ?_))
  have aD:∀{h h':Heap},(∀b o,b∉fp->h.get? b=some o->h'.get? b=some o)->∀{zs},AccAt h D zs->AccAt h' D zs:=fun k _ q=>q.keep fun o e=>k D o hD e
  have rj:=I3.pinned (fp:=[D]) (fun b hb=>by have e:b=D:=by simpa using hb
                                             subst e;exact f3) a3.fE
  have pj:∀b∈fp,aH Y (pins++fg [D] s3.heap) H3 b:=fun b hb=>by
    obtain⟨g0,g1,g2,g3,g4,g5⟩:=stat oH b hb
    refine⟨g0,g1,g2,g3,g4,fun p hp=> ?_⟩
    rcases ZaG.mp hp with z |z
    · exact g5 p (Zbb _ z)
    · rcases ZaG.mp z with z |z
      · exact g5 p (Zah _ z)
      · intro q
        have e:p.1=D:=by simpa using (Yw z).1
        exact hD (by rw[<-e,q];exact hb)
  rcases turn i n iz eC H3 w3 with ⟨stop,qn⟩ |⟨go,N,hN,step⟩
  · refine ZaL (T.done Y rfl rfl rfl hc i _ s3 eC H3 (fun _ _=>False) rj pj fw stop) (fun r s4 ⟨hr,I4⟩=> ?_) fun _ _ z=>z
    subst hr
    obtain⟨a4,n4⟩:=a3.through I4
    exact X6 ⟨iz,eC,H3,I4.eD,f3,a4,qn⟩
  · refine ZaL (T.item Y rfl rfl rfl hc i _ s3 eC H3 (fun _ _=>False) rj pj fw go) (fun r s4 ⟨u,hr,h4⟩=> ?_) fun _ _ z=>z
    subst hr
    refine eg (ZaL h4 (fun _ s5 ⟨x,H5,I5,r5,y5,gD,qI⟩=> ?_) fun _ _ z=>z)
    obtain⟨a5,n5⟩:=a3.through I5
    have f5:aH Y pins H5 D:=⟨n5,f3.2⟩
    have ya:∀b∈D::fp,∃o,s5.heap.get? b=some o/\∀v,o.data≠.cell v:=fun b hb=>by
      rcases Zaj.mp hb with e |hb
      · exact a5.fE b (by simp[e])
      · exact T.obj _ _ gD b hb
    have rh:=I5.eD.pinned (fp:=D::fp) (fun b hb=>by
      rcases Zaj.mp hb with e |hb
      · rw[e];exact f5
      · exact stat qI b hb) ya
    refine eg (ZaL (pg _ s5 eC H5 x u _ rh r5 (step x H5 y5)) (fun _ s6 ⟨jJ,H6,I6,q6⟩=> ?_) fun _ _ z=>by rw[hx]at z;exact z)
    refine eg (ZaL (pt _ s6 jJ H6 _ I6 q6) (fun b s7 ⟨H7,I7,q7⟩=> ?_) fun _ _ z=>by rw[hx]at z;exact z)
    have pN:∀{cF:St}{H7:Hp}{s7:Shared},Inv Y (pins++fg (D::fp) s5.heap) cF H7 s7->AccAt s7.heap D iz/\H7 D=none:=fun {cF H7 s7} J=>by
      obtain⟨z,aa,n,r,e⟩:=id a5
      have q:=J.pin (D,_) (Zah _ (Zah _ (Zu Zab e)))
      exact⟨⟨z,aa,n,r,q.1⟩,q.2.1⟩
    have pM:∀{cF:St}{H7:Hp}{s7:Shared},Inv Y (pins++fg (D::fp) s5.heap) cF H7 s7->tn (i+1) s7.heap/\∀b∈fp,H7 b=none:=fun {cF H7 s7} J=>by
      refine⟨T.keep _ _ _ gD fun b hb o e=> (J.pin (b,o) (Zah _ (Zah _ (Zu (Zaa _ hb) e)))).1,fun b hb=> ?_⟩
      obtain⟨o,e,dd⟩:=T.obj _ _ gD b hb
      exact(J.pin (b,o) (Zah _ (Zah _ (Zu (Zaa _ hb) e)))).2.1
    cases b with
    |false=>
     simp only[Zak,Za0]at q7 |-
     obtain⟨m',hm,w7⟩:=hN _ _ _ q7
     obtain⟨a7,n7⟩:=pN I7
     obtain⟨t7,r7⟩:=pM I7
     exact X6 ⟨rfl,m',hm,i+1,iz,jJ,H7,I7.eD,⟨n7,f3.2⟩,a7,t7,r7,w7⟩
    |true=>
     simp only[Zch]at q7 |-
     obtain⟨a7,n7⟩:=pN I7
     obtain⟨t7,r7⟩:=pM I7
     have Aa:=I7.eD.pinned (fp:=fp) (stat r7) (T.obj _ _ t7)
     have f7:aH Y (pins++fg fp s7.heap) H7 D:=by
       obtain⟨g0,g1,g2,g3,g4,g5⟩:=f3
       refine⟨n7,g1,g2,g3,g4,fun p hp=> ?_⟩
       rcases ZaG.mp hp with z |z
       · exact g5 p (Zbb _ z)
       · rcases ZaG.mp z with z |z
         · exact g5 p (Zah _ z)
         · intro q
           exact hD (by rw[<-q];exact(Yw z).1)
     refine pi _ s7 jJ H7 iz N _ _ Aa f7 a7 q7 fun s8 uK nq H8 I8 f8 a8 q8=> ?_
     obtain⟨m',hm,w8⟩:=hN _ _ _ q8
     refine X6 ⟨rfl,m',hm,i+1,uK,nq,H8,I8.eD,⟨f8.1,f3.2⟩,a8,T.keep _ _ _ t7 fun b hb o e=> (I8.pin (b,o) (Zah _ (Zah _ (Zu hb e)))).1,fun b hb=> ?_,w8⟩
     obtain⟨o,e,dd⟩:=T.obj _ _ t7 b hb
     exact(I8.pin (b,o) (Zah _ (Zah _ (Zu hb e)))).2.1
theorem uw {elt tg iter:Expr}{ifs:List Expr}{gens:List Comprehension}{scope:Scope}{pos:Pos}{d:Nat}{it:Addr}{R:Result->Shared->Prop}{s:Shared}{A:Around}{prog:Program}{w:World}{env:Env}{acc:Value}{fp:List Addr}{tn:Nat->Heap->Prop}{J:It}{K:Zgc}
  (hg:gens[d]? =some ⟨tg,iter,ifs,0⟩) (T:Turn prog w K tg J fp it tn) {i:Nat} (st:tn i s.heap) (h:codeAny (model prog w) A (.compLoop (.ListComp elt gens scope pos) d (.ref it) acc env) R s):
  codeAny (model prog w) A (.compStart (.ListComp elt gens scope pos) d (.ref it) acc env) R s:=by
 refine ZdF ?_
 show wpAny _ _ ((compStart (.ListComp elt gens scope pos) d (.ref it) acc env).onRaise (fun x=>do noteFrame x env;standAt theWindowsPlace)) _ _ s
 refine wpAny_notedAt ?_
 have jZ:(clausesOf (.ListComp elt gens scope pos))[d]? =some ⟨tg,iter,ifs,0⟩:=hg
 unfold compStart
 rw[jZ]
 show wpAny _ _ (ask >>=_) _ _ s
 refine eg (Zcc (wpAny_ite ?_))
 split
 ·first
   |exact eg (X6 (X6 (And.intro rfl h)))
   |exact X6 (And.intro rfl h)
 ·refine eg (Zck ?_)
  show wpAny _ _ (standAt iter.pos >>=_) _ _ s
  exact eg (Zcf (eg (T.self A i s _ _ st (X6 (And.intro rfl h)))))
def GU (wi:TI) (g:TG) (tt:TT) (ti:TC):TC:=fun ys σ H Q=>wi σ H fun J H1=>fT g tt ti J ys σ H1 Q
theorem Fp {elt tg iter:Expr}{ifs:List Expr}{gens:List Comprehension}{scope:Scope}{pos:Pos}{d:Nat}{wi:TI}{g:TG}{tt:TT}{ti:TC}
    (hx:Y.xe=fun _ _=>False) (hc:Y.calm=true) (hg:gens[d+1]? =some ⟨tg,iter,ifs,0⟩) (hi:PI Y tg iter wi) (pg:PG Y tg g) (pt:jF Y ifs tt) (pi:gC Y D (inner elt gens scope pos (d+1) (.ref D) Y.env) ti)
    (hs:∀x,foldedSetIterable iter Y.env x=pure x) (h2:∀g',gens[d+1+1]? =some g'->g'.is_async=0):gC Y D (inner elt gens scope pos d (.ref D) Y.env) (GU wi g tt ti):=by
  intro pins s σ H ys Q k R I f a h hk
  unfold inner
  rw[hg]
  have I':=I.pinned (fp:=[D]) (fun b hb=>by have e:b=D:=by simpa using hb
                                            subst e;exact f) a.fE
  refine eg (ZaL (hi _ s σ H _ I' h) (fun v s1 h1=> ?_) fun _ _ z=>by rw[hx]at z;exact z)
  refine eg (Zcf (eg (Zdm (hs v) (eg (ZaO (ZaL h1 (fun fY s2 h2=> ?_) fun _ _ z=>by rw[hx]at z;exact z))))))
  obtain⟨it,fp,tn,J,H2,e,I2,T,cA,f2,q2⟩:=h2
  subst e
  obtain⟨a2,n2⟩:=a.through I2
  have fD:aH Y pins H2 D:=⟨n2,f.2⟩
  have hD:D∉fp:=fun z=>by
    obtain⟨z1,aa,n,r,e⟩:=a
    exact(f2 D z).2.2.2.2.2 (D,_) (Zah _ (Zah _ (Zu (Zao.mpr rfl) e))) rfl
  have C3:∀b∈fp,aH Y pins H2 b:=fun b hb=>by
    obtain⟨g0,g1,g2,g3,g4,g5⟩:=f2 b hb
    exact⟨g0,g1,g2,g3,g4,fun p hp=>g5 p (by
      rcases ZaG.mp hp with z |z
      · exact Zbb _ z
      · exact Zah _ (Zbb _ z))⟩
  refine eg (wpAny_runOwn (Zb7 (uw hg T cA (uy (Q:=Q) hx hc hg T C3 cA hD h2 pg pt pi I2.eD fD a2 q2)) fun r s' hr=> ?_))
  cases r with
  |ok fl=>
   obtain⟨aV,aj,H',q1,q2,q3,q4⟩:=hr
   exact hk s' aV aj H' q1 q2 q3 q4
  |error e=>exact hr.elim
end
section
variable {X:Cx}{pins:List (Addr×Obj)}{σ:St}{H H':Hp}{s s':Shared}
theorem uB {N':List Str}{scope:Scope}{C D:Addr}{fp:List Addr}{aj:St}{ys:List V}{pl:List (Addr×Obj)}{h':Heap}(I:Inv X pins σ H s) (hf:∀b∈fp,aH X pins H b) (hC:s.heap.objs.size<=C) (hD:s.heap.objs.size<=D) (fJ:D≠C)
  (J:Inv (aG X N' scope C s H fp) pl aj H' s') (n:H' D=none) (a:AccAt s'.heap D ys) (sb:Heap.SameBut C s'.heap h'):Inv X pins σ (upd H' D (.lst ys)) {s' with heap:=h'} :=by
 have dS:∀b o,s.heap.get? b=some o->b≠C:=fun b o e=>Zan (Zar (Zad e) hC)
 have Bw:∀b o,s.heap.get? b=some o->b≠D:=fun b o e=>Zan (Zar (Zad e) hD)
 have tf:∀b o,H b=some o->b≠D:=fun b o e=>Zan (Zar (I.ak.lt e) hD)
 have fC:H' C=none:=J.free
 have u:Un (aY X.stack) fp H H' s.heap s'.heap:=J.base
 refine I.zt (s':= {s' with heap:=h'}) (ch:=fp) J.os ⟨fun b o e nb hb hx=> (sb.2 b (dS b o e)).trans (u.keep b o e nb hb hx),fun b o e nb hb hx=> ?_,fun b o e nb hx=>by rw[Zi (Bw b o e)];exact u.free b o e nb hx,fun b o e hx=> ?_,
  fun b xs e=>by rw[Zi (tf b _ e)];exact u.fQ b xs e,fun b o xs e=>by rw[Zi (tf b _ e)];exact u.fL b o xs e,fun b ps e=>by rw[Zi (tf b _ e)];exact u.fv b ps e⟩ (fun b v e=> ?_) J.bare fun b hb=> ?_
 ·obtain⟨sl,q⟩:=u.slot b o e nb hb hx
  exact⟨sl,(sb.2 b (dS b o e)).trans q⟩
 ·obtain⟨o',q⟩:=u.there b o e hx
  exact⟨o',(sb.2 b (dS b o e)).trans q⟩
 ·by_cases hb:b=D
  ·subst hb
   rw[Zc]at e
   cases e
   obtain⟨z,aa,k,r,q⟩:=a
   exact⟨z,aa,k,r,(sb.2 b fJ).trans q⟩
  ·rw[Zi hb]at e
   refine(J.ak b v e).cg (fun c w hc q=> (sb.2 c ?_).trans q) (fun c q=>by rw[Zi (Ze q n)];exact q) fun c xs q=>by rw[Zi (Ze q n)];exact q
   rcases hc with z |z
   ·rw[z];exact Ze e fC
   ·exact Ze z fC
 ·obtain⟨f0,f1,f2,f3,f4,f5⟩:=hf b hb
  exact⟨f3,f1,f4,f5⟩
theorem uz {elt tg iter:Expr}{ifs:List Expr}{rest:List Comprehension}{scope:Scope}{pos:Pos}{N':List Str}{ts:Nat}{ba:List Nat}{it:Addr}{fp:List Addr}{tn:Nat->Heap->Prop}{J:It}{g:TG}{tt:TT}{ti:TC}{Q:List V->Hp->Prop}{E:Value->Shared->Prop}{RR:Value->Addr->Result->Shared->Prop}
  (S:uJ X N' ts ba scope) (hc:X.calm=true) (I:Inv X pins σ H s) (T:Turn X.prog X.w X.K tg J fp it tn) (st:tn 0 s.heap) (hf:∀b∈fp,aH X pins H b)
  (h2:∀g',(Comprehension.mk tg iter ifs 0::rest)[0+1]? =some g'->g'.is_async=0)
  (pg:∀C,PG (aG X N' scope C s H fp) tg g) (pt:∀C,jF (aG X N' scope C s H fp) ifs tt)
  (pi:∀C D,gC (aG X N' scope C s H fp) D (inner elt (⟨tg,iter,ifs,0⟩::rest) scope pos 0 (.ref D) (aG X N' scope C s H fp).env) ti)
  (h:fT g tt ti J [] (hZ ts ba σ) H fun ys _ H2=>Q ys H2)
  (yJ:∀C D s' aj H' ys fl,s.heap.objs.size<=C->s.heap.objs.size<=D->D≠C->Inv (aG X N' scope C s H fp) [] aj H' s'->H' D=none->AccAt s'.heap D ys->Q ys H'->RR (.ref D) C (.ok fl) s'):
  wpAny (model X.prog X.w) X.A (newList []) (fun acc nD=>wpAny (model X.prog X.w) X.A (newFunctionEnv scope X.env.globals (dN scope X.env) [] X.env.qual none .none (some X.env)) (fun qS uY=>
   codeAny (model X.prog X.w) X.A (.compStart (.ListComp elt (⟨tg,iter,ifs,0⟩::rest) scope pos) 0 (.ref it) acc {qS with scope:=relabel scope X.env}) (RR acc qS.locals) uY) E nD) E s:=by
 refine ZaX (PySem.wpAny_newFunctionEnv S.fE (by intro y hy;simp at hy) (fun gG mf jV=> ?_) S.kind)
 dsimp only at mf jV |-
 generalize jA:s.heap.push {cls:=.type "list",dict:=none,data:=.seq ([]:List Value).toArray} =h0 at mf jV |-
 have hC:h0.objs.size=s.heap.objs.size+1:=by rw[<-jA,Zbh]
 have fJ:s.heap.objs.size≠h0.objs.size:=by rw[hC];exact Zan (Zcw _)
 have mG:s.heap.objs.size<=h0.objs.size:=by rw[hC];exact Nat.le_succ _
 have dS:∀b o,s.heap.get? b=some o->b≠h0.objs.size:=fun b o e=>Zan (Zar (Zad e) mG)
 have old:∀b o,s.heap.get? b=some o->gG.get? b=some o:=fun b o e=>jV.extBut b o (dS b o e) (X7 _ (jA▸X7 _ e))
 have qx:gG.get? s.heap.objs.size=some {cls:=.type "list",data:=.seq ([]:List Value).toArray 0} :=jV.extBut _ _ fJ (X7 _ (jA▸Zaf _ rfl))
 have ho:∀b∈fp,∃o,s.heap.get? b=some o:=fun b hb=>let ⟨o,e,_⟩:=T.obj _ _ st b hb;⟨o,e⟩
 have I1:Inv (aG X N' scope h0.objs.size s H fp) [] (hZ ts ba σ) H {s with heap:=gG,toks:=s.toks+([]:List (Str×Value)).length} :=Ey S I hf ho mG mf old
 have fresh:=I.ak.fresh (a:=s.heap.objs.size) (Zal _)
 have yW:∀b∈fp,aH (aG X N' scope h0.objs.size s H fp) [] H b:=fun b hb=>by
  obtain⟨f0,f1,f2,f3,f4,f5⟩:=hf b hb
  refine⟨f0,(I1.ok.kc b hb).1,I1.ok.j9 b hb,.inl hb,(I1.ok.kc b hb).2,fun p hp=>absurd (show p∈([]:List (Addr×Obj)) from hp) (by simp)⟩
 have fD:aH (aG X N' scope h0.objs.size s H fp) [] H s.heap.objs.size:=by
  refine⟨fresh,fJ,fun z=> ?_,.inr (Zal _),fun x c e z=> ?_,fun p hp=>absurd (show p∈([]:List (Addr×Obj)) from hp) (by simp)⟩
  ·obtain⟨_,o,bE,_⟩:=I.stack.mem z
   exact absurd (Zad bE) (Zba _)
  ·obtain⟨e1,e2⟩:=Yn e
   obtain⟨c',bC⟩:=I.ok.has x (S.free _ e2 rfl)
   obtain⟨v,q⟩:=I.cell x c' bC
   rw[bC]at e1
   have e3:c=c':=e1
   have l:=q.lt
   rw[<-e3,z]at l
   exact absurd l (Zba _)
 have aD:AccAt gG s.heap.objs.size []:=⟨Zaz _,[],0,.nil,qx⟩
 have yP:s.heap.objs.size∉fp:=fun z=>by obtain⟨o,e⟩:=ho _ z;exact absurd (Zad e) (Zba _)
 have cG:tn 0 gG:=T.keep _ _ _ st fun b _ o e=>old b o e
 have run:=uw (elt:=elt) (gens:=⟨tg,iter,ifs,0⟩::rest) (scope:=scope) (pos:=pos) (d:=0) rfl T cG
  (uy (Y:=aG X N' scope h0.objs.size s H fp) (D:=s.heap.objs.size) (Q:=fun ys _ H2=>Q ys H2) (elt:=elt) (gens:=⟨tg,iter,ifs,0⟩::rest) (scope:=scope) (pos:=pos) (d:=0) rfl hc rfl T yW cG yP h2 (pg _) (pt _) (pi _ _) I1 fD aD h)
 refine Zb7 run fun r s' hr=> ?_
 cases r with
 |error e=>exact hr.elim
 |ok fl=>
  obtain⟨aV,aj,H',q1,q2,q3,q4⟩:=hr
  exact yJ _ _ s' aj H' aV fl mG (Zal _) fJ q1 q2.1 q3 q4
end
def AG (wi:TI) (ts:Nat) (ba:List Nat) (g:TG) (tt:TT) (ti:TC):TE:=fun σ H Q=>wi σ H fun J H1=>fT g tt ti J [] (hZ ts ba σ) H1 fun ys _ H2=> ∀p,H2 p=none->Q (.ref p) (upd H2 p (.lst ys))
section
variable {X:Cx}{elt tg iter:Expr}{ifs:List Expr}{rest:List Comprehension}{scope:Scope}{pos:Pos}{wi:TI}{g:TG}{tt:TT}{ti:TC}
theorem ZA (N':List Str) (ts:Nat) (ba:List Nat) (hi:PI X tg iter wi) (pg:∀C s H fp,PG (aG X N' scope C s H fp) tg g) (pt:∀C s H fp,jF (aG X N' scope C s H fp) ifs tt)
  (pi:∀C s H fp D,gC (aG X N' scope C s H fp) D (inner elt (⟨tg,iter,ifs,0⟩::rest) scope pos 0 (.ref D) (aG X N' scope C s H fp).env) ti)
  (ok:qR X.env.scope scope X.N N' ts ba=true:=by rfl) (hc:X.calm=true:=by rfl) (h2:∀g',(Comprehension.mk tg iter ifs 0::rest)[0+1]? =some g'->g'.is_async=0:=by(intro g' h;cases h<;>rfl))
  (hs:∀x,foldedSetIterable iter X.env x=pure x:=by intro _;rfl):
  PE X (.ListComp elt (⟨tg,iter,ifs,0⟩::rest) scope pos) (AG wi ts ba g tt ti):=by
 intro pins s σ H Q I h
 have S:=WK ok
 rw[eval_ListComp]
 refine PySem.wpAny_comprehension_free (use:=none) rfl hs (Z7 fun y hy e=>I.ok.has _ (S.free y hy e)) S.kind S.names (au (hi pins s σ H _ I h) fun v s1 h1=>au h1 fun fY s2 fK=> ?_)
 obtain⟨it,fp,tn,J,H2,e,I2,T,cA,f2,q2⟩:=fK
 subst e
 refine uz (RR:=fun acc C=>compPost (model X.prog X.w) X.A X.xe none _ acc C) S hc I2 T cA f2 h2 (fun C=>pg C _ _ _) (fun C=>pt C _ _ _) (fun C D=>pi C _ _ _ D) q2 ?_
 intro C D s' aj H' ys fl hC hD fJ J' n a q
 obtain⟨m,hn,_⟩:=J'.loc
 exact⟨m,hn,fun h' sb=> ⟨.ref D,_,uB I2 f2 hC hD fJ J' n a sb,rfl,q D n⟩⟩
theorem Jc (N':List Str) (ts:Nat) (ba:List Nat) {i:Nat}{x:Str}{px AM:Pos}(hN:X.N.Nodup) (qq:X.N[i]? =some x) (hx:Loc X.env.scope x) (hi:PI X tg iter wi) (pg:∀C s H fp,PG (aG X N' scope C s H fp) tg g) (pt:∀C s H fp,jF (aG X N' scope C s H fp) ifs tt)
  (pi:∀C s H fp D,gC (aG X N' scope C s H fp) D (inner elt (⟨tg,iter,ifs,0⟩::rest) scope pos 0 (.ref D) (aG X N' scope C s H fp).env) ti)
  (xP:swapsWith (.ListComp elt (⟨tg,iter,ifs,0⟩::rest) scope pos) (some (.Name x px)) AM.line X.env=pure true:=by rfl)
  (ok:qR X.env.scope scope X.N N' ts ba=true:=by rfl) (hc:X.calm=true:=by rfl) (h2:∀g',(Comprehension.mk tg iter ifs 0::rest)[0+1]? =some g'->g'.is_async=0:=by(intro g' h;cases h<;>rfl))
  (hs:∀x,foldedSetIterable iter X.env x=pure x:=by intro _;rfl) (gm:X.fn x=true∨X.env.scope.names.lookup x=some .local:=by first |exact .inl rfl |exact .inr rfl |assumption):
  PS X (.Assign [.Name x px] (.ListComp elt (⟨tg,iter,ifs,0⟩::rest) scope pos) AM) (pf (AG wi ts ba g tt ti) (bF i)):=by
 intro pins s σ H D I h
 have S:=WK ok
 rw[exec_Assign_Name_used _ _ _ _ xP]
 refine eg (Zcf (eg ?_))
 show wpAny _ X.A (do let _ <-comprehension (.ListComp elt (⟨tg,iter,ifs,0⟩::rest) scope pos) scope X.env _ (newList []) false (eval iter X.env) (some (assign (.Name x px) X.env))) _ _ s
 refine eg (ZaL (PySem.wpAny_comprehension_free (use:=some (assign (.Name x px) X.env)) (Q:=fun _ s'=> ∃aj H',Inv X pins aj H' s'/\D.nx aj H') rfl hs (Z7 fun y hy e=>I.ok.has _ (S.free y hy e)) S.kind S.names
  (au (hi pins s σ H _ I h) fun v s1 h1=>au h1 fun fY s2 fK=> ?_)) (fun _ s' hq=>X6 (X6 hq)) fun _ _ e=>e)
 obtain⟨it,fp,tn,J,H2,e,I2,T,cA,f2,q2⟩:=fK
 subst e
 refine uz (RR:=fun acc C=>compPost (model X.prog X.w) X.A X.xe (some (assign (.Name x px) X.env)) _ acc C) S hc I2 T cA f2 h2 (fun C=>pg C _ _ _) (fun C=>pt C _ _ _) (fun C D=>pi C _ _ _ D) q2 ?_
 intro C B s' aj H' ys fl hC hB CK J' n a q
 obtain⟨m,hn,_⟩:=J'.loc
 have IX:Inv X pins σ (upd H' B (.lst ys)) s':=uB I2 f2 hC hB CK J' n a (PySem.Heap.SameBut.refl C s'.heap)
 have fC:=I2.jB (H':=upd H' B (.lst ys)) (b:=C) hC (by rw[Zi (ZcE CK)];exact J'.free)
 obtain⟨f0,f1,C3,f3,f4,f5⟩:=fC
 show wpAny _ X.A (assign (.Name x px) X.env (.ref B)) _ _ s'
 refine wpAny_assign_Name (W5 (v:=.ref B) (u:=.ref B) IX hN qq hx rfl (fun eG VG ⟨c,sb,jr⟩=> ?_) gm)
 have NV:C≠c:=by
  rcases jr with z |z
  ·rw[z];exact f1
  ·exact(f4 x c z).symm
 refine⟨m,Heap.Ns.sameBut hn sb NV,fun h' HU=> ?_⟩
 refine⟨σ.set i (some (.ref B)),_,VG.turned (t':=eG.toks) (it:=C) (fun b o hb e=> (HU.2 b hb).trans e) f0 f1 f3 f4 f5,q B n⟩
end
section
variable {X:Cx}
theorem Zv {c:String} :fc X (.builtin "isinstance") (fun xs H Q=> ∃x t b,xs=[x,.ty c]/\eX X.K H x t/\PySem.W.kitOne X.K t (.type c)=some b/\Q (.bl b) H):=by
 intro pins s σ H xs us Q I r h
 obtain⟨x,t,b,rfl,ty,e,q⟩:=h
 obtain⟨u,v,rfl,ru,rv⟩:=vals2 r
 cases rv
 exact Th I ru ty e fun tk=> ⟨.bl b,H,I.tok tk,rfl,q⟩
theorem Yo (hc:X.calm=true:=by rfl):fc X (.builtin "all") (fun xs H Q=> ∃(p:Addr) (bs:List Bool),xs=[.ref p]/\ai X.K H p (bs.map V.bl)/\Q (.bl (bs.all id)) H):=by
 intro pins s σ H xs us Q I r h
 obtain⟨p,bs,rfl,hp,q⟩:=h
 obtain⟨u,rfl,ru⟩:=ZeN r
 cases ru
 obtain⟨aa,rv,pl,hz⟩:=I.list hp
 have hb:∀(i:Nat) (v:Value),aa.toArray[i]? =some v->v=.bool (bs.getD i false):=fun i v e=>by
  have e':aa[i]? =some v:=by simpa using e
  have hl:=rv.length
  have hi:i<aa.length:=(X8.mp e').1
  have aX:i< (bs.map V.bl).length:=.o
  obtain⟨u,hu,ru⟩:=rv.get (i:=i) (x:=(bs.map V.bl)[i]) (by simp)
  rw[e']at hu
  cases hu
  rw[List.getElem_map]at ru
  have M3:i<bs.length:=by simpa using aX
  have e2:bs.getD i false=bs[i]:=by simp[ZaM,M3]
  rw[e2]
  exact ru
 refine call_all_walk (Zcl pl.isList ?_)
 have aW:p≠s.heap.objs.size:=Zan (by obtain⟨o,n,e,_⟩:=pl;exact Zad e)
 refine⟨s.heap.objs.size,_,_,_,_,_,fun i=>bs.getD i false,rfl,ZdN (A:=X.A.in1) (show X.A.in1.handled=none from I.ok.hd hc) s.heap.objs.size p aW aa.toArray,⟨⟨_,Zaf _ rfl,rfl,rfl⟩,pl.isList.at fun o e=>X7 _ e⟩,fun i v s' Q' E' hP hQ=> ?_,fun h' tk hk=> ?_⟩
 ·rw[hb i v hP]
  exact ZbG hQ
 ·have e:(List.range aa.toArray.size).all (fun i=>bs.getD i false)=bs.all id:=by
   have hl:aa.toArray.size=bs.length:=by have:=rv.length;rw[Zac]at this;simpa using this.symm
   rw[hl,Zb6,ZaF,ZaF]
   constructor
   ·intro h b hb
    obtain⟨i,hi,e⟩:=List.mem_iff_getElem.mp hb
    have:=h i (ZaU.mpr hi)
    rw[ZaM,Zai hi,Zcv,e]at this
    exact this
   ·intro h i hi
    have aX:=ZaU.mp hi
    rw[ZaM,Zai aX,Zcv]
    exact h _ (Zcx aX)
  rw[e]
  refine⟨.bl (bs.all id),H,I.kept fun b o eb=>hk b o ?_ (X7 _ eb),rfl,q⟩
  intro z
  have e1:b=s.heap.objs.size:=by simpa using z
  exact absurd (Zad eb) (by rw[e1];exact Zba _)
def nG (ns:List Int):Nat:=(PyProof.Rows.firstMet (fun i=>ns.getD i 0) ns.length).length
theorem WX (hc:X.calm=true:=by rfl):fc X (.type "set") (fun xs H Q=> ∃(p:Addr) (ns:List Int),xs=[.ref p]/\ai X.K H p (ns.map V.int)/\ns.length<=1000/\∀q S,H q=none->Q (.ref q) (upd H q (.set S (nG ns)))):=by
 intro pins s σ H xs us Q I r h
 obtain⟨p,ns,rfl,hp,hn,q⟩:=h
 obtain⟨u,rfl,ru⟩:=ZeN r
 cases ru
 obtain⟨aa,rv,pl,hz⟩:=I.list hp
 have hl:=rv.length
 rw[Zac]at hl
 refine call_set_list (I.ok.hd hc) pl.isList (ZP rv) (by rw[Zae,<-hl];unfold scanBound;omega) fun h' tk hs hk=> ?_
 have e:aa.toArray.size=ns.length:=by simp[hl]
 rw[e]at hs
 exact⟨.ref s.heap.objs.size,_,I.laid (a:=s.heap.objs.size) (o:=.set _ (nG ns)) (fun b o eb=>hk b o (Zad eb) eb) (Zal _) hs,rfl,q _ _ I.fresh⟩
theorem WY:fc X (.builtin "len") (fun xs H Q=> ∃p S n,xs=[.ref p]/\H p=some (.set S n)/\Q (.int n) H):=by
 intro pins s σ H xs us Q I r h
 obtain⟨p,S,n,rfl,hp,q⟩:=h
 obtain⟨u,rfl,ru⟩:=ZeN r
 cases ru
 obtain⟨o,es,ep,t,h1,h2,h3,h4,h5,h6,h7,h8⟩:=(show bt X.prog X.w H s.heap p (.set S n) from I.ak p _ hp)
 refine call_len_set h1 h2 h3 h7 (by have:scanBound=4096:=rfl;omega) ⟨.int n,H,I.tok _,⟨_,by rw[h8]⟩,q⟩
theorem Fm:bo X (binaryOp .Add) (fun x y H Q=> ∃a b ys,x=.ref a/\y=.ref b/\ag X.K H a []/\ag X.K H b ys/\Q (.ref b) H):=by
 intro pins s σ H x y u v Q I rx ry h
 obtain⟨a,b,ys,rfl,rfl,ha,hb,q⟩:=h
 cases rx
 cases ry
 obtain⟨aa,rv,pl,hz⟩:=I.tuple ha
 obtain⟨jj,iD,eI,eQ⟩:=I.tuple hb
 cases rv
 obtain⟨⟨cls,dd,data,sl⟩,ho,cM,n,hd⟩:=id pl
 obtain⟨⟨zq,hJ,data2,eF⟩,fj,gq,n2,hd2⟩:=id eI
 simp only at cM hd gq hd2
 subst cM hd gq hd2
 exact concat_meets ⟨_,ho,rfl⟩ ⟨_,fj,rfl⟩ PySem.noFill_tuple_add PySem.seq_tuple_add PySem.F.slot_tuple_add PySem.F.entry_tuple_add (PySem.F.args_tuple_add_2 _ _)
   (tuple_addW0 a b #[] jj.toArray n n2 dd hJ sl eF rfl) ⟨ho,fj,⟨.ref b,H,I,rfl,q⟩⟩
end
theorem YK {K:Zgc}{a:Addr}{xs:List V}{g:TG}{tt:TT}{ti:TC}{ys:List V}{σ:St}{H:Hp}{Q:List V->St->Hp->Prop}(Pv:Nat->List V->St->Hp->Prop) (h0:Pv 0 ys σ H)
  (hl:∀i ys σ H,i<=xs.length->Pv i ys σ H->ag K H a xs)
  (hs:∀i x ys σ H,xs[i]? =some x->Pv i ys σ H->g x σ H fun bc H2=>tt bc H2 fun b H3=>if b=true then ti ys bc H3 (Pv (i+1)) else Pv (i+1) ys bc H3)
  (hd:∀ys σ H,Pv xs.length ys σ H->Q ys σ H):fT g tt ti (zY K a) ys σ H Q:=by
 refine⟨fun i m ys σ H=>m=xs.length - i/\i<=xs.length/\Pv i ys σ H,⟨xs.length,by simp,Zaz _,h0⟩,?_⟩
 rintro i m ys σ H ⟨rfl,hi,p⟩
 have q:=hl i ys σ H hi p
 by_cases ar:i<xs.length
 ·refine .inr ⟨⟨xs,xs[i],q,by simp[ar]⟩,Pv (i+1),fun aV aj H' p'=> ⟨xs.length - (i+1),.o,rfl,ar,p'⟩,fun x H' y=> ?_⟩
  obtain⟨e,y⟩:=y
  subst e
  exact hs i x ys σ _ (y xs q) p
 ·have e:i=xs.length:=.o
  subst e
  exact .inl ⟨⟨xs,q,Zal _⟩,hd ys σ H p⟩
theorem ZG {K:Zgc}{a:Addr}{xs:List V}{g:TG}{tt:TT}{ti:TC}{ys:List V}{σ:St}{H:Hp}{Q:List V->St->Hp->Prop}(Pv:Nat->List V->St->Hp->Prop) (h0:Pv 0 ys σ H)
  (hl:∀i ys σ H,i<=xs.length->Pv i ys σ H->ai K H a xs)
  (hs:∀i x ys σ H,xs[i]? =some x->Pv i ys σ H->g x σ H fun bc H2=>tt bc H2 fun b H3=>if b=true then ti ys bc H3 (Pv (i+1)) else Pv (i+1) ys bc H3)
  (hd:∀ys σ H,Pv xs.length ys σ H->Q ys σ H):fT g tt ti (oU K a) ys σ H Q:=by
 refine⟨fun i m ys σ H=>m=xs.length - i/\i<=xs.length/\Pv i ys σ H,⟨xs.length,by simp,Zaz _,h0⟩,?_⟩
 rintro i m ys σ H ⟨rfl,hi,p⟩
 have q:=hl i ys σ H hi p
 by_cases ar:i<xs.length
 ·refine .inr ⟨⟨xs,xs[i],q,by simp[ar]⟩,Pv (i+1),fun aV aj H' p'=> ⟨xs.length - (i+1),.o,rfl,ar,p'⟩,fun x H' y=> ?_⟩
  obtain⟨e,y⟩:=y
  subst e
  exact hs i x ys σ _ (y xs q) p
 ·have e:i=xs.length:=.o
  subst e
  exact .inl ⟨⟨xs,q,Zal _⟩,hd ys σ H p⟩
theorem YD {lo:Int}{n:Nat}{g:TG}{tt:TT}{ti:TC}{ys:List V}{σ:St}{H:Hp}{Q:List V->St->Hp->Prop}(Pv:Nat->List V->St->Hp->Prop) (h0:Pv 0 ys σ H)
  (hs:∀i ys σ H,i<n->Pv i ys σ H->g (.int (lo+i)) σ H fun bc H2=>tt bc H2 fun b H3=>if b=true then ti ys bc H3 (Pv (i+1)) else Pv (i+1) ys bc H3)
  (hd:∀ys σ H,Pv n ys σ H->Q ys σ H):fT g tt ti (lF lo n) ys σ H Q:=by
 refine⟨fun i m ys σ H=>m=n - i/\i<=n/\Pv i ys σ H,⟨n,by simp,Zaz _,h0⟩,?_⟩
 rintro i m ys σ H ⟨rfl,hi,p⟩
 by_cases ar:i<n
 ·refine .inr ⟨ar,Pv (i+1),fun aV aj H' p'=> ⟨n - (i+1),.o,rfl,ar,p'⟩,fun x H' y=> ?_⟩
  obtain⟨e,y⟩:=y
  subst e y
  exact hs i ys σ _ ar p
 ·have e:i=n:=.o
  subst e
  exact .inl ⟨Zal _,hd ys σ H p⟩
theorem pb {X:Cx}{N':List Str}{scope:Scope}{C:Addr}{s:Shared}{H:Hp}{fp:List Addr}(i:Nat) {x:Str}{pos:Pos}(hN:N'.Nodup:=by decide+kernel) (hi:N'[i]? =some x:=by rfl) (hx:(relabel scope X.env).names.lookup x=some .local:=by rfl):
  PG (aG X N' scope C s H fp) (.Name x pos) (bF i):=Zp (X:=aG X N' scope C s H fp) hN hi (.inl hx) (.inr hx)
def Def (P:Program) (w:World) (K:Zgc) (mg:Str->Option Value) (base:Heap) (k:Nat) (x:Str) (ps:List Str) (sp:Sp):Prop:=
 ∃f fd,aA P w K mg base az k f fd ps sp/\mg x=some (.ref f)/\PySem.W.keepIn K (.ref f)=true/\Binds K fd ps []
section
variable {X:Cx}{k:Nat}{x:Str}{ps:List Str}{sp:Sp}{e:Expr}{es:List Expr}{t:TA}{p pos:Pos}
theorem Zf (d:Def X.prog X.w X.K X.mg X.base k x ps sp) (hr:bj k X.A) (ha:PA X (e::es) t) (hg:Gl X x:=by rfl) (dI:(x==("__debug__" :Str))=false:=by decide)
  (he:starEach (e::es) X.env=(false,eval e X.env)::starEach es X.env:=by rfl) (dm:(backTo pos (starEach es X.env)).any (·.1)=false:=by rfl):
  PE X (.Call (.Name x p) (e::es) [] pos) (nC sp [] E0 t):=by
 obtain⟨f,fd,F,hm,hk,hb⟩:=d
 exact EJ F hr hg hm hk hb .nil xc ha dI he dm
end
def eA (K:Zgc) (H:Hp) (x:V):Prop:=∃T,eX K H x (.type T)
def whole:V->Bool
 | .int _=>true
 |_=>false
def bH:V->Int->Int->Bool
 | .int i,a,b=>decide (a<=i)&&decide (i<=b)
 |_,_,_=>false
def uP:Option HO->Option (List V)
 |some (.tup xs)=>some xs
 |_=>none
def cT (H:Hp):V->Option (List V)
 | .ref a=>uP (H a)
 |_=>none
theorem Ya {H:Hp}{a:Addr} :cT H (.ref a)=uP (H a):=rfl
theorem ZJ {H:Hp}{a:Addr}{xs:List V}(h:H a=some (.tup xs)):cT H (.ref a)=some xs:=by rw[Ya,h];rfl
theorem SM {o:Option HO}{xs:List V}(h:uP o=some xs):o=some (.tup xs):=by
 cases o with
 |none=>cases h
 |some o=>cases o<;>first |(cases h;rfl) |cases h
theorem Zq {H:Hp}{x:V}{xs:List V}(h:cT H x=some xs):∃a,x=.ref a/\H a=some (.tup xs):=by
 cases x with
 |ref a=>exact⟨a,rfl,SM h⟩
 |_=>cases h
theorem af.cT {H H':Hp}(s:af H H') {x:V}{xs:List V}(h:L2.cT H x=some xs):L2.cT H' x=some xs:=by
 obtain⟨a,rfl,q⟩:=Zq h
 exact ZJ (s _ _ q)
theorem af.xb {K:Zgc}{H H':Hp}(s:af H H') {x:V}(h:eA K H x):eA K H' x:=by
 obtain⟨T,t⟩:=h
 cases t with
 |ah=>exact⟨_,.ah⟩
 |bl y=>exact⟨_,.bl y⟩
 |int i=>exact⟨_,.int i⟩
 |str y=>exact⟨_,.str y⟩
 |iU y=>exact⟨_,.iU y⟩
 |lst e=>exact⟨_,.lst (s _ _ e)⟩
 |cD e=>exact⟨_,.cD (s _ _ e)⟩
 |tup e=>exact⟨_,.tup (s _ _ e)⟩
 |dK e=>exact⟨_,.dK (s _ _ e)⟩
 |dT e=>exact⟨_,.dT (s _ _ e)⟩
def xC:V->Bool
 | .int _=>true
 | .bl _=>true
 |_=>false
def BJ:V->Bool
 | .bl _=>true
 |_=>false
theorem Rg {K:Zgc}{H:Hp}{x:V}{T:String}(t:eX K H x (.type T)):PySem.W.kitOne K (.type T) (.type "int")=some (xC x):=by cases t<;>rfl
theorem RT {K:Zgc}{H:Hp}{x:V}{T:String}(t:eX K H x (.type T)):PySem.W.kitOne K (.type T) (.type "bool")=some (BJ x):=by cases t<;>rfl
theorem To {K:Zgc}{H:Hp}{x:V}{T:String}(t:eX K H x (.type T)):PySem.W.kitOne K (.type T) (.type "tuple")=some (cT H x).isSome:=by
 cases t with
 |tup e=>rw[ZJ e];rfl
 |lst e=>rw[Ya,e];rfl
 |cD e=>rw[Ya,e];rfl
 |dK e=>rw[Ya,e];rfl
 |dT e=>rw[Ya,e];rfl
 |_=>rfl
theorem Vo (x:V):whole x=(xC x&& !BJ x):=by cases x<;>rfl
def bZ (p:Addr) (H H':Hp):Prop:=∀b o,H b=some o->b≠p->H' b=some o
theorem bZ.refl (p:Addr) (H:Hp):bZ p H H:=fun _ _ h _=>h
theorem bZ.trans {p:Addr}{H H1 H2:Hp}(a:bZ p H H1) (b:bZ p H1 H2):bZ p H H2:=fun c o h n=>b c o (a c o h n) n
theorem af.x {p:Addr}{H H1:Hp}(a:af H H1):bZ p H H1:=fun c o h _=>a c o h
theorem bZ.upd {p:Addr}{H:Hp}{o:HO} :bZ p H (L2.upd H p o):=fun b u h n=>by rw[Zi n];exact h
theorem newX (H:Hp) (p:Addr) (o:HO):∃H',upd H p o=H'/\bZ p H H':=⟨_,rfl,bZ.upd⟩
theorem aR {H:Hp}{t:Addr}{o:HO}(h:H t=none):∃H',upd H t o=H'/\af H H'/\H' t=some o:=⟨_,rfl,fun b u hb=>by rw[Zi (Ze hb h)];exact hb,Zc⟩
section
variable {X:Cx}{pins:List (Addr×Obj)}{σ:St}{H:Hp}{s:Shared}{fp:List Addr}{h':Heap}{tk:Nat}
theorem J8 (hf:∀b∈fp,aH X pins H b) (b:Addr) (o:HO) (q:H b=some o):b∉fp:=fun hm=>by
 rw[(hf b hm).1]at q;cases q
theorem Wd (I:Inv X pins σ H s) (hf:∀b∈fp,aH X pins H b) (hk:∀b o,b∉fp->s.heap.get? b=some o->h'.get? b=some o):Inv X pins σ H {s with heap:=h',toks:=tk} :=by
 refine I.call (g':=s.gens) (d':=s.drawn) (t':=tk) (h':=h') (ch:=fp) ⟨fun b o q _ _ hx=>hk b o hx q,fun b o q _ _ hx=> ⟨o.slots,hk b o hx q⟩,fun b o q n hx=>n,fun b o q hx=> ⟨o,hk b o hx q⟩,fun b ys q=>q,fun b o u q=>q,fun b ps q=> ⟨#[],by rw[q];simp⟩⟩ (fun b o q=> ?_) I.bare fun b hb=> ?_
 ·refine(I.ak b o q).cg (fun c ob bC q'=>hk c ob ?_ q') (fun _ q'=>q') fun _ _ q'=>q'
  rcases bC with z' |z'
  ·rw[z'];exact J8 hf b o q
  ·exact J8 hf c _ z'
 ·obtain⟨f0,f1,f2,f3,f4,f5⟩:=hf b hb
  exact⟨f3,f1,f4,f5⟩
theorem Jm {T:Addr}{x y:V}{u v:Value}(I:Inv X pins σ H s) (hf:∀b∈fp,aH X pins H b) (hk:∀b o,b∉fp->s.heap.get? b=some o->h'.get? b=some o) (cP:s.heap.objs.size<=T) (qz:h'.IsTuple T #[u,v]) (ru:RelV x u) (rv:RelV y v):
  Inv X pins σ (upd H T (.par [x,y])) {s with heap:=h',toks:=tk} :=by
 have NK:H T=none:=I.ak.fresh cP
 have neT:∀b o,s.heap.get? b=some o->b≠T:=fun b o q=>Zan (Zar (Zad q) cP)
 have pO:∀b o,H b=some o->b≠T:=fun b o q=>Ze q NK
 refine I.call (g':=s.gens) (d':=s.drawn) (t':=tk) (h':=h') (ch:=fp) ⟨fun b o q _ _ hx=>hk b o hx q,fun b o q _ _ hx=> ⟨o.slots,hk b o hx q⟩,fun b o q n hx=>by rw[Zi (neT b o q)];exact n,fun b o q hx=> ⟨o,hk b o hx q⟩,
  fun b ys q=>by rw[Zi (pO b _ q)];exact q,fun b o u q=>by rw[Zi (pO b _ q)];exact q,fun b ps q=> ⟨#[],by rw[Zi (pO b _ q),q];simp⟩⟩ (fun b o q=> ?_) I.bare fun b hb=> ?_
 ·by_cases hb:b=T
  ·subst hb
   rw[Zc]at q
   cases q
   exact⟨bf,[u,v],.cons ru (.cons rv .nil),qz⟩
  ·rw[Zi hb]at q
   refine(I.ak b o q).cg (fun c ob bC q'=>hk c ob ?_ q') (fun c q'=>by rw[Zi (pO c _ q')];exact q') fun c ys q'=>by rw[Zi (pO c _ q')];exact q'
   rcases bC with z' |z'
   ·rw[z'];exact J8 hf b o q
   ·exact J8 hf c _ z'
 ·obtain⟨f0,f1,f2,f3,f4,f5⟩:=hf b hb
  exact⟨f3,f1,f4,f5⟩
end
section
variable {prog:Program}{w:World}{A:Around}{E:Value->Shared->Prop}{s:Shared}
theorem TN {j t:Addr}{i:Nat}{aa:Array Value}{x:Value}{Q:Value->Shared->Prop}(h1:s.heap.IsTupleIter j t i) (h2:s.heap.IsTuple t aa) (hx:aa[i]? =some x)
  (k:∀h',h'.IsTupleIter j t (i+1)->Heap.SameBut j s.heap h'->Q x {s with heap:=h'}):wpAny (model prog w) A (Builtin.SmallTypes.nextOf (.ref j)) Q E s:=by
 obtain⟨o,eo,co,dO⟩:=id h1
 obtain⟨ot,et,_,nt,dt⟩:=h2
 unfold Builtin.SmallTypes.nextOf
 refine eg (Za8 (name:=Str.ofString "__next__") h1.typeIs Zct (ZaY Zct h1.typeIs PySem.F.entry_tuple_iterator_next ?_ (PySem.F.args_tuple_iterator_next_1 _)))
 show wpAny _ _ (field (.ref j) 0 >>=_) _ _ s
 refine eg (ZbA eo dO (x:=.ref t) rfl ?_)
 show wpAny _ _ (if (Value.ref t==Value.none)=true then _ else _) _ _ s
 rw[Zav (show ¬((Value.ref t==Value.none)=true) from Zag)]
 show wpAny _ _ (field (.ref j) 1 >>=_) _ _ s
 refine eg (ZbA eo dO (x:=.int i 0) rfl ?_)
 show wpAny _ _ (seqItems? (.ref t) >>=_) _ _ s
 refine eg (ZaS et dt ?_)
 simp only[Za7,hx]
 refine eg (Zcj eo dO (by simp) (X6 ⟨x,rfl,X6 (k _ ⟨_,Zbq _ eo (ZcB (ZbB dO _)),(PySem.Obj.cls_mapFields ..).trans co,?_⟩ (ZaT ..))⟩))
 rw[ZbB dO]
 simp[rawInt]
theorem Sr {j t:Addr}{i:Nat}{aa:Array Value}{Q:Value->Shared->Prop}(hh:A.handled=none) (h1:s.heap.IsTupleIter j t i) (h2:s.heap.IsTuple t aa) (hx:aa[i]? =none)
  (k:∀h' e,Heap.ExtBut j s.heap h'->(∃o,h'.get? e=some o/\o.cls=.type "StopIteration")->E (.ref e) {s with heap:=h'}):wpAny (model prog w) A (Builtin.SmallTypes.nextOf (.ref j)) Q E s:=by
 obtain⟨o,eo,co,dO⟩:=id h1
 obtain⟨ot,et,_,nt,dt⟩:=h2
 unfold Builtin.SmallTypes.nextOf
 refine eg (Za8 (name:=Str.ofString "__next__") h1.typeIs Zct (ZaY Zct h1.typeIs PySem.F.entry_tuple_iterator_next ?_ (PySem.F.args_tuple_iterator_next_1 _)))
 show wpAny _ _ (field (.ref j) 0 >>=_) _ _ s
 refine eg (ZbA eo dO (x:=.ref t) rfl ?_)
 show wpAny _ _ (if (Value.ref t==Value.none)=true then _ else _) _ _ s
 rw[Zav (show ¬((Value.ref t==Value.none)=true) from Zag)]
 show wpAny _ _ (field (.ref j) 1 >>=_) _ _ s
 refine eg (ZbA eo dO (x:=.int i 0) rfl ?_)
 show wpAny _ _ (seqItems? (.ref t) >>=_) _ _ s
 refine eg (ZaS et dt ?_)
 simp only[Za7,hx]
 refine eg (Zck (eg (Zcj eo dO (by simp) ?_)))
 show wpAny _ _ (newExc (.type "StopIteration") [] >>=_) _ _ _
 refine eg ?_
 simp only[newExc,newTuple]
 refine eg (ZaX ?_ (by size_fits))
 refine eg (m:=firstArgMember _ _) (Zdm (a:=Value.none) (by first |rfl |(simp only[firstArgMember];rfl)) (ZaX ?_ (by size_fits)))
 simp only[raiseNew]
 refine eg (PySem.wpAny_handled ?_)
 first |rw[show A.in1.handled=none from hh] |rw[hh]
 exact eg (X6 (PySem.wpAny_throw (k _ _ (((ZaT ..).extBut.push _).push _) ⟨_,Zaf _ rfl,rfl⟩)))
end
theorem Dl {prog:Program}{w:World}{A:Around}(hh:A.handled=none) (j t:Addr) (aW:t≠j) (aa:Array Value):
  Draws prog w A j [j,t] aa.size (fun i v=>aa[i]? =some v) (fun i h=>h.IsTupleIter j t i/\h.IsTuple t aa) where
 live:=fun _ _ st=>let ⟨o,ho,_⟩:=st.1;⟨o,ho⟩
 frame:=fun _ _ _ st hk=> ⟨st.1.at fun o e=>hk j (by simp) o e,st.2.at fun o e=>hk t (by simp) o e⟩
 item:=fun i s Q E hi st hQ=>TN st.1 st.2 (x:=aa[i]) (by simp[hi]) fun h' a b=>hQ _ h' s.toks (by simp[hi]) ⟨a,st.2.extBut b.extBut aW⟩ b
 done:=fun s Q E st hE=>Sr hh st.1 st.2 (by simp) hE
section
variable {prog:Program}{w:World}{A:Around}{E:Value->Shared->Prop}{s:Shared}
theorem S5 (l:Addr) (aa:Array Value) (n:Nat) (qP:Option Addr) (sl:Array (Option Value)):
  Meets (Builtin.«enumerate.__new__» ⟨[.type "enumerate",.ref l],[]⟩) (fun _ R s=>s.heap.get? l=some {cls:=.type "tuple",dict:=qP,data:=.seq aa n,slots:=sl}/\
   R (.ok (.ret (.ref (s.heap.push {cls:=.type "tuple_iterator",data:=.fields #[.ref l,.int 0 0]}).objs.size)))
    {s with heap:=(s.heap.push {cls:=.type "tuple_iterator",data:=.fields #[.ref l,.int 0 0]}).push {cls:=.type "enumerate",data:=.fields #[.none,.bool false,.ref s.heap.objs.size,rawInt 0,.none,.none]} }):=
 .of_wp fun prog w A R s h=>by
  obtain⟨hp,g,d,tk,os⟩:=s
  obtain⟨hl,h⟩:=h
  have iJ:=sub_enumerate
  have hL:Heap.IsTuple (Shared.heap ⟨hp,g,d,tk,os⟩) l aa:=⟨_,hl,rfl,n,rfl⟩
  wp_walk using AutoSeq1.wpAny_loadPart' hl
  refine wpAny_stack_any fun st=>X6 ?_
  split
  ·rename_i c _ _ _ _ _
   cases (c==Value.type "enumerate")<;> (wp_walk using AutoSeq1.wpAny_loadPart' hl,PySem.wpAny_pyIter_tuple hL;exact⟨_,rfl,h⟩)
  ·wp_walk using AutoSeq1.wpAny_loadPart' hl,PySem.wpAny_pyIter_tuple hL
   exact⟨_,rfl,h⟩
theorem Tx {l:Addr}{aa:Array Value}{Q:Value->Shared->Prop}(hL:s.heap.IsTuple l aa)
  (h:∀h',IsEnum h' (s.heap.objs.size+1) s.heap.objs.size 0 .none->h'.IsTupleIter s.heap.objs.size l 0->(∀b o,s.heap.get? b=some o->h'.get? b=some o)->Q (.ref (s.heap.objs.size+1)) {s with heap:=h'}):
  wpAny (model prog w) A (call (.type "enumerate") [.ref l]) Q E s:=by
 obtain⟨⟨c,qP,dt,sl⟩,hl,hc,n,hd⟩:=hL
 replace hc:c=.type "tuple" :=hc
 replace hd:dt=.seq aa n:=hd
 subst hc hd
 refine callType_new F.called_enumerate .d (F.typeCall_enumerate_1 _) (F.newCall_enumerate_1 _) (fun obj=>F.args_object_init_2 obj _) F.entry_enumerate_new (S5 l aa n qP sl) ⟨hl,?_⟩
 have hz:(s.heap.push {cls:=.type "tuple_iterator",data:=.fields #[.ref l,.int 0 0]}).objs.size=s.heap.objs.size+1:=Zbh ..
 show _/\_
 rw[hz]
 have he:IsEnum ((s.heap.push {cls:=.type "tuple_iterator",data:=.fields #[.ref l,.int 0 0]}).push {cls:=.type "enumerate",data:=.fields #[.none,.bool false,.ref s.heap.objs.size,rawInt 0,.none,.none]}) (s.heap.objs.size+1) s.heap.objs.size 0 .none:=by
  have q:=Zaf (s.heap.push {cls:=.type "tuple_iterator",data:=.fields #[.ref l,.int 0 0]}) (o:= {cls:=.type "enumerate",data:=.fields #[.none,.bool false,.ref s.heap.objs.size,rawInt 0,.none,.none]}) rfl
  rw[hz]at q
  exact q
 exact⟨⟨_,he,rfl⟩,h _ he ⟨_,X7 _ (Zaf _ rfl),rfl,rfl⟩ fun b o x=>X7 _ (X7 _ x)⟩
end
def zZ (K:Zgc) (t:Addr):It:=
 ⟨fun i H=> ∃xs x,ag K H t xs/\xs[i]? =some x,fun i H x H'=> ∃(T:Addr) (y:V),x=.ref T/\H T=none/\H'=upd H T (.par [.int (i:Int),y])/\∀xs,ag K H t xs->xs[i]? =some y,fun i H=> ∃xs,ag K H t xs/\xs.length=i⟩
theorem SN {P:Program}{w:World}{K:Zgc}{elts:List Expr}{kk:Nat}{pos:Pos}(t e j:Addr) (j6:e≠j) (qc:t≠e) (qb:t≠j):
  Turn P w K (.Tuple elts kk pos) (zZ K t) [e,j] e (fun i h=> (∃old,IsEnum h e j i old)/\h.IsTupleIter j t i) where
 mem:=by simp
 obj:=fun i h st b hb=>by
  obtain⟨⟨old,he⟩,o,ho,hc,hd⟩:=st
  rcases Zaj.mp hb with rfl |hb
  ·exact⟨_,he,fun v z=>by cases z⟩
  ·rw[Zao.mp hb]
   exact⟨o,ho,fun v z=>by rw[hd]at z;cases z⟩
 keep:=fun i h h' st k=> ⟨let ⟨old,he⟩:=st.1;⟨old,k e (by simp) _ he⟩,st.2.at fun o q=>k j (by simp) o q⟩
 item:=by
  intro X hP hw hK hc i pins s σ H E I hf st hg
  subst hP hw hK
  obtain⟨xs,x,hq,hx⟩:=hg
  obtain⟨aa,rv,p,hz⟩:=I.tuple hq
  obtain⟨u,hu,ru⟩:=rv.get hx
  have hl:=rv.length
  have mz:i<aa.toArray.size:=by
   have:=(X8.mp hu).1
   simpa using this
  have W:=ZdO (prog:=X.prog) (w:=X.w) (A:=X.A) (Dl (A:=X.A.in1) (show X.A.in1.handled=none from I.ok.hd hc) j t qb aa.toArray) e j6 (by simp[j6,qc.symm]) (by simp)
  have hT:s.heap.IsTuple t aa.toArray:=p
  refine W.item i s _ _ mz ⟨st.1,st.2,hT⟩ fun T vals h' tk hP cP mF iN hk=> ⟨_,rfl,W.go elts kk pos i T _ _ _ iN fun eU cH bO=> ?_⟩
  obtain⟨rJ,x2,iH,rfl⟩:=hP
  have kX:aa[i]? =some x2:=by simpa using iH
  rw[hu]at kX
  cases kX
  have qy:T∉[e,j]:=W.apart _ _ _ iN
  refine⟨.ref T,upd H T (.par [.int (i:Int),x]),Jm (s:=s) (h':=eU) (tk:=tk) I hf (fun b o hb q=>bO b o hb (hk b o hb q)) cP (mF.at fun o q=>bO T o qy q) ⟨rJ,rfl⟩ ru,rfl,⟨T,x,rfl,I.ak.fresh cP,rfl,fun ys hy=>by rw[I.o8 hy hq];exact hx⟩,⟨cH.1,cH.2.1⟩,fun b hb=> ?_⟩
  rw[Zi (fun z=>qy (by rw[<-z];exact hb))]
  exact(hf b hb).1
 done:=by
  intro X hP hw hK hc i pins s σ H E I hf st hg
  subst hP hw hK
  obtain⟨xs,hq,hx⟩:=hg
  obtain⟨aa,rv,p,hz⟩:=I.tuple hq
  have hl:=rv.length
  have W:=ZdO (prog:=X.prog) (w:=X.w) (A:=X.A) (Dl (A:=X.A.in1) (show X.A.in1.handled=none from I.ok.hd hc) j t qb aa.toArray) e j6 (by simp[j6,qc.symm]) (by simp)
  have hn:i=aa.toArray.size:=by rw[Zae];omega
  have hT:s.heap.IsTuple t aa.toArray:=p
  rw[hn]at st
  exact W.done s _ _ ⟨st.1,st.2,hT⟩ fun h' tk hk=> ⟨rfl,Wd (s:=s) (h':=h') (tk:=tk) I hf hk⟩
 self:=fun A i s Q E st h=>let ⟨old,he⟩:=st.1;ZdP he h
section
variable {X:Cx}{elts:List Expr}{kk:Nat}{tp:Pos}
def LP (K:Zgc) (ta:TA):TI:=fun σ H R=>ta σ H fun vs H1=> ∃t,vs=[.ref t]/\(∃xs,ag K H1 t xs)/\R (zZ K t) H1
theorem UJ {a:Expr}{ta:TA}{p pos:Pos}(hg:Gl X "enumerate") (hm:X.mg "enumerate" =none) (ha:PA X [a] ta) (hs:starEach [a] X.env=[(false,eval a X.env)]:=by rfl):PI X (.Tuple elts kk tp) (.Call (.Name "enumerate" p) [a] [] pos) (LP X.K ta):=by
 intro pins s σ H R I h
 refine Call_ (ZU I hg hm boot_enumerate (Za1 (au (ha pos pins s σ H _ I h) fun us s1 ⟨vs,H1,I1,r1,q1⟩=> ?_) hs rfl))
 obtain⟨t,e,⟨xs,hq⟩,q⟩:=q1
 subst e
 obtain⟨u,rfl,ru⟩:=ZeN r1
 cases ru
 obtain⟨aa,rv,pl,hz⟩:=I1.tuple hq
 have hT:s1.heap.IsTuple t aa.toArray:=pl
 have ht:t<s1.heap.objs.size:=by obtain⟨o,ho,_⟩:=hT;exact Zad ho
 refine Tx hT fun h' he hj hk=>ZdP he ?_
 have I2:Inv X pins σ H1 {s1 with heap:=h'} :=I1.kept (t':=s1.toks) hk
 refine⟨s1.heap.objs.size+1,[s1.heap.objs.size+1,s1.heap.objs.size],_,_,H1,rfl,I2,SN t _ _ (Nat.succ_ne_self _) (Zan (Zbl ht)) (Zan ht),⟨⟨_,he⟩,hj⟩,fun b hb=> ?_,q⟩
 have iR:s1.heap.objs.size<=b:=by
  rcases Zaj.mp hb with z |z
  ·rw[z];exact Nat.le_succ _
  ·rw[Zao.mp z];exact Zal _
 exact I1.jB iR (I1.ak.fresh iR)
end
theorem JC {K:Zgc}{a:Addr}{xs:List V}{g:TG}{tt:TT}{ti:TC}{ys:List V}{σ:St}{H:Hp}{Q:List V->St->Hp->Prop}(Pv:Nat->List V->St->Hp->Prop) (h0:Pv 0 ys σ H)
  (hl:∀i ys σ H,i<=xs.length->Pv i ys σ H->ag K H a xs)
  (hs:∀i x T ys σ H,xs[i]? =some x->H T=none->Pv i ys σ H->g (.ref T) σ (upd H T (.par [.int (i:Int),x])) fun bc H2=>tt bc H2 fun b H3=>if b=true then ti ys bc H3 (Pv (i+1)) else Pv (i+1) ys bc H3)
  (hd:∀ys σ H,Pv xs.length ys σ H->Q ys σ H):fT g tt ti (zZ K a) ys σ H Q:=by
 refine⟨fun i m ys σ H=>m=xs.length - i/\i<=xs.length/\Pv i ys σ H,⟨xs.length,by simp,Zaz _,h0⟩,?_⟩
 rintro i m ys σ H ⟨rfl,hi,p⟩
 have q:=hl i ys σ H hi p
 by_cases ar:i<xs.length
 ·refine .inr ⟨⟨xs,xs[i],q,by simp[ar]⟩,Pv (i+1),fun aV aj H' p'=> ⟨xs.length - (i+1),.o,rfl,ar,p'⟩,fun x H' y=> ?_⟩
  obtain⟨T,z,e1,e2,e3,e4⟩:=y
  subst e1 e3
  exact hs i z T ys σ H (e4 xs q) e2 p
 ·have e:i=xs.length:=.o
  subst e
  exact .inl ⟨⟨xs,q,rfl⟩,hd ys σ H p⟩
structure Fl (P:Program) (w:World) (outer:List Env) (H:Hp) (s:Shared) (e C:Addr) (H':Hp) (s':Shared):Prop where
 os:s'.os=s.os
 bare:AllBare s'.gens
 un:Un (aY outer) [] H H' s.heap s'.heap
 ak:bw P w H' s'.heap
 yX:∃B a0,Heap.FlyingW B outer e (.ref C) a0 s'.heap/\(∀b o,s.heap.get? b=some o->b∉aY outer->∃u,B.get? b=some u)/\∀b o,H' b=some o->∃u,B.get? b=some u
def cf (P:Program) (w:World):i6:=fun outer H s E ev s'=> ∃e C H',ev=.ref e/\Fl P w outer H s e C H' s'/\E (.ref e) (some C) H'
section
variable {P:Program}{w:World}{base:Heap}{env:Env}{outer:List Env}{s0 s1 s2:Shared}{H0 H1 H2:Hp}{e C L:Addr}{A:Around}
theorem YY {B h1 h2:Heap}{H:Hp}(x:bw P w H h1) (bU:∀b o,H b=some o->∃u,B.get? b=some u) (k1:B.StaysIn h1) (k2:B.StaysIn h2):bw P w H h2:=fun a o ha=>
  (x a o ha).cg (fun b u hb hq=>by
    have:∃u',B.get? b=some u':=by
      rcases hb with rfl |hb
      · exact bU _ _ ha
      · exact bU _ _ hb
    obtain⟨u',hu⟩:=this
    have e1:=k1 b u' hu
    rw[hq]at e1
    cases e1
    exact k2 b _ hu) (fun _ q=>q) fun _ _ q=>q
theorem We {B h':Heap}(u0:Un (aY outer) [] H0 H1 s0.heap s1.heap) (u1:Un (aY (env::outer)) [] H1 H2 s1.heap s2.heap) (hf:env.frame=some L) (ab:s0.heap.objs.size<=L) (fu:s0.heap.FunFrames base outer) (fz:∀b∈aY outer,H0 b=none)
  (bU:∀b o,s1.heap.get? b=some o->b∉aY (env::outer)->∃u,B.get? b=some u) (k1:B.StaysIn s2.heap) (k2:B.StaysIn h') (up:s2.heap.UpToSlots h'):Un (aY outer) [] H0 H2 s0.heap h':=by
 have bK:∀b,b∈aY (env::outer)↔b=L∨b∈aY outer:=fun b=>by
  show b∈(env::outer).filterMap (·.frame)↔_
  rw[ZcK (f:=fun(x:Env)=>x.frame) (a:=env) (b:=L) hf,Zaj]
  exact Iff.rfl
 have out:∀b o,s0.heap.get? b=some o->b∉aY outer->b∉aY (env::outer):=fun b o hb hn hm=>by
  rcases (bK b).mp hm with q |q
  ·rw[q]at hb
   exact absurd (Zar (Zad hb) ab) (Zba _)
  ·exact hn q
 have xB:∀b o u,s2.heap.get? b=some o->B.get? b=some u->h'.get? b=some o:=fun b o u hb hu=>by
  have e1:=k1 b u hu
  rw[hb]at e1
  cases e1
  exact k2 b _ hu
 have nF:∀b o,s0.heap.get? b=some o->b∈aY outer->∃sl,h'.get? b=some {o with slots:=sl} :=fun b o hb hm=>by
  obtain⟨_,o',bE,nf⟩:=fu.mem hm
  rw[hb]at bE
  cases bE
  obtain⟨vI,e1⟩:=u0.slot b o hb (fz b hm) hm (by simp)
  have n1:=u0.free b o hb (fz b hm) (by simp)
  obtain⟨eF,e2⟩:=u1.slot b _ e1 n1 ((bK b).mpr (.inr hm)) (by simp)
  obtain⟨Hq,e3⟩:=up b _ e2 nf
  exact⟨Hq,e3⟩
 refine⟨fun b o hb hn Cd _=> ?_,fun b o hb hn hm _=>nF b o hb hm,fun b o hb hn hx=> ?_,fun b o hb _=> ?_,fun b xs hb=>u1.fQ b xs (u0.fQ b xs hb),fun b o u hb=>u1.fL b o u (u0.fL b o u hb),fun b ps hb=> ?_⟩
 ·have e1:=u0.keep b o hb hn Cd (by simp)
  have n1:=u0.free b o hb hn (by simp)
  have bY:=out b o hb Cd
  have e2:=u1.keep b o e1 n1 bY (by simp)
  obtain⟨u,hu⟩:=bU b o e1 bY
  exact xB b o u e2 hu
 ·obtain⟨o1,e1⟩:=u0.there b o hb (by simp)
  have n1:=u0.free b o hb hn (by simp)
  exact u1.free b o1 e1 n1 (by simp)
 ·by_cases hm:b∈aY outer
  ·obtain⟨sl,q⟩:=nF b o hb hm
   exact⟨_,q⟩
  ·obtain⟨o1,e1⟩:=u0.there b o hb (by simp)
   obtain⟨u,hu⟩:=bU b o1 e1 (out b o hb hm)
   exact⟨u,k2 b u hu⟩
 ·obtain⟨m1,q1⟩:=u0.fv b ps hb
  obtain⟨m2,q2⟩:=u1.fv b _ q1
  exact⟨m1++m2,by rw[q2,Array.append_assoc]⟩
end
theorem IJ {P:Program}{w:World}{K:Zgc}{mg:Str->Option Value}{base:Heap}{N:List Str}{qual:Str}{scope:Scope}{f:Addr}{cd:Value}{A:Around}{outer:List Env}{s:Shared}{H:Hp}{E:XK} :
  Passes (cf P w) (bG (cf P w) P w K mg base N qual scope f cd A outer s H E) E:=by
 intro pins σ H1 s1 ev s2 I h
 obtain⟨e,C,H',rfl,F,hE⟩:=h
 obtain⟨B,a0,fl,bU,gA⟩:=F.yX
 refine wpAny_leaves_onW (L:=s.heap.objs.size) I.ok.frames rfl fl fun h' mK up=> ?_
 refine⟨e,C,H',rfl,⟨F.os.trans I.os,F.bare,We (base:=base) (L:=s.heap.objs.size) I.base F.un rfl (Zal _) I.ok.dJ I.ok.gM bU fl.1 mK.1 up,YY F.ak gA fl.1 mK.1,B,a0,mK,fun b o hb hn=> ?_,gA⟩,hE⟩
 obtain⟨o1,e1⟩:=I.base.there b o hb (by simp[bG])
 refine bU b o1 e1 fun hm=> ?_
 have dH:b∈(envOfC qual scope s.heap.objs.size f cd::outer).filterMap (·.frame):=hm
 rw[ZcK (f:=fun(x:Env)=>x.frame) (a:=envOfC qual scope s.heap.objs.size f cd) (b:=s.heap.objs.size) rfl]at dH
 rcases Zaj.mp dH with q |q
 ·rw[q]at hb
  exact absurd (Zad hb) (Zba _)
 ·exact hn q
theorem Q9 {K:Zgc}{h:Heap}{C:Addr}{qT:List Value}{newId:String}(X:K.In h) (q:PySem.W.excIn K C qT newId=true):
  ∃bm N nm qn bs hdct sn sub ab col dd k0 k1 k2 k3 k5 mN,h.get? C=some (excClassObj nm qn C N bs bm hdct sn sub ab col dd k0 k1 k2 k3 k5 newId)/\h.Ns N mN/\mN "__init__" =none/\OwnTail h qT bm:=by
 unfold PySem.W.excIn at q
 split at q
 ·rename_i dd cd sl lk
  split at q
  ·rename_i c2 bm j0 j1 j2 j3 nn j5 em es
   rw[Zaw,Zaw,Zaw,Zaw,Zaw]at q
   obtain⟨⟨⟨⟨⟨q1,q2⟩,q3⟩,q4⟩,q5⟩,q6⟩:=q
   have z1:=Zcm.mp q1
   have z2:=Zcm.mp q2
   have z6:=Zcm.mp q6
   subst z1 z2
   have ob:=X _ _ lk
   have z3:cd.hasDel=false:=by revert q3;cases cd.hasDel<;>simp
   have zs:sl= #[j0,j1,j2,j3,some (.builtin nn),j5]:=by
    apply Array.toList_inj.mp
    rw[es]
   refine⟨bm,cd.ns,cd.name,cd.qualname,cd.bases,cd.hasDict,cd.slotNames,cd.subclasses,cd.abstract,cd.collection,dd,j0,j1,j2,j3,j5,h.nsMap cd.ns,?_,.of_isNs (PySem.W.isNs_of_in X q5),PySem.W.nsMap_none_of_in X q5 z6,PySem.W.tail_of_in X q4⟩
   rw[ob,zs]
   obtain⟨a1,a2,a3,a4,a5,a6,a7,a8,a9,a10,a11⟩:=cd
   cases em
   cases z3
   rfl
  ·cases q
 ·cases q
def GJ (C:Addr) (E:XK) (ta:TA):TS:=fun _ σ H=>ta σ H fun vs H1=>vs.length<=sizeLine/\∀e,E (.ref e) (some C) H1
theorem Va {P:Program}{w:World}{K:Zgc}{mg:Str->Option Value}{base:Heap}{N:List Str}{qual:Str}{scope:Scope}{f:Addr}{cd:Value}{A:Around}{outer:List Env}{s s1:Shared}{H H1:Hp}{E:XK}
  {pins:List (Addr×Obj)}{σ:St}{h':Heap}{e C:Addr}{vs:List Value} (I:Inv (bG (cf P w) P w K mg base N qual scope f cd A outer s H E) pins σ H1 s1) (mk:Heap.MadeExcOf s1.heap h' e (.ref C) vs) (hE:E (.ref e) (some C) H1):
  (bG (cf P w) P w K mg base N qual scope f cd A outer s H E).xe (.ref e) {s1 with heap:=h'} :=by
 have mw:∀env∈(envOfC qual scope s.heap.objs.size f cd::outer),∀b,env.frame=some b->b∈aY (envOfC qual scope s.heap.objs.size f cd::outer):=fun env he b hb=>Zbn.mpr ⟨env,he,hb⟩
 have st:=I.stack
 refine wpAny_leaves_madeW (L:=s.heap.objs.size) (base:=PySem.W.hideAll s1.heap (aY (envOfC qual scope s.heap.objs.size f cd::outer))) (h:=s1.heap) I.ok.frames rfl (fun b o q=>PySem.W.of_hideAll _ q) (PySem.W.funFrames_hide st mw) mk fun h2 t fl tp _ up=> ?_
 have bU:∀b o,s1.heap.get? b=some o->b∉aY (envOfC qual scope s.heap.objs.size f cd::outer)->∃u,(PySem.W.hideAll s1.heap (aY (envOfC qual scope s.heap.objs.size f cd::outer))).get? b=some u:=fun b o hb hn=> ⟨o,PySem.W.hideAll_get _ hb hn⟩
 have gA:∀b o,H1 b=some o->∃u,(PySem.W.hideAll s1.heap (aY (envOfC qual scope s.heap.objs.size f cd::outer))).get? b=some u:=fun b o hb=>by
  have hl:=I.ak.lt hb
  have hx:∃u,s1.heap.get? b=some u:=by
   have ok:=I.ak b o hb
   cases o with
   |lst xs=>obtain⟨_,_,_,_,q⟩:=ok;exact⟨_,q⟩
   |tup xs=>obtain⟨_,_,_,⟨ob,q,_⟩,_⟩:=ok;exact⟨_,q⟩
   |par xs=>obtain⟨_,_,_,ob,q,_⟩:=ok;exact⟨_,q⟩
   |dK ae=>obtain⟨_,_,_,_,ob,_,_,q,_⟩:=ok;exact⟨_,q⟩
   |dT ae=>obtain⟨_,_,_,_,ob,_,_,q,_⟩:=ok;exact⟨_,q⟩
   |set S n=>obtain⟨ob,_,_,_,q,_⟩:=ok;exact⟨_,q⟩
   |ins C dx fs=>obtain⟨_,_,_,q,_⟩:=ok;exact⟨_,q⟩
   |own y=>exact ok
   |xd fs=>obtain⟨_,⟨_,_,_,q,_⟩,_⟩:=ok;exact⟨_,q⟩
   |sO lo hi=>obtain⟨_,_,_,q⟩:=ok;exact⟨_,q⟩
   |cD ob u=>exact⟨_,ok.1⟩
   |cz ps=>exact⟨_,(show s1.heap.get? b=some _ from ok)⟩
   |met f y=>exact⟨_,(show s1.heap.get? b=some _ from ok)⟩
   |ext φ=>exact ok.2.1
  obtain⟨u,hu⟩:=hx
  exact bU b u hu fun hm=>by
   have:=I.ph b hm
   rw[this]at hb
   cases hb
 have k1:Heap.StaysIn (PySem.W.hideAll s1.heap (aY (envOfC qual scope s.heap.objs.size f cd::outer))) h':=fun b o q=>mk.keeps b o (PySem.W.of_hideAll _ q)
 refine⟨e,C,H1,rfl,⟨I.os,I.bare,We (s1:=s1) (s2:= {s1 with heap:=h'}) (base:=base) (L:=s.heap.objs.size) I.base (Un.kept mk.keeps) rfl (Zal _) I.ok.dJ I.ok.gM bU k1 fl.1 up,YY (I.ak.kept mk.keeps) gA k1 fl.1,_,_,fl,fun b o hb hn=> ?_,gA⟩,hE⟩
 obtain⟨o1,e1⟩:=I.base.there b o hb (by simp[bG])
 refine bU b o1 e1 fun hm=> ?_
 have dH:b∈(envOfC qual scope s.heap.objs.size f cd::outer).filterMap (·.frame):=hm
 rw[ZcK (f:=fun(x:Env)=>x.frame) (a:=envOfC qual scope s.heap.objs.size f cd) (b:=s.heap.objs.size) rfl]at dH
 rcases Zaj.mp dH with q |q
 ·rw[q]at hb
  exact absurd (Zad hb) (Zba _)
 ·exact hn q
theorem RI {P:Program}{w:World}{K:Zgc}{mg:Str->Option Value}{base:Heap}{N:List Str}{qual:Str}{scope:Scope}{f:Addr}{cd:Value}{A:Around}{outer:List Env}{s:Shared}{H:Hp}{E:XK}{x:Str}{C:Addr}{B newId LD:String}{qT:List Value}
  {mP:Expr}{rest:List Expr}{np bT pos:Pos}{ta:TA} (FB:ExcBaseFacts B newId LD qT) (hmg:mg x=some (.ref C)) (hex:PySem.W.excIn K C qT newId=true) (hg:Gl (bG (cf P w) P w K mg base N qual scope f cd A outer s H E) x)
  (ha:PA (bG (cf P w) P w K mg base N qual scope f cd A outer s H E) (mP::rest) ta)
  (he:starEach (mP::rest) (envOfC qual scope s.heap.objs.size f cd)=(false,eval mP (envOfC qual scope s.heap.objs.size f cd))::starEach rest (envOfC qual scope s.heap.objs.size f cd):=by rfl)
  (dm:(backTo bT (starEach rest (envOfC qual scope s.heap.objs.size f cd))).any (·.1)=false:=by rfl) (hd:(x==("__debug__" :Str))=false:=by decide):
  PS (bG (cf P w) P w K mg base N qual scope f cd A outer s H E) (.Raise (some (.Call (.Name x np) (mP::rest) [] bT)) none pos) (GJ C E ta):=by
 intro pins s1 σ H1 D I h
 obtain⟨bm,Nn,nm,qn,bs,hdct,sn,sub,ab,col,dd,k0,k1,k2,k3,k5,mN,hC,hN,MF,T⟩:=Q9 I.mod.kU hex
 refine wpAny_Raise_call_subT (C:=C) (nm:=nm) (q:=qn) (N:=Nn) (bs:=bs) (bm:=bm) (hdct:=hdct) (sn:=sn) (sub:=sub) (ab:=ab) (col:=col) (dd:=dd) (k0:=k0) (k1:=k1) (k2:=k2) (k3:=k3) (k5:=k5)
  FB (mN:=mN) (T.hasType FB.hasBase) (I.ok.hd rfl) ?_ MF (YX I hg hmg ⟨rfl,?_⟩ hd)
 ·show(backTo bT (starEach (mP::rest) (envOfC qual scope s.heap.objs.size f cd))).any (·.1)=false
  rw[he]
  show(false||(backTo bT (starEach rest (envOfC qual scope s.heap.objs.size f cd))).any (·.1))=false
  rw[dm]
  rfl
 ·have q:=ha bT pins s1 σ H1 _ I h
  show wpAny _ _ (evalArgs (.ref C) true (backTo bT (starEach (mP::rest) (envOfC qual scope s.heap.objs.size f cd))) []) _ _ _
  have q':wpAny (model P w) (A.deeper (envOfC qual scope s.heap.objs.size f cd)) (spliced (backTo bT (starEach (mP::rest) (envOfC qual scope s.heap.objs.size f cd)))) _ _ s1:=q
  rw[he]at q' |-
  refine PySem.Calls.evalArgs_plain (ZaL q' (fun us s2 h2=> ?_) fun _ _ y=>y)
  obtain⟨vs,H2,I2,r,hz,hE⟩:=h2
  refine⟨rfl,by rw[<-r.length];exact hz,I2.bk _ _ hC,hN.keeps I2.bk,T.keeps I2.bk,fun h' e mk=> ?_⟩
  exact Va I2 mk (hE e)
section
variable {P:Program}{w:World}{K:Zgc}{mg:Str->Option Value}{base:Heap}
theorem aC.nT {x qual:Str}{st:Stmt}{f:Addr}{fd:FuncData}{N ps:List Str}{k:Nat}{sp:Sp}(F:aC K x qual st f fd) (S:aQ N ps (aw st)) (len:∀vs H Q E,sp vs H Q E->vs.length=ps.length)
    (hb:∀(aq:Value) (A:Around) (outer:List Env) (s:Shared) (H:Hp) (vs:List V) (Q:VK) (E:XK),bj k (A.deeper (envOfC qual (aw st) s.heap.objs.size f aq))->sp vs H Q E->
      ∃t,eB (bG (cf P w) P w K mg base N qual (aw st) f aq A outer s H E) (cY st) t/\t {nx:=fun _ H'=>Q .ah H',rt:=Q} (start N vs) H):aA P w K mg base (cf P w) (k+1) f fd ps sp:=by
  obtain⟨oc,od,kV,doc,pm,an,aq,ct,fB,rfl,lk,cO⟩:=F.ex
  exact zC lk cO S len fun A outer s H vs Q E hr dG=>hb aq A outer s H vs Q E hr dG
def eZ (P:Program) (w:World) (K:Zgc) (mg:Str->Option Value) (base:Heap) (k:Nat) (x:Str) (ps:List Str) (sp:Sp):Prop:=
 ∃f fd,aA P w K mg base (cf P w) k f fd ps sp/\mg x=some (.ref f)/\PySem.W.keepIn K (.ref f)=true/\Binds K fd ps []
theorem Fo {N:List Str}{qual:Str}{scope:Scope}{f:Addr}{cd:Value}{A:Around}{outer:List Env}{s:Shared}{H:Hp}{E:XK}{k:Nat}{x:Str}{ps:List Str}{sp:Sp}{e:Expr}{es:List Expr}{t:TA}{p pos:Pos}
  (d:eZ P w K mg base k x ps sp) (hr:bj k (A.deeper (envOfC qual scope s.heap.objs.size f cd))) (ha:PA (bG (cf P w) P w K mg base N qual scope f cd A outer s H E) (e::es) t) (hg:Gl (bG (cf P w) P w K mg base N qual scope f cd A outer s H E) x:=by rfl)
  (dI:(x==("__debug__" :Str))=false:=by decide)
  (he:starEach (e::es) (envOfC qual scope s.heap.objs.size f cd)=(false,eval e (envOfC qual scope s.heap.objs.size f cd))::starEach es (envOfC qual scope s.heap.objs.size f cd):=by rfl)
  (dm:(backTo pos (starEach es (envOfC qual scope s.heap.objs.size f cd))).any (·.1)=false:=by rfl):
  PE (bG (cf P w) P w K mg base N qual scope f cd A outer s H E) (.Call (.Name x p) (e::es) [] pos) (nC sp [] E t):=by
 obtain⟨g,fd,F,hm,hk,hb⟩:=d
 exact EJ F hr hg hm hk hb .nil IJ ha dI he dm
end
end L2
namespace L2
open PySem PySem.Spec PyProof.Rows PySem.Builtin PySem.Builtin.ObjectAttr PySem.Builtin.Getset_descriptor
def jC (e C:Addr):HO:=.ext fun h=> ∃o,h.get? e=some o/\o.cls=.ref C
structure lI (K:Zgc) (C:Addr):Prop where
 ga:PySem.W.findIn K (.ref C) "__getattribute__" =some (some (.builtin "BaseException.__getattribute__"))
 hook:PySem.W.findIn K (.ref C) "__getattr__" =some none
 cl:PySem.W.findIn K (.ref C) "__class__" =some (some (.builtin "object.__class__"))
 ob:PySem.W.mroIn K C (.type "object")=some true
 bx:PySem.W.mroIn K C (.type "BaseException")=some true
 cls:(PySem.W.clsIn K C).isSome=true
section
variable {prog:Program}{w:World}{A:Around}{E:Value->Shared->Prop}{s:Shared}{K:Zgc}{e C:Addr}{o:Obj}{R:Result->Shared->Prop}
theorem JK {M:Model}{h:Heap}(hx:h.get? e=some o) (hc:o.cls=.ref C):PySem.W.Looks M h (typeOf (.ref e)) (.ref C):=hc▸(PySem.W.Looks.ld hx).andThen .now
theorem Sg {tp:Value}(X:K.In s.heap) (hx:s.heap.get? e=some o) (hc:o.cls=.ref C) (Z:lI K C) (h:R (.ok (.ret (.ref C))) s):
  codeAny (model prog w) A (.call (.builtin "getset_descriptor.__get__") ⟨[.builtin "object.__class__",.ref e,tp],[]⟩) R s:=by
 obtain⟨h0,g0,d0,t0,o0⟩:=s
 have LT:=JK (M:=model prog w) hx hc
 have LM:=PySem.W.looks_mroIn (M:=model prog w) X Z.ob
 refine Zdh PySem.W.KF.slot_gs.plain PySem.W.KF.entry_gs (PySem.W.KF.slot_gs.check _ _ _ _ _ _ _ _ PySem.W.KF.type_class (PySem.W.KF.args_gs _ _ _) ?_)
 unfold Builtin.«getset_descriptor.__get__» descrGet
 rw[PySem.W.dga_obj]
 refine eg (X6 ?_)
 unfold descrGetter descrCheckInstance descrNameAndClass isInstance
 simp only[PySem.W.KF.owner_class]
 repeat lk
 refine⟨PySem.Code.quiet_builtin _ (by decide+kernel),Za3 PySem.W.KF.entry_class ?_⟩
 unfold Builtin.«object.__class__» shownTypeOf
 repeat lk
 exact h
theorem S6 {tk:Tok}{Q:PySem.Fin->Shared->Prop}(X:K.In s.heap) (hx:s.heap.get? e=some o) (hc:o.cls=.ref C) (Z:lI K C) (hq:Q (.done (.ret (.ref C))) s):
  wpAny (model prog w) A (Builtin.«object.__getattribute__» ⟨[.ref e,.str "__class__" tk],[]⟩) Q E s:=by
 obtain⟨h0,g0,d0,t0,o0⟩:=s
 have LT:=JK (M:=model prog w) hx hc
 have LC:=PySem.W.looks_findIn (M:=model prog w) X Z.cl
 have XJ:(⟨h0,g0,d0,t0,o0⟩:Shared).TypeIs (.builtin "object.__class__") "getset_descriptor" :=F.typeOf_object_class
 have f5:=F.typeOf_object_class
 have f6:=F.slot_gs_get.lookup
 have f7:=F.slot_gs_set.lookup
 repeat (any_goals (first |assumption |with_reducible refine LT.at ?_ |with_reducible refine LC.at ?_ |wp_step))
 refine Sg (s:=⟨h0,g0,d0,t0,o0⟩) X hx hc Z ?_
 exact X6 hq
theorem Se {tk:Tok}(X:K.In s.heap) (hx:s.heap.get? e=some o) (hc:o.cls=.ref C) (Z:lI K C) (hq:R (.ok (.ret (.ref C))) s):
  codeAny (model prog w) A (.call (.builtin "BaseException.__getattribute__") ⟨[.ref e,.str "__class__" tk],[]⟩) R s:=by
 refine Zdh F.attr_ValueError.ga.plain F.entry_bexc_ga ?_
 obtain⟨h0,g0,d0,t0,o0⟩:=s
 have LT:=JK (M:=model prog w) hx hc
 have LB:=PySem.W.looks_mroIn (M:=model prog w) X Z.bx
 have hk:builtinKind "BaseException.__getattribute__" =some .slot:=by decide+kernel
 have dG:splitId "BaseException.__getattribute__" =some ("BaseException", "__getattribute__"):=by decide+kernel
 have ha:=F.args_bexc_ga (.ref e) (.str "__class__" tk)
 simp only[checkBuiltinCall,hk,dG]
 have LI:PySem.W.Looks (model prog w) h0 (isInstance (.ref e) (.type "BaseException")) true:=LT.andThen LB
 refine eg (LI.at ?_)
 repeat (first |exact S6 (s:=⟨h0,g0,d0,t0,o0⟩) X hx hc Z hq |assumption |wp_step)
theorem Sd {Q:Option Value->Shared->Prop}(X:K.In s.heap) (hx:s.heap.get? e=some o) (hc:o.cls=.ref C) (Z:lI K C) (hq:Q (some (.ref C)) {s with toks:=s.toks+1}):
  wpAny (model prog w) A (getAttr? (.ref e) "__class__") Q E s:=by
 obtain⟨h0,g0,d0,t0,o0⟩:=s
 have LT:=JK (M:=model prog w) hx hc
 have L1:=PySem.W.looks_findIn (M:=model prog w) X Z.ga
 have L2:=PySem.W.looks_findIn (M:=model prog w) X Z.hook
 have f3:=F.attr_ValueError.ga.bind (.ref e)
 have iH:(Value.builtin "BaseException.__getattribute__" ==Value.builtin "object.__getattribute__")=false:=by decide+kernel
 have og:(onTheHeap (Value.ref C)&&Value.builtin "BaseException.__getattribute__" ==Value.builtin "object.__getattribute__")=false:=by rw[iH];rfl
 unfold getAttr? getAttrBy? getAttrBy
 refine eg (wpAny_mkText (eg (ZcC (ZaO (eg (LT.at (eg (L1.at ?_))))))))
 repeat (any_goals (first |assumption |with_reducible refine L2.at ?_ |wp_step))
 refine Se (s:=⟨h0,g0,d0,t0+1,o0⟩) X hx hc Z ?_
 repeat (any_goals (first |assumption |wp_step))
theorem RU (Z:lI K C):PySem.W.KitX K (.ref e) (.ref C) (fun h=> ∃o,h.get? e=some o/\o.cls=.ref C) where
 ty:=fun M h _ ⟨o,hx,hc⟩=>JK hx hc
 it:=fun M h X _=>by
  obtain⟨cd,cO⟩:=Zca.mp Z.cls
  unfold PySem.W.clsIn at cO
  split at cO
  ·rename_i lk
   intro A2 Q2 E2 s2 k q
   unfold isType loadHead
   exact eg (wpAny_loadPart (k _ _ (X _ _ lk)) (X6 q))
  ·cases cO
 ne:=fun h tp dd aa n sl X oh=>by
  obtain⟨cd,cO⟩:=Zca.mp Z.cls
  refine Bool.eq_false_iff.mpr fun q=> ?_
  have z:C=tp:=Value.ref.inj (Zcm.mp q)
  rw[<-z]at oh
  unfold PySem.W.clsIn at cO
  split at cO
  ·rename_i lk
   have y:=(X _ _ lk).symm.trans oh
   cases y
  ·cases cO
 ca:=fun X ⟨o,hx,hc⟩ k=>Sd X hx hc Z k
end
section
variable {X:Cx}
theorem Js:fc X (.builtin "isinstance") (fun xs H Q=> ∃e C y c b,xs=[.ref e,y]/\H e=some (jC e C)/\lI X.K C/\(∀u,RelV y u->u=c)/\PySem.W.kitOne X.K (.ref C) c=some b/\Q (.bl b) H):=by
 rintro pins s σ H vs us Q I r ⟨e,C,y,c,b,rfl,he,Z,hy,hk,q⟩
 cases r with
 |cons r1 r2=>
  cases r2 with
  |cons r3 r4=>
   cases r4
   rw[hy _ r3]
   rw[show _=Value.ref e from r1]
   obtain⟨p,_,_⟩:=(show bt X.prog X.w H s.heap e (jC e C) from I.ak e _ he)
   exact Zbu (RU Z) I.bN p hk (fun z=>nomatch z) fun tk=> ⟨.bl b,H,I.tok _,rfl,q⟩
end
end L2
namespace L2
open PySem PySem.Spec PyProof.Rows
abbrev Cx.jn (X:Cx) (e:Value):Cx:= {X with A:=X.A.mark (some e),calm:=false,xe:=fun _ _=>False}
section
variable {X:Cx}{pins:List (Addr×Obj)}{σ:St}{H H':Hp}{s s':Shared}
theorem Inv.jn (I:Inv X pins σ H s) (e:Value):Inv (X.jn e) pins σ H s:=
 ⟨⟨I.ok.mod,I.ok.kind,I.ok.glob,I.ok.blt,I.ok.above,I.ok.inj,I.ok.has,I.ok.kg,fun h=>Bool.noConfusion h,I.ok.frames,I.ok.lL,I.ok.kc,I.ok.bs,I.ok.iX,I.ok.kN,I.ok.j9,I.ok.dJ,I.ok.gM⟩,I.os,I.bare,I.base,I.loc,I.cell,I.free,I.fM,I.pin,I.ak,I.len⟩
theorem Inv.Gi {e:Value}(I:Inv (X.jn e) pins σ H s) (hd:X.calm=true->X.A.handled=none):Inv X pins σ H s:=
 ⟨⟨I.ok.mod,I.ok.kind,I.ok.glob,I.ok.blt,I.ok.above,I.ok.inj,I.ok.has,I.ok.kg,hd,I.ok.frames,I.ok.lL,I.ok.kc,I.ok.bs,I.ok.iX,I.ok.kN,I.ok.j9,I.ok.dJ,I.ok.gM⟩,I.os,I.bare,I.base,I.loc,I.cell,I.free,I.fM,I.pin,I.ak,I.len⟩
theorem Inv.Dt {e C:Addr}{B h':Heap}{o:Obj}(I:Inv X pins σ H s) (un:Un (aY X.stack) [] H H' s.heap s'.heap) (os:s'.os=s.os) (bare:AllBare s'.gens) (ak:bw X.prog X.w H' s'.heap)
  (bU:∀b o,s.heap.get? b=some o->b∉aY X.stack->∃u,B.get? b=some u) (gA:∀b o,H' b=some o->∃u,B.get? b=some u) (be:B.get? e=none) (k1:B.StaysIn s'.heap) (k2:B.StaysIn h') (up:s'.heap.UpToSlots h')
  (he:h'.get? e=some o) (hc:o.cls=.ref C) (hd:∃vs,o.data=.fields vs):Inv X pins σ (upd H' e (jC e C)) {s' with heap:=h'}/\H' e=none:=by
 have n0:H' e=none:=by
  cases q:H' e with
  |none=>rfl
  |some u=>
   obtain⟨u',hu⟩:=gA e u q
   rw[be]at hu
   cases hu
 have nF:∀b o,s.heap.get? b=some o->b∈aY X.stack->∃sl,h'.get? b=some {o with slots:=sl} :=fun b o hb hm=>by
  obtain⟨_,o',bE,nf⟩:=I.stack.mem hm
  rw[hb]at bE
  cases bE
  obtain⟨vI,e1⟩:=un.slot b o hb (I.ph b hm) hm (by simp)
  obtain⟨eF,e2⟩:=up b _ e1 nf
  exact⟨eF,e2⟩
 have Kw:∀b u,s.heap.get? b=some u->b≠e:=fun b u hb z=>by
  rw[z]at hb
  by_cases hm:e∈aY X.stack
  ·obtain⟨_,o',bE,nf⟩:=I.stack.mem hm
   rw[hb]at bE
   cases bE
   obtain⟨sl,q⟩:=nF e u hb hm
   rw[he]at q
   cases q
   obtain⟨vs,hv⟩:=hd
   exact nf vs hv
  ·obtain⟨u',hu⟩:=bU e u hb hm
   rw[be]at hu
   cases hu
 have xB:∀b o u,s'.heap.get? b=some o->B.get? b=some u->h'.get? b=some o:=fun b o u hb hu=>by
  have e1:=k1 b u hu
  rw[hb]at e1
  cases e1
  exact k2 b _ hu
 refine⟨I.zt (s':= {s' with heap:=h'}) (ch:=[]) os ⟨fun b u hb hn hf _=> ?_,fun b u hb hn hm _=>nF b u hb hm,fun b u hb hn _=> ?_,fun b u hb _=> ?_,fun b xs hb=> ?_,fun b u v hb=> ?_,fun b ps hb=> ?_⟩ ?_ bare (fun b hb=>absurd hb (by simp)),n0⟩
 ·have e1:=un.keep b u hb hn hf (by simp)
  obtain⟨u',hu⟩:=bU b u hb hf
  exact xB b u u' e1 hu
 ·rw[Zi (Kw b u hb)]
  exact un.free b u hb hn (by simp)
 ·by_cases hm:b∈aY X.stack
  ·obtain⟨sl,q⟩:=nF b u hb hm
   exact⟨_,q⟩
  ·obtain⟨u',hu⟩:=bU b u hb hm
   exact⟨u',k2 b u' hu⟩
 ·have q:=un.fQ b xs hb
  rw[Zi (Ze q n0)]
  exact q
 ·have q:=un.fL b u v hb
  rw[Zi (Ze q n0)]
  exact q
 ·obtain⟨m,q⟩:=un.fv b ps hb
  exact⟨m,by rw[Zi (Ze q n0)];exact q⟩
 ·intro b u hb
  by_cases js:b=e
  ·subst js
   rw[Zc]at hb
   cases hb
   refine⟨⟨o,he,hc⟩,⟨o,he⟩,fun h1 h2 p k=> ?_⟩
   obtain⟨o1,q1,q2⟩:=p
   exact⟨o1,k _ q1,q2⟩
  ·rw[Zi js]at hb
   have x:=YY ak gA k1 k2 b u hb
   refine x.cg (fun c w' jr q=>q) (fun c q=> ?_) fun c xs q=> ?_
   ·rw[Zi (Ze q n0)];exact q
   ·rw[Zi (Ze q n0)];exact q
end
def GF (X:Cx) (ic ie:Nat) (cS:Addr) (k:Nat) (ts:TS):TS:=fun D σ H=> ∃f fd sp,σ[ic]? =some (some (.ref f))/\(∀s,bw X.prog X.w H s->PySem.W.FnAt f s)/\aA X.prog X.w X.K X.mg X.base (cf X.prog X.w) k f fd [] sp/\(∀s,BindsTo s fd ⟨[],[]⟩ [])/\
 sp [] H (fun _ _=>False) fun ev c H'=> ∃e C,ev=.ref e/\c=some C/\PySem.W.exmOne X.K (.ref C) (.ref cS)=some true/\(H' e=none->ts {nx:=fun aj H2=>D.nx (aj.set ie none) H2,rt:=fun _ _=>False} (σ.set ie (some (.ref e))) (upd H' e (jC e C)))
theorem TX {X:Cx}{ic ie k:Nat}{c n S:Str}{cS:Addr}{b0:Stmt}{AK:List Stmt}{ts:TS}{p1 p2 p3 p4 p5 p6:Pos}(uf:X.calm=true) (jU:X.stack=X.env::X.outer) (eT:X.env.frame=some X.env.locals) (hN:X.N.Nodup) (M0:X.N[ic]? =some c) (L4:q0 X.env.scope c)
  (tY:X.N[ie]? =some n) (oz:X.env.scope.names.lookup n=some .local) (hS:X.mg S=some (.ref cS)) (M6:Gl X S) (hr:bj k X.A) (Mm:∀e,eB (X.jn (.ref e)) (b0::AK) ts)
  (Ni:(c==("__debug__" :Str))=false:=by decide) (Nh:(c==("__classdict__" :Str))=false:=by decide) (Nk:(S==("__debug__" :Str))=false:=by decide)
  (xP:swapsWith (.Call (.Name c p1) [] [] p2) none p3.line X.env=pure false:=by rfl):
  PS X (.Try [.Expr (.Call (.Name c p1) [] [] p2) p3] [.ExceptHandler (some (.Name S p4)) (some n) (b0::AK) p5] [] [] p6) (GF X ic ie cS k ts):=by
 intro pins s σ H D I h
 obtain⟨f,fd,sp,l9,gm,F,hb,dG⟩:=h
 refine wpAny_Try_except ?_
 refine PySem.wpAny_execs_cons (wpAny_Expr_any ?_ I.quiet xP)
 refine Za2 ?_
 have nm:=UK (X:=X.gP (fun _ _=>False)) (i:=ic) (x:=c) (pos:=p1) M0 L4 Ni Nh pins s σ H (fun v H2=>v=.ref f/\H2=H) (I.gP _) ⟨_,l9,rfl,rfl⟩
 refine ZaL nm (fun u s1 h1=> ?_) (fun _ _ z=>z.elim)
 obtain⟨v,H1,I1,r1,rfl,rfl⟩:=h1
 have I1:=I1.jK
 obtain rfl:u=Value.ref f:=r1
 refine PySem.W.callWith_F0 (gm _ I1.ak) ?_
 refine PySem.wpAny_call (Zb7 (F.run X.A X.stack s1 H1 ⟨[],[]⟩ [] [] _ _ hr I1.C7 (hb s1) .nil dG) fun r s2 hq=> ?_)
 cases r with
 |ok fl=>
  cases fl with
  |ret u=>obtain⟨_,_,_,_,_,_,_,z⟩:=hq;exact z.elim
  |next=>exact hq.elim
  |brk=>exact hq.elim
  |cont=>exact hq.elim
 |error ev=>
  obtain⟨e,C,H2,rfl,FL,e',C',q1,q2,hx,hk⟩:=hq
  cases q1
  cases q2
  obtain⟨B,a0,fl,bU,gA⟩:=FL.yX
  rw[jU]at fl
  show wpAny (model X.prog X.w) X.A (noteFrame (.ref e) X.env) _ X.xe s2
  have yV:X.A.frames=some (X.env::X.outer):=by rw[<-jU];exact I.ok.frames
  refine wpAny_looks_onW (L:=X.env.locals) yV eT fl fun h4 held Aw=> ?_
  refine wpAny_landsW held fun h5 yY Av=> ?_
  have Pq:∃o vs,h5.get? e=some o/\o.cls=.ref C/\o.data=.fields vs:=by
   obtain⟨oe,vs,g1,g2,g3,_⟩:=yY.first
   exact⟨oe,vs,g1,g2,g3⟩
  obtain⟨o5,uM,CT,CS,Oe⟩:=Pq
  have c5:=I1.Dt (h':=h5) FL.un FL.os FL.bare FL.ak bU gA fl.2.1 fl.1 yY.1 (Aw.trans Av) CT CS ⟨_,Oe⟩
  have I5:=c5.1.jn (.ref e)
  refine wpAny_handleBy_cons (codeAny_handlers_test ?_) (by intro q;cases q)
  refine YX (X:=X.jn (.ref e)) I5 M6 hS ?_ Nk
  have LX:=PySem.W.exm_one (M:=model X.prog X.w) (c:=.ref cS) (e:=e) I5.bN (JK CT CS) hx
  refine LX.at ?_
  refine codeAny_handlers_suite_as ?_
  refine lands_againW (s:= {s2 with heap:=h5}) yY fun h6 CZ Gg=> ?_
  obtain⟨o6,Xi,Od,Oc,Ob,_⟩:=CZ.first
  obtain⟨I6,n6⟩:=I1.Dt (h':=h6) FL.un FL.os FL.bare FL.ak bU gA fl.2.1 fl.1 CZ.1 ((Aw.trans Av).trans Gg) Od Oc ⟨_,Ob⟩
  have I6:=I6.jn (.ref e)
  have Me:=hk n6
  refine Yt (X:=X.jn (.ref e)) (i:=ie) I6 hN tY (.inl oz) (v:=.ref e) (u:=.ref e) rfl (fun s7 I7=> ?_) (.inr oz)
  refine ZaL (Mm e pins s7 _ _ _ I7 Me) (fun Oh s8 h8=> ?_) fun _ _ z=>z.elim
  cases Oh with
  |ret u=>obtain⟨_,_,_,_,_,z⟩:=h8;exact z.elim
  |brk=>obtain⟨_,_,_,z⟩:=h8;exact z.elim
  |cont=>obtain⟨_,_,_,z⟩:=h8;exact z.elim
  |next=>
   obtain⟨nq,H8,I8,q8⟩:=h8
   have I8:=I8.Gi (fun z=>I.ok.hd z)
   obtain⟨m8,Ce,yg⟩:=I8.loc
   have yA:(X.env.scope.kind==.class||(X.env.scope.kind==.module&&X.env.locals !=X.env.globals))=false:=by rw[I8.ok.kind];rfl
   refine wpAny_nameGoes_keeps oz Ce yA fun h9 v9 MI md=> ?_
   have st:=Yt (M:=model X.prog X.w) (A:=X.A) (E:=fun _ _=>False) (X:=X) (i:=ie) I8 hN tY (.inl oz) (v:=.ah) (u:=.none) rfl (Q:=fun _ _=>True) (fun _ _=>trivial) (.inr oz)
   refine⟨nq.set ie none,H8,?_,q8⟩
   have ar:ie<nq.length:=by rw[I8.len];exact(X8.mp tY).1
   obtain⟨oL,_,_,jX,_⟩:=id Ce
   have hX:=I8.hX
   refine⟨I8.ok,I8.os,I8.bare,⟨fun b o eb nb hb hx=> ?_,fun b o eb nb hb hx=> ?_,I8.base.free,fun b o eb hx=> ?_,I8.base.fQ,I8.base.fL,I8.base.fv⟩,⟨_,MI,fun j y v' e1 e2 e3=> ?_⟩,fun y cc ec=> ?_,I8.free,I8.fM,fun p hp=> ?_,fun b ob eb=> ?_,by simpa using I8.len⟩
   ·exact(md.2 b (Zan (Zar (Zad eb) I8.ok.above))).trans (I8.base.keep b o eb nb hb hx)
   ·obtain⟨sl,q⟩:=I8.base.slot b o eb nb hb hx
    exact⟨sl,(md.2 b (Zan (Zar (Zad eb) I8.ok.above))).trans q⟩
   ·obtain⟨o',q⟩:=I8.base.there b o eb hx
    exact⟨o',(md.2 b (Zan (Zar (Zad eb) I8.ok.above))).trans q⟩
   ·by_cases hj:j=ie
    ·subst hj
     rw[List.getElem?_set_self ar]at e2
     cases e2
    ·rw[List.getElem?_set_ne (ZcE hj)]at e2
     obtain⟨u',r',q⟩:=yg j y v' e1 e2 e3
     refine⟨u',r',?_⟩
     rcases q with ⟨kk,q⟩ |⟨kk,c',ec,z⟩
     ·refine .inl ⟨kk,?_⟩
      have ne:y≠n:=fun z=>hj (Wr hN e1 (z▸tY))
      simp[ne,q]
     ·exact .inr ⟨kk,c',ec,z.sameBut md (hX y c' ec)⟩
   ·obtain⟨w',z⟩:=I8.cell y cc ec
    exact⟨w',z.sameBut md (hX y cc ec)⟩
   ·obtain⟨e1,n1,ne1,KG,d1⟩:=I8.pin p hp
    exact⟨(md.2 p.1 ne1).trans e1,n1,ne1,KG,d1⟩
   ·refine(I8.ak b ob eb).cg (fun cc w' jr q=> (md.2 cc ?_).trans q) (fun _ q=>q) fun _ _ q=>q
    rintro rfl
    rcases jr with rfl |jr
    ·rw[I8.free]at eb;cases eb
    ·rw[I8.free]at jr;cases jr
def hV (c:Addr) (q:Str):HO:=.ext fun h=>h.CodeRec (.ref c) q
def nZ (f:Addr) (q:Str) (params:Arguments) (body:Expr) (scope:Scope) (cl:List (Str×Addr)) (pm:Value) (c:Addr) (ct:Value):HO:=.ext fun h=>h.get? f=some (PySem.W.kla_obj "<lambda>" q params body scope cl pm c ct)
def zU (H:Hp) (f:Addr) (q:Str) (params:Arguments) (body:Expr) (scope:Scope) (cl:List (Str×Addr)):Prop:=∃pm c ct,H f=some (nZ f q params body scope cl pm c ct)/\H c=some (hV c q)
def Vz (H:Hp) (q:Str) (ps:Array Value):Prop:=TriplesOk ps.toList/\∀pos cv,codeAmong pos ps.toList=some cv->∃c,cv=.ref c/\H c=some (hV c q)
def TabAt (H:Hp) (P:Addr) (q:Str):Prop:=∃ps,H P=some (.cz ps)/\Vz H q ps
theorem Jq {h h':Heap}{c:Addr}{q:Str}(x:h.CodeRec (.ref c) q) (k:∀o,h.get? c=some o->h'.get? c=some o):h'.CodeRec (.ref c) q:=by
 obtain⟨c2,oc,vs,tq,e,g1,g2,g3⟩:=x
 cases e
 exact⟨c,oc,vs,tq,rfl,k _ g1,g2,g3⟩
theorem Q3 {P:Program}{w:World}{H:Hp}{h:Heap}{c:Addr}{q:Str}(x:h.CodeRec (.ref c) q):bt P w H h c (hV c q):=by
 obtain⟨c2,oc,vs,tq,e,g1,g2,g3⟩:=id x
 cases e
 exact⟨x,⟨_,g1⟩,fun h1 h2 p k=>Jq p k⟩
theorem EA {P:Program}{w:World}{H:Hp}{h:Heap}{f:Addr}{q:Str}{params:Arguments}{body:Expr}{scope:Scope}{cl:List (Str×Addr)}{pm:Value}{c:Addr}{ct:Value}(x:h.get? f=some (PySem.W.kla_obj "<lambda>" q params body scope cl pm c ct)):
  bt P w H h f (nZ f q params body scope cl pm c ct):=⟨x,⟨_,x⟩,fun h1 h2 p k=>k _ p⟩
theorem WN {pos p2:Pos}{c cv:Value} :∀(l:List Value),TriplesOk l->codeAmong p2 (l++[rawInt pos.line,rawInt pos.col,c])=some cv->codeAmong p2 l=some cv∨cv=c
 | [],_,h=>by
  have h':(if (pos.line:Int)==(p2.line:Int)&&(pos.col:Int)==(p2.col:Int) then some c else codeAmong p2 [])=some cv:=h
  split at h'
  ·exact .inr (ZaV h').symm
  ·cases h'
 | .int a t:: .int b u::x::r,ht,h=>by
  have h':(if a==p2.line&&b==p2.col then some x else codeAmong p2 (r++[rawInt pos.line,rawInt pos.col,c]))=some cv:=h
  show(if a==p2.line&&b==p2.col then some x else codeAmong p2 r)=some cv∨cv=c
  split at h'
  ·rename_i hq
   rw[Zay hq]
   exact .inl h'
  ·rename_i hq
   rw[Zav hq]
   exact WN r ht h'
theorem Jb {pos:Pos}{c:Value} :∀(l:List Value),TriplesOk l->TriplesOk (l++[rawInt pos.line,rawInt pos.col,c])
 | [],_=>trivial
 | .int _ _:: .int _ _::_::r,h=>Jb r h
structure F2 (X:Cx) (c P:Addr):Prop where
 code:X.env.code=.ref c
 hd:PySem.W.CodeHd X.base c P
 bm:∃bm ob,X.mg "__builtins__" =some (.ref bm)/\bm≠builtinsNs/\X.base.get? bm=some ob/\ob.cls=.type "module" /\ob.dict=some builtinsNs/\ob.data=.plain
def GY (X:Cx) (P:Addr) (params:Arguments) (body:Expr) (scope:Scope):TE:=fun σ H Q=>TabAt H P (X.env.qual++ "<lambda>")/\∀f H',bZ P H H'->H f=none->TabAt H' P (X.env.qual++ "<lambda>")->zU H' f (X.env.qual++ "<lambda>") params body scope (dN scope X.env)->Q (.ref f) H'
theorem PU {X:Cx}{c P:Addr}{params:Arguments}{body:Expr}{scope:Scope}{pos:Pos}(L:F2 X c P) (yy:defaultsOf params X.env=([],[])) (eT:∀y∈scope.names,y.2=.free->X.env.kindOf y.1=some .cell∨X.env.kindOf y.1=some .free):
  PE X (.Lambda params body scope pos) (GY X P params body scope):=by
 intro pins s σ H Q I h
 obtain⟨⟨ps,hP,hT,hC⟩,q⟩:=h
 have oP:s.heap.get? P=some (PySem.W.tabObj ps):=I.ak P _ hP
 have cM:=Z7 (scope:=scope) (env:=X.env) fun y hy e=>I.ok.has _ (eT y hy e)
 have ui:s.heap.Ns mainGlobals X.mg:=I.mod.glob.keeps I.bk
 obtain⟨bm,ob,b1,b2,b3,b4,b5,b6⟩:=L.bm
 have M7:mainGlobals≠P:=fun z=>by
  obtain⟨o,es,ep,e,d,_⟩:=ui
  rw[z,oP]at e
  cases e
  cases d
 have mE:bm≠P:=fun z=>by
  have e:=I.bk _ _ b3
  rw[z,oP]at e
  cases e
  cases b4
 have Nx:bm≠mainGlobals:=fun z=>by
  obtain⟨o,es,ep,e,d,_⟩:=ui
  have e2:=I.bk _ _ b3
  rw[z,e]at e2
  cases e2
  rw[d]at b6
  cases b6
 have BA:s.heap.BuiltinsAt X.mg P:=⟨bm,ob,b1,b2,Nx,mE,I.bk _ _ b3,b4,b5,b6⟩
 refine PySem.W.kla_eval yy ?_
 cases hf:codeAmong pos ps.toList with
 |some cv=>
  obtain⟨c',rfl,bC⟩:=hC pos cv hf
  refine PySem.W.kla_makeFunctionHit cM I.ok.glob ui L.code (L.hd.keeps I.bk) oP hT hf BA fun mT h' tk hk hsz=> ?_
  have nf:H h'.objs.size=none:=I.ak.fresh hsz
  have s1:af H (upd H h'.objs.size (nZ h'.objs.size (X.env.qual++ "<lambda>") params body scope (dN scope X.env) ((X.mg "__name__").getD .none) c' mT)):=fun b o hb=>by rw[Zi (Ze hb nf)];exact hb
  refine⟨.ref h'.objs.size,_,I.laid (t':=tk) (a:=h'.objs.size) (fun b u e=>X7 _ (hk b u e)) hsz (EA (Zaf _ rfl)),rfl,?_⟩
  exact q _ _ (fun b o hb _=>s1 b o hb) nf ⟨ps,s1 _ _ hP,hT,fun p2 zm z=>by obtain⟨c2,e2,h2⟩:=hC p2 zm z;exact⟨c2,e2,s1 _ _ h2⟩⟩ ⟨_,c',mT,Zc,s1 _ _ bC⟩
 |none=>
  refine PySem.W.kla_makeFunction cM I.ok.glob ui L.code (L.hd.keeps I.bk) oP hT hf M7 BA fun c' mT h' tk hx mB ar tN jT=> ?_
  have tE:∀b o,s.heap.get? b=some o->b<c':=fun b o e=>Zar (Zad e) mB
  have Xt:∀b o,H b=some o->b<c':=fun b o e=>Zar (I.ak.lt e) mB
  have nc:H c'=none:=I.ak.fresh mB
  have nf:H h'.objs.size=none:=I.ak.fresh (Zbf mB (ZbD ar))
  have Iz:P≠c':=Ze hP nc
  have Bb:P≠h'.objs.size:=Ze hP nf
  have cnf:c'≠h'.objs.size:=Zan ar
  generalize oC:h'.objs.size=f at nf Bb cnf
  generalize xU:ps++ #[rawInt pos.line,rawInt pos.col,Value.ref c']=lQ at jT
  generalize ye:nZ f (X.env.qual++ "<lambda>") params body scope (dN scope X.env) ((X.mg "__name__").getD .none) c' mT=lo
  have keep:∀b o,b≠P->s.heap.get? b=some o->(h'.push (PySem.W.kla_obj "<lambda>" (X.env.qual++ "<lambda>") params body scope (dN scope X.env) ((X.mg "__name__").getD .none) c' mT)).get? b=some o:=fun b o hb e=>X7 _ (hx b o hb e)
  have cZ:∀b o,H b=some o->b≠P->upd (upd (upd H P (.cz lQ)) c' (hV c' (X.env.qual++ "<lambda>"))) f lo b=some o:=fun b o hb aW=>by
   rw[Zi (Ze hb nf),Zi (Ze hb nc),Zi aW]
   exact hb
  have zx:upd (upd (upd H P (.cz lQ)) c' (hV c' (X.env.qual++ "<lambda>"))) f lo P=some (.cz lQ):=by rw[Zi Bb,Zi Iz,Zc]
  have atC:upd (upd (upd H P (.cz lQ)) c' (hV c' (X.env.qual++ "<lambda>"))) f lo c'=some (hV c' (X.env.qual++ "<lambda>")):=by rw[Zi cnf,Zc]
  have DB:upd (upd (upd H P (.cz lQ)) c' (hV c' (X.env.qual++ "<lambda>"))) f lo f=some lo:=Zc
  have J:Inv X pins σ (upd (upd (upd H P (.cz lQ)) c' (hV c' (X.env.qual++ "<lambda>"))) f lo) {s with heap:=h'.push (PySem.W.kla_obj "<lambda>" (X.env.qual++ "<lambda>") params body scope (dN scope X.env) ((X.mg "__name__").getD .none) c' mT),toks:=tk} :=by
   refine I.un (t':=tk) ⟨fun b o e n _ _=>keep b o (fun z=>by rw[z,hP]at n;cases n) e,fun b o e n _ _=> ⟨o.slots,keep b o (fun z=>by rw[z,hP]at n;cases n) e⟩,fun b o e n _=> ?_,fun b o e _=> ?_,fun b xs e=>cZ b _ e (fun z=>by rw[z,hP]at e;cases e),fun b o u e=>cZ b _ e (fun z=>by rw[z,hP]at e;cases e),fun b qs e=> ?_⟩ ?_
   ·have hl:=tE b o e
    rw[Zi (by rw[<-oC];exact Zan (Nat.lt_trans hl ar)),Zi (Zan hl),Zi (fun z=>by rw[z,hP]at n;cases n)]
    exact n
   ·by_cases hb:b=P
    ·rw[hb];exact⟨_,X7 _ jT⟩
    ·exact⟨o,keep b o hb e⟩
   ·by_cases hb:b=P
    ·rw[hb,hP]at e
     cases e
     exact⟨_,by rw[hb,zx,xU]⟩
    ·exact⟨#[],by rw[cZ b _ e hb];simp⟩
   ·intro b o hb
    by_cases h1:b=f
    ·rw[h1,DB]at hb
     cases hb
     rw[h1,<-ye]
     refine EA ?_
     rw[<-oC]
     exact Zaf _ rfl
    ·by_cases h2:b=c'
     ·rw[h2,atC]at hb
      cases hb
      rw[h2]
      exact Q3 (Jq tN fun o e=>X7 _ e)
     ·by_cases h3:b=P
      ·rw[h3,zx]at hb
       cases hb
       rw[h3]
       exact X7 _ jT
      ·have bY:H b=some o:=by rw[Zi h1,Zi h2,Zi h3]at hb;exact hb
       refine(I.ak b o bY).cg (fun z u hz e=>keep z u ?_ e) (fun z e=> ?_) fun z xs e=> ?_
       ·rcases hz with hz |hz
        ·rw[hz];exact h3
        ·intro eQ;rw[eQ,hP]at hz;cases hz
       ·exact cZ z _ e fun eQ=>by rw[eQ,hP]at e;cases e
       ·exact cZ z _ e fun eQ=>by rw[eQ,hP]at e;cases e
  refine⟨.ref f,_,J,rfl,?_⟩
  refine q f _ (fun b o hb aW=>cZ b o hb aW) nf ⟨lQ,zx,?_,fun p2 zm z=> ?_⟩ ⟨_,c',mT,by rw[DB,<-ye],atC⟩
  ·rw[<-xU,Array.toList_append]
   exact Jb _ hT
  ·rw[<-xU,Array.toList_append]at z
   rcases WN _ hT z with z |z
   ·obtain⟨c2,e2,h2⟩:=hC p2 zm z
    exact⟨c2,e2,cZ _ _ h2 fun eQ=>by rw[eQ,hP]at h2;cases h2⟩
   ·exact⟨c',z,atC⟩
theorem II {X:Cx}{E:XK}(LW:∀e s',wpAny (model X.prog X.w) X.A (leaving X.env e) (fun _ eG=>cf X.prog X.w X.outer X.kA X.bX E e eG) (fun e' eG=>cf X.prog X.w X.outer X.kA X.bX E e' eG) s'->X.xe e s')
  (jU:X.stack=X.env::X.outer) (eT:X.env.frame=some X.env.locals) (hex:X.ex=[]):Passes (cf X.prog X.w) X E:=by
 intro pins σ H1 s1 ev s2 I h
 obtain⟨e,C,H',rfl,F,hE⟩:=h
 obtain⟨B,a0,fl,bU,gA⟩:=F.yX
 have un:=F.un
 rw[jU]at fl bU un
 have ib:Un (aY X.outer) [] X.kA H1 X.bX.heap s1.heap:=by have:=I.base;rw[hex]at this;exact this
 have yV:X.A.frames=some (X.env::X.outer):=by rw[<-jU];exact I.ok.frames
 refine LW _ _ (wpAny_leaves_onW (L:=X.env.locals) yV eT fl fun h' mK up=> ?_)
 refine⟨e,C,H',rfl,⟨F.os.trans I.os,F.bare,We (base:=X.base) (L:=X.env.locals) ib un eT I.ok.above I.ok.dJ I.ok.gM bU fl.1 mK.1 up,YY F.ak gA fl.1 mK.1,B,a0,mK,fun b o hb hn=> ?_,gA⟩,hE⟩
 obtain⟨o1,e1⟩:=ib.there b o hb (by simp)
 refine bU b o1 e1 fun hm=> ?_
 have dH:b∈(X.env::X.outer).filterMap (·.frame):=hm
 rw[ZcK (f:=fun(x:Env)=>x.frame) (a:=X.env) (b:=X.env.locals) eT]at dH
 rcases Zaj.mp dH with q |q
 ·rw[q]at hb
  exact absurd (Zar (Zad hb) I.ok.above) (Zba _)
 ·exact hn q
def oK (P:Program) (w:World) (K:Zgc) (mg:Str->Option Value) (base:Heap) (N:List Str) (q:Str) (scope:Scope) (f:Addr) (cd:Value) (cl:List (Str×Addr)) (A:Around) (outer:List Env) (s:Shared) (H:Hp) (E:XK):Cx where
 prog:=P
 w:=w
 K:=K
 mg:=mg
 base:=base
 A:=A.deeper (PySem.W.envX q scope s.heap.objs.size f cd cl)
 N:=N
 bX:=s
 kA:=H
 env:=PySem.W.envX q scope s.heap.objs.size f cd cl
 outer:=outer
 stack:=PySem.W.envX q scope s.heap.objs.size f cd cl::outer
 ex:=[]
 calm:=true
 fn:=fun _=>false
 pn:=[]
 xe:=fun e s'=>wpAny (model P w) (A.deeper (PySem.W.envX q scope s.heap.objs.size f cd cl)) (leaving (PySem.W.envX q scope s.heap.objs.size f cd cl) e) (fun _ eG=>cf P w outer H s E e eG) (fun e' eG=>cf P w outer H s E e' eG) s'
structure XW (base:Heap) (scope:Scope) (cl:List (Str×Addr)) (x y:Str) (vx vy:V):Prop where
 kx:scope.names.lookup x=some .free
 ky:scope.names.lookup y=some .free
 only:∀z,scope.names.lookup z=some .cell∨scope.names.lookup z=some .free->z=x∨z=y
 ne:x≠y
 cx:∃c u,cl.lookup x=some c/\base.IsCell c (some u)/\RelV vx u
 cy:∃c u,cl.lookup y=some c/\base.IsCell c (some u)/\RelV vy u
 mem:∀z c,cl.lookup z=some c->z=x∨z=y
 inj:∀c,cl.lookup x=some c->cl.lookup y=some c->False
theorem Jn {h b1 b2:Heap} :∀{l:List Env},h.FunFrames b1 l->(∀b∈aY l,b2.get? b=none)->h.FunFrames b2 l
 | [],_,_=>trivial
 |env::r,⟨hk,⟨L,o,hf,_,ho,hd⟩,hr⟩,hn=> ⟨hk,⟨L,o,hf,hn L (Zbn.mpr ⟨env,.head _,hf⟩),ho,hd⟩,Jn hr fun b hb=>hn b (by
  obtain⟨e,he,q⟩:=Zbn.mp hb
  exact Zbn.mpr ⟨e,.tail _ he,q⟩)⟩
theorem Inv.rebase {X:Cx}{pins:List (Addr×Obj)}{σ:St}{H:Hp}{s:Shared}(I:Inv X pins σ H s):
  ∃fO,X.base.StaysIn fO/\rm X.prog X.w X.K X.mg fO X.A X.stack s H/\∀b o,s.heap.get? b=some o->H b=none->b∉aY X.stack->fO.get? b=some o:=by
 have bU:∀b o,s.heap.get? b=some o->H b=none->b∉aY X.stack->(PySem.W.hideAll (hG s.heap H) (aY X.stack)).get? b=some o:=fun b o e n hf=>PySem.W.hideAll_get _ (FH e n) hf
 have st:X.base.StaysIn (PySem.W.hideAll (hG s.heap H) (aY X.stack)):=fun b o e=>bU b o (I.bs b o e).1 (I.bs b o e).2 fun hm=>by
  have:=(I.stack.mem hm).1
  rw[e]at this
  cases this
 refine⟨_,st,⟨I.ok.frames,⟨I.mod.kU.keeps st,I.mod.glob.keeps st,?_,I.mod.nolimit.keeps st⟩,fun b o e=>EE (PySem.W.of_hideAll _ e),?_,Jn I.stack fun b hb=>PySem.W.hideAll_none _ hb,I.ph,I.ak,I.bare⟩,bU⟩
 ·obtain⟨mb,h1,h2⟩:=I.mod.blt
  exact⟨mb,h1.keeps st,h2⟩
 ·rw[PySem.W.hideAll_size,Up]
  exact Zal _
def Pe:Const->Option V
 | .int n=>some (.int n)
 | .bool b=>some (.bl b)
 | .str x=>some (.str x)
 | .none=>some .ah
 |_=>none
def vN:Expr->Option V
 | .Constant c _ _=>Pe c
 | .UnaryOp .USub (.Constant (.int n) _ _) _=>some (.int (-n))
 | .BinOp (.Constant (.int a) _ _) .Pow (.Constant (.int b) _ _) _=>if 0<=b/\b<=1000000/\a.natAbs<2^64 then some (.int (a^b.toNat)) else none
 |_=>none
def vJ:List Expr->Option (List V)
 | []=>some []
 |e::r=>match vN e,vJ r with
  |some v,some vs=>some (v::vs)
  |_,_=>none
inductive Lit where
 |sc (v:V)
 |tup (xs:List V)
 |lst (xs:List V)
 |qP
section
variable {X:Cx}
theorem Qd {e:Expr}{v:V}(h:vN e=some v):PE X e (tC v)/\(∀es,starEach (e::es) X.env=(false,eval e X.env)::starEach es X.env)/\∀a:Addr,v≠.ref a:=by
 unfold vN at h
 split at h
 ·rename_i c j p
  cases c with
  |int n=>cases h;exact⟨Zg,fun _=>rfl,fun a z=>by cases z⟩
  |bool b=>cases h;exact⟨Wl,fun _=>rfl,fun a z=>by cases z⟩
  |str x=>cases h;exact⟨Jw,fun _=>rfl,fun a z=>by cases z⟩
  |none=>cases h;exact⟨Jx,fun _=>rfl,fun a z=>by cases z⟩
  |_=>cases h
 ·cases h
  refine⟨fun pins s σ H Q I q=>DU Er Zg pins s σ H Q I ⟨_,rfl,q⟩,fun _=>rfl,fun a z=>by cases z⟩
 ·split at h
  ·rename_i hc
   cases h
   refine⟨fun pins s σ H Q I q=>Zn Wo Zg Zg pins s σ H Q I ⟨_,_,rfl,rfl,hc,q⟩,fun _=>rfl,fun a z=>by cases z⟩
  ·cases h
 ·cases h
theorem zJ:∀{es:List Expr}{vs:List V},vJ es=some vs->PA X es (fun _ H Q=>Q vs H)
 | [],vs,h=>by cases h;exact Zb
 |e::r,vs,h=>by
  unfold vJ at h
  split at h
  ·rename_i v ws h1 h2
   cases h
   obtain⟨p1,p2,_⟩:=Qd (X:=X) h1
   exact fun pos pins s σ H Q I q=>Za p1 (zJ h2) (p2 r) pos pins s σ H Q I q
  ·cases h
end
theorem W0 (n l1 l2:Nat) (h1:l1<n) (h2:l2<n):ZipApart (n+4) (n+2) (n+3) n (n+1) l1 l2:=by
 constructor<;>intro z<;>refine absurd (show @Eq Nat _ _ from z) ?_<;>omega
end L2
namespace L2
open PySem PySem.Spec PyProof.Rows SeqAt
theorem ZV {α β:Type}{F:α->β->Prop} :∀{kS:List α}{kQ:List β}{i:Nat}{x:α},Paired F kS kQ->kS[i]? =some x->∃y,kQ[i]? =some y/\F x y
 |_,_,_,_,.nil,h=>by simp at h
 |_,_,0,_,.cons r _,h=>by simp at h;subst h;exact⟨_,rfl,r⟩
 |_,_,i+1,_,.cons _ t,h=>by
  obtain⟨y,e,q⟩:=ZV t (i:=i) (by simpa using h)
  exact⟨y,by simpa using e,q⟩
section
variable {X:Cx}
theorem UZ {a b:String} :fc X (.builtin "isinstance") (fun xs H Q=> ∃(x:V) (t:Addr) (T:Value) (r:Bool),xs=[x,.ref t]/\ag X.K H t [.ty a,.ty b]/\((∃i,x=.int i/\T=.type "int")∨∃l ys,x=.ref l/\H l=some (.lst ys)/\T=.type "list")/\
  PySem.W.kitAny X.K T [.type a,.type b]=some r/\Q (.bl r) H):=by
 intro pins s σ H xs us Q I rv h
 obtain⟨x,t,T,r,rfl,hq,hx,hk,q⟩:=h
 obtain⟨u,v,rfl,ru,rv⟩:=vals2 rv
 cases rv
 obtain⟨aa,rt,pl,hz⟩:=I.tuple hq
 cases rt with
 |cons r1 r2=>
  cases r2 with
  |cons r3 r4=>
   cases r4
   cases r1
   cases r3
   obtain⟨o,ho,hc,n,hd⟩:=id pl
   obtain⟨cls,dd,dt,sl⟩:=o
   replace hc:cls=.type "tuple" :=hc
   replace hd:dt=.seq [Value.type a,Value.type b].toArray n:=hd
   subst hc hd
   rcases hx with ⟨i,rfl,rfl⟩ |⟨l,ys,rfl,hl,rfl⟩
   ·obtain⟨tk,rfl⟩:=ru
    exact Zdc PySem.W.kitx_int I.bN True.intro ho hk (fun z=>nomatch z) fun tk=> ⟨.bl r,H,I.tok _,rfl,q⟩
   ·cases ru
    obtain⟨_,_,n,_,h1⟩:=(show bt X.prog X.w H s.heap l (.lst ys) from I.ak l _ hl)
    exact Zdc PySem.W.kitx_list I.bN ⟨_,h1,rfl⟩ ho hk (fun z=>nomatch z) fun tk=> ⟨.bl r,H,I.tok _,rfl,q⟩
theorem Uo {ns:List Int}{us:List Value}(r:Vals (ns.map V.int) us) (j:Nat) (h:j<us.length):∃t,us[j]=.int (ns.getD j 0) t:=by
 have hl:=r.length
 rw[Zac]at hl
 have hj:j<ns.length:=.o
 obtain⟨u,hu,t,ru⟩:=r.get (i:=j) (x:=.int ns[j]) (by rw[ZaH,Zai hj];rfl)
 rw[Zai h]at hu
 cases hu
 exact⟨t,by rw[ru];simp[hj]⟩
theorem Ux {x:V} :∀{xs:List V}{us:List Value},Vals xs us->xs.all eV=true->us.countP (dM x)=xs.countP fun y=>dX y x
 |_,_,.nil,_=>rfl
 |y::xs,u::us,.cons r t,f=>by
  rw[List.all_cons,Zaw]at f
  rw[List.countP_cons,List.countP_cons,UV r f.1,Ux t f.2]
def Il (K:Zgc):V->List V->Hp->VK->Prop:=fun v vs H Q=> ∃(a:Addr) (xs:List V) (x:V),v=.ref a/\vs=[x]/\ai K H a xs/\eV x=true/\xs.all eV=true/\Q (.int ((xs.countP fun y=>dX y x:Nat):Int)) H
theorem EC {aa:List Value}{h:Heap}{a:Addr}(pl:h.IsList a aa.toArray):∃dd n sl,h.get? a=some {cls:=.type "list",dict:=dd,data:=.seq aa.toArray n,slots:=sl} :=by
 obtain⟨o,ho,hc,n,hd⟩:=pl
 obtain⟨cls,dd,dt,sl⟩:=o
 replace hc:cls=.type "list" :=hc
 replace hd:dt=.seq aa.toArray n:=hd
 subst hc hd
 exact⟨_,_,_,ho⟩
theorem R6:zT X "list.count" (Il X.K):=by
 intro pins s σ H v vs u us Q I rv wV h
 obtain⟨a,xs,x,rfl,rfl,hq,fx,fs,q⟩:=h
 cases rv
 obtain⟨ux,rfl,rx⟩:=ZeN wV
 obtain⟨aa,r,pl,hz⟩:=I.list hq
 obtain⟨dd,n,sl,ho⟩:=EC pl.isList
 refine ZcZ F.slot_list_count ⟨_,ho,rfl⟩ F.entry_list_count (F.args_list_count_2 _ _) (list_countAt a aa.toArray n dd sl ux (dM x)) ⟨ho,fun y hy=>Yl rx fx r fs y (by simpa using hy),?_⟩
 exact⟨.int _,H,I.tok _,⟨_,by rw[show aa.toArray.toList=aa by simp,Ux r fs]⟩,q⟩
def Ik (K:Zgc):V->List V->Hp->VK->Prop:=fun v vs H Q=> ∃(a:Addr) (xs:List V) (x:V) (j:Nat),v=.ref a/\vs=[x]/\ai K H a xs/\eV x=true/\xs.all eV=true/\(∃y,xs[j]? =some y/\dX y x=true)/\(∀m y,m<j->xs[m]? =some y->dX y x=false)/\Q (.int (j:Int)) H
theorem Sq:zT X "list.index" (Ik X.K):=by
 intro pins s σ H v vs u us Q I rv wV h
 obtain⟨a,xs,x,j,rfl,rfl,hq,fx,fs,⟨y,hy,ey⟩,yb,q⟩:=h
 cases rv
 obtain⟨ux,rfl,rx⟩:=ZeN wV
 obtain⟨aa,r,pl,hz⟩:=I.list hq
 obtain⟨dd,n,sl,ho⟩:=EC pl.isList
 have hlen:=r.length
 have DE:∀k z (hk:k<aa.length),xs[k]? =some z->dM x aa[k]=dX z x:=fun k z hk f9=>by
  obtain⟨w,hw,fA⟩:=r.get f9
  rw[Zai hk]at hw
  cases hw
  exact UV fA (ZaF.mp fs z (Zap f9))
 have hj:j<aa.length:=by have:=(X8.mp hy).1;omega
 refine ZcZ F.slot_list_index ⟨_,ho,rfl⟩ F.entry_list_index (F.args_list_index_2 _ _)
  (list_indexAt a aa.toArray n dd sl ux (dM x) j (by simpa using hj) (by rw[Zau]at hz;omega) (by simpa[ey] using DE j y hj hy) (fun m hm ML=> ?_)) ⟨ho,fun y hy=>Yl rx fx r fs y (by simpa using hy),?_⟩
 ·have dH:m<aa.length:=by simpa using hm
  have hx:m<xs.length:=.o
  have e:=DE m _ dH (Zai hx)
  rw[yb m _ ML (Zai hx)]at e
  simpa using e
 ·exact⟨.int (j:Int),H,I.tok _,⟨_,rfl⟩,q⟩
def G2 (ta tb tc td te:TE):TE:=fun σ H Q=>ta σ H fun v1 H1=> ∃x1,v1=.str x1/\(Str.empty++x1).length<=sizeLine/\tb σ H1 fun v2 H2=> ∃n:Int,v2=.int n/\n.natAbs.log2<1920/\(Str.empty++x1++(Str.ofString (toString n))).length<=sizeLine/\
 tc σ H2 fun v3 H3=> ∃x3,v3=.str x3/\(Str.empty++x1++(Str.ofString (toString n))++x3).length<=sizeLine/\td σ H3 fun v4 H4=> ∃m:Int,v4=.int m/\m.natAbs.log2<1920/\(Str.empty++x1++(Str.ofString (toString n))++x3++(Str.ofString (toString m))).length<=sizeLine/\
 te σ H4 fun v5 H5=> ∃x5,v5=.str x5/\(Str.empty++x1++(Str.ofString (toString n))++x3++(Str.ofString (toString m))++x5).length<=sizeLine/\∀z,Q (.str z) H5
theorem RF {a b c d e:Expr}{ta tb tc td te:TE}{p p' pos:Pos}(ha:PE X a ta) (hb:PE X b tb) (hc:PE X c tc) (hd:PE X d td) (he:PE X e te):PE X (.JoinedStr [a,.FormattedValue b (-1) none p,c,.FormattedValue d (-1) none p',e] pos) (G2 ta tb tc td te):=by
 intro pins s σ H Q I h
 refine JoinedStr_many (ZdU (ZaL (ha pins s σ H _ I h) (fun u s1 h1=> ?_) fun _ _ y=>y))
 obtain⟨v,H1,I1,r1,x,rfl,hz,h2⟩:=h1
 obtain⟨t,rfl⟩:=r1
 refine⟨hz,ZdU (FormattedValue_plain (ZaL (hb pins s1 σ H1 _ I1 h2) (fun u s2 h3=> ?_) fun _ _ y=>y))⟩
 obtain⟨v,H2,I2,r2,n,rfl,hn,eQ,h4⟩:=h3
 obtain⟨t2,rfl⟩:=r2
 refine formatField_int_small hn ⟨eQ,?_⟩
 have XZ:=I2.tok (s2.toks+1)
 refine ZdU (ZaL (hc pins _ σ H2 _ (I2.tok _) h4) (fun u s3 h5=> ?_) fun _ _ y=>y)
 obtain⟨v,H3,I3,r3,x3,rfl,LU,h6⟩:=h5
 obtain⟨t3,rfl⟩:=r3
 refine⟨LU,ZdU (FormattedValue_plain (ZaL (hd pins s3 σ H3 _ I3 h6) (fun u s4 h7=> ?_) fun _ _ y=>y))⟩
 obtain⟨v,H4,I4,r4,m,rfl,hm,LR,h8⟩:=h7
 obtain⟨t4,rfl⟩:=r4
 refine formatField_int_small hm ⟨LR,?_⟩
 refine ZdU (ZaL (he pins _ σ H4 _ (I4.tok _) h8) (fun u s5 h9=> ?_) fun _ _ y=>y)
 obtain⟨v,H5,I5,r5,x5,rfl,BL,q⟩:=h9
 obtain⟨t5,rfl⟩:=r5
 refine⟨BL,joinParts_nil ?_ BL⟩
 exact⟨.str _,H5,I5.tok _,⟨_,rfl⟩,q _⟩
end
end L2
namespace L2
open PySem PySem.Spec PyProof.Rows
structure One (base:Heap) (scope:Scope) (cl:List (Str×Addr)) (x:Str) (vx:V):Prop where
 kx:scope.names.lookup x=some .free
 only:∀z,scope.names.lookup z=some .cell∨scope.names.lookup z=some .free->z=x
 cx:∃c u,cl.lookup x=some c/\base.IsCell c (some u)/\RelV vx u
 mem:∀z c,cl.lookup z=some c->z=x
structure Src (prog:Program) (w:World) (i l:Addr) (n:Nat) (f:Nat->Value) (S:Nat->Heap->Prop):Prop where
 here:∀k h,S k h->∃o,h.get? i=some o
 cg:∀k h h',S k h->(∀c,c=i∨c=l->∀o,h.get? c=some o->h'.get? c=some o)->S k h'
 item:∀(A:Around) k (s:Shared) (Q:Value->Shared->Prop) (E:Value->Shared->Prop),k<n->S k s.heap->(∀h',S (k+1) h'->Heap.SameBut i s.heap h'->Q (f k) {s with heap:=h'})->wpAny (model prog w) A (Builtin.SmallTypes.nextOf (.ref i)) Q E s
 stop:∀(A:Around) (s:Shared) (Q:Value->Shared->Prop) (E:Value->Shared->Prop),A.handled=none->S n s.heap->(∀h' e,Heap.ExtBut i s.heap h'->(∃o,h'.get? e=some o/\o.cls=.type "StopIteration")->E (.ref e) {s with heap:=h'})->wpAny (model prog w) A (Builtin.SmallTypes.nextOf (.ref i)) Q E s
theorem YT (prog:Program) (w:World) {i l:Addr}(aa:Array Value) (aW:l≠i):Src prog w i l aa.size (fun k=>aa.getD k .none) (fun k h=>IsTupIter h i l k/\IsTup h l aa) where
 here:=fun k h ⟨⟨o,ho,_⟩,_⟩=> ⟨o,ho⟩
 cg:=fun k h h' ⟨⟨o,ho,r⟩,⟨u,hu,r'⟩⟩ st=> ⟨⟨o,st i (.inl rfl) o ho,r⟩,⟨u,st l (.inr rfl) u hu,r'⟩⟩
 item:=fun A k s Q E hk ⟨hi,ht⟩ q=>by
  obtain⟨oi,gi,ci,di⟩:=id hi
  obtain⟨ot,gt,ct,nt,dt⟩:=id ht
  have hx:aa[k]? =some (aa.getD k .none):=by simp[hk]
  unfold Builtin.SmallTypes.nextOf
  refine eg (Za8 (name:=Str.ofString "__next__") hi.typeIs Zdo (ZaY Zdo hi.typeIs entry_tupleiter_next ?_ (args_tupleiter_next _)))
  refine(show wpAny _ _ (field (.ref i) 0 >>=_) _ _ s from eg (ZbA gi di (x:=.ref l) rfl ?_))
  refine(show wpAny _ _ (if (Value.ref l==Value.none)=true then _ else _) _ _ s from ?_)
  rw[Zav (by exact Zag)]
  refine(show wpAny _ _ (field (.ref i) 1 >>=_) _ _ s from eg (ZbA gi di (x:=.int k 0) rfl ?_))
  refine(show wpAny _ _ (seqItems? (.ref l) >>=_) _ _ s from eg (ZaS gt dt ?_))
  simp only[Za7,hx]
  refine eg (Zcj gi di (by simp) (X6 ⟨_,rfl,X6 (q _ ⟨⟨_,Zbq _ gi (ZcB (ZbB di _)),(PySem.Obj.cls_mapFields ..).trans ci,?_⟩,?_⟩ (ZaT ..))⟩))
  ·rw[ZbB di];simp[rawInt]
  ·exact⟨ot,(ZaT ..).extBut _ _ aW gt,ct,nt,dt⟩
 stop:=fun A s Q E hh ⟨hi,ht⟩ q=>by
  obtain⟨oi,gi,ci,di⟩:=id hi
  obtain⟨ot,gt,ct,nt,dt⟩:=id ht
  have hx:aa[aa.size]? =none:=by simp
  unfold Builtin.SmallTypes.nextOf
  refine eg (Za8 (name:=Str.ofString "__next__") hi.typeIs Zdo (ZaY Zdo hi.typeIs entry_tupleiter_next ?_ (args_tupleiter_next _)))
  refine(show wpAny _ _ (field (.ref i) 0 >>=_) _ _ s from eg (ZbA gi di (x:=.ref l) rfl ?_))
  refine(show wpAny _ _ (if (Value.ref l==Value.none)=true then _ else _) _ _ s from ?_)
  rw[Zav (by exact Zag)]
  refine(show wpAny _ _ (field (.ref i) 1 >>=_) _ _ s from eg (ZbA gi di (x:=.int aa.size 0) rfl ?_))
  refine(show wpAny _ _ (seqItems? (.ref l) >>=_) _ _ s from eg (ZaS gt dt ?_))
  simp only[Za7,hx]
  refine eg (Zck (eg (Zcj gi di (by simp) ?_)))
  refine(show wpAny _ _ (newExc (.type "StopIteration") [] >>=_) _ _ _ from eg ?_)
  simp only[newExc,newTuple]
  refine eg (ZaX ?_ (by size_fits))
  refine eg (m:=firstArgMember _ _) (Zdm (a:=Value.none) (by first |rfl |(simp only[firstArgMember];rfl)) ?_)
  refine ZaX ?_ (by size_fits)
  simp only[raiseNew]
  refine eg (PySem.wpAny_handled ?_)
  first |rw[show A.in1.handled=none from hh] |rw[hh]
  refine eg (X6 (PySem.wpAny_throw ?_))
  exact q _ _ (((ZaT ..).extBut.push _).push _) ⟨_,Zaf _ rfl,rfl⟩
section
variable {prog:Program}{w:World}{A:Around}{E:Value->Shared->Prop}{s:Shared}{z TI TO i1 i2 l1 l2:Addr}{n k:Nat}{f g:Nat->Value}{S1 S2:Nat->Heap->Prop}
theorem QY {a b:Value}{Q:Value->Shared->Prop}(U1:Src prog w i1 l1 n f S1) (U2:Src prog w i2 l2 n g S2) (D:ZipApart z TI TO i1 i2 l1 l2) (hk:k<n) (hz:IsZip s.heap z TI TO .none) (hI:IsPair s.heap TI (.ref i1) (.ref i2)) (hO:IsPair s.heap TO a b) (h1:S1 k s.heap) (h2:S2 k s.heap)
    (q:∀h',IsZip h' z TI TO (rawInt s.heap.objs.size)->IsPair h' TO (f k) (g k)->S1 (k+1) h'->S2 (k+1) h'->IsPair h' s.heap.objs.size (f k) (g k)->h'.objs.size=s.heap.objs.size+1->
      (∀c o,c≠z->c≠TO->c≠i1->c≠i2->s.heap.get? c=some o->h'.get? c=some o)->Q (.ref s.heap.objs.size) {s with heap:=h'}):
    wpAny (model prog w) A (Builtin.«zip.__next__» ⟨[.ref z],[]⟩) (fun fin s'=> ∃v,fin=.done (.ret v)/\Q v s') E s:=by
  refine(show wpAny _ _ (field (.ref z) 2 >>=_) _ _ _ from eg (ZbA hz rfl (x:=.bool false) rfl ?_))
  refine(show wpAny _ _ (field (.ref z) 3 >>=_) _ _ _ from eg (ZbA hz rfl (x:=.ref TI) rfl (eg (ZaS hI rfl ?_))))
  refine(show wpAny _ _ (Builtin.SmallTypes.ownedTupleIsFree (.ref z) >>=_) _ _ _ from eg ?_)
  unfold Builtin.SmallTypes.ownedTupleIsFree
  refine eg (ZbA hz rfl (x:=.none) rfl (X6 ?_))
  simp only[Zch]
  refine eg (Zck (eg (ZbA hz rfl (x:=.ref TO) rfl (eg (Zc4 hz (by simp) fun m1 lJ e1=> ?_)))))
  replace lJ:IsZip m1 z TI TO .ellipsis:=lJ
  have b1:=e1.extBut
  refine eg ?_
  simp only[List.zipIdx_cons,List.zipIdx_nil,List.forIn_cons,List.forIn_nil]
  refine eg (eg (PySem.wpAny_onRaise ?_))
  have cG:S1 k m1:=U1.cg _ _ _ h1 fun c hc o ho=>by rcases hc with rfl |rfl<;>first |exact b1 _ _ D.i1z ho |exact b1 _ _ D.l1z ho
  refine(show wpAny _ _ (Builtin.SmallTypes.nextOf (.ref i1) >>=_) _ _ _ from eg (U1.item _ k _ _ _ hk cG fun m2 cA e2=>X6 ?_))
  have b2:=e2.extBut
  have o2:IsPair m2 TO a b:=b2 _ _ D.TOi1 (b1 _ _ D.TOz hO)
  refine eg (ZaS o2 rfl (eg (wpAny_updateSeq_pair o2 fun m3 o3 e3=> ?_)))
  replace o3:IsPair m3 TO (f k) b:=o3
  have b3:=e3.extBut
  refine eg (ZcP (X6 (eg (eg (PySem.wpAny_onRaise ?_)))))
  have w3:S2 k m3:=U2.cg _ _ _ h2 fun c hc o ho=>by
    rcases hc with rfl |rfl
    · exact b3 _ _ D.TOi2.symm (b2 _ _ D.i12.symm (b1 _ _ D.i2z ho))
    · exact b3 _ _ D.l2TO (b2 _ _ D.l2i1 (b1 _ _ D.l2z ho))
  refine(show wpAny _ _ (Builtin.SmallTypes.nextOf (.ref i2) >>=_) _ _ _ from eg (U2.item _ k _ _ _ hk w3 fun m4 w4 e4=>X6 ?_))
  have b4:=e4.extBut
  have o4:IsPair m4 TO (f k) b:=b4 _ _ D.TOi2 o3
  refine eg (ZaS o4 rfl (eg (wpAny_updateSeq_pair o4 fun m5 o5 e5=> ?_)))
  replace o5:IsPair m5 TO (f k) (g k):=o5
  have b5:=e5.extBut
  refine eg (ZcP (X6 (X6 (eg (ZaS o5 rfl (eg (wpAny_newTuple ?_)))))))
  have sz:m5.objs.size=s.heap.objs.size:=by rw[e5.1,e4.1,e3.1,e2.1,e1.1]
  have z5:IsZip m5 z TI TO .ellipsis:=b5 _ _ D.TOz.symm (b4 _ _ D.i2z.symm (b3 _ _ D.TOz.symm (b2 _ _ D.i1z.symm lJ)))
  have kp:∀c o,c≠z->c≠TO->c≠i1->c≠i2->s.heap.get? c=some o->m5.get? c=some o:=fun c o c1 c2 c3 c4 e=>b5 _ _ c2 (b4 _ _ c4 (b3 _ _ c2 (b2 _ _ c3 (b1 _ _ c1 e))))
  have gD:S1 (k+1) m5:=U1.cg _ _ _ cA fun c hc o ho=>by
    rcases hc with rfl |rfl
    · exact b5 _ _ D.TOi1.symm (b4 _ _ D.i12 (b3 _ _ D.TOi1.symm ho))
    · exact b5 _ _ D.l1TO (b4 _ _ D.l1i2 (b3 _ _ D.l1TO ho))
  have w5:S2 (k+1) m5:=U2.cg _ _ _ w4 fun c hc o ho=>by rcases hc with rfl |rfl<;>first |exact b5 _ _ D.TOi2.symm ho |exact b5 _ _ D.l2TO ho
  have As:z<m5.objs.size:=Zad z5
  refine(show wpAny _ _ (Builtin.SmallTypes.ownedTupleHandOut (.ref z) (.ref m5.objs.size) >>=_) _ _ _ from eg ?_)
  unfold Builtin.SmallTypes.ownedTupleHandOut
  have z6:IsZip (m5.push {cls:=.type "tuple",data:=.seq #[f k,g k]}) z TI TO .ellipsis:=X7 _ z5
  refine eg (Zc4 z6 (by simp) fun m7 z7 e7=> ?_)
  replace z7:IsZip m7 z TI TO (rawInt m5.objs.size):=z7
  refine Zc4 z7 (by simp) fun m8 z8 e8=> ?_
  replace z8:IsZip m8 z TI TO (rawInt m5.objs.size):=z8
  have up:∀c o,c≠z->m5.get? c=some o->m8.get? c=some o:=fun c o c1 e=>e8.extBut _ _ c1 (e7.extBut _ _ c1 (X7 _ e))
  have t8:IsPair m8 m5.objs.size (f k) (g k):=e8.extBut _ _ (ZbZ As) (e7.extBut _ _ (ZbZ As) (Zaf _ rfl))
  have s8:m8.objs.size=m5.objs.size+1:=by rw[e8.1,e7.1,Zbh]
  rw[sz]at z8 t8 s8
  refine X6 ⟨_,rfl,?_⟩
  show Q (.ref m5.objs.size) _
  rw[sz]
  refine q m8 z8 (up _ _ D.TOz o5) (U1.cg _ _ _ gD fun c hc o ho=> ?_) (U2.cg _ _ _ w5 fun c hc o ho=> ?_) t8 s8 fun c o c1 c2 c3 c4 e=>up c o c1 (kp c o c1 c2 c3 c4 e)
  · rcases hc with rfl |rfl<;>first |exact up _ _ D.i1z ho |exact up _ _ D.l1z ho
  · rcases hc with rfl |rfl<;>first |exact up _ _ D.i2z ho |exact up _ _ D.l2z ho
theorem P6 {a b:Value}{Q:PySem.Fin->Shared->Prop}(hh:A.handled=none) (U1:Src prog w i1 l1 n f S1) (D:ZipApart z TI TO i1 i2 l1 l2) (hz:IsZip s.heap z TI TO .none) (hI:IsPair s.heap TI (.ref i1) (.ref i2)) (hO:IsPair s.heap TO a b) (h1:S1 n s.heap)
  (q:∀h' e,(∀c o,c≠z->c≠TO->c≠i1->c≠i2->s.heap.get? c=some o->h'.get? c=some o)->(∃o,h'.get? e=some o/\o.cls=.type "StopIteration")->E (.ref e) {s with heap:=h'}):
  wpAny (model prog w) A (Builtin.«zip.__next__» ⟨[.ref z],[]⟩) Q E s:=by
 refine(show wpAny _ _ (field (.ref z) 2 >>=_) _ _ _ from eg (ZbA hz rfl (x:=.bool false) rfl ?_))
 refine(show wpAny _ _ (field (.ref z) 3 >>=_) _ _ _ from eg (ZbA hz rfl (x:=.ref TI) rfl (eg (ZaS hI rfl ?_))))
 refine(show wpAny _ _ (Builtin.SmallTypes.ownedTupleIsFree (.ref z) >>=_) _ _ _ from eg ?_)
 unfold Builtin.SmallTypes.ownedTupleIsFree
 refine eg (ZbA hz rfl (x:=.none) rfl (X6 ?_))
 simp only[Zch]
 refine eg (Zck (eg (ZbA hz rfl (x:=.ref TO) rfl (eg (Zc4 hz (by simp) fun m1 lJ e1=> ?_)))))
 replace lJ:IsZip m1 z TI TO .ellipsis:=lJ
 have b1:=e1.extBut
 refine eg ?_
 simp only[List.zipIdx_cons,List.zipIdx_nil,List.forIn_cons,List.forIn_nil]
 refine eg (eg (PySem.wpAny_onRaise ?_))
 have cG:S1 n m1:=U1.cg _ _ _ h1 fun c hc o ho=>by rcases hc with rfl |rfl<;>first |exact b1 _ _ D.i1z ho |exact b1 _ _ D.l1z ho
 refine(show wpAny _ _ (Builtin.SmallTypes.nextOf (.ref i1) >>=_) _ _ _ from eg (U1.stop _ _ _ _ hh cG fun m2 e e2 he=> ?_))
 obtain⟨oe,ge,ce⟩:=he
 have z2:IsZip m2 z TI TO .ellipsis:=e2 _ _ D.i1z.symm lJ
 have KH:e≠z:=fun y=>by subst y;rw[z2]at ge;cases ge;simp at ce
 refine Zc4 z2 (by simp) fun m3 _ e3=>q m3 e (fun c o c1 _ c3 _ x=>e3.extBut _ _ c1 (e2 _ _ c3 (b1 _ _ c1 x))) ⟨oe,e3.extBut _ _ KH ge,ce⟩
end
section
variable {prog:Program}{w:World}{A:Around}{z TI TO i1 i2 l1 l2:Addr}{n:Nat}{f g:Nat->Value}{S1 S2:Nat->Heap->Prop}
theorem U4 (hh:A.handled=none) (U1:Src prog w i1 l1 n f S1) (U2:Src prog w i2 l2 n g S2) (D:ZipApart z TI TO i1 i2 l1 l2):
  WalksT prog w A z [z,TI,TO,i1,i2,l1,l2] [z,TO,i1,i2] n (fun k vals=>vals= #[f k,g k])
   (fun k h=>IsZip h z TI TO .none/\IsPair h TI (.ref i1) (.ref i2)/\(∃a b,IsPair h TO a b)/\S1 k h/\S2 k h)
   (fun k T h=>IsZip h z TI TO (rawInt T)/\IsPair h TI (.ref i1) (.ref i2)/\(∃a b,IsPair h TO a b)/\S1 (k+1) h/\S2 (k+1) h/\T∉[z,TO,i1,i2]) where
 sub:=fun c hc=>by
  simp only[Zaj,Za5,Zb4]at hc |-
  rcases hc with rfl |rfl |rfl |rfl<;>simp
 frame:=fun k h h' ⟨a1,a2,⟨a,b,a3⟩,a4,a5⟩ kp=> ⟨kp z (by simp) _ a1,kp TI (by simp) _ a2,⟨a,b,kp TO (by simp) _ a3⟩,U1.cg _ _ _ a4 fun c hc o=>kp c (by rcases hc with rfl |rfl<;>simp) o,U2.cg _ _ _ a5 fun c hc o=>kp c (by rcases hc with rfl |rfl<;>simp) o⟩
 item:=fun k s Q E hk ⟨a1,a2,⟨a,b,a3⟩,a4,a5⟩ q=>by
  have ty:s.TypeIs (.ref z) "zip" :=⟨_,a1,rfl⟩
  have ne:∀{c o},s.heap.get? c=some o->s.heap.objs.size≠c:=fun e=>ZbZ (Zad e)
  obtain⟨o1,g1⟩:=U1.here _ _ a4
  obtain⟨o2,g2⟩:=U2.here _ _ a5
  unfold pyNext
  refine eg (ZcC (Za8 (name:=Str.ofString "__next__") ty PySem.F.slot_zip_next (ZaY PySem.F.slot_zip_next ty F.entry_zip_next (QY U1 U2 D hk a1 a2 a3 a4 a5 fun h' c1 c2 c3 c4 c5 c6 c7=>X6 ?_) (F.args_zip_next_1 _))))
  refine q s.heap.objs.size #[f k,g k] h' s.toks rfl (Zal _) ⟨_,c5,rfl,_,rfl⟩ ⟨c1,c7 _ _ D.TIz D.TITO D.TIi1 D.TIi2 a2,⟨_,_,c2⟩,c3,c4,fun m=> ?_⟩ fun c o hc e=>c7 c o (fun x=>hc (by simp[x])) (fun x=>hc (by simp[x])) (fun x=>hc (by simp[x])) (fun x=>hc (by simp[x])) e
  simp only[Zaj,Za5,Zb4]at m
  rcases m with m |m |m |m
  ·exact ne a1 m
  ·exact ne a3 m
  ·exact ne g1 m
  ·exact ne g2 m
 go:=fun elts kk pos k T s Q E ⟨a1,a2,⟨a,b,a3⟩,a4,a5,_⟩ q=>wpAny_letOwnedTupleGo_zip a1 fun h' z' s'=>by
  have ex:=s'.extBut
  refine q h' ⟨z',ex _ _ D.TIz a2,⟨a,b,ex _ _ D.TOz a3⟩,U1.cg _ _ _ a4 fun c hc o ho=> ?_,U2.cg _ _ _ a5 fun c hc o ho=> ?_⟩ fun c o hc e=>ex _ _ (fun x=>hc (by simp[x])) e
  ·rcases hc with rfl |rfl<;>first |exact ex _ _ D.i1z ho |exact ex _ _ D.l1z ho
  ·rcases hc with rfl |rfl<;>first |exact ex _ _ D.i2z ho |exact ex _ _ D.l2z ho
 apart:=fun k T h ⟨_,_,_,_,_,t⟩=>t
 done:=fun s Q E ⟨a1,a2,⟨a,b,a3⟩,a4,a5⟩ q=>by
  have ty:s.TypeIs (.ref z) "zip" :=⟨_,a1,rfl⟩
  unfold pyNext
  refine eg (ZcC (Za8 (name:=Str.ofString "__next__") ty PySem.F.slot_zip_next (ZaY PySem.F.slot_zip_next ty F.entry_zip_next (P6 hh U1 D a1 a2 a3 a4 fun h' e kp he=> ?_) (F.args_zip_next_1 _))))
  obtain⟨o,ho,hc⟩:=he
  refine eg (Zcy (T:= "StopIteration") (b:=true) ⟨o,ho,hc⟩ PySem.isSubtype_stop (X6 (q _ s.toks fun c o hc e=> ?_)))
  exact kp c o (fun x=>hc (by simp[x])) (fun x=>hc (by simp[x])) (fun x=>hc (by simp[x])) (fun x=>hc (by simp[x])) e
 self:=fun k s Q E st q=>Zdj st.1 q
end
abbrev rF (h:Heap) (l1:Addr):Heap:=h.push {cls:=.type "tuple_iterator",data:=.fields #[.ref l1,.int 0 0]}
abbrev rE (h:Heap) (l1 l2:Addr):Heap:=(rF h l1).push {cls:=.type "tuple_iterator",data:=.fields #[.ref l2,.int 0 0]}
abbrev rD (h:Heap) (l1 l2:Addr):Heap:=(rE h l1 l2).push {cls:=.type "tuple",data:=.seq #[.ref h.objs.size,.ref (rF h l1).objs.size]}
abbrev rC (h:Heap) (l1 l2:Addr):Heap:=(rD h l1 l2).push {cls:=.type "tuple",data:=.seq #[.none,.none]}
abbrev nz (h:Heap) (l1 l2:Addr):Heap:=(rC h l1 l2).push {cls:=.type "zip",data:=.fields #[.none,.bool false,.bool false,.ref (rE h l1 l2).objs.size,.ref (rD h l1 l2).objs.size]}
theorem TF {h:Heap}{l:Addr}{xs:Array Value}(t:IsTup h l xs) (o:Obj):IsTup (h.push o) l xs:=let ⟨u,hu,r⟩:=t;⟨u,X7 _ hu,r⟩
theorem P7 (l1 l2:Addr) (xs ys:Array Value):Meets (Builtin.«zip.__new__» ⟨[.type "zip",.ref l1,.ref l2],[]⟩) (fun _ R s=>IsTup s.heap l1 xs/\IsTup s.heap l2 ys/\R (.ok (.ret (.ref (rC s.heap l1 l2).objs.size))) {s with heap:=nz s.heap l1 l2}):=
 .of_wp fun prog w A R s h=>by
  obtain⟨hp,gg,d,tk,os⟩:=s
  obtain⟨t1,t2,h⟩:=h
  have iJ:=sub_zip
  have T1:IsTup (Shared.heap ⟨hp,gg,d,tk,os⟩) l1 xs:=t1
  have T2:IsTup (Shared.heap ⟨hp.push {cls:=.type "tuple_iterator",data:=.fields #[.ref l1,.int 0 0]},gg,d,tk,os⟩) l2 ys:=TF t2 _
  wp_walk using iter_tuple T1,iter_tuple T2
  exact⟨_,rfl,h⟩
theorem Q6 {prog:Program}{w:World}{A:Around}{E:Value->Shared->Prop}{s:Shared}{l1 l2:Addr}{xs ys:Array Value}{Q:Value->Shared->Prop}(t1:IsTup s.heap l1 xs) (t2:IsTup s.heap l2 ys)
    (q:∀h',IsZip h' (s.heap.objs.size+4) (s.heap.objs.size+2) (s.heap.objs.size+3) .none->IsPair h' (s.heap.objs.size+2) (.ref s.heap.objs.size) (.ref (s.heap.objs.size+1))->IsPair h' (s.heap.objs.size+3) .none .none->
      IsTupIter h' s.heap.objs.size l1 0->IsTupIter h' (s.heap.objs.size+1) l2 0->(∀c o,s.heap.get? c=some o->h'.get? c=some o)->Q (.ref (s.heap.objs.size+4)) {s with heap:=h'}):
    wpAny (model prog w) A (call (.type "zip") [.ref l1,.ref l2]) Q E s:=by
  refine callType_new F.called_zip .d (F.typeCall_zip_2 _ _) (F.newCall_zip_2 _ _) (fun obj=>F.args_object_init_3 obj _ _) F.entry_zip_new (P7 l1 l2 xs ys) ⟨t1,t2,?_⟩
  have y1:(rF s.heap l1).objs.size=s.heap.objs.size+1:=Zbh ..
  have y2:(rE s.heap l1 l2).objs.size=s.heap.objs.size+2:=by rw[Zbh,y1]
  have y3:(rD s.heap l1 l2).objs.size=s.heap.objs.size+3:=by rw[Zbh,y2]
  have y4:(rC s.heap l1 l2).objs.size=s.heap.objs.size+4:=by rw[Zbh,y3]
  have p:∀{h:Heap}{c:Addr}{o u:Obj},h.get? c=some o->(h.push u).get? c=some o:=fun e=>X7 _ e
  have x5:(nz s.heap l1 l2).get? (rC s.heap l1 l2).objs.size=some _:=Zaf _ rfl
  have x4:(nz s.heap l1 l2).get? (rD s.heap l1 l2).objs.size=some _:=p (Zaf _ rfl)
  have x3:(nz s.heap l1 l2).get? (rE s.heap l1 l2).objs.size=some _:=p (p (Zaf _ rfl))
  have x2:(nz s.heap l1 l2).get? (rF s.heap l1).objs.size=some _:=p (p (p (Zaf _ rfl)))
  have x1:(nz s.heap l1 l2).get? s.heap.objs.size=some _:=p (p (p (p (Zaf _ rfl))))
  show _/\_
  rw[y2,y3,y4]at x5
  rw[y1,y2]at x3
  rw[y3]at x4
  rw[y1]at x2
  rw[y4]
  exact⟨⟨_,x5,rfl⟩,q _ x5 x3 x4 ⟨_,x1,rfl,rfl⟩ ⟨_,x2,rfl,rfl⟩ fun c o x=>p (p (p (p (p x))))⟩
section
variable {X:Cx}{pins:List (Addr×Obj)}{σ:St}{H:Hp}{s:Shared}{fp:List Addr}
theorem Fn {T:Addr}{o:HO}(hf:∀b∈fp,aH X pins H b) (cP:s.heap.objs.size<=T) (x9:∀b∈fp,∃o,s.heap.get? b=some o/\∀v,o.data≠.cell v) (b:Addr) (hb:b∈fp):upd H T o b=none:=by
 obtain⟨o,ho,_⟩:=x9 b hb
 rw[Zi (Zan (Zar (Zad ho) cP))]
 exact(hf b hb).1
end
theorem YR {z TI TO i1 i2 b:Addr}(hb:b∉[z,TI,TO,i1,i2]):b∉[z,TO,i1,i2]:=fun hm=>hb (by
 simp only[Zaj,Za5,Zb4]at hm |-
 rcases hm with h |h |h |h
 ·exact .inl h
 ·exact .inr (.inr (.inl h))
 ·exact .inr (.inr (.inr (.inl h)))
 ·exact .inr (.inr (.inr (.inr h))))
theorem tw {z TI TO i1 i2:Addr}{P:Addr->Prop}(h1:P z) (h2:P TI) (h3:P TO) (h4:P i1) (h5:P i2):∀b∈[z,TI,TO,i1,i2],P b:=fun b hb=>by
 simp only[Zaj,Za5,Zb4]at hb
 rcases hb with rfl |rfl |rfl |rfl |rfl
 ·exact h1
 ·exact h2
 ·exact h3
 ·exact h4
 ·exact h5
def zW (K:Zgc) (l1 l2:Addr):It:=
 ⟨fun i H=> ∃xs ys x y,ag K H l1 xs/\ag K H l2 ys/\xs.length=ys.length/\xs[i]? =some x/\ys[i]? =some y,
  fun i H v H'=> ∃(T:Addr) (x y:V),v=.ref T/\H T=none/\H'=upd H T (.par [x,y])/\∀xs ys,ag K H l1 xs->ag K H l2 ys->xs[i]? =some x/\ys[i]? =some y,
  fun i H=> ∃xs ys,ag K H l1 xs/\ag K H l2 ys/\xs.length=i/\ys.length=i⟩
theorem SR {P:Program}{w:World}{K:Zgc}{elts:List Expr}{kk:Nat}{pos:Pos}(z TI TO i1 i2 l1 l2:Addr) (D:ZipApart z TI TO i1 i2 l1 l2):
  Turn P w K (.Tuple elts kk pos) (zW K l1 l2) [z,TI,TO,i1,i2] z (fun i h=>IsZip h z TI TO .none/\IsPair h TI (.ref i1) (.ref i2)/\(∃a b,IsPair h TO a b)/\IsTupIter h i1 l1 i/\IsTupIter h i2 l2 i) where
 mem:=by simp
 obj:=fun i h st b hb=>by
  obtain⟨a1,a2,⟨u,v,a3⟩,⟨o4,h4,_,d4⟩,⟨o5,h5,_,d5⟩⟩:=st
  exact tw (P:=fun b=> ∃o,h.get? b=some o/\∀v,o.data≠.cell v) ⟨_,a1,fun v z=>by cases z⟩ ⟨_,a2,fun v z=>by cases z⟩ ⟨_,a3,fun v z=>by cases z⟩ ⟨_,h4,fun v z=>by rw[d4]at z;cases z⟩ ⟨_,h5,fun v z=>by rw[d5]at z;cases z⟩ b hb
 keep:=fun i h h' st k=>by
  obtain⟨a1,a2,⟨u,v,a3⟩,a4,a5⟩:=st
  exact⟨k z (by simp) _ a1,k TI (by simp) _ a2,⟨u,v,k TO (by simp) _ a3⟩,(let ⟨o,ho,r⟩:=a4;⟨o,k i1 (by simp) o ho,r⟩),let ⟨o,ho,r⟩:=a5;⟨o,k i2 (by simp) o ho,r⟩⟩
 item:=by
  intro X hP hw hK hc i pins s σ H E I hf st hg
  subst hP hw hK
  obtain⟨xs,ys,x,y,fG,cJ,oz,hx,hy⟩:=hg
  obtain⟨dF,jd,dR,pX⟩:=I.tuple fG
  obtain⟨eP,iD,eI,eQ⟩:=I.tuple cJ
  obtain⟨u,hu,ru⟩:=jd.get hx
  obtain⟨v,hv,rv⟩:=iD.get hy
  have xS:eP.toArray.size=dF.toArray.size:=by
   have e1:=jd.length
   have e2:=iD.length
   simp only[Zae]
   omega
  have mz:i<dF.toArray.size:=by
   have e1:=(X8.mp hu).1
   simp only[Zae]
   omega
  have U2:=YT X.prog X.w eP.toArray D.l2i2
  rw[xS]at U2
  have W:=U4 (A:=X.A) (I.ok.hd hc) (YT X.prog X.w dF.toArray D.l1i1) U2 D
  obtain⟨a1,a2,a3,a4,a5⟩:=st
  refine W.item i s _ _ mz ⟨a1,a2,a3,⟨a4,dR⟩,⟨a5,eI⟩⟩ fun T vals h' tk hP cP mF iN hk=> ⟨_,rfl,W.go elts kk pos i T _ _ _ iN fun eU cH bO=> ?_⟩
  have iH:dF.toArray.getD i .none=u:=by simp[ZaM,hu]
  have n9:eP.toArray.getD i .none=v:=by simp[ZaM,hv]
  rw[iH,n9]at hP
  subst hP
  have both:∀b o,b∉[z,TI,TO,i1,i2]->s.heap.get? b=some o->eU.get? b=some o:=fun b o hb q=>bO b o (YR hb) (hk b o (YR hb) q)
  have qz:eU.IsTuple T #[u,v]:=mF.at fun o q=>bO T o (W.apart _ _ _ iN) q
  refine⟨.ref T,upd H T (.par [x,y]),Jm (s:=s) (h':=eU) (tk:=tk) I hf both cP qz ru rv,rfl,⟨T,x,y,rfl,I.ak.fresh cP,rfl,fun as bs ha hb=>by rw[I.o8 ha fG,I.o8 hb cJ];exact⟨hx,hy⟩⟩,⟨cH.1,cH.2.1,cH.2.2.1,cH.2.2.2.1.1,cH.2.2.2.2.1⟩,Fn hf cP ?_⟩
  obtain⟨u',v',zA⟩:=a3
  obtain⟨o4,h4,_,d4⟩:=a4
  obtain⟨o5,h5,_,d5⟩:=a5
  exact tw (P:=fun b=> ∃o,s.heap.get? b=some o/\∀v,o.data≠.cell v) ⟨_,a1,fun v z=>by cases z⟩ ⟨_,a2,fun v z=>by cases z⟩ ⟨_,zA,fun v z=>by cases z⟩ ⟨_,h4,fun v z=>by rw[d4]at z;cases z⟩ ⟨_,h5,fun v z=>by rw[d5]at z;cases z⟩
 done:=by
  intro X hP hw hK hc i pins s σ H E I hf st hg
  subst hP hw hK
  obtain⟨xs,ys,fG,cJ,hx,hy⟩:=hg
  obtain⟨dF,jd,dR,pX⟩:=I.tuple fG
  obtain⟨eP,iD,eI,eQ⟩:=I.tuple cJ
  have e1:=jd.length
  have e2:=iD.length
  have xS:eP.toArray.size=dF.toArray.size:=by simp only[Zae];omega
  have U2:=YT X.prog X.w eP.toArray D.l2i2
  rw[xS]at U2
  have W:=U4 (A:=X.A) (I.ok.hd hc) (YT X.prog X.w dF.toArray D.l1i1) U2 D
  have hn:i=dF.toArray.size:=by simp only[Zae];omega
  obtain⟨a1,a2,a3,a4,a5⟩:=st
  rw[hn]at a4 a5
  exact W.done s _ _ ⟨a1,a2,a3,⟨a4,dR⟩,⟨a5,eI⟩⟩ fun h' tk hk=> ⟨rfl,Wd (s:=s) (h':=h') (tk:=tk) I hf fun b o hb q=>hk b o (YR hb) q⟩
 self:=fun A i s Q E st h=>Zdj st.1 h
section
variable {X:Cx}{elts:List Expr}{kk:Nat}{tp:Pos}
def LG (K:Zgc) (ta:TA):TI:=fun σ H R=>ta σ H fun vs H1=> ∃l1 l2,vs=[.ref l1,.ref l2]/\(∃xs ys,ag K H1 l1 xs/\ag K H1 l2 ys)/\R (zW K l1 l2) H1
theorem EL {a b:Expr}{ta:TA}{p pos:Pos}(hg:Gl X "zip") (hm:X.mg "zip" =none) (ha:PA X [a,b] ta) (hs:starEach [a,b] X.env=[(false,eval a X.env),(false,eval b X.env)]:=by rfl) (dz:starEach [b] X.env=[(false,eval b X.env)]:=by rfl):
  PI X (.Tuple elts kk tp) (.Call (.Name "zip" p) [a,b] [] pos) (LG X.K ta):=by
 intro pins s σ H R I h
 refine Call_ (ZU I hg hm PyProof.Rows.Boot.«zip» (Za1 (au (ha pos pins s σ H _ I h) fun us s1 ⟨vs,H1,I1,r1,q1⟩=> ?_) (by rw[hs,dz]) (by rw[dz];rfl)))
 obtain⟨l1,l2,e,⟨xs,ys,fG,cJ⟩,q⟩:=q1
 subst e
 obtain⟨u,v,rfl,ru,rv⟩:=vals2 r1
 cases ru
 cases rv
 obtain⟨dF,jd,dR,pX⟩:=I1.tuple fG
 obtain⟨eP,iD,eI,eQ⟩:=I1.tuple cJ
 have t1:l1<s1.heap.objs.size:=by obtain⟨o,ho,_⟩:=id dR;exact Zad ho
 have t2:l2<s1.heap.objs.size:=by obtain⟨o,ho,_⟩:=id eI;exact Zad ho
 have D:=W0 s1.heap.objs.size l1 l2 t1 t2
 refine Q6 dR eI fun h' b1 b2 b3 b4 b5 hk=>Zdj b1 ?_
 have I2:Inv X pins σ H1 {s1 with heap:=h'} :=I1.kept (t':=s1.toks) hk
 refine⟨s1.heap.objs.size+4,[s1.heap.objs.size+4,s1.heap.objs.size+2,s1.heap.objs.size+3,s1.heap.objs.size,s1.heap.objs.size+1],_,_,H1,rfl,I2,
  SR _ _ _ _ _ l1 l2 D,⟨b1,b2,⟨_,_,b3⟩,b4,b5⟩,fun b hb=> ?_,q⟩
 have iR:s1.heap.objs.size<=b:=by
  simp only[Zaj,Za5,Zb4]at hb
  rcases hb with z |z |z |z |z<;>rw[z]<;>first |exact Zal _ |exact ZcT _ _
 exact I1.jB iR (I1.ak.fresh iR)
end
theorem Ui {K:Zgc}{l1 l2:Addr}{xs zs:List V}{g:TG}{tt:TT}{ti:TC}{ys:List V}{σ:St}{H:Hp}{Q:List V->St->Hp->Prop}(hlen:xs.length=zs.length) (Pv:Nat->List V->St->Hp->Prop) (h0:Pv 0 ys σ H)
  (hl:∀i ys σ H,i<=xs.length->Pv i ys σ H->ag K H l1 xs/\ag K H l2 zs)
  (hs:∀i x y T ys σ H,xs[i]? =some x->zs[i]? =some y->H T=none->Pv i ys σ H->g (.ref T) σ (upd H T (.par [x,y])) fun bc H2=>tt bc H2 fun b H3=>if b=true then ti ys bc H3 (Pv (i+1)) else Pv (i+1) ys bc H3)
  (hd:∀ys σ H,Pv xs.length ys σ H->Q ys σ H):fT g tt ti (zW K l1 l2) ys σ H Q:=by
 refine⟨fun i m ys σ H=>m=xs.length - i/\i<=xs.length/\Pv i ys σ H,⟨xs.length,by simp,Zaz _,h0⟩,?_⟩
 rintro i m ys σ H ⟨rfl,hi,p⟩
 obtain⟨q1,q2⟩:=hl i ys σ H hi p
 by_cases ar:i<xs.length
 ·refine .inr ⟨⟨xs,zs,xs[i],zs[i]'(by omega),q1,q2,hlen,by simp[ar],by simp[hlen▸ar]⟩,Pv (i+1),fun aV aj H' p'=> ⟨xs.length - (i+1),.o,rfl,ar,p'⟩,fun x H' y=> ?_⟩
  obtain⟨T,a,b,e1,e2,e3,e4⟩:=y
  subst e1 e3
  obtain⟨f1,f2⟩:=e4 xs zs q1 q2
  exact hs i a b T ys σ H f1 f2 e2 p
 ·have e:i=xs.length:=.o
  subst e
  exact .inl ⟨⟨xs,zs,q1,q2,rfl,hlen.symm⟩,hd ys σ H p⟩
end L2
namespace L2
open PySem PySem.Spec PyProof.Rows SeqAt
section
variable {X:Cx}
theorem Y4 {a b:String} :fc X (.builtin "isinstance") (fun xs H Q=> ∃(x:V) (t:Addr) (T:Value) (r:Bool),xs=[x,.ref t]/\ag X.K H t [.ty a,.ty b]/\((∃i,x=.int i/\T=.type "int")∨(x=.ah/\T=.type "NoneType")∨(∃l ys,x=.ref l/\H l=some (.lst ys)/\T=.type "list")∨∃l ys,x=.ref l/\H l=some (.tup ys)/\T=.type "tuple")/\
  PySem.W.kitAny X.K T [.type a,.type b]=some r/\Q (.bl r) H):=by
 intro pins s σ H xs us Q I rv h
 obtain⟨x,t,T,r,rfl,hq,hx,hk,q⟩:=h
 obtain⟨u,v,rfl,ru,rv⟩:=vals2 rv
 cases rv
 obtain⟨aa,rt,pl,hz⟩:=I.tuple hq
 cases rt with
 |cons r1 r2=>
  cases r2 with
  |cons r3 r4=>
   cases r4
   cases r1
   cases r3
   obtain⟨o,ho,hc,n,hd⟩:=id pl
   obtain⟨cls,dd,dt,sl⟩:=o
   replace hc:cls=.type "tuple" :=hc
   replace hd:dt=.seq [Value.type a,Value.type b].toArray n:=hd
   subst hc hd
   rcases hx with ⟨i,rfl,rfl⟩ |⟨rfl,rfl⟩ |⟨l,ys,rfl,hl,rfl⟩ |⟨l,ys,rfl,hl,rfl⟩
   ·obtain⟨tk,rfl⟩:=ru
    exact Zdc PySem.W.kitx_int I.bN True.intro ho hk (fun z=>nomatch z) fun tk=> ⟨.bl r,H,I.tok _,rfl,q⟩
   ·cases ru
    exact Zdc PySem.W.kitx_none I.bN True.intro ho hk (fun z=>nomatch z) fun tk=> ⟨.bl r,H,I.tok _,rfl,q⟩
   ·cases ru
    obtain⟨_,_,n,_,h1⟩:=(show bt X.prog X.w H s.heap l (.lst ys) from I.ak l _ hl)
    exact Zdc PySem.W.kitx_list I.bN ⟨_,h1,rfl⟩ ho hk (fun z=>nomatch z) fun tk=> ⟨.bl r,H,I.tok _,rfl,q⟩
   ·cases ru
    obtain⟨_,_,_,p,_⟩:=(show bt X.prog X.w H s.heap l (.tup ys) from I.ak l _ hl)
    obtain⟨o,h1,h2,_⟩:=p
    exact Zdc PySem.W.kitx_tuple I.bN ⟨o,h1,h2⟩ ho hk (fun z=>nomatch z) fun tk=> ⟨.bl r,H,I.tok _,rfl,q⟩
theorem Ru (hu:X.A.units<cLine):bo X (compareOp .Eq) (fun x y H Q=> ∃(a b:Addr) (ns ms:List Int),x=.ref a/\y=.ref b/\ag X.K H a (ns.map V.int)/\ag X.K H b (ms.map V.int)/\Q (.bl (decide (ns=ms))) H):=by
 intro pins s σ H x y u v Q I rx ry h
 obtain⟨a,b,ns,ms,rfl,rfl,ha,hb,q⟩:=h
 cases rx
 cases ry
 obtain⟨us,r1,p1,_⟩:=I.tuple ha
 obtain⟨vs,r2,p2,_⟩:=I.tuple hb
 have l1:=r1.length
 have l2:=r2.length
 rw[Zac]at l1 l2
 refine eq_tupleAt (e:=fun j=>ns.getD j 0==ms.getD j 0) p1 p2 hu (fun j h1 h2=> ?_) ?_
 ·obtain⟨t1,e1⟩:=Uo r1 j (by simpa using h1)
  obtain⟨t2,e2⟩:=Uo r2 j (by simpa using h2)
  rw[show us.toArray[j]=us[j]'(by simpa using h1) by simp,show vs.toArray[j]=vs[j]'(by simpa using h2) by simp,e1,e2]
  exact ZcA _ _ _ _
 ·have e:((List.range (min us.toArray.size vs.toArray.size)).all (fun j=>ns.getD j 0==ms.getD j 0)&&us.toArray.size==vs.toArray.size)=decide (ns=ms):=by
   rw[Zb6,Zaw,ZaF,Zbw,Zcm,Zae,Zae]
   constructor
   ·rintro⟨h,hl⟩
    refine ZcU .o fun i h1 h2=> ?_
    have:=h i (by rw[ZaU];omega)
    simpa[h1,h2] using this
   ·rintro rfl
    exact⟨fun j _=>by simp,.o⟩
  rw[e]
  exact⟨.bl _,H,I,rfl,q⟩
end
structure Cells (base:Heap) (scope:Scope) (cl:List (Str×Addr)) (N:List Str) (vs:List V):Prop where
 len:vs.length=N.length
 only:∀z,scope.names.lookup z=some .cell∨scope.names.lookup z=some .free->z∈N
 at_:∀(i:Nat) x v,N[i]? =some x->vs[i]? =some v->scope.names.lookup x=some .free/\∃c u,cl.lookup x=some c/\base.IsCell c (some u)/\RelV v u
 mem:∀z c,cl.lookup z=some c->z∈N
 inj:∀x y c,cl.lookup x=some c->cl.lookup y=some c->x=y
theorem Rh {P:Program}{w:World}{K:Zgc}{mg:Str->Option Value}{base:Heap}{f:Addr}{q:Str}{params:Arguments}{body:Expr}{scope:Scope}{cl:List (Str×Addr)}{pm:Value}{c:Addr}{ct:Value}{k:Nat}{N:List Str}{ws:List V}{sp:Sp}
    (T:Cells base scope cl N ws) (hk:scope.kind=.function) (Nr:scope.isCoroutine=false) (M5:scope.isGenerator=false) (lj:∀z∈scope.names,z.2≠.cell)
    (dG:∀vs H Q E,sp vs H Q E->vs=[]/\H f=some (nZ f q params body scope cl pm c ct)/\H c=some (hV c q))
    (hb:∀(A:Around) (outer:List Env) (s:Shared) (H:Hp) (Q:VK) (E:XK),bj k (A.deeper (PySem.W.envX q scope s.heap.objs.size f (.ref c) cl))->sp [] H Q E->
      ∃t,PE (oK P w K mg base N q scope f (.ref c) cl A outer s H E) body t/\t (ws.map some) H Q):
    aA P w K mg base (cf P w) (k+1) f (PySem.W.kla_fn "<lambda>" q params body scope cl pm (.ref c) ct) [] sp:=by
  refine⟨fun vs H Q E h=>by rw[(dG vs H Q E h).1];rfl,fun A outer s H args us vs Q E hr e0 yD rv h=> ?_⟩
  obtain⟨rfl,hf,hc⟩:=dG _ _ _ _ h
  have of:s.heap.get? f=some (PySem.W.kla_obj "<lambda>" q params body scope cl pm c ct):=(e0.ak f _ hf).1
  have oc:s.heap.CodeRec (.ref c) q:=(e0.ak c _ hc).1
  have lim:s.heap.NoLimit:=e0.mod.nolimit.keeps fun b o e=> (e0.bs b o e).1
  refine PySem.W.kla_callFunE hr.depth of rfl Nr M5 rfl oc (yD _ _ _ _ ?_)
  refine PySem.wpAny_newFunctionEnv lj (fun z hz=>by cases rv;exact absurd hz (by simp)) (fun h1 qk Mp=> ?_) hk
  have k1:∀b o,s.heap.get? b=some o->h1.get? b=some o:=fun b o e=>Mp.extBut b o (Zan (Zad e)) (X7 _ e)
  refine⟨lim.keeps k1,?_⟩
  show codeAny _ A (.expr body (PySem.W.envX q scope s.heap.objs.size f (.ref c) cl)) _ _
  obtain⟨t,ht,hq⟩:=hb A outer s H Q E (hr.deeper _) h
  have zr:∀{a:Addr}{v:Option Value},base.IsCell a v->h1.IsCell a v/\H a=none:=fun {a v} ⟨o,ho,hd⟩=> ⟨⟨o,k1 _ _ (e0.bs _ _ ho).1,hd⟩,(e0.bs _ _ ho).2⟩
  have DA:∀z,z∈N->∃c u,cl.lookup z=some c/\base.IsCell c (some u):=fun z hz=>by
    obtain⟨i,hi,e⟩:=ZbF hz
    have aX:i<ws.length:=by rw[T.len];exact hi
    obtain⟨_,c,u,h1,h2,_⟩:=T.at_ i z ws[i] (by rw[<-e];exact Zai hi) (Zai aX)
    exact⟨c,u,h1,h2⟩
  have cells:∀z a,cl.lookup z=some a->∃v,base.IsCell a v:=fun z a hz=>by
    obtain⟨c,u,h1,h2⟩:=DA z (T.mem z a hz)
    rw[hz]at h1;cases h1;exact⟨_,h2⟩
  have I:Inv (oK P w K mg base N q scope f (.ref c) cl A outer s H E) [] (ws.map some) H {s with heap:=h1,toks:=s.toks+(([]:List Str).zip us).length} :=by
    refine⟨⟨e0.mod,hk,rfl,rfl,Zal _,fun a b cc h2 h3=> ?_,fun a ha=> ?_,fun a cc hn=>Bool.noConfusion hn,fun _=>hr.hd,Around.frames_deeper e0.frames,.inr ⟨rfl,rfl⟩,fun b z=>absurd (show b∈([]:List Addr) from z) (by simp),e0.bs,e0.iX,fun b _ _ z=>absurd (show b∈([]:List Addr) from z) (by simp),fun b z=>absurd (show b∈([]:List Addr) from z) (by simp),e0.dJ,e0.gM⟩,
      rfl,e0.bare,Un.kept k1,⟨_,qk,fun i z v h2 h3 h4=> ?_⟩,fun z a hz=> ?_,e0.ak.fresh (Zal _),fun z a hz=> ?_,fun p hp=>absurd (show p∈([]:List (Addr×Obj)) from hp) (by simp),e0.ak.kept k1,(by rw[Zac];exact T.len)⟩
    · have h2:cl.lookup a=some cc:=h2
      have h3:cl.lookup b=some cc:=h3
      exact T.inj _ _ _ h2 h3
    · obtain⟨c,_,h1,_⟩:=DA a (T.only a ha)
      exact⟨c,h1⟩
    · have qF:(ws.map some)[i]? =some (some v):=h3
      rw[ZaH]at qF
      obtain⟨v',e',OE⟩:=ZaB.mp qF
      cases OE
      obtain⟨kx,c,u,h5,h6,h7⟩:=T.at_ i z v h2 e'
      exact⟨u,h7,.inr ⟨.inr kx,c,h5,(zr h6).1⟩⟩
    · obtain⟨v,b⟩:=cells z a hz
      exact⟨v,(zr b).1⟩
    · obtain⟨v,b⟩:=cells z a hz
      exact(zr b).2
  refine PySem.W.kla_codeExpr (ZaL (ht [] _ _ H _ I hq) (fun u s' hs=> ?_) fun e s' hs=>hs)
  obtain⟨v,H',J,r,z⟩:=hs
  exact⟨v,H',J.os,J.bare,J.base,J.ak,r,z⟩
end L2
namespace L2
open PySem PySem.Spec PyProof.Rows
theorem So:typeLookup (.type "list") "keys" =pure none:=by rw[PySem.typeLookup_type,Zdd];kernel_rfl
theorem Uv:entryFor table "dict.update.loop" =some Builtin.«dict.update.loop» :=entryFor_of_tree (by kernel_rfl)
theorem YU:plainId "dict.update.loop" =true:=by decide+kernel
section
variable {prog:Program}{w:World}{A:Around}{E:Value->Shared->Prop}{s:Shared}
theorem NY {a:Addr}{o:Obj}{xs:Array Value}{k:Nat}{Q:Option Value->Shared->Prop}
  (hx:s.heap.get? a=some o) (hc:o.cls=.type "list") (Cv:o.data=.seq xs k) (hd:o.dict=none) (hA:A.handled=none)
  (h:∀h' tk e,Heap.NewExcOf s.heap h' e "AttributeError" ->Q none {s with heap:=h',toks:=tk}):
  wpAny (model prog w) A (getAttr? (.ref a) "keys") Q E s:=by
 obtain⟨c,qP,dat,sl⟩:=o
 simp only at hc Cv hd
 subst hc Cv hd
 obtain⟨hp,g,d,tk,os⟩:=s
 have hT:∀fe,(⟨hp,g,d,fe,os⟩:Shared).TypeIs (.ref a) "list" :=fun _=> ⟨_,hx,rfl⟩
 have f1:=sub_AttributeError
 have f3:=PySem.F.slot_list_getattribute.lookup
 have f4:=PySem.F.slot_list_getattribute.bind (.ref a)
 have f5:=am_list_getattr_none
 unfold getAttr? getAttrBy? getAttrBy
 repeat (any_goals (first |assumption |exact hT _ |((with_reducible show wpAny _ _ (call (Value.builtin "list.__getattribute__") _ _) _ _ _);refine ZcZ PySem.F.slot_list_getattribute (hT _) am_entry_list_getattribute (F.args_list_getattribute_2 _ _) (meets_getattribute_miss_list a xs k sl "keys" _ So .d .d) ⟨hx,hA,fun h' fe e tJ=> ?_⟩) |wp_step))
 obtain⟨t',u',he⟩:=tJ.there
 show wpAny _ _ (getattributeRaised _ _ _ _ _ _ _) _ _ _
 unfold getattributeRaised
 repeat (any_goals (first |assumption |wp_step))
 exact h _ _ _ tJ.of
def nh (h:Heap) (b:Addr) (u v:Value):Prop:=∃o:Obj,h.get? b=some o/\o.cls=.type "tuple" /\∃n,o.data=.seq #[u,v] n
theorem JY {b:Addr}{u v:Value}{Q:List Value->Shared->Prop}(hp:nh s.heap b u v) (h:Q [u,v] s):wpAny (model prog w) A (Builtin.Dict.pairItems (.ref b)) Q E s:=by
 obtain⟨o,ho,hc,n,hd⟩:=hp
 unfold Builtin.Dict.pairItems
 refine eg (Zc8 (show s.TypeIs (.ref b) "tuple" from ⟨o,ho,hc⟩) ?_)
 rw[Zay .d]
 refine eg (ZaS ho hd ?_)
 exact X6 h
variable {K:Type} [DecidableEq K] {knd:KeyKind prog w K}
def ng (knd:KeyKind prog w K) (h:Heap) (d it:Addr) (us:List Value) (rs:List (K×Value)):Prop:=Paired (fun u (r:K×Value)=> ∃b k,u=.ref b/\b≠d/\b≠it/\nh h b k r.2/\knd.is r.1 k=true) us rs
theorem ng.keep {h h':Heap}{d it:Addr}{us:List Value}{rs:List (K×Value)}(p:ng knd h d it us rs) (k:∀b o,b≠d->b≠it->h.get? b=some o->h'.get? b=some o):ng knd h' d it us rs:=by
 unfold ng at p |-
 induction p with
 |nil=>exact .nil
 |cons a _ ih=>
  obtain⟨b,kk,e,n1,n2,⟨o,ho,r⟩,z⟩:=a
  exact .cons ⟨b,kk,e,n1,n2,⟨o,k _ _ n1 n2 ho,r⟩,z⟩ ih
theorem Fy {d it l:Addr}{R:Result->Shared->Prop}{items:Array Value}(ud:d≠it) (lh:l≠d) (oA:l≠it) (hA:A.handled=none):
  ∀(us:List Value) (rs:List (K×Value)) (i:Nat) (z:Int) (t:Tok) (ae:List (K×Value)) (s:Shared),items.toList.drop i=us->ng knd s.heap d it us rs->s.heap.IsListIter it l i->s.heap.IsList l items->s.heap.DictOf knd d ae->ae.length+rs.length<=sizeLine->
   (∀h' t',(∀b o,b≠d->b≠it->s.heap.get? b=some o->h'.get? b=some o)->h'.DictOf knd d (merged ae rs)->R (.ok (.ret .none)) {s with heap:=h',toks:=t'})->
   codeAny (model prog w) A (.builtin "dict.update.loop" ⟨[.ref d,.ref it,.int z t,.none],[]⟩) R s
 | [],rs,i,z,t,ae,s,hu,hp,hit,hl,hd,hz,hR=>by
  cases hp
  refine Za3 Uv ?_
  rw[ZaP YU _]
  show wpAny _ A.in1 (pyNext (.ref it) >>=_) _ _ s
  refine eg (wpAny_pyNext_list_end (A:=A.in1) hA hit hl ?_ fun h' eb=> ?_)
  ·have:items.toList.length<=i:=List.drop_eq_nil_iff.mp hu
   rw[Array.getElem?_eq_none_iff]
   simpa using this
  ·show wpAny _ A.in1 (Builtin.Dict.addKeywords d [] >>=_) _ _ _
   refine eg (X6 (X6 ?_))
   exact hR h' s.toks (fun b o _ h2 e=>eb b o h2 e) (hd.extBut eb ud)
 |u::us,rs,i,z,t,ae,s,hu,hp,hit,hl,hd,hz,hR=>by
  cases hp with
  | @cons _ r _ kJ a ps=>
   obtain⟨b,k,rfl,By,KN,pr,hk⟩:=a
   have ar:i<items.toList.length:=by
    apply Nat.lt_of_not_le
    intro h
    rw[List.drop_eq_nil_of_le h]at hu
    cases hu
   rw[List.drop_eq_getElem_cons ar]at hu
   obtain⟨e1,e2⟩:=List.cons.inj hu
   refine Za3 Uv ?_
   rw[ZaP YU _]
   show wpAny _ A.in1 (pyNext (.ref it) >>=_) _ _ s
   refine eg (wpAny_pyNext_list_item hit hl (x:=.ref b) ?_ fun h' oB sb=> ?_)
   ·rw[<-Za6,Zai ar,e1]
   have jg:nh h' b k r.2:=by
    obtain⟨o,ho,rest⟩:=pr
    exact⟨o,(sb.2 b KN).trans ho,rest⟩
   have MU:h'.IsList l items:=by
    obtain⟨o,ho,rest⟩:=hl
    exact⟨o,(sb.2 l oA).trans ho,rest⟩
   have gp:h'.DictOf knd d ae:=by
    obtain⟨o,es,ep,ho,rest⟩:=hd
    exact⟨o,es,ep,(sb.2 d ud).trans ho,rest⟩
   show wpAny _ A.in1 (holding [Value.ref b] _ >>=_) _ _ _
   refine eg (ZaO ?_)
   refine eg (ZbQ (JY jg ?_))
   show wpAny _ A.in1 (holding [k,r.2] (dictSet d k r.2)) _ _ _
   refine ZaO ?_
   refine wpAny_dictSet_pairs (s:= {s with heap:=h'}) hk gp (fun h2 hd2 jM=> ?_) (by rw[ZaJ]at hz;omega)
   refine X6 ⟨Zbr YU _,?_⟩
   have kp:∀c o,c≠d->c≠it->s.heap.get? c=some o->h2.get? c=some o:=fun c o h1 fK e=> (jM.2 c h1).trans ((sb.2 c fK).trans e)
   refine Fy ud lh oA hA us kJ (i+1) (z+1) 0 (stored ae r.1 r.2) _ e2 ((show ng knd s.heap d it us kJ from ps).keep kp) ?_ ?_ hd2 ?_ ?_
   ·obtain⟨o,ho,rest⟩:=oB
    exact⟨o,(jM.2 it (ZcE ud)).trans ho,rest⟩
   ·obtain⟨o,ho,rest⟩:=MU
    exact⟨o,(jM.2 l lh).trans ho,rest⟩
   ·have:=stored_length_le ae r.1 r.2
    rw[ZaJ]at hz
    omega
   ·intro h3 t3 k3 d3
    exact hR h3 t3 (fun c o h1 fK e=>k3 c o h1 fK (kp c o h1 fK e)) d3
theorem WO {o:Addr}{ob:Obj}{items:Array Value}{n:Nat}{rs:List (K×Value)}{Q:Value->Shared->Prop}(ho:s.heap.get? o=some ob) (cM:ob.cls=.type "list") (yw:ob.dict=none) (qu:ob.data=.seq items n) (hA:A.handled=none)
  (hp:Paired (fun u (r:K×Value)=> ∃b k,u=.ref b/\nh s.heap b k r.2/\knd.is r.1 k=true) items.toList rs) (hz:rs.length<=sizeLine)
  (h:∀h' t',h'.DictOf knd s.heap.objs.size (merged [] rs)->(∀b o,s.heap.get? b=some o->h'.get? b=some o)->Q (.ref s.heap.objs.size) {s with heap:=h',toks:=t'}):
  wpAny (model prog w) A (call (.type "dict") [.ref o]) Q E s:=by
 refine callType_codes (Q₁:=fun obj aF=>obj=.ref s.heap.objs.size/\aF= {s with heap:=s.heap.push {cls:=.type "dict",data:=.dict #[]} }) PySem.F.kt_called_dict (PySem.F.kt_typeCall_dict_1 _) PySem.F.entry_dict_init (kt_code_dict_new _ ⟨rfl,rfl⟩) ?_
 rintro obj aF ⟨rfl,rfl⟩
 have ow:(s.heap.push {cls:=.type "dict",data:=.dict #[]}).DictOf knd s.heap.objs.size []:=Heap.DictOf.new s.heap
 have oq:=X7 {cls:=.type "dict",data:=.dict #[]} ho
 refine⟨ow.typeIs,PySem.F.args_dict_init_2 _ _,?_⟩
 unfold Builtin.«dict.__init__»
 refine eg ?_
 unfold Builtin.Dict.selfAndRest
 refine eg (wpAny_notOrdered_dict ow.typeIs ?_)
 show wpAny _ _ (pure (s.heap.objs.size,[Value.ref o])) _ _ _
 refine X6 ?_
 show wpAny _ _ (Builtin.Dict.updateFrom "dict.__init__" s.heap.objs.size (.ref o) [] .none) _ _ _
 unfold Builtin.Dict.updateFrom
 refine eg (Zc8 (T:= "list") ⟨ob,oq,cM⟩ ?_)
 rw[Zay .d]
 refine eg (NY oq cM qu yw hA fun h2 t2 e2 x2=> ?_)
 rw[Zay (by rfl)]
 refine eg (Zck ?_)
 have fj:=x2.keeps _ _ oq
 refine eg (Zcl (items:=items) ⟨ob,fj,cM,n,qu⟩ ?_)
 have tD:s.heap.objs.size<h2.objs.size:=by
  obtain⟨od,_,_,xZ,_⟩:=id ow
  exact Zad (x2.keeps _ _ xZ)
 have tE:o<s.heap.objs.size:=Zad ho
 have kp:∀b u,s.heap.get? b=some u->(h2.push {cls:=.type "list_iterator",data:=.fields #[.ref o,.int 0 0]}).get? b=some u:=fun b u e=>X7 _ (x2.keeps _ _ (X7 _ e))
 refine X6 ⟨Zbr YU _,?_⟩
 refine Fy (A:=A.in1) (knd:=knd) (items:=items) (l:=o) (d:=s.heap.objs.size) (it:=h2.objs.size) (Zan tD) (Zan tE) (Zan (Nat.lt_trans tE tD)) hA items.toList rs 0 0 0 [] _ List.drop_zero ?_ ?_ ?_ ?_ (by rw[ZbP];omega) ?_
 ·unfold ng
  have key:∀{us:List Value}{ts:List (K×Value)},Paired (fun u (r:K×Value)=> ∃b k,u=.ref b/\nh s.heap b k r.2/\knd.is r.1 k=true) us ts->Paired (fun u (r:K×Value)=> ∃b k,u=.ref b/\b≠s.heap.objs.size/\b≠h2.objs.size/\nh (h2.push {cls:=.type "list_iterator",data:=.fields #[.ref o,.int 0 0]}) b k r.2/\knd.is r.1 k=true) us ts:=by
   intro us ts p
   induction p with
   |nil=>exact .nil
   |cons a _ ih=>
    obtain⟨b,k,e,⟨q,hq,rest⟩,z⟩:=a
    have:=Zad hq
    exact .cons ⟨b,k,e,Zan this,Zan (Nat.lt_trans this tD),⟨q,kp _ _ hq,rest⟩,z⟩ ih
  exact key hp
 ·exact⟨_,Zaf _ rfl,rfl,rfl⟩
 ·exact⟨ob,X7 _ fj,cM,n,qu⟩
 ·obtain⟨od,es,ep,xZ,rest⟩:=ow
  exact⟨od,es,ep,X7 _ (x2.keeps _ _ xZ),rest⟩
 ·intro h3 t3 k3 d3
  refine⟨rfl,h h3 t3 d3 fun b u e=> ?_⟩
  have:=Zad e
  exact k3 b u (Zan this) (Zan (Nat.lt_trans this tD)) (kp b u e)
end
section
variable {X:Cx}
abbrev uE (H:Hp):List V->List (Key×V)->Prop:=Paired fun y (kv:Key×V)=> ∃b,y=.ref b/\H b=some (.tup [kV kv.1,kv.2])
theorem WZ (hc:X.calm=true:=by rfl):fc X (.type "dict") (fun xs H Q=> ∃(p:Addr) (ys:List V) (ae:List (Key×V)),xs=[.ref p]/\H p=some (.lst ys)/\uE H ys ae/\ae.length<=1000/\∀q,H q=none->Q (.ref q) (upd H q (.dK (jP [] ae)))):=by
 intro pins s σ H xs us Q I r h
 obtain⟨p,ys,ae,rfl,hp,pv,hz,q⟩:=h
 obtain⟨u,rfl,ru⟩:=ZeN r
 cases ru
 obtain⟨aa,rv,⟨ob,n,ho,cM,yw,qu⟩,_⟩:=I.list (ai.of hp)
 have key:∀{ys:List V}{ae:List (Key×V)}{aa:List Value},uE H ys ae->Vals ys aa->∃rs:List (Key×Value),KV ae rs/\Paired (fun u (r:Key×Value)=> ∃b k,u=.ref b/\nh s.heap b k r.2/\(dU X.prog X.w).is r.1 k=true) aa rs:=by
  intro ys ae aa pv
  induction pv generalizing aa with
  |nil=>intro r;cases r;exact⟨[],.nil,.nil⟩
  | @cons y kv ys ae a _ ih=>
   intro r
   cases r with
   | @cons _ u _ us ry rr=>
    obtain⟨rs,k1,k2⟩:=ih rr
    obtain⟨b,rfl,hb⟩:=a
    cases ry
    obtain⟨ps,pr,pt,_⟩:=I.tuple (ag.of hb)
    cases pr with
    | @cons _ pu _ Xp r1 r2=>
     cases r2 with
     | @cons _ pw _ Xo r3 r4=>
      cases r4
      obtain⟨o,ho,bC,m,gp⟩:=pt
      exact⟨(kv.1,pw)::rs,.cons ⟨rfl,r3⟩ k1,.cons ⟨b,pu,rfl,⟨o,ho,bC,m,gp⟩,qZ r1⟩ k2⟩
 obtain⟨rs,k1,k2⟩:=key pv rv
 have lr:ae.length=rs.length:=KV.length k1
 refine WO (knd:=dU X.prog X.w) (items:=aa.toArray) ho cM yw qu (I.ok.hd hc) (by simpa using k2) (by rw[Zau];omega) fun h' t' dd kp=> ?_
 have f9:(jP [] ae).length<=sizeLine:=by
  have h1:=Y3 ae []
  rw[ZbP]at h1
  rw[Zau];omega
 exact⟨.ref s.heap.objs.size,_,I.laid (a:=s.heap.objs.size) (o:=.dK (jP [] ae)) (t':=t') kp (Zal _) (El f9 (Zcq.mpr (ZcE (Zan I.big))) (k1.merge .nil) dd),rfl,q _ I.fresh⟩
end
theorem JB:fillsNumberSlot (.type "tuple") "mul" =pure false:=
 PySem.fillsNumberSlot_seq (id:= "tuple.__mul__") (r:=some (.builtin "tuple.__rmul__")) Zc1.lookup (by decide+kernel) PySem.F.slot_tuple_rmul.lookup (by decide+kernel)
theorem UH:seqRepeat? (.type "tuple")=pure (some (.builtin "tuple.__mul__")):=by
 unfold seqRepeat?
 rw[PySem.seqSlot_of (T:= "tuple") (name:= "__mul__") (id:= "tuple.__mul__") Zc1.lookup (by decide+kernel),PySem.seqSlot_of (T:= "tuple") (name:= "__rmul__") (id:= "tuple.__rmul__") PySem.F.slot_tuple_rmul.lookup (by decide+kernel)]
 rfl
theorem Wi (a:Int) (t:Tok) (l:Addr) (items:Array Value) (n:Nat) (d:Option Addr) (sl:Array (Option Value)):
  Meets (Builtin.«int.__rmul__» ⟨[.int a t,.ref l],[]⟩) (fun _ R s=>s.heap.get? l=some {cls:=.type "tuple",dict:=d,data:=.seq items n,slots:=sl}/\R (.ok (.ret Value.notImplemented)) s):=
 .of_wp fun prog w A R s h=>by obtain⟨hp,g,d,tk,os⟩:=s;obtain⟨hl,h⟩:=h;wp_walk;exact⟨_,rfl,h⟩
theorem WU (l:Addr) (items:Array Value) (n:Nat) (d:Option Addr) (sl:Array (Option Value)) (u:Tok):
  Meets (Builtin.«tuple.__mul__» ⟨[.ref l,.int 1 u],[]⟩) (fun _ R s=>s.heap.get? l=some {cls:=.type "tuple",dict:=d,data:=.seq items n,slots:=sl}/\R (.ok (.ret (.ref l))) s):=
 .of_wp fun prog w A R s h=>by
  obtain⟨hp,g,d,tk,os⟩:=s;obtain⟨hl,h⟩:=h
  wp_walk;exact⟨_,rfl,h⟩
theorem Wu (l:Addr) (items:Array Value) (n:Nat) (d:Option Addr) (sl:Array (Option Value)) (x:Int) (u:Tok) (h0:items.isEmpty=false) (h1:(x==1)=false) (h2:1<=x) (hs:items.size*x.toNat<=1000) (hx:x<=1000) (hz:(List.foldl (fun x1 x2=>x1++x2) #[] (List.replicate x.toNat items)).size<=sizeLine):
  Meets (Builtin.«tuple.__mul__» ⟨[.ref l,.int x u],[]⟩) (fun _ R s=>s.heap.get? l=some {cls:=.type "tuple",dict:=d,data:=.seq items n,slots:=sl}/\R (.ok (.ret (Value.ref s.heap.objs.size))) {s with heap:=s.heap.push {cls:=Value.type "tuple",data:=Data.seq (List.foldl (fun x1 x2=>x1++x2) #[] (List.replicate x.toNat items))},toks:=s.toks}):=
 .of_wp fun prog w A R s h=>by
  obtain⟨hp,g,d,tk,os⟩:=s;obtain⟨hl,h⟩:=h
  have a1:decide (x< -(2^63))=false:=Zaq .o
  have a2:decide (x>=2^63)=false:=Zaq .o
  have a3:decide (x<=0)=false:=Zaq .o
  have hn:(items.size:Int)*x<=1000:=by
   have e:x=(x.toNat:Int):=.o
   rw[e]
   exact_mod_cast hs
  have a4:¬((items.size:Int)*x> (2^63 - 1)/8):=.o
  have a5:Builtin.Tuple.tupleTooMany ((items.size:Int)*x)=false:=by
   unfold Builtin.Tuple.tupleTooMany
   have e:=Zau
   simp
   omega
  wp_walk
  rw[Zav (by rw[a1,a2];decide)]
  have ht:IsTup hp l items:=⟨_,hl,rfl,n,rfl⟩
  refine eg (tupleItemsOf_ ht ?_)
  dsimp only
  rw[Zav (by rw[h0,h1];decide),Zav (by rw[a3,h0];decide),Zav a4,a5,Zav Zag]
  wp_walk;exact⟨_,rfl,h⟩
section
variable {X:Cx}
def Ig:R2:=fun x y H Q=> ∃a k xs,x=.ref a/\y=.int k/\H a=some (.tup xs)/\xs≠[]/\1<=k/\k<=1000/\xs.length*k.toNat<=1000/\∀(c:Addr) H',af H H'->H' c=some (.tup (List.replicate k.toNat xs).flatten)->Q (.ref c) H'
theorem QG:bo X (binaryOp .Mult) Ig:=by
  intro pins s σ H x y v u Q I rx ry h
  obtain⟨l,k,xs,rfl,rfl,hH,aW,h1,h2,hz,q⟩:=h
  cases rx
  obtain⟨t,rfl⟩:=ry
  obtain⟨aa,r,pl,_⟩:=I.tuple (ag.of hH)
  have hl:=r.length
  obtain⟨⟨cls,dd,data,sl⟩,ho,cM,n,hd⟩:=id pl
  simp only at cM hd
  subst cM hd
  have f0:∀m:Nat,List.foldl (fun x1 x2=>x1++x2) #[] (List.replicate m aa.toArray)=(List.replicate m aa).flatten.toArray:=fun m=>by
    have:=JJ aa m []
    rw[List.nil_append]at this
    exact this
  have hsz:aa.toArray.size*k.toNat<=1000:=by rw[Zae,<-hl];exact hz
  have h0:aa.toArray.isEmpty=false:=by
    cases aa with
    |nil=>
     cases xs with
     |nil=>exact absurd rfl aW
     |cons a b=>cases hl
    |cons a b=>rfl
  refine PySem.wpAny_binaryOp_repeat_ref (T:= "tuple") (U:= "int") .d ⟨_,ho,rfl⟩ (fun s'=>PySem.typeIs_int s' k t) JB PySem.F.fills_int_mul PySem.F.slot_int_rmul UH PySem.F.slot_int_index.lookup
    (ZcZ PySem.F.slot_int_rmul (PySem.typeIs_int s k t) PySem.F.entry_int_rmul (PySem.F.args_int_rmul_2 _ _) (Wi k t l aa.toArray n dd sl)
      ⟨ho,rfl,⟨_,ho,rfl⟩,?_⟩)
  by_cases hk:k=1
  · subst hk
    refine ZcZ Zc1 ⟨_,ho,rfl⟩ PySem.F.entry_tuple_mul (PySem.F.args_tuple_mul_2 _ _) (WU l aa.toArray n dd sl t) ⟨ho,⟨.ref l,H,I,rfl,q l H (af.refl _) ?_⟩⟩
    rw[hH]
    simp
  · refine ZcZ Zc1 ⟨_,ho,rfl⟩ PySem.F.entry_tuple_mul (PySem.F.args_tuple_mul_2 _ _) (Wu l aa.toArray n dd sl k t h0 (by simpa using hk) h1 hsz h2 ?_) ⟨ho,?_⟩
    · rw[f0,Zae,UR,Zau]
      rw[Zae,Nat.mul_comm]at hsz
      omega
    · rw[f0]
      refine⟨.ref s.heap.objs.size,upd H s.heap.objs.size (.tup (List.replicate k.toNat xs).flatten),?_,rfl,q _ _ (fun b o hb=>by rw[Zi (Ze hb I.fresh)];exact hb) Zc⟩
      refine I.laid (t':=s.toks) (fun b o e=>X7 _ e) (Zal _) ⟨by rw[UR,Zau,Nat.mul_comm];omega,_,r.rep k.toNat,?_⟩
      exact⟨⟨_,Zaf s.heap rfl,rfl,0,rfl⟩,_,Zaf s.heap rfl,rfl⟩
end
end L2
namespace PyProof.Rows.dc
open PySem
structure Ord (r:Keyed->Keyed->Bool):Prop where
 oM:∀x y,r x y=true->r y x=false
 kM:∀x y z,r y x=false->r z y=false->r z x=false
theorem Ord.lZ {r:Keyed->Keyed->Bool}(o:Ord r) (x:Keyed):r x x=false:=by
 cases h:r x x with
 |false=>rfl
 |true=>have:=o.oM x x h;rw[h]at this;cases this
section
variable {prog:Program}{w:World}{A:Around}{E:Value->Shared->Prop}{s:Shared}{κ:SortKind}{a₀:Array Keyed}{r:Keyed->Keyed->Bool}
def rq (prog:Program) (w:World) (A:Around) (E:Value->Shared->Prop) (s:Shared) (κ:SortKind) (a₀:Array Keyed) (r:Keyed->Keyed->Bool):Prop:=
 ∀(x y:Keyed) (st:SortSt) (Q:Option Bool->SortSt->Prop),x∈a₀.toList->y∈a₀.toList->kindOf st=κ->Q (some (r x y)) st->wpS (model prog w) A E s (lt' x y) Q st
theorem U3 {arr:Array Keyed}{i:Nat}{x:Keyed}{Q:Keyed->SortSt->Prop}{st:SortSt}(hx:arr[i]? =some x) (h:Q x st):wpS (model prog w) A E s (elem' arr i) Q st:=by
 rw[elem'_eq,hx]
 exact ZbS h
theorem J2 {σ α:Type}{c:Prop} [Decidable c] {t e:StateT σ Sem α}{Q:α->σ->Prop}{st:σ}(h1:c->wpS (model prog w) A E s t Q st) (h2:¬c->wpS (model prog w) A E s e Q st):wpS (model prog w) A E s (if c then t else e) Q st:=by
 by_cases h:c
 ·rw[Zay h];exact h1 h
 ·rw[Zav h];exact h2 h
theorem QV {σ α:Type}{x y:Nat}{t e:StateT σ Sem α}{Q:α->σ->Prop}{st:σ}(h1:x=y->wpS (model prog w) A E s t Q st) (h2:¬x=y->wpS (model prog w) A E s e Q st):wpS (model prog w) A E s (if (x==y)=true then t else e) Q st:=
 J2 (fun h=>h1 (Zcm.mp h)) (fun h=>h2 fun z=>h (Zcm.mpr z))
theorem P4 {σ α:Type}{b:Bool}{t e:StateT σ Sem α}{Q:α->σ->Prop}{st:σ}(h1:b=true->wpS (model prog w) A E s t Q st) (h2:b=false->wpS (model prog w) A E s e Q st):wpS (model prog w) A E s (if b=true then t else e) Q st:=
 J2 h1 (fun h=>h2 (Bool.eq_false_iff.mpr h))
theorem En {σ α:Type}{c:Prop} [Decidable c] {j:Unit->StateT σ Sem α}{t:StateT σ Sem α}{Q:α->σ->Prop}{st:σ}(P:σ->Prop) (h:∀ao,P ao->wpS (model prog w) A E s (j ()) Q ao)
  (h1:c->(∀ao,P ao->wpS (model prog w) A E s (j ()) Q ao)->wpS (model prog w) A E s t Q st) (h2:¬c->P st):wpS (model prog w) A E s (if c then t else j ()) Q st:=
 J2 (fun z=>h1 z h) (fun z=>h _ (h2 z))
end
abbrev Pw (r:Keyed->Keyed->Bool) (l:List Keyed):Prop:=l.Pairwise fun x y=>r y x=false
structure JW (r:Keyed->Keyed->Bool) (a b out:Array Keyed) (ia ib:Nat):Prop where
 perm:(out.toList++(a.toList.drop ia++b.toList.drop ib)).Perm (a.toList++b.toList)
 Hm:Pw r out.toList
 Pn:∀x∈out.toList,∀y∈a.toList.drop ia++b.toList.drop ib,r y x=false
structure XX (r:Keyed->Keyed->Bool) (a b:Array Keyed):Prop where
 o:Ord r
 sa:Pw r a.toList
 sb:Pw r b.toList
theorem Qi {xs:Array Keyed}{i:Nat}{x:Keyed}(h:xs[i]? =some x):xs.toList[i]? =some x:=by rw[Za6];exact h
theorem Z2 {xs:Array Keyed}{i:Nat}(h:i<xs.size):∃x,xs[i]? =some x:=⟨xs[i],getElem?_pos xs i h⟩
theorem Rl {xs:Array Keyed}{i:Nat}{x:Keyed}(h:xs[i]? =some x):x∈xs.toList:=Zap (Qi h)
structure JH (r:Keyed->Keyed->Bool) (a b out:Array Keyed) (na nb:Nat):Prop where
 la:na<=a.size
 lb:nb<=b.size
 perm:((a.toList.take na++b.toList.take nb)++out.toList.reverse).Perm (a.toList++b.toList)
 Hm:Pw r out.toList.reverse
 Pn:∀y∈a.toList.take na++b.toList.take nb,∀x∈out.toList,r x y=false
def SI (r:Keyed->Keyed->Bool) (xs:Array Keyed) (lo hi:Nat):Prop:=∀i j x y,lo<=i->i<=j->j<hi->xs[i]? =some x->xs[j]? =some y->r y x=false
def NI (r:Keyed->Keyed->Bool) (xs:Array Keyed) (lo hi:Nat):Prop:=∀i j x y,lo<=i->i<=j->j<hi->xs[i]? =some x->xs[j]? =some y->r x y=false
def EQ (r:Keyed->Keyed->Bool) (xs:Array Keyed) (lo hi:Nat):Prop:=∀i j x y,lo<=i->i<hi->lo<=j->j<hi->xs[i]? =some x->xs[j]? =some y->r x y=false
section
variable {r:Keyed->Keyed->Bool}{xs:Array Keyed}{lo hi:Nat}
theorem SI.one (o:Ord r):SI r xs lo (lo+1):=fun i j x y h1 h2 h3 hx hy=>by
 obtain rfl:i=j:=.o
 rw[hx]at hy;cases hy;exact o.lZ _
theorem NI.one (o:Ord r):NI r xs lo (lo+1):=fun i j x y h1 h2 h3 hx hy=>by
 obtain rfl:i=j:=.o
 rw[hx]at hy;cases hy;exact o.lZ _
theorem EQ.one (o:Ord r):EQ r xs lo (lo+1):=fun i j x y h1 h2 h3 h4 hx hy=>by
 obtain rfl:i=j:=.o
 rw[hx]at hy;cases hy;exact o.lZ _
theorem SI.snoc (o:Ord r) (h:SI r xs lo hi) {p q:Keyed}(hl:lo<hi) (hp:xs[hi - 1]? =some p) (hq:xs[hi]? =some q) (hr:r q p=false):SI r xs lo (hi+1):=fun i j x y h1 h2 h3 hx hy=>by
 by_cases hj:j<hi
 ·exact h i j x y h1 h2 hj hx hy
 ·obtain rfl:j=hi:=.o
  rw[hq]at hy;cases hy
  by_cases aX:i=j
  ·subst aX
   rw[hq]at hx;cases hx;exact o.lZ _
  ·exact o.kM x p q (h i (j - 1) x p h1 .o .o hx hp) hr
theorem NI.snoc (o:Ord r) (h:NI r xs lo hi) {p q:Keyed}(hl:lo<hi) (hp:xs[hi - 1]? =some p) (hq:xs[hi]? =some q) (hr:r p q=false):NI r xs lo (hi+1):=fun i j x y h1 h2 h3 hx hy=>by
 by_cases hj:j<hi
 ·exact h i j x y h1 h2 hj hx hy
 ·obtain rfl:j=hi:=.o
  rw[hq]at hy;cases hy
  by_cases aX:i=j
  ·subst aX
   rw[hq]at hx;cases hx;exact o.lZ _
  ·exact o.kM q p x hr (h i (j - 1) x p h1 .o .o hx hp)
theorem EQ.snoc (o:Ord r) (h:EQ r xs lo hi) {p q:Keyed}(hl:lo<hi) (hp:xs[hi - 1]? =some p) (hq:xs[hi]? =some q) (hr:r p q=false) (iL:r q p=false):EQ r xs lo (hi+1):=fun i j x y h1 h2 h3 h4 hx hy=>by
 have one:∀i x,lo<=i->i<hi->xs[i]? =some x->r x q=false/\r q x=false:=fun i x h1 h2 hx=>
  ⟨o.kM q p x hr (h i (hi - 1) x p h1 h2 .o .o hx hp),o.kM x p q (h (hi - 1) i p x .o .o h1 h2 hp hx) iL⟩
 by_cases hj:j<hi
 ·by_cases aX:i<hi
  ·exact h i j x y h1 aX h3 hj hx hy
  ·obtain rfl:i=hi:=.o
   rw[hq]at hx;cases hx
   exact(one j y h3 hj hy).2
 ·obtain rfl:j=hi:=.o
  rw[hq]at hy;cases hy
  by_cases aX:i<j
  ·exact(one i x h1 aX hx).1
  ·obtain rfl:i=j:=.o
   rw[hq]at hx;cases hx
   exact o.lZ _
abbrev dk (xs:Array Keyed) (i j:Nat):Array Keyed:=mirror xs i j ((j - i)/2)
theorem Wv (hh:hi<=xs.size) (k:Nat):(dk xs lo hi)[k]? =if lo<=k/\k<hi then xs[lo+hi - 1 - k]? else xs[k]? :=getElem?_mirror_all hh k
theorem SI.dk (h:SI r xs lo hi) (hh:hi<=xs.size):NI r (dk xs lo hi) lo hi:=fun i j x y h1 h2 h3 hx hy=>by
 rw[Wv hh,Zay ⟨.o,.o⟩]at hx hy
 exact h _ _ y x .o .o .o hy hx
theorem NI.dk (h:NI r xs lo hi) (hh:hi<=xs.size):SI r (dk xs lo hi) lo hi:=fun i j x y h1 h2 h3 hx hy=>by
 rw[Wv hh,Zay ⟨.o,.o⟩]at hx hy
 exact h _ _ y x .o .o .o hy hx
theorem NI.BB {m:Nat}(h:NI r xs lo hi) (e:EQ r xs m hi) (hm:lo<=m) (hh:hi<=xs.size):NI r (PyProof.Rows.dc.dk xs m hi) lo hi:=fun i j x y h1 h2 h3 hx hy=>by
 rw[Wv hh]at hx hy
 by_cases hj:m<=j
 ·rw[Zay ⟨hj,h3⟩]at hy
  by_cases aX:m<=i
  ·rw[Zay ⟨aX,.o⟩]at hx
   exact e _ _ x y .o .o .o .o hx hy
  ·rw[Zav .o]at hx
   exact h i _ x y h1 .o .o hx hy
 ·rw[Zav .o]at hx hy
  exact h i j x y h1 h2 h3 hx hy
theorem Fh {m:Nat}(hh:hi<=xs.size) (hm:m<hi) {p:Keyed}(hp:(dk xs m hi)[hi - 1]? =some p):xs[m]? =some p:=by
 rw[Wv hh,Zay ⟨.o,.o⟩,show m+hi - 1 - (hi - 1)=m by omega]at hp
 exact hp
theorem UP (hh:hi<=xs.size) {k:Nat}(h:k<lo∨hi<=k):(dk xs lo hi)[k]? =xs[k]? :=by rw[Wv hh,Zav .o]
end
structure CB (a₀:Array Keyed) (κ:SortKind) (lo:Nat) (st ao:SortSt):Prop where
 kind:kindOf ao=κ
 pend:pendingOf ao=pendingOf st
 fail:failedOf ao=failedOf st
 perm:(arrOf ao).Perm a₀
 pre:∀k,k<lo->(arrOf ao)[k]? =(arrOf st)[k]?
theorem CB.size {a₀:Array Keyed}{κ:SortKind}{lo:Nat}{st ao:SortSt}(h:CB a₀ κ lo st ao):(arrOf ao).size=a₀.size:=h.perm.size_eq
theorem CB.mem {a₀:Array Keyed}{κ:SortKind}{lo:Nat}{st ao:SortSt}(h:CB a₀ κ lo st ao) {i:Nat}{x:Keyed}(hx:(arrOf ao)[i]? =some x):x∈a₀.toList:=(Zb1.mp h.perm).mem_iff.mp (Rl hx)
theorem CB.rev {a₀:Array Keyed}{κ:SortKind}{lo m hi:Nat}{st ao:SortSt}(h:CB a₀ κ lo st ao) (hm:lo<=m) (hh:hi<=a₀.size):CB a₀ κ lo st (setArr ao (dk (arrOf ao) m hi)):=
 ⟨h.kind,h.pend,h.fail,(mirror_perm _ _ _ _).trans h.perm,fun k hk=>by
  show(dk (arrOf ao) m hi)[k]? =_
  rw[UP (by rw[h.size];exact hh) (.inl .o)]
  exact h.pre k hk⟩
section
variable {prog:Program}{w:World}{A:Around}{E:Value->Shared->Prop}{s:Shared}{κ:SortKind}{a₀:Array Keyed}{r:Keyed->Keyed->Bool}
theorem YS {st ao:SortSt}{lo i j:Nat}{x y:Keyed}{Q:Option Bool->SortSt->Prop}(hc:rq prog w A E s κ a₀ r) (B:CB a₀ κ lo st ao) (hx:(arrOf ao)[i]? =some x) (hy:(arrOf ao)[j]? =some y) (h:Q (some (r x y)) ao):wpS (model prog w) A E s (ltAt' i j) Q ao:=by
 rw[ltAt'_eq]
 exact Zbi (wpS_get (Zbi (U3 hx (Zbi (U3 hy (hc _ _ _ _ (B.mem hx) (B.mem hy) B.kind h))))))
theorem Y9 {st:SortSt}{i j:Nat}{Q:Unit->SortSt->Prop}(h:Q () (setArr st (dk (arrOf st) i j))):wpS (model prog w) A E s (reverseSlice' i j) Q st:=by
 rw[reverseSlice'_eq]
 exact wpS_modify h
theorem EQ.xj {xs:Array Keyed}{lo hi:Nat}(o:Ord r) (h:hi=lo+1):EQ r xs lo hi:=by subst h;exact EQ.one o
theorem WQ {st:SortSt}{lo eJ:Nat}{Q:Option Nat->SortSt->Prop}(o:Ord r) (hc:rq prog w A E s κ a₀ r) (B0:CB a₀ κ lo st st) (h1:1<=eJ) (hz:lo+eJ<=a₀.size)
  (h:∀n ao,CB a₀ κ lo st ao->1<=n->n<=eJ->SI r (arrOf ao) lo (lo+n)->Q (some n) ao):wpS (model prog w) A E s (countRun' lo eJ) Q st:=by
 rw[countRun'_eq]
 try dsimp -zeta only
 have z0:=B0.size
 refine Zbi (wpS_mono (Zdu (I:=fun y c ao=>ao=st/\c=(none,y)/\SI r (arrOf st) lo (lo+y))
  (Q:=fun c ao=>ao=st/\∃n,c=(none,n)/\1<=n/\n<=eJ/\SI r (arrOf st) lo (lo+n)/\(n=eJ∨∃p q,(arrOf st)[lo+n - 1]? =some p/\(arrOf st)[lo+n]? =some q/\r q p=true)) ?_ ?_ ⟨rfl,rfl,SI.one o⟩) ?_)
 ·rintro y c ao xF n9 ⟨rfl,rfl,S⟩
  dsimp only
  obtain⟨p,hp⟩:=Z2 (xs:=arrOf ao) (i:=lo+y - 1) .o
  obtain⟨q,hq⟩:=Z2 (xs:=arrOf ao) (i:=lo+y) .o
  refine Zbi (YS hc B0 hq hp ?_)
  cases hr:r q p with
  |true=>exact ZbS ⟨rfl,y,rfl,xF,.o,S,.inr ⟨p,q,hp,hq,hr⟩⟩
  |false=>exact ZbS ⟨rfl,rfl,S.snoc (hi:=lo+y) o .o hp hq hr⟩
 ·rintro c ao ⟨rfl,rfl,S⟩
  have e9:max 1 eJ=eJ:=ZcV h1
  rw[e9]at S
  exact⟨rfl,eJ,by rw[e9],h1,Zal _,S,.inl rfl⟩
 rintro c ao ⟨rfl,n,rfl,n1,n2,S,hn⟩
 refine QV (fun jm=>ZbS (h n ao B0 n1 n2 S)) (fun jm=> ?_)
 rcases hn with hn |⟨p,q,hp,hq,hr⟩
 ·exact absurd hn jm
 replace n2:n<eJ:=Nat.lt_of_le_of_ne n2 jm
 dsimp -zeta only
 extract_lets -underBinder jp
 refine En (j:=jp) (fun stx=>CB a₀ κ lo ao stx/\NI r (arrOf stx) lo (lo+(n+1))) ?_ (fun ql hj=> ?_) (fun ql=> ?_)
 ·rintro cG ⟨B1,N1⟩
  dsimp -zeta only[jp]
  clear jp S hp hq hr
  refine Zbi (wpS_lift (Zck ⟨rfl,?_⟩))
  refine Zbi (wpS_mono (Zdu (I:=fun y c stx=>CB a₀ κ lo ao stx/\∃dj,c=(none,y,dj)/\NI r (arrOf stx) lo (lo+y)/\dj+1<=y/\EQ r (arrOf stx) (lo+y - (dj+1)) (lo+y))
   (Q:=fun c stx=>CB a₀ κ lo ao stx/\∃m dj,c=(none,m,dj)/\n+1<=m/\m<=eJ/\NI r (arrOf stx) lo (lo+m)/\dj+1<=m/\EQ r (arrOf stx) (lo+m - (dj+1)) (lo+m)) ?_ ?_ ⟨B1,0,rfl,N1,.o,EQ.xj o .o⟩) ?_)
  ·rintro y c cA xF n9 ⟨B2,dj,rfl,N2,g1,e2⟩
   dsimp only
   have z2:=B2.size
   obtain⟨p2,gk⟩:=Z2 (xs:=arrOf cA) (i:=lo+y - 1) .o
   obtain⟨q2,cJ⟩:=Z2 (xs:=arrOf cA) (i:=lo+y) .o
   refine Zbi (YS hc B2 cJ gk ?_)
   cases iL:r q2 p2 with
   |true=>
    dsimp only
    rw[Zay rfl]
    by_cases tO:dj>0
    ·rw[Zay tO]
     refine Zbi (Y9 ?_)
     have B3:=B2.rev (m:=lo+y - (dj+1)) (hi:=lo+y) .o .o
     have N3:NI r (dk (arrOf cA) (lo+y - (dj+1)) (lo+y)) lo (lo+y):=N2.BB e2 .o .o
     obtain⟨p3,qh⟩:=Z2 (xs:=dk (arrOf cA) (lo+y - (dj+1)) (lo+y)) (i:=lo+y - 1) (by rw[mirror_size];omega)
     have MB:=Fh .o .o qh
     have Mu:(dk (arrOf cA) (lo+y - (dj+1)) (lo+y))[lo+y]? =some q2:=by rw[UP .o (.inr (Zal _))];exact cJ
     have h3:r p3 q2=false:=o.kM q2 p2 p3 (o.oM _ _ iL) (e2 _ _ p3 p2 (Zal _) .o .o .o MB gk)
     exact ZbS ⟨B3,0,rfl,N3.snoc (hi:=lo+y) o .o qh Mu h3,.o,EQ.xj o .o⟩
    ·rw[Zav tO]
     exact ZbS ⟨B2,0,rfl,N2.snoc (hi:=lo+y) o .o gk cJ (o.oM _ _ iL),.o,EQ.xj o .o⟩
   |false=>
    dsimp only
    rw[Zav Zag]
    refine Zbi (YS hc B2 gk cJ ?_)
    cases BZ:r p2 q2 with
    |true=>exact ZbS ⟨B2,y,dj,rfl,.o,.o,N2,g1,e2⟩
    |false=>
     refine ZbS ⟨B2,dj+1,rfl,N2.snoc (hi:=lo+y) o .o gk cJ BZ,.o,?_⟩
     have:=e2.snoc (hi:=lo+y) o .o gk cJ BZ iL
     rw[show lo+(y+1) - (dj+1+1)=lo+y - (dj+1) by omega]
     exact this
  ·rintro c cA ⟨B2,dj,rfl,N2,g1,e2⟩
   have e9:max (n+1) eJ=eJ:=ZcV .o
   rw[e9]at N2 g1 e2
   exact⟨B2,eJ,dj,by rw[e9],.o,.o,N2,g1,e2⟩
  rintro c fw ⟨B3,m,dj,rfl,m1,m2,N3,g3,e3⟩
  have z3:=B3.size
  extract_lets -underBinder r1 s1 t1 u1
  dsimp -zeta only[r1,s1,t1,u1]
  extract_lets -underBinder jp
  refine En (j:=jp) (fun stx=>CB a₀ κ lo ao stx/\NI r (arrOf stx) lo (lo+m)) ?_ (fun tO hj=> ?_) (fun tO=> ⟨B3,N3⟩)
  ·rintro kF ⟨B4,N4⟩
   clear B3 N3 e3 z3
   dsimp -zeta only[jp]
   clear jp
   refine Zbi (Y9 ?_)
   have B9:=B4.rev (m:=lo) (hi:=lo+m) (Zal _) .o
   have S9:SI r (arrOf (setArr kF (dk (arrOf kF) lo (lo+m)))) lo (lo+m):=NI.dk N4 (by rw[B4.size];omega)
   generalize setArr kF (dk (arrOf kF) lo (lo+m))=AL at B9 S9
   have z9:=B9.size
   refine Zbi (Zdu (I:=fun y c stx=>stx=AL/\c=(none,y)/\SI r (arrOf AL) lo (lo+y)) ?_ ?_ ⟨rfl,rfl,S9⟩)
   ·rintro y c stx xF n9 ⟨rfl,rfl,S⟩
    dsimp only
    obtain⟨p9,B8⟩:=Z2 (xs:=arrOf stx) (i:=lo+y - 1) .o
    obtain⟨q9,B7⟩:=Z2 (xs:=arrOf stx) (i:=lo+y) .o
    refine Zbi (YS hc B9 B7 B8 ?_)
    cases Mr:r q9 p9 with
    |true=>exact ZbS (ZbS (h y stx B9 .o .o S))
    |false=>exact ZbS ⟨rfl,rfl,S.snoc (hi:=lo+y) o .o B8 B7 Mr⟩
   ·rintro c stx ⟨rfl,rfl,S⟩
    rw[ZcV .o]at S
    have e9:max m eJ=eJ:=ZcV .o
    dsimp only
    rw[e9]
    exact ZbS (h eJ stx B9 .o .o S)
  ·clear_value jp
   exact Zbi (Y9 (hj _ ⟨B3.rev (m:=lo+m - (dj+1)) (hi:=lo+m) .o .o,N3.BB e3 .o .o⟩))
 ·clear_value jp
  obtain⟨f,hf⟩:=Z2 (xs:=arrOf ao) (i:=lo) .o
  refine Zbi (YS hc B0 hf hp ?_)
  refine P4 (fun BY=>ZbS (h n ao B0 n1 (ZbD n2) S)) (fun BY=>Zbi (Y9 (hj _ ⟨B0.rev (m:=lo) (hi:=lo+n) (Zal _) .o,?_⟩)))
  have N1:NI r (dk (arrOf ao) lo (lo+n)) lo (lo+n):=S.dk .o
  obtain⟨p1,oj⟩:=Z2 (xs:=dk (arrOf ao) lo (lo+n)) (i:=lo+n - 1) (by rw[mirror_size];omega)
  have Ca:=Fh .o .o oj
  rw[hf]at Ca
  cases Ca
  have fG:(dk (arrOf ao) lo (lo+n))[lo+n]? =some q:=by rw[UP .o (.inr (Zal _))];exact hq
  exact N1.snoc (hi:=lo+n) o .o oj fG (o.kM q p f (o.oM _ _ hr) BY)
 ·obtain rfl:n=1:=.o
  exact⟨B0,(NI.one o).snoc (hi:=lo+1) o .o hp hq (o.oM _ _ hr)⟩
theorem Py {x y z:Keyed}(o:Ord r) (h:r z x=true) (h2:r y x=false):r z y=true:=by
 cases e:r z y with
 |true=>rfl
 |false=>
  have:=o.kM x y z h2 e
  rw[h]at this
  cases this
theorem T7 {st:SortSt}{i j:Nat}{Q:Unit->SortSt->Prop}(h:Q () (setArr st (bubble (arrOf st) i (i - j)))):wpS (model prog w) A E s (moveDown' i j) Q st:=by
 rw[moveDown'_eq]
 exact wpS_modify h
theorem SI.put {xs:Array Keyed}{lo k l:Nat}{q:Keyed}(o:Ord r) (S:SI r xs lo (lo+k)) (hq:xs[lo+k]? =some q) (hl:l<=k) (h1:∀i x,i<l->xs[lo+i]? =some x->r q x=false) (h2:∀i x,l<=i->i<k->xs[lo+i]? =some x->r q x=true):SI r (bubble xs (lo+k) (lo+k - (lo+l))) lo (lo+(k+1)):=by
 have hs:lo+k<xs.size:=(ZaN.mp hq).1
 intro i j x y g1 g2 g3 hx hy
 rw[getElem?_bubble hs _ .o]at hx hy
 rw[show lo+k - (lo+k - (lo+l))=lo+l by omega]at hx hy
 by_cases ei:i=lo+l
 ·rw[Zay ei,hq]at hx
  cases hx
  by_cases ej:j=lo+l
  ·rw[Zay ej,hq]at hy
   cases hy
   exact o.lZ _
  ·rw[Zav ej,Zay .o]at hy
   exact o.oM _ _ (h2 (j - 1 - lo) y .o .o (by rw[show lo+(j - 1 - lo)=j - 1 by omega];exact hy))
 ·rw[Zav ei]at hx
  by_cases ej:j=lo+l
  ·rw[Zay ej,hq]at hy
   cases hy
   rw[Zav .o]at hx
   exact h1 (i - lo) x .o (by rw[show lo+(i - lo)=i by omega];exact hx)
  ·rw[Zav ej]at hy
   by_cases gi:lo+l<i
   ·rw[Zay .o]at hx hy
    exact S (i - 1) (j - 1) x y .o .o .o hx hy
   ·rw[Zav .o]at hx
    by_cases gj:lo+l<j
    ·rw[Zay .o]at hy
     exact S i (j - 1) x y .o .o .o hx hy
    ·rw[Zav .o]at hy
     exact S i j x y .o .o .o hx hy
theorem JX {st u4:SortSt}{lo n ok:Nat}{Q:Bool->SortSt->Prop}(o:Ord r) (hc:rq prog w A E s κ a₀ r) (B0:CB a₀ κ lo u4 st) (h1:1<=ok) (hn:ok<=n) (hz:lo+n<=a₀.size) (S0:SI r (arrOf st) lo (lo+ok))
  (h:∀ao,CB a₀ κ lo u4 ao->SI r (arrOf ao) lo (lo+n)->Q true ao):wpS (model prog w) A E s (binarySort' lo n ok) Q st:=by
 rw[binarySort'_eq]
 dsimp only
 rw[Nat.max_eq_left h1]
 refine Zbi (Zdu (I:=fun k c ao=>c=(none,())/\CB a₀ κ lo u4 ao/\SI r (arrOf ao) lo (lo+k)) ?_ ?_ ⟨rfl,B0,S0⟩)
 ·rintro k c cG XI Cm ⟨rfl,B1,S1⟩
  try dsimp only
  have z1:=B1.size
  obtain⟨q,hq⟩:=Z2 (xs:=arrOf cG) (i:=lo+k) .o
  refine Zbi (wpS_mono (Zdu (I:=fun y c ao=>ao=cG/\∃l u,c=(none,l,u)/\l<=u/\u<=k/\(∀i x,i<l->(arrOf cG)[lo+i]? =some x->r q x=false)/\(∀i x,u<=i->i<k->(arrOf cG)[lo+i]? =some x->r q x=true)/\u - l<=k - y)
   (Q:=fun c ao=>ao=cG/\∃l u,c=(none,l,u)/\l<=k/\(∀i x,i<l->(arrOf cG)[lo+i]? =some x->r q x=false)/\(∀i x,l<=i->i<k->(arrOf cG)[lo+i]? =some x->r q x=true)) ?_ ?_ ⟨rfl,0,k,rfl,.o,.o,fun i x hi=>absurd hi .o,fun i x g1 g2=>absurd g2 .o,.o⟩) ?_)
  ·rintro y c ao _ hy ⟨rfl,l,u,rfl,g1,g2,g3,g4,g5⟩
   dsimp only
   refine J2 (fun mB=> ?_) (fun mB=> ?_)
   ·exact ZbS ⟨rfl,l,u,rfl,.o,g3,fun i x g6=>g4 i x .o⟩
   ·have hm:(l+u)/2<u:=.o
    have iO:l<=(l+u)/2:=.o
    generalize (l+u)/2=m at hm iO
    obtain⟨p,hp⟩:=Z2 (xs:=arrOf ao) (i:=lo+m) .o
    refine Zbi (YS hc B1 hq hp ?_)
    cases hr:r q p with
    |true=>
     refine ZbS ⟨rfl,l,m,rfl,iO,.o,g3,fun i x g6 g7 hx=> ?_,.o⟩
     exact Py o hr (S1 (lo+m) (lo+i) p x .o .o .o hp hx)
    |false=>
     refine ZbS ⟨rfl,m+1,u,rfl,.o,g2,fun i x g6 hx=> ?_,g4,.o⟩
     exact o.kM x p q (S1 (lo+i) (lo+m) x p .o .o .o hx hp) hr
  ·rintro c ao ⟨rfl,l,u,rfl,g1,g2,g3,g4,g5⟩
   rw[ZcV (Zaz _)]at g5
   exact⟨rfl,l,u,rfl,.o,g3,fun i x g6=>g4 i x .o⟩
  rintro c ao ⟨rfl,l,u,rfl,g1,g3,g4⟩
  dsimp only
  refine Zbi (T7 (ZbS ⟨rfl,⟨B1.kind,B1.pend,B1.fail,(bubble_perm _ _ _).trans B1.perm,fun i hi=> ?_⟩,S1.put o hq g1 g3 g4⟩))
  show(bubble (arrOf ao) (lo+k) (lo+k - (lo+l)))[i]? =_
  rw[getElem?_bubble .o _ .o,Zav .o,Zav .o]
  exact B1.pre i hi
 ·rintro c cG ⟨rfl,B1,S1⟩
  rw[ZcV hn]at S1
  exact ZbS (h cG B1 S1)
end
def seg (L:List Keyed) (s n:Nat):List Keyed:=(L.drop s).take n
def Runs (r:Keyed->Keyed->Bool) (L:List Keyed):List (Nat×Nat×Nat)->Nat->Nat->Prop
 | [],p,q=>p=q
 |x::rest,p,q=>x.1=p/\1<=x.2.1/\Pw r (seg L x.1 x.2.1)/\Runs r L rest (p+x.2.1) q
section
variable {prog:Program}{w:World}{A:Around}{E:Value->Shared->Prop}{s:Shared}{κ:SortKind}{a₀:Array Keyed}{r:Keyed->Keyed->Bool}
structure RS (a₀:Array Keyed) (κ:SortKind) (r:Keyed->Keyed->Bool) (st:SortSt) (lo:Nat):Prop where
 kind:kindOf st=κ
 perm:(arrOf st).Perm a₀
 fail:failedOf st=none
 runs:Runs r (arrOf st).toList (pendingOf st).toList 0 lo
 le:lo<=a₀.size
def Ai (a₀:Array Keyed) (r:Keyed->Keyed->Bool) (st:SortSt):Prop:=
 (arrOf st).Perm a₀/\failedOf st=none/\pendingOf st= #[(0,a₀.size,0)]/\Pw r (arrOf st).toList
theorem CB.Dm {st ao:SortSt}(B:CB a₀ κ 0 st ao) (f0:failedOf st=none) (e0:pendingOf st= #[]) (S:SI r (arrOf ao) 0 (0+a₀.size)):Ai a₀ r (setPending ao ((pendingOf ao).push (0,a₀.size,0))):=by
 refine⟨B.perm,B.fail.trans f0,by show(pendingOf ao).push _=_;rw[B.pend,e0];rfl,?_⟩
 show Pw r (arrOf ao).toList
 unfold Pw
 rw[Zb5]
 intro i j hi hj iP
 have hz:=B.size
 rw[Zas]at hi hj
 exact S i j _ _ (Zaz _) (ZbD iP) .o (by rw[Array.getElem_toList];exact ZaE hi) (by rw[Array.getElem_toList];exact ZaE hj)
theorem WP {st:SortSt}{Q:Unit->SortSt->Prop}(o:Ord r) (hc:rq prog w A E s κ a₀ r) (h2:2<=a₀.size) (NW:a₀.size<64) (k0:kindOf st=κ) (p0:(arrOf st).Perm a₀) (f0:failedOf st=none) (e0:pendingOf st= #[])
  (h:∀ao,(arrOf ao).Perm a₀->failedOf ao=none->Pw r (arrOf ao).toList->Q () ao):wpS (model prog w) A E s sortRuns' Q st:=by
 rw[sortRuns'_eq]
 refine Zbi (wpS_get ?_)
 dsimp only
 have z0:(arrOf st).size=a₀.size:=p0.size_eq
 have MK:minRun' a₀.size a₀.size 0=a₀.size:=by
  obtain⟨f,hf⟩:∃f,a₀.size=f+1:=⟨a₀.size - 1,.o⟩
  have:minRun' (f+1) a₀.size 0=a₀.size:=by rw[minRun'_succ,Zay NW];rfl
  rwa [<-hf]at this
 simp only[z0,MK]
 refine Zbi (wpS_mono (Zdu
  (I:=fun x c ao=> (x=0/\c=(none,0)/\ao=st)∨(1<=x/\c=(none,a₀.size)/\Ai a₀ r ao))
  (Q:=fun c ao=>c=(none,a₀.size)/\Ai a₀ r ao) ?step ?fin (.inl ⟨rfl,rfl,rfl⟩)) ?post)
 case fin=>
  rintro c ao (⟨hx,_,_⟩ |⟨_,hc,hD⟩)
  ·omega
  ·exact⟨hc,hD⟩
 case step=>
  rintro x c ao _ hx (⟨rfl,rfl,rfl⟩ |⟨og,rfl,hD⟩)
  ·dsimp only
   rw[Zav .o]
   simp only[Nat.sub_zero,Nat.min_self,Nat.zero_add]
   refine Zbi (WQ o hc (st:=ao) ⟨k0,rfl,rfl,p0,fun _ _=>rfl⟩ .o .o fun m cA B2 MP iO dz=> ?_)
   dsimp only
   by_cases ar:m<a₀.size
   ·rw[Zay ar]
    refine Zbi (wpS_lift (Zck ⟨rfl,?_⟩))
    refine Zbi (JX o hc B2 MP iO .o dz fun fw B3 Mq=> ?_)
    simp only[Za9,Zak,Za0]
    refine Zbi (wpS_get ?_)
    have hb:(pendingOf fw).back? =none:=by rw[B3.pend,e0];rfl
    rw[hb]
    dsimp only
    exact Zbi (wpS_modify (ZbS (.inr ⟨.o,rfl,B3.Dm f0 e0 Mq⟩)))
   ·rw[Zav ar]
    have hm:m=a₀.size:=.o
    subst hm
    refine Zbi (wpS_get ?_)
    have hb:(pendingOf cA).back? =none:=by rw[B2.pend,e0];rfl
    rw[hb]
    dsimp only
    exact Zbi (wpS_modify (ZbS (.inr ⟨.o,rfl,B2.Dm f0 e0 dz⟩)))
  ·dsimp only
   rw[Zay (Zal _)]
   exact ZbS ⟨rfl,hD⟩
 case post=>
  rintro c ao ⟨rfl,hD⟩
  dsimp only
  refine Zbi (wpS_mono (Zdu (I:=fun _ c cH=>cH=ao/\c=(none,())) (Q:=fun c cH=>cH=ao/\c=(none,())) ?_ (fun _ _ hh=>hh) ⟨rfl,rfl⟩) ?_)
  ·rintro x c cH _ _ ⟨rfl,rfl⟩
   refine Zbi (wpS_get ?_)
   rw[Zay (by rw[hD.2.2.1];exact Zal 1)]
   exact ZbS ⟨rfl,rfl⟩
  ·rintro c cH ⟨rfl,rfl⟩
   exact ZbS (h _ hD.1 hD.2.1 hD.2.2.2)
end
end PyProof.Rows.dc
namespace PyProof.Rows.dc
open PySem PySem.W
section
variable {prog:Program}{w:World}{A:Around}{E:Value->Shared->Prop}{s:Shared}{κ:SortKind}{r:Keyed->Keyed->Bool}
def rB (prog:Program) (w:World) (A:Around) (E:Value->Shared->Prop) (κ:SortKind) (r:Keyed->Keyed->Bool) (a:Addr) (h:Heap) (vs:List Value):Prop:=
 ∀s6:Shared,(∀b o,b≠a->h.get? b=some o->s6.heap.get? b=some o)->(2<=vs.length->∀Q:SortKind->Shared->Prop,Q κ s6->wpAny (model prog w) A (keyKind' vs.toArray) Q E s6)/\rq prog w A E s6 κ (pairsOf vs) r
end
def av:List Int->List Int->Bool
 | [],[]=>false
 | [],_::_=>true
 |_::_,[]=>false
 |a::l,b::m=>if a=b then av l m else decide (a<b)
theorem Z8:∀x y,av x y=true->av y x=false
 | [],[],h=>by cases h
 | [],_::_,_=>rfl
 |_::_,[],h=>by cases h
 |a::l,b::m,h=>by
  unfold av at h |-
  by_cases e:a=b
  ·rw[Zay e]at h
   rw[Zay e.symm]
   exact Z8 l m h
  ·rw[Zav e]at h
   rw[Zav (ZcE e)]
   have:=ZbU h
   exact Zaq .o
theorem Yy:∀x y z,av y x=false->av z y=false->av z x=false
 | [],[],[],_,_=>rfl
 | [],[],_::_,_,_=>rfl
 | [],_::_,[],_,h=>by cases h
 | [],_::_,_::_,_,_=>rfl
 |_::_,[],_,h,_=>by cases h
 |_::_,_::_,[],_,h=>by cases h
 |a::l,b::m,c::n,h1,h2=>by
  unfold av at h1 h2 |-
  by_cases e1:b=a
  ·rw[Zay e1]at h1
   by_cases e2:c=b
   ·rw[Zay e2]at h2
    rw[Zay (e2.trans e1)]
    exact Yy l m n h1 h2
   ·rw[Zav e2]at h2
    have:=Zc5 h2
    rw[Zav .o]
    exact Zaq .o
  ·rw[Zav e1]at h1
   have q1:=Zc5 h1
   by_cases e2:c=b
   ·rw[Zav .o]
    exact Zaq .o
   ·rw[Zav e2]at h2
    have q2:=Zc5 h2
    rw[Zav .o]
    exact Zaq .o
theorem Jj:∀x y,av x y=false->av y x=false->x=y
 | [],[],_,_=>rfl
 | [],_::_,h,_=>by cases h
 |_::_,[],_,h=>by cases h
 |a::l,b::m,h1,h2=>by
  unfold av at h1 h2
  by_cases e:a=b
  ·rw[Zay e]at h1
   rw[Zay e.symm]at h2
   rw[e,Jj l m h1 h2]
  ·rw[Zav e]at h1
   rw[Zav (ZcE e)]at h2
   have q1:=Zc5 h1
   have q2:=Zc5 h2
   omega
theorem EI (key:Value->List Int):Ord fun x y:Keyed=>av (key x.1) (key y.1):=⟨fun _ _=>Z8 _ _,fun _ _ _=>Yy _ _ _⟩
section
variable {prog:Program}{w:World}{A:Around}{s:Shared}{b:Bool}{Q:Bool->Shared->Prop}
theorem Rt {c:Bool}{x y:Int}{t u:Tok}(h:Q (decide (x<y)) s):wpAny (model prog w) A (oneLt' c (.int x t) (.int y u)) Q (fun _ _=>False) s:=by
 cases c with
 |true=>exact oneLt_int h
 |false=>exact kat_one _ _ (lt_int (Q:=PySem.W.BoolBack Q) h)
theorem WC {fin:Bool} :∀{us vs:List Value}{xs ys:List Int}{i:Nat},IntsAre us xs->IntsAre vs ys->fin=decide (xs.length<ys.length)->Q (av xs ys) s->KatLex prog w A b fin Q (us.zip vs) i s
 |_,_,_,_,i,.nil,.nil,hf,h=>by
  subst hf
  exact h
 |_,_,_,_,i,.nil,.cons _ _ _,hf,h=>by
  subst hf
  exact h
 |_,_,_,_,i,.cons _ _ _,.nil,hf,h=>by
  subst hf
  exact h
 |_,_,_,_,i,.cons x t ix,.cons y u iy,hf,h=>by
  rw[Zbo]
  refine kat_cons (ZcA (A:=A) (s:=s) x t y u _ _ _ _ ?_)
  unfold av at h
  by_cases e:x=y
  ·rw[Zay e]at h
   rw[Zcm.mpr e]
   exact kat_yes (WC ix iy (by rw[hf];exact decide_eq_decide.mpr (by simp only[ZaJ];omega)) h)
  ·rw[Zav e]at h
   rw[Zcq.mpr e]
   exact kat_no (Rt h)
end
section
variable {prog:Program}{w:World}{A:Around}{E:Value->Shared->Prop}{s:Shared}{κ:SortKind}{r:Keyed->Keyed->Bool}
theorem JS (o:Ord r) {a:Addr}{vs:List Value}{n:Nat}{P:PySem.Fin->Shared->Prop}(ho:s.heap.get? a=some (seqObj "list" vs.toArray n)) (hc:rB prog w A E κ r a s.heap vs) (hz:vs.length<64)
  (h:∀xs:Array Keyed,xs.Perm (pairsOf vs)->Pw r xs.toList->P (.done (.ret .none)) {s with heap:=sortedHeap s.heap a vs (xs.map (·.2))}):
  wpAny (model prog w) A (Builtin.«list.sort» ⟨[.ref a],[]⟩) P E s:=by
 rw[list_sort_plain]
 have ha:a<s.heap.objs.size:=Zad ho
 have qf:vs.toArray.size<=sizeLine:=by rw[Zae,Zau];omega
 refine eg (listItems_at ho rfl ?_)
 refine eg (listUpdate_at ho rfl ?_ qf)
 obtain⟨e1,oq⟩:∃e1,(s.heap.update a (Obj.mapSeq fun _=> #[])).get? a=some (seqObj "list" #[] e1):=⟨_,get?_update_seq ho (fun _=> #[])⟩
 refine eg (seqEpoch_at oq rfl ?_)
 refine eg (wpAny_newTuple ?_ (by simpa using qf))
 refine eg (Zef ?_)
 refine ZaO ?_
 have tR:(((s.heap.update a (Obj.mapSeq fun _=> #[])).push (seqObj "tuple" vs.toArray 0)).push (seqObj "list" #[] 0)).get? a=some (seqObj "list" #[] e1):=by
  rw[Heap.get?_push_ne _ _ _ (by rw[size_push',PySem.Heap.size_update];exact Zan (Zbl ha)),Heap.get?_push_ne _ _ _ (by rw[PySem.Heap.size_update];exact Zan ha)]
  exact oq
 show wpAny (model prog w) A _ P E {s with heap:=((s.heap.update a (Obj.mapSeq fun _=> #[])).push (seqObj "tuple" vs.toArray 0)).push (seqObj "list" #[] 0)}
 dsimp only
 have keep:∀b o,b≠a->s.heap.get? b=some o->((((s.heap.update a (Obj.mapSeq fun _=> #[])).push (seqObj "tuple" vs.toArray 0)).push (seqObj "list" #[] 0))).get? b=some o:=fun b ob hb e=>
  X7 _ (X7 _ (by rw[Zdp _ _ _ _ hb];exact e))
 obtain⟨hk,uf⟩:=hc {s with heap:=((s.heap.update a (Obj.mapSeq fun _=> #[])).push (seqObj "tuple" vs.toArray 0)).push (seqObj "list" #[] 0)} keep
 have hsz:vs.toArray.size=vs.length:=by simp
 by_cases h2:vs.toArray.size<2
 ·rw[Zay h2,Zay h2]
  refine eg (X6 ?_)
  rw[StateT.run_pure]
  refine eg (X6 ?_)
  dsimp only
  refine eg (seqEpoch_at tR rfl ?_)
  refine eg (listUpdate_at tR rfl ?_ (hsz2:=by rw[Array.size_map];show(pairsOf vs).size<=_;rw[ZeE,Zau];omega))
  simp only[ZcL,Zak,Za0]
  refine X6 (h (pairsOf vs) (Array.Perm.refl _) ?_)
  have hl:(pairsOf vs).toList.length<2:=by rw[Zas,ZeE];omega
  match (pairsOf vs).toList,hl with
  | [],_=>exact .nil
  | [x],_=>exact List.pairwise_singleton _ _
  |_::_::_,h=>exact absurd h (by simp)
 ·rw[Zav h2,Zav h2]
  refine eg (hk .o _ ?_)
  refine eg (ZaL (WP (κ:=κ) (r:=r) (a₀:=pairsOf vs) (st:=SortSt.mk' κ (vs.toArray.zip vs.toArray) #[] 7 none)
   (Q:=fun _ ao=> (arrOf ao).Perm (pairsOf vs)/\failedOf ao=none/\Pw r (arrOf ao).toList) o uf (by rw[ZeE];omega) (by rw[ZeE];omega) rfl (Array.Perm.refl _) rfl rfl fun ao a1 a2 a3=> ⟨a1,a2,a3⟩) ?_ fun _ _ e=>e)
  rintro⟨⟨⟩,ao⟩ s' ⟨rfl,hp,hf,hs⟩
  dsimp only
  refine eg (seqEpoch_at tR rfl ?_)
  refine eg (listUpdate_at tR rfl ?_ (hsz2:=by refine Zbf (Nat.le_of_eq ((Array.size_map ..).trans (hp.size_eq.trans (ZeE _)))) ?_;rw[Zau];omega))
  rw[hf]
  simp only[ZcL,Zak,Za0]
  exact X6 (h _ hp hs)
theorem Tu (o:Ord r) {l:Addr}{vs:List Value}{Q:Value->Shared->Prop}(hl:s.heap.IsList l vs.toArray) (hc:∀h' a,(∀b ob,s.heap.get? b=some ob->h'.get? b=some ob)->(∀b ob,s.heap.get? b=some ob->b≠a)->rB prog w A.in1.in1 (fun _ _=>False) κ r a h' vs) (hz:vs.length<64)
  (h:∀xs:Array Keyed,xs.Perm (pairsOf vs)->Pw r xs.toList->Q (.ref (s.heap.objs.size+1)) {s with heap:=sortedAll s.heap vs (xs.map (·.2))}):
  wpAny (model prog w) A (call (.builtin "sorted") [.ref l]) Q E s:=by
 have qf:vs.length<=sizeLine:=by rw[Zau];omega
 refine PySem.Calls.call_function_entry kind_sorted plain_sorted entry_sorted (args_sorted1 _) ?_
 unfold Builtin.«sorted»
 refine eg (m:=checkCount "sorted" 1 1 _) (X6 ?_)
 refine eg (collect_list hl ?_ qf)
 refine eg (Zef ?_ qf)
 have hsz:((s.heap.push (seqObj "list" #[] 0)).update s.heap.objs.size (Obj.mapSeq (· ++vs.toArray))).objs.size=s.heap.objs.size+1:=by
  rw[PySem.Heap.size_update,size_push']
 have jX:(((s.heap.push (seqObj "list" #[] 0)).update s.heap.objs.size (Obj.mapSeq (· ++vs.toArray))).push (seqObj "list" vs.toArray 0)).get? (s.heap.objs.size+1)=some (seqObj "list" vs.toArray 0):=by
  rw[<-hsz];exact Zaf _ rfl
 show wpAny _ _ _ _ _ {s with heap:=((s.heap.push (seqObj "list" #[] 0)).update s.heap.objs.size (Obj.mapSeq (· ++vs.toArray))).push (seqObj "list" vs.toArray 0)}
 rw[hsz]
 have asks:=hc (((s.heap.push (seqObj "list" #[] 0)).update s.heap.objs.size (Obj.mapSeq (· ++vs.toArray))).push (seqObj "list" vs.toArray 0)) (s.heap.objs.size+1)
  (fun b ob e=>X7 _ (by rw[Zdp _ _ _ _ (Zan (Zad e))];exact X7 _ e)) (fun b ob e=>Zan (Zbl (Zad e)))
 have zy:rB prog w A.in1.in1 E κ r (s.heap.objs.size+1) (((s.heap.push (seqObj "list" #[] 0)).update s.heap.objs.size (Obj.mapSeq (· ++vs.toArray))).push (seqObj "list" vs.toArray 0)) vs:=fun s6 h6=>by
  obtain⟨q1,q2⟩:=asks s6 h6
  refine⟨fun g Q hq=>ZaL (q1 g Q hq) (fun _ _ x=>x) fun _ _ x=>x.elim,fun x y st Q m1 m2 hk hq=> ?_⟩
  exact ZaL (q2 x y st Q m1 m2 hk hq) (fun _ _ x=>x) fun _ _ x=>x.elim
 refine eg (ZaO (ZaY slot_list_sort ⟨_,jX,rfl⟩ entry_list_sort (JS o jX zy hz fun xs a1 a2=> ⟨_,rfl,?_⟩) (args_list_sort _)))
 exact X6 ⟨_,rfl,h xs a1 a2⟩
end
end PyProof.Rows.dc
namespace L2
open PySem PySem.Spec PyProof.Rows PyProof.Rows.dc
def bq (H:Hp) (v:V) (k:List Int):Prop:=∃t:Addr,v=.ref t/\H t=some (.tup (k.map V.int))
theorem bq.same {H H':Hp}{v:V}{k:List Int}(h:bq H v k) (s:af H H'):bq H' v k:=by
 obtain⟨t,e,h1⟩:=h
 exact⟨t,e,s _ _ h1⟩
def bJ (h:Heap):Value->List Int
 | .ref t=>match h.get? t with
  |some o=>match o.data with
   | .seq aa _=>aa.toList.map numOf
   |_=> []
  |none=> []
 |_=> []
theorem ZX {h:Heap}{t:Addr}{o:Obj}{aa:Array Value}{n:Nat}{k:List Int}(e:h.get? t=some o) (d:o.data=.seq aa n) (i:IntsAre aa.toList k):bJ h (.ref t)=k:=by
 unfold bJ
 dsimp only
 rw[e]
 dsimp only
 rw[d]
 dsimp only
 clear d e
 generalize aa.toList=us at i
 induction i with
 |nil=>rfl
 |cons x t _ ih=>rw[ZaR,ih];rfl
def toV:Value->V
 | .ref t=> .ref t
 |_=> .ah
def jE (h:Heap) (u:Value) (k:List Int):Prop:=∃(t:Addr) (o:Obj) (aa:Array Value) (n:Nat),u=.ref t/\h.get? t=some o/\o.cls=.type "tuple" /\o.data=.seq aa n/\IntsAre aa.toList k
theorem jE.keep {h h':Heap}{u:Value}{k:List Int}{a:Addr}(x:jE h u k) (kp:∀b o,b≠a->h.get? b=some o->h'.get? b=some o) (na:∀b o,h.get? b=some o->b≠a):jE h' u k:=by
 obtain⟨t,o,aa,n,e,g,c,d,i⟩:=x
 exact⟨t,o,aa,n,e,kp t o (na t o g) g,c,d,i⟩
theorem W4 {h:Heap} :∀{us:List Value}{ks:List (List Int)},Paired (jE h) us ks->(∀k∈ks,k≠[])->∃fs,PySem.W.KatTups h us fs/\fs.length=us.length/\∀f∈fs,∃n t,f=.int n t
 |_,_,.nil,_=> ⟨[],.nil,rfl,fun f hf=>by cases hf⟩
 |_,_,.cons (a:=u) (b:=k) ⟨t,o,aa,n,e,g,c,d,i⟩ r,hk=>by
  obtain⟨fs,h1,h2,h3⟩:=W4 r fun k ay=>hk k (Zaa _ ay)
  subst e
  cases k with
  |nil=>exact absurd rfl (hk _ Zab)
  |cons x xs=>
   have:∃tk us,aa.toList=.int x tk::us:=by
    cases hh:aa.toList with
    |nil=>rw[hh]at i;cases i
    |cons a b=>rw[hh]at i;cases i with |cons x t r=>exact⟨_,_,rfl⟩
   obtain⟨tk,us,eq⟩:=this
   refine⟨.int x tk::fs,.cons g c d (by rw[<-Za6,eq];rfl) h1,by rw[ZaJ,ZaJ,h2],fun f hf=> ?_⟩
   rcases Zaj.mp hf with rfl |hf
   ·exact⟨_,_,rfl⟩
   ·exact h3 f hf
theorem Z4 {α β:Type}{R:α->β->Prop} :∀{xs:List α}{ys:List β}{x:α},Paired R xs ys->x∈xs->∃y∈ys,R x y
 |_,_,_,.cons h r,m=>by
  rcases Zaj.mp m with rfl |m
  ·exact⟨_,Zab,h⟩
  ·obtain⟨y,hy,q⟩:=Z4 r m
   exact⟨y,Zaa _ hy,q⟩
theorem Y2 {α β:Type}{R:α->β->Prop}{f:α->β} :∀{xs:List α}{ys:List β},Paired R xs ys->(∀x y,R x y->f x=y)->xs.map f=ys
 |_,_,.nil,_=>rfl
 |_,_,.cons h r,e=>by rw[ZaR,e _ _ h,Y2 r e]
theorem Yd {vs:List Value}{p:Keyed}(h:p∈(pairsOf vs).toList):p.1∈vs/\p.2=p.1:=by
 unfold pairsOf at h
 rw[Array.toList_zip,List.toList_toArray]at h
 have:∀(l:List Value),p∈l.zip l->p.1∈l/\p.2=p.1:=fun l=>by
  induction l with
  |nil=>intro h;cases h
  |cons a l ih=>
   intro h
   rw[Zbo]at h
   rcases Zaj.mp h with rfl |h
   ·exact⟨Zab,rfl⟩
   ·exact⟨Zaa _ (ih h).1,(ih h).2⟩
 exact this vs h
abbrev I4:=Int×Int×Int×Int
def bh (q:I4):List Int:=[q.1,q.2.1,q.2.2.1,q.2.2.2]
theorem RP {a b:I4}(h:bh a=bh b):a=b:=by
 obtain⟨a1,a2,a3,a4⟩:=a
 obtain⟨b1,b2,b3,b4⟩:=b
 simp only[bh,List.cons.injEq,and_true]at h
 obtain⟨h1,h2,h3,h4⟩:=h
 subst h1 h2 h3 h4
 rfl
def mW (H:Hp) (v:V) (q:I4):Prop:=∃t t':Addr,v=.ref t/\H t=some (.tup [.ref t',.int q.2.2.1,.int q.2.2.2])/\H t'=some (.tup [.int q.1,.int q.2.1])
def kh (h:Heap) (u:Value) (k:I4):Prop:=∃(t:Addr) (o:Obj) (n:Nat) (t':Addr) (o':Obj) (n':Nat) (k1 k2 k3 k4:Tok),u=.ref t/\h.get? t=some o/\o.cls=.type "tuple" /\o.data=.seq #[.ref t',.int k.2.2.1 k3,.int k.2.2.2 k4] n/\
 h.get? t'=some o'/\o'.cls=.type "tuple" /\o'.data=.seq #[.int k.1 k1,.int k.2.1 k2] n'
theorem kh.keep {h h':Heap}{u:Value}{k:I4}{a:Addr}(x:kh h u k) (kp:∀b o,b≠a->h.get? b=some o->h'.get? b=some o) (na:∀b o,h.get? b=some o->b≠a):kh h' u k:=by
 obtain⟨t,o,n,t',o',n',k1,k2,k3,k4,e,g,c,d,g',c',d'⟩:=x
 exact⟨t,o,n,t',o',n',k1,k2,k3,k4,e,kp t o (na t o g) g,c,d,kp t' o' (na t' o' g') g',c',d'⟩
def jR (h:Heap):Value->List Int
 | .ref t=>match h.get? t with
  |some o=>match o.data with
   | .seq aa _=>bJ h (aa.toList.getD 0 .none)++(aa.toList.drop 1).map numOf
   |_=> []
  |none=> []
 |_=> []
theorem Wc {h:Heap}{u:Value}{k:I4}(x:kh h u k):jR h u=bh k:=by
 obtain⟨t,o,n,t',o',n',k1,k2,k3,k4,rfl,g,c,d,g',c',d'⟩:=x
 have e:=ZX g' d' (k:=[k.1,k.2.1]) (.cons _ _ (.cons _ _ .nil))
 unfold jR
 dsimp only
 rw[g]
 dsimp only
 rw[d]
 dsimp only
 show bJ h (.ref t')++_=_
 rw[e]
 rfl
theorem W3 {h:Heap} :∀{us:List Value}{ks:List I4},Paired (kh h) us ks->∃fs,PySem.W.KatTups h us fs/\fs.length=us.length/\∀f∈fs,∃t o,f=.ref t/\h.get? t=some o/\o.cls=.type "tuple"
 |_,_,.nil=> ⟨[],.nil,rfl,fun f hf=>by cases hf⟩
 |_,_,.cons (a:=u) (b:=k) q r=>by
  obtain⟨t,o,n,t',o',n',k1,k2,k3,k4,e,g,c,d,g',c',d'⟩:=q
  obtain⟨fs,h1,h2,h3⟩:=W3 r
  subst e
  refine⟨.ref t'::fs,.cons g c d rfl h1,by rw[ZaJ,ZaJ,h2],fun f hf=> ?_⟩
  rcases Zaj.mp hf with rfl |hf
  ·exact⟨_,_,rfl,g',c'⟩
  ·exact h3 f hf
theorem Fd (a b a' b':Int) (l m:List Int):av (a::b::l) (a'::b'::m)=if [a,b]=[a',b'] then av l m else HT.lexLt [a,b] [a',b']:=by
 by_cases e1:a=a'
 ·subst e1
  by_cases e2:b=b'
  ·subst e2
   simp[av]
  ·simp[av,e2,HT.lexLt]
 ·simp[av,e1,HT.lexLt]
theorem Sb {A:Around}{s:Shared}{t t':Addr}{o o':Obj}{n n':Nat}{a b a' b':Int}{k1 k2 k3 k4:Tok}(hu:A.units<cLine) (g:s.heap.get? t=some o) (c:o.cls=.type "tuple") (d:o.data=.seq #[.int a k1,.int b k2] n)
  (g':s.heap.get? t'=some o') (c':o'.cls=.type "tuple") (d':o'.data=.seq #[.int a' k3,.int b' k4] n'):SeqAt.EqAt A s (.ref t) (.ref t') (decide ([a,b]=[a',b'])):=by
 by_cases h:t=t'
 ·subst h
  rw[g]at g'
  cases g'
  rw[d]at d'
  have e:a=a'/\b=b':=by
   injection d' with e1 e2
   simp at e1
   exact⟨e1.1.1,e1.2.1⟩
  rw[e.1,e.2]
  have:=SeqAt.EqAt.same (A:=A) (s:=s) (.ref t)
  simpa using this
 ·refine SeqAt.EqAt.of_refs h ?_
  have z:=SeqAt.RcAt.tuples (A:=A) (s:=s) (l:=t) (b:=t') (items:= #[.int a k1,.int b k2]) (items2:= #[.int a' k3,.int b' k4]) (e:=fun j=>if j=0 then a==a' else b==b') ⟨o,g,c,n,d⟩ ⟨o',g',c',n',d'⟩ hu (fun j h1 h2=>by
   have qG:j<2:=h1
   match j,qG with
   |0,_=>exact ZcA _ _ _ _
   |1,_=>exact ZcA _ _ _ _)
  have e:((List.range (min (#[Value.int a k1,Value.int b k2]:Array Value).size (#[Value.int a' k3,Value.int b' k4]:Array Value).size)).all (fun j=>if j=0 then a==a' else b==b')&&(#[Value.int a k1,Value.int b k2]:Array Value).size==(#[Value.int a' k3,Value.int b' k4]:Array Value).size)=decide ([a,b]=[a',b']):=by
   show((List.range 2).all (fun j=>if j=0 then a==a' else b==b')&&2==2)=_
   rw[Zb6]
   simp[Zcr]
  rw[e]at z
  exact z
section
variable {X:Cx}
theorem WW (hu:X.A.units+2<cLine):fc X (.builtin "sorted") (fun xs H Q=> ∃(p:Addr) (vs:List V) (ks:List I4),xs=[.ref p]/\ai X.K H p vs/\Paired (mW H) vs ks/\vs.length<64/\
  ∀(q:Addr) (bQ:List V) (bz:List I4),H q=none->bz.Perm ks->(bz.map bh).Pairwise (fun a b=>av b a=false)->Paired (mW H) bQ bz->Q (.ref q) (upd H q (.lst bQ))):=by
 intro pins s σ H xs us Q I r h
 obtain⟨p,vs,ks,rfl,hp,pr,hz,q⟩:=h
 obtain⟨u,rfl,ru⟩:=ZeN r
 cases ru
 obtain⟨aa,rv,pl,_⟩:=I.list hp
 have hl:=rv.length
 have key:∀{vs:List V}{ks:List I4}{aa:List Value},Paired (mW H) vs ks->Vals vs aa->Paired (fun u k=>kh s.heap u k/\mW H (toV u) k) aa ks:=by
  intro vs ks aa pr
  induction pr generalizing aa with
  |nil=>intro rv;cases rv;exact .nil
  |cons hh _ ih=>
   intro rv
   cases rv with
   |cons r1 r2=>
    refine .cons ?_ (ih r2)
    obtain⟨t,t',rfl,ht,jk⟩:=hh
    cases r1
    obtain⟨i1,ri,⟨o,go,oc,n,od⟩,_⟩:=I.tuple (ag.of ht)
    obtain⟨i2,HZ,⟨o',go',Ku,n',Kt⟩,_⟩:=I.tuple (ag.of jk)
    refine⟨?_,t,t',rfl,ht,jk⟩
    cases ri with
    |cons a1 a2=>
     cases a2 with
     |cons a3 a4=>
      cases a4 with
      |cons a5 a6=>
       cases a6
       cases HZ with
       |cons b1 b2=>
        cases b2 with
        |cons b3 b4=>
         cases b4
         cases a1
         obtain⟨k3,rfl⟩:=a3
         obtain⟨k4,rfl⟩:=a5
         obtain⟨k1,rfl⟩:=b1
         obtain⟨k2,rfl⟩:=b3
         exact⟨t,o,n,t',o',n',k1,k2,k3,k4,rfl,go,oc,od,go',Ku,Kt⟩
 have tp:=key pr rv
 have tu:Paired (kh s.heap) aa ks:=Paired.aS tp fun _ _ h=>h.1
 refine Tu (κ:=tuples' false) (r:=fun x y=>av (jR s.heap x.1) (jR s.heap y.1)) (EI _) pl.isList (fun h' a kp na s6 h6=> ?_) .o fun xs p7 pZ=> ?_
 ·have uQ:Paired (kh s6.heap) aa ks:=Paired.aS tu fun u k x=>x.keep (a:=a) (fun b o hb e=>h6 b o hb (kp b o e)) na
  refine⟨fun h2 Q' hq=> ?_,fun x y st Q' mx my hk hq=> ?_⟩
  ·obtain⟨fs,kt,kl,kf⟩:=W3 uQ
   refine PySem.W.kat_kind (T:=.type "tuple") kt .o (fun v hv=> ?_) (by rfl) hq
   obtain⟨t,o,rfl,g,c⟩:=kf v hv
   rw[<-c]
   exact(PySem.W.Looks.ld g).andThen .now
  ·rw[lt'_eq]
   refine Zbi (wpS_get ?_)
   rw[hk]
   obtain⟨xp,_⟩:=Yd mx
   obtain⟨xo,_⟩:=Yd my
   obtain⟨kx,_,nx⟩:=Z4 tu xp
   obtain⟨ky,_,ny⟩:=Z4 tu xo
   dsimp only at hq
   rw[Wc nx,Wc ny]at hq
   obtain⟨tx,ox,n1,Gm,Xr,K1,c1,c2,c3,c4,ex,gx,cx,dx,CN,Ds,Dk⟩:=nx.keep (h':=s6.heap) (a:=a) (fun b o hb e=>h6 b o hb (kp b o e)) na
   obtain⟨ty,oy,n2,Gk,Xq,K0,d1,d2,d3,d4,ey,gy,cy,dy,CM,Dr,Dj⟩:=ny.keep (h':=s6.heap) (a:=a) (fun b o hb e=>h6 b o hb (kp b o e)) na
   rw[ex,ey]
   refine Zbi (wpS_lift (ZcC (PySem.W.kat_lt gx dx gy dy ?_)))
   show PySem.W.KatLex _ _ _ false (decide (3<3)) _ ((Value.ref Gm,Value.ref Gk)::([Value.int kx.2.2.1 c3,Value.int kx.2.2.2 c4].zip [Value.int ky.2.2.1 d3,Value.int ky.2.2.2 d4])) 0 _
   refine PySem.W.kat_cons (Sb (A:=X.A.in1.in1) hu CN Ds Dk CM Dr Dj _ _ _ _ ?_)
   have yn:av (bh kx) (bh ky)=if [kx.1,kx.2.1]=[ky.1,ky.2.1] then av [kx.2.2.1,kx.2.2.2] [ky.2.2.1,ky.2.2.2] else HT.lexLt [kx.1,kx.2.1] [ky.1,ky.2.1]:=Fd ..
   rw[yn]at hq
   by_cases e:[kx.1,kx.2.1]=[ky.1,ky.2.1]
   ·rw[Zay e]at hq
    rw[Zat e]
    exact PySem.W.kat_yes (WC (xs:=[kx.2.2.1,kx.2.2.2]) (ys:=[ky.2.2.1,ky.2.2.2]) (.cons _ _ (.cons _ _ .nil)) (.cons _ _ (.cons _ _ .nil)) rfl ⟨rfl,ZbS hq⟩)
   ·rw[Zav e]at hq
    rw[Zaq e]
    exact PySem.W.kat_no (PySem.W.kat_one _ _ (HT.BE ⟨_,CN,Ds,K1,Dk⟩ ⟨_,CM,Dr,K0,Dj⟩ (ns:=[kx.1,kx.2.1]) (ms:=[ky.1,ky.2.1]) (.cons _ _ (.cons _ _ .nil)) (.cons _ _ (.cons _ _ .nil)) hu ⟨rfl,ZbS hq⟩))
 ·have bK:∀pq∈xs.toList,pq.1∈aa/\pq.2=pq.1:=fun pq me=>Yd ((Zb1.mp p7).mem_iff.mp me)
  have eo:(xs.map (·.2)).toList=xs.toList.map (·.1):=by
   rw[Array.toList_map]
   exact List.map_congr_left fun pq me=> (bK pq me).2
  have po:(xs.toList.map (·.1)).Perm aa:=by
   refine List.Perm.trans ((Zb1.mp p7).map _) ?_
   unfold pairsOf
   rw[Array.toList_zip,List.toList_toArray]
   have:∀l:List Value,(l.zip l).map (·.1)=l:=fun l=>by
    induction l with
    |nil=>rfl
    |cons a l ih=>rw[Zbo,ZaR,ih]
   rw[this]
  generalize MC:xs.map (·.2)=out at eo
  let kk:Value->I4:=fun u=>match jR s.heap u with
   | [a,b,c,d]=> (a,b,c,d)
   |_=> (0,0,0,0)
  have Ck:∀u k,kh s.heap u k->kk u=k:=fun u k x=>by
   show(match jR s.heap u with
    | [a,b,c,d]=> (a,b,c,d)
    |_=> (0,0,0,0))=k
   rw[Wc x]
   rfl
  have ek:aa.map kk=ks:=Y2 tu Ck
  have rel:∀u∈out.toList,mW H (toV u) (kk u)/\bh (kk u)=jR s.heap u/\RelV (toV u) u:=fun u hu=>by
   rw[eo]at hu
   obtain⟨k,_,hT,hS⟩:=Z4 tp (po.mem_iff.mp hu)
   have e:=Ck u k hT
   rw[e]
   refine⟨hS,(Wc hT).symm,?_⟩
   obtain⟨t,t',e2,_⟩:=hS
   obtain⟨t2,_,_,_,_,_,_,_,_,_,e3,_⟩:=hT
   subst e3
   rfl
  have vals:∀l:List Value,(∀u∈l,mW H (toV u) (kk u)/\bh (kk u)=jR s.heap u/\RelV (toV u) u)->Vals (l.map toV) l/\Paired (mW H) (l.map toV) (l.map kk)/\(l.map kk).map bh=l.map (jR s.heap):=fun l=>by
   induction l with
   |nil=>intro _;exact⟨.nil,.nil,rfl⟩
   |cons u l ih=>
    intro hl
    obtain⟨i1,i2,i3⟩:=ih fun v hv=>hl v (Zaa _ hv)
    obtain⟨a1,a2,a3⟩:=hl u Zab
    exact⟨.cons a3 i1,.cons a1 i2,by rw[ZaR,ZaR,ZaR,i3,a2]⟩
  obtain⟨v1,v2,v3⟩:=vals out.toList rel
  obtain⟨e,he⟩:=sortedAll_at s.heap aa out
  have lo:out.toList.length=aa.length:=by rw[eo];exact po.length_eq
  have hlen:(out.toList.map toV).length<=sizeLine:=by rw[Zac,lo,Zau];omega
  refine⟨.ref (s.heap.objs.size+1),_,I.laid (t':=s.toks) (a:=s.heap.objs.size+1) (o:=.lst (out.toList.map toV)) (fun b o=>sortedAll_old) (Nat.le_succ _) ⟨hlen,out.toList,e,v1,by simpa using he⟩,rfl,q _ _ (out.toList.map kk) (I.ak.fresh (Nat.le_succ _)) ?_ ?_ v2⟩
  ·rw[<-ek,eo]
   exact po.map _
  ·rw[v3,eo,Zb0,Zbx]
   exact pZ
end
end L2
namespace PyProof.Rows.dc
open PySem
def iT (lt:Value->Value->Bool):Value->List Value->Value
 |b,[]=>b
 |b,v::r=>iT lt (if lt v b=true then v else b) r
section
variable {prog:Program}{w:World}{A:Around}{R:Result->Shared->Prop}{lt:Value->Value->Bool}{vs:List Value}{h0:Heap}{kw:List (Str×Value)}
def Kp (h0 h:Heap):Prop:=∀b o,h0.get? b=some o->h.get? b=some o
theorem R5 (hh:A.in1.handled=none) {I l S:Addr}(jo:l≠I) (fH:S≠I) (ug:S≠l) (zI:h0.get? I=none) (zS:h0.get? S=none)
  (yz:∀(s':Shared) u v (Q:Value->Shared->Prop) (E:Value->Shared->Prop),Kp h0 s'.heap->u∈vs->v∈vs->Q (.bool (lt u v)) s'->wpAny (model prog w) A.in1 (richCompare .Lt u v) Q E s'):
  ∀(k j:Nat) (s:Shared) (vb:Value) (c:Nat),vs.length - j=k->j<=vs.length->s.heap.IsListIter I l j->s.heap.IsList l vs.toArray->vb∈vs->Kp h0 s.heap->
  s.heap.get? S=some {cls:=.type "list",dict:=none,data:=.seq #[vb,vb] c,slots:= #[]}->
  (∀h' tk,Kp h0 h'->R (.ok (.ret (iT lt vb (vs.drop j)))) {s with heap:=h',toks:=tk})->
  codeAny (model prog w) A (.builtin "min.loop" ⟨[.ref I,.none,.ref S],kw⟩) R s:=by
 have iM:(toString "min" ++toString ".loop" :String)= "min.loop" :=.d
 have W:=ZdN (prog:=prog) (w:=w) (A:=A.in1) hh I l jo vs.toArray
 have hsz:vs.toArray.size=vs.length:=Zae ..
 have ne:∀b o,h0.get? b=some o->b∉[I]/\b≠S:=fun b o e=> ⟨fun m=> (by rw[Zao.mp m,zI]at e;cases e),fun m=> (by rw[m,zS]at e;cases e)⟩
 intro k
 induction k with
 |zero=>
  intro j s vb c hk hj hit oA hb yj hS hR
  have mw:j=vs.toArray.size:=.o
  refine Za3 F.entry_min_loop ?_
  rw[ZaP Zd3 _]
  show wpAny _ A.in1 (seqItems? (.ref S) >>=_) _ _ s
  refine eg (ZaS hS rfl ?_)
  show wpAny _ A.in1 (tryCatch (pyNext (.ref I)) _ >>=_) _ _ s
  refine eg (ZbQ (W.done s _ _ (mw▸⟨hit,oA⟩) fun h' tk ay=> ?_))
  have bP:=ay S _ (by simpa using fH) hS
  show wpAny _ A.in1 (updateSeq S (fun _=> #[]) >>=_) _ _ _
  refine eg ?_
  refine Zde bP rfl (eg (ZcP (X6 ?_)))
  have e:vs.drop j=[]:=List.drop_eq_nil_of_le .o
  rw[e]at hR
  exact hR _ tk fun b o q=> (ZaZ _ _ (ZcE (ne b o q).2)).trans (ay b o (ne b o q).1 (yj b o q))
 |succ k ih=>
  intro j s vb c hk hj hit oA hb yj hS hR
  have ar:j<vs.length:=.o
  refine Za3 F.entry_min_loop ?_
  rw[ZaP Zd3 _]
  show wpAny _ A.in1 (seqItems? (.ref S) >>=_) _ _ s
  refine eg (ZaS hS rfl ?_)
  show wpAny _ A.in1 (tryCatch (pyNext (.ref I)) _ >>=_) _ _ s
  refine eg (ZbQ (W.item j s _ _ .o ⟨hit,oA⟩ fun v h' tk hP cI ay=> ?_))
  have hv:vs[j]? =some v:=by simpa using hP
  have BQ:v∈vs:=Zap hv
  have bP:=ay S _ (by simpa using fH) hS
  have pV:Kp h0 h':=fun b o q=>ay b o (ne b o q).1 (yj b o q)
  have ed:vs.drop j=v::vs.drop (j+1):=by
   have e2:vs[j]=v:=(X8.mp hv).2
   rw[List.drop_eq_getElem_cons ar,e2]
  rw[ed]at hR
  show wpAny _ A.in1 (tryCatch (holding [v,v] (richCompare .Lt v vb >>=_)) _ >>=_) _ _ _
  refine eg (ZbQ (ZaO (eg (yz _ v vb _ _ pV BQ hb ?_))))
  refine eg (ZaO (ZbG ?_))
  refine eg (ZcP (X6 ?_))
  cases bY:lt v vb with
  |true=>
   simp only[Zch]
   refine eg ?_
   refine Zde bP rfl (eg (ZcP ?_))
   rw[iM]
   have fr:=W.frame (j+1) _ (h'.update S (Obj.mapSeq fun _=> #[v,v])) cI fun b qv o e=> (ZaZ _ _ (fun h:S=b=>by
    simp only[Zaj,Za5,Zb4]at qv
    rcases qv with q |q
    ·exact fH (h.trans q)
    ·exact ug (h.trans q))).trans e
   refine X6 ⟨Zbr Zd3 _,ih (j+1) _ v _ .o ar fr.1 fr.2 BQ (fun b o q=> (ZaZ _ _ (ZcE (ne b o q).2)).trans (pV b o q)) (Zbq _ bP rfl) fun eU o9 bO=> ?_⟩
   have z:=hR eU o9 bO
   unfold iT at z
   rw[Zay bY]at z
   exact z
  |false=>
   simp only[Zak,Za0]
   refine eg (ZcP ?_)
   rw[iM]
   refine X6 ⟨Zbr Zd3 _,ih (j+1) _ vb c .o ar cI.1 cI.2 hb pV bP fun eU o9 bO=> ?_⟩
   have z:=hR eU o9 bO
   unfold iT at z
   rw[Zav (by rw[bY];exact Zag)]at z
   exact z
theorem JM (a v:Value):argsOk "min" ⟨[a],[(Str.ofString "default",v)]⟩:=by unfold argsOk;kernel_rfl
theorem SW {E:Value->Shared->Prop}{s:Shared}{Q:Value->Shared->Prop}{l:Addr}(hh:A.in1.handled=none) (mj:s.heap.IsList l vs.toArray)
  (yz:∀(s':Shared) u v (Q:Value->Shared->Prop) (E:Value->Shared->Prop),Kp s.heap s'.heap->u∈vs->v∈vs->Q (.bool (lt u v)) s'->wpAny (model prog w) A.in1 (richCompare .Lt u v) Q E s')
  (h1:∀h' tk,vs=[]->Kp s.heap h'->Q .none {s with heap:=h',toks:=tk}) (h2:∀v r h' tk,vs=v::r->Kp s.heap h'->Q (iT lt v r) {s with heap:=h',toks:=tk}):
  wpAny (model prog w) A (call (.builtin "min") [.ref l] [(Str.ofString "default",.none)]) Q E s:=by
 have iM:(toString "min" ++toString ".loop" :String)= "min.loop" :=.d
 obtain⟨ol,jW,_⟩:=id mj
 have tU:l<s.heap.objs.size:=Zad jW
 refine kmk_tree PySem.F.kind_min PySem.F.plain_min PySem.F.entry_min (JM _ _) ?_
 show wpAny _ A.in1 (Builtin.Builtins.bindParams "min" ["key", "default"] 0 ⟨[],[(Str.ofString "default",.none)]⟩ >>=_) _ _ s
 refine eg (Zdm (show Builtin.Builtins.bindParams "min" ["key", "default"] 0 ⟨[],[(Str.ofString "default",.none)]⟩=pure [none,some .none] from rfl) ?_)
 refine eg (X6 ?_)
 refine eg (Zcl mj ?_)
 refine eg (Zef ?_ (Zaz _))
 rw[iM]
 have hS:(s.heap.push {cls:=.type "list_iterator",data:=.fields #[.ref l,.int 0 0]}).objs.size=s.heap.objs.size+1:=size_push' ..
 have jo:l≠s.heap.objs.size:=Zan tU
 have fH:(s.heap.push {cls:=.type "list_iterator",data:=.fields #[.ref l,.int 0 0]}).objs.size≠s.heap.objs.size:=by rw[hS];exact ZbZ (Zcw _)
 have ug:(s.heap.push {cls:=.type "list_iterator",data:=.fields #[.ref l,.int 0 0]}).objs.size≠l:=by rw[hS];exact ZbZ (Zbl tU)
 have zI:s.heap.get? s.heap.objs.size=none:=PySem.Heap.get?_none_of_le (Zal _)
 have zS:s.heap.get? (s.heap.push {cls:=.type "list_iterator",data:=.fields #[.ref l,.int 0 0]}).objs.size=none:=PySem.Heap.get?_none_of_le (by rw[hS];exact Nat.le_succ _)
 refine X6 ⟨Zbr Zbe _,?_⟩
 have xA:Kp s.heap ((s.heap.push {cls:=.type "list_iterator",data:=.fields #[.ref l,.int 0 0]}).push (seqObj "list" #[] 0)):=fun b o e=>X7 _ (X7 _ e)
 have gI:((s.heap.push {cls:=.type "list_iterator",data:=.fields #[.ref l,.int 0 0]}).push (seqObj "list" #[] 0)).get? s.heap.objs.size=some {cls:=.type "list_iterator",data:=.fields #[.ref l,.int 0 0]} :=
  X7 _ (Zaf _ rfl)
 have gS:((s.heap.push {cls:=.type "list_iterator",data:=.fields #[.ref l,.int 0 0]}).push (seqObj "list" #[] 0)).get? (s.heap.push {cls:=.type "list_iterator",data:=.fields #[.ref l,.int 0 0]}).objs.size=some (seqObj "list" #[] 0):=Zaf _ rfl
 have lH:((s.heap.push {cls:=.type "list_iterator",data:=.fields #[.ref l,.int 0 0]}).push (seqObj "list" #[] 0)).IsList l vs.toArray:=mj.at fun o e=>xA _ _ e
 have W:=ZdN (prog:=prog) (w:=w) (A:=A.in1) hh s.heap.objs.size l jo vs.toArray
 have hsz:vs.toArray.size=vs.length:=Zae ..
 have ne:∀b o,s.heap.get? b=some o->b∉[s.heap.objs.size]/\b≠(s.heap.push {cls:=.type "list_iterator",data:=.fields #[.ref l,.int 0 0]}).objs.size:=fun b o e=> ⟨fun m=> (by rw[Zao.mp m,zI]at e;cases e),fun m=> (by rw[m,zS]at e;cases e)⟩
 refine Za3 Zc2 ?_
 rw[ZaP Zbe _]
 show wpAny _ A.in1 (seqItems? (.ref _) >>=_) _ _ _
 refine eg (ZaS gS rfl ?_)
 show wpAny _ A.in1 (tryCatch (pyNext (.ref s.heap.objs.size)) _ >>=_) _ _ _
 cases kY:vs with
 |nil=>
  refine eg (ZbQ (W.done _ _ _ ⟨⟨_,gI,rfl,by rw[hsz,kY];rfl⟩,lH⟩ fun h' tk ay=> ?_))
  refine eg (Zck ?_)
  exact X6 (h1 h' tk kY fun b o q=>ay b o (ne b o q).1 (xA b o q))
 |cons v0 r0=>
  refine eg (ZbQ (W.item 0 _ _ _ (by rw[hsz,kY];exact Nat.succ_pos _) ⟨⟨_,gI,rfl,rfl⟩,lH⟩ fun v h' fe hP cI ay=> ?_))
  have hv:v0=v:=by
   rw[kY]at hP
   simpa using hP
  subst hv
  have CP:=ay _ _ (by simpa using fH) gS
  have pV:Kp s.heap h':=fun b o q=>ay b o (ne b o q).1 (xA b o q)
  show wpAny _ A.in1 (updateSeq (s.heap.push {cls:=.type "list_iterator",data:=.fields #[.ref l,.int 0 0]}).objs.size (fun _=> #[v0,v0]) >>=_) _ _ _
  refine eg ?_
  refine Zde CP rfl ?_
  rw[iM]
  have fr:=W.frame (0+1) _ (h'.update (s.heap.push {cls:=.type "list_iterator",data:=.fields #[.ref l,.int 0 0]}).objs.size (Obj.mapSeq fun _=> #[v0,v0])) cI fun b qv o e=> (ZaZ _ _ (fun h=>by
    simp only[Zaj,Za5,Zb4]at qv
    rcases qv with q |q
    ·exact fH (h.trans q)
    ·exact ug (h.trans q))).trans e
  refine X6 ⟨Zbr Zbe _,R5 (lt:=lt) (vs:=vs) (h0:=s.heap) hh jo fH ug zI zS yz _ 1 _ v0 _ rfl (by rw[kY];exact Nat.succ_le_succ (Zaz _)) fr.1 fr.2 (by rw[kY];exact Zab) (fun b o q=> (ZaZ _ _ (ZcE (ne b o q).2)).trans (pV b o q)) (Zbq _ CP rfl) fun eU o9 bO=> ?_⟩
  have z:=h2 v0 r0 eU o9 kY bO
  rw[kY]
  exact z
end
theorem JT {lt:Value->Value->Bool} :∀{r:List Value}{b:Value},iT lt b r∈b::r
 | [],b=>Zab
 |v::r,b=>by
  unfold iT
  rcases Zaj.mp (JT (lt:=lt) (r:=r) (b:=if lt v b=true then v else b)) with h |h
  ·rw[h]
   by_cases e:lt v b=true
   ·rw[Zay e];exact Zaa _ Zab
   ·rw[Zav e];exact Zab
  ·exact Zaa _ (Zaa _ h)
theorem WH (key:Value->List Int):∀{r:List Value}{b:Value},∀v∈b::r,av (key v) (key (iT (fun a b=>av (key a) (key b)) b r))=false
 | [],b,v,hv=>by
  rw[Zao.mp hv]
  cases h:av (key b) (key (iT (fun a b=>av (key a) (key b)) b [])) with
  |false=>rfl
  |true=>
   have:=Z8 _ _ h
   exact absurd (h.symm.trans this) .d
 |w::r,b,v,hv=>by
  have ih:=fun v hv=>WH key (r:=r) (b:=if av (key w) (key b)=true then w else b) v hv
  show av (key v) (key (iT (fun a b=>av (key a) (key b)) (if av (key w) (key b)=true then w else b) r))=false
  have hd:=ih _ Zab
  by_cases e:av (key w) (key b)=true
  ·rw[Zay e]at hd ih |-
   rcases Zaj.mp hv with rfl |hv
   ·exact Yy _ _ _ hd (Z8 _ _ e)
   ·exact ih v hv
  ·rw[Zav e]at hd ih |-
   rcases Zaj.mp hv with rfl |hv
   ·exact hd
   ·rcases Zaj.mp hv with rfl |hv
    ·exact Yy _ _ _ hd (by simpa using e)
    ·exact ih v (Zaa _ hv)
end PyProof.Rows.dc
namespace L2
open PySem PySem.Spec PyProof.Rows PyProof.Rows.dc
theorem Y7:∀a b:List Int,HT.lexLt a b=av a b
 | [],[]=>rfl
 | [],_::_=>rfl
 |_::_,[]=>rfl
 |x::a,y::b=>by
  unfold av
  rw[HT.xx,Y7 a b]
section
variable {X:Cx}
def GW (K:Zgc) (te:TE):TE:=fun σ H Q=>te σ H fun v H1=> ∃(a:Addr) (vs:List V) (ks:List (List Int)),v=.ref a/\ai K H1 a vs/\Paired (bq H1) vs ks/\(vs=[]->Q .ah H1)/\
 ∀v k,v∈vs->k∈ks->bq H1 v k->(∀k'∈ks,av k' k=false)->Q v H1
theorem QI {x:Str}{te:TE}{p px kp jQ pos:Pos}(hc:X.calm=true) (hu:X.A.units+1<cLine) (hg:Gl X "min") (hm:X.mg "min" =none) (he:PE X (.Name x px) te)
  (aM:(backToKw pos (keywordEach [⟨some "default",.Constant .none 0 kp,jQ⟩] X.env)).filterMap (·.1)=[Str.ofString "default"]:=by rfl):
  PE X (.Call (.Name "min" p) [.Name x px] [⟨some "default",.Constant .none 0 kp,jQ⟩] pos) (GW X.K te):=by
 intro pins s σ H Q I h
 refine Za2 (ZU I hg hm PyProof.Rows.Boot.«min» ?_ .d .d)
 have pa:PA X [.Name x px] (i9 te i8):=Za he Zb
 have pk:PK X [⟨some "default",.Constant .none 0 kp,jQ⟩] (i9 (tC .ah) i8):=EN Jx DX
 refine PyProof.Rows.callWith_kw (au (pa pos pins s σ H (fun us H1=>match us with
  | [v]=> ∃(a:Addr) (vs:List V) (ks:List (List Int)),v=.ref a/\ai X.K H1 a vs/\Paired (bq H1) vs ks/\(vs=[]->Q .ah H1)/\∀v k,v∈vs->k∈ks->bq H1 v k->(∀k'∈ks,av k' k=false)->Q v H1
  |_=>False) I h) fun us s1 ⟨uN,H1,I1,r1,q1⟩=> ?_)
 match uN,q1 with
 | [v],q1=>
  obtain⟨a,vs,ks,rfl,hq,pr,q1,q2⟩:=q1
  refine au (pk pos pins s1 σ H1 (fun zs H2=>zs=[.ah]/\H2=H1) I1 ⟨rfl,rfl⟩) fun ws s2 ⟨zs,H2,I2,rz,e1,e2⟩=> ?_
  subst e1 e2
  obtain⟨u,rfl,ru⟩:=ZeN r1
  obtain⟨z,rfl,wU⟩:=ZeN rz
  cases ru
  have ez:z=.none:=wU
  subst ez
  rw[aM]
  show wpAny _ _ (call (.builtin "min") [.ref a] [(Str.ofString "default",.none)]) _ _ _
  obtain⟨aa,rv,pl,_⟩:=I2.list hq
  have key:∀{vs:List V}{ks:List (List Int)}{aa:List Value},Paired (bq H2) vs ks->Vals vs aa->∀u∈aa,∃v∈vs,∃k∈ks,RelV v u/\bq H2 v k/\jE s2.heap u k:=by
   intro vs ks aa pr
   induction pr generalizing aa with
   |nil=>intro rv;cases rv;intro u hu;cases hu
   |cons hh _ ih=>
    intro rv
    cases rv with
    |cons r1 r2=>
     intro u hu
     rcases Zaj.mp hu with rfl |hu
     ·obtain⟨t,e,ht⟩:=id hh
      obtain⟨items,ri,⟨o,go,oc,n,od⟩,_⟩:=I2.tuple (ag.of ht)
      refine⟨_,Zab,_,Zab,r1,hh,?_⟩
      subst e
      cases r1
      exact⟨t,o,_,n,rfl,go,oc,od,by simpa using ZP ri⟩
     ·obtain⟨v,hv,k,hk,w⟩:=ih r2 u hu
      exact⟨v,Zaa _ hv,k,Zaa _ hk,w⟩
  have Lu:∀{vs:List V}{ks:List (List Int)}{aa:List Value},Paired (bq H2) vs ks->Vals vs aa->∀k∈ks,∃u∈aa,bJ s2.heap u=k:=by
   intro vs ks aa pr
   induction pr generalizing aa with
   |nil=>intro rv k hk;cases hk
   |cons hh _ ih=>
    intro rv
    cases rv with
    |cons r1 r2=>
     intro k hk
     rcases Zaj.mp hk with rfl |hk
     ·obtain⟨t,e,ht⟩:=id hh
      obtain⟨items,ri,⟨o,go,oc,n,od⟩,_⟩:=I2.tuple (ag.of ht)
      refine⟨_,Zab,?_⟩
      subst e
      cases r1
      exact ZX go od (by simpa using ZP ri)
     ·obtain⟨u,hu,e⟩:=ih r2 k hk
      exact⟨u,Zaa _ hu,e⟩
  refine SW (lt:=fun u v=>av (bJ s2.heap u) (bJ s2.heap v)) (I2.ok.hd hc) pl.isList (fun s' u v Q' E' kp jS Mb cW=> ?_) (fun h' tk e kp=> ?_) (fun v0 r h' tk e kp=> ?_)
  ·obtain⟨_,_,ku,_,_,_,tu,ou,iu,nu,rfl,gu,cu,du,ju⟩:=key pr rv u jS
   obtain⟨_,_,kv,_,_,_,tv,ov,iv,nv,rfl,gv,cv,dv,jv⟩:=key pr rv v Mb
   have e1:bJ s2.heap (.ref tu)=ku:=ZX gu du ju
   have e2:bJ s2.heap (.ref tv)=kv:=ZX gv dv jv
   try dsimp only at cW
   rw[e1,e2,<-Y7]at cW
   exact HT.BE ⟨_,kp _ _ gu,cu,nu,du⟩ ⟨_,kp _ _ gv,cv,nv,dv⟩ ju jv hu cW
  ·subst e
   cases rv
   exact⟨.ah,H2,I2.kept kp,rfl,q1 rfl⟩
  ·have hm:=JT (lt:=fun u v=>av (bJ s2.heap u) (bJ s2.heap v)) (r:=r) (b:=v0)
   have hle:=WH (bJ s2.heap) (r:=r) (b:=v0)
   generalize iT (fun u v=>av (bJ s2.heap u) (bJ s2.heap v)) v0 r=m at hm hle
   rw[<-e]at hm hle
   obtain⟨v,hv,k,hk,HY,oh,tu,ou,iu,nu,e3,gu,cu,du,ju⟩:=key pr rv m hm
   have e1:bJ s2.heap m=k:=by rw[e3];exact ZX gu du ju
   refine⟨v,H2,I2.kept kp,HY,q2 v k hv hk oh fun k' ay=> ?_⟩
   obtain⟨u',cq,e4⟩:=Lu pr rv k' ay
   have:=hle u' cq
   rw[e1,e4]at this
   exact this
end
end L2
namespace L2
open PySem PySem.Spec PyProof.Rows
def zX (K:Zgc) (l1 l2:Addr):It:=
 ⟨fun i H=> ∃xs ys x y,ai K H l1 xs/\ai K H l2 ys/\xs[i]? =some x/\ys[i]? =some y,
  fun i H v H'=> ∃(T:Addr) (x y:V),v=.ref T/\H T=none/\H'=upd H T (.par [x,y])/\∀xs ys,ai K H l1 xs->ai K H l2 ys->xs[i]? =some x/\ys[i]? =some y,
  fun i H=> ∃xs ys,ai K H l1 xs/\ai K H l2 ys/\min xs.length ys.length=i⟩
theorem SQ {P:Program}{w:World}{K:Zgc}{elts:List Expr}{kk:Nat}{pos:Pos}(z TI TO i1 i2 l1 l2:Addr) (D:ZipApart z TI TO i1 i2 l1 l2):
  Turn P w K (.Tuple elts kk pos) (zX K l1 l2) [z,TI,TO,i1,i2] z (fun i h=>IsZip h z TI TO .none/\IsPair h TI (.ref i1) (.ref i2)/\(∃a b,IsPair h TO a b)/\h.IsListIter i1 l1 i/\h.IsListIter i2 l2 i) where
 mem:=by simp
 obj:=fun i h st b hb=>by
  obtain⟨a1,a2,⟨u,v,a3⟩,⟨o4,h4,_,d4⟩,⟨o5,h5,_,d5⟩⟩:=st
  exact tw (P:=fun b=> ∃o,h.get? b=some o/\∀v,o.data≠.cell v) ⟨_,a1,fun v z=>by cases z⟩ ⟨_,a2,fun v z=>by cases z⟩ ⟨_,a3,fun v z=>by cases z⟩ ⟨_,h4,fun v z=>by rw[d4]at z;cases z⟩ ⟨_,h5,fun v z=>by rw[d5]at z;cases z⟩ b hb
 keep:=fun i h h' st k=>by
  obtain⟨a1,a2,⟨u,v,a3⟩,a4,a5⟩:=st
  exact⟨k z (by simp) _ a1,k TI (by simp) _ a2,⟨u,v,k TO (by simp) _ a3⟩,a4.at fun o q=>k i1 (by simp) o q,a5.at fun o q=>k i2 (by simp) o q⟩
 item:=by
  intro X hP hw hK hc i pins s σ H E I hf st hg
  subst hP hw hK
  obtain⟨xs,ys,x,y,fG,cJ,hx,hy⟩:=hg
  obtain⟨dF,jd,dR,pX⟩:=I.list fG
  obtain⟨eP,iD,eI,eQ⟩:=I.list cJ
  obtain⟨u,hu,ru⟩:=jd.get hx
  obtain⟨v,hv,rv⟩:=iD.get hy
  have mz:i<min dF.toArray.size eP.toArray.size:=by
   have e1:=(X8.mp hu).1
   have e2:=(X8.mp hv).1
   simp only[Zae]
   omega
  have W:=WalksT.zip2 (prog:=X.prog) (w:=X.w) (A:=X.A) (I.ok.hd hc) z TI TO i1 i2 l1 l2 D dF.toArray eP.toArray
  obtain⟨a1,a2,a3,a4,a5⟩:=st
  refine W.item i s _ _ mz ⟨a1,a2,a3,a4,a5,dR.isList,eI.isList⟩ fun T vals h' tk hP cP mF iN hk=> ⟨_,rfl,W.go elts kk pos i T _ _ _ iN fun eU cH bO=> ?_⟩
  obtain⟨x2,y2,iH,n9,rfl⟩:=hP
  have kX:dF[i]? =some x2:=by simpa using iH
  have BM:eP[i]? =some y2:=by simpa using n9
  rw[hu]at kX
  rw[hv]at BM
  cases kX
  cases BM
  have both:∀b o,b∉[z,TI,TO,i1,i2]->s.heap.get? b=some o->eU.get? b=some o:=fun b o hb q=>bO b o (YR hb) (hk b o (YR hb) q)
  have qz:eU.IsTuple T #[u,v]:=mF.at fun o q=>bO T o (W.apart _ _ _ iN) q
  refine⟨.ref T,upd H T (.par [x,y]),Jm (s:=s) (h':=eU) (tk:=tk) I hf both cP qz ru rv,rfl,⟨T,x,y,rfl,I.ak.fresh cP,rfl,fun as bs ha hb=>by rw[I.tF ha fG,I.tF hb cJ];exact⟨hx,hy⟩⟩,⟨cH.1,cH.2.1,cH.2.2.1,cH.2.2.2.1,cH.2.2.2.2.1⟩,Fn hf cP ?_⟩
  obtain⟨u',v',zA⟩:=a3
  obtain⟨o4,h4,_,d4⟩:=a4
  obtain⟨o5,h5,_,d5⟩:=a5
  exact tw (P:=fun b=> ∃o,s.heap.get? b=some o/\∀v,o.data≠.cell v) ⟨_,a1,fun v z=>by cases z⟩ ⟨_,a2,fun v z=>by cases z⟩ ⟨_,zA,fun v z=>by cases z⟩ ⟨_,h4,fun v z=>by rw[d4]at z;cases z⟩ ⟨_,h5,fun v z=>by rw[d5]at z;cases z⟩
 done:=by
  intro X hP hw hK hc i pins s σ H E I hf st hg
  subst hP hw hK
  obtain⟨xs,ys,fG,cJ,hx⟩:=hg
  obtain⟨dF,jd,dR,pX⟩:=I.list fG
  obtain⟨eP,iD,eI,eQ⟩:=I.list cJ
  have e1:=jd.length
  have e2:=iD.length
  have W:=WalksT.zip2 (prog:=X.prog) (w:=X.w) (A:=X.A) (I.ok.hd hc) z TI TO i1 i2 l1 l2 D dF.toArray eP.toArray
  have hn:i=min dF.toArray.size eP.toArray.size:=by simp only[Zae];omega
  obtain⟨a1,a2,a3,a4,a5⟩:=st
  rw[hn]at a4 a5
  exact W.done s _ _ ⟨a1,a2,a3,a4,a5,dR.isList,eI.isList⟩ fun h' tk hk=> ⟨rfl,Wd (s:=s) (h':=h') (tk:=tk) I hf fun b o hb q=>hk b o (YR hb) q⟩
 self:=fun A i s Q E st h=>Zdj st.1 h
section
variable {X:Cx}{elts:List Expr}{kk:Nat}{tp:Pos}
def LH (K:Zgc) (ta:TA):TI:=fun σ H R=>ta σ H fun vs H1=> ∃l1 l2,vs=[.ref l1,.ref l2]/\(∃xs ys,ai K H1 l1 xs/\ai K H1 l2 ys)/\R (zX K l1 l2) H1
theorem EK {a b:Expr}{ta:TA}{p pos:Pos}(hg:Gl X "zip") (hm:X.mg "zip" =none) (ha:PA X [a,b] ta) (hs:starEach [a,b] X.env=[(false,eval a X.env),(false,eval b X.env)]:=by rfl) (dz:starEach [b] X.env=[(false,eval b X.env)]:=by rfl):
  PI X (.Tuple elts kk tp) (.Call (.Name "zip" p) [a,b] [] pos) (LH X.K ta):=by
 intro pins s σ H R I h
 refine Call_ (ZU I hg hm PyProof.Rows.Boot.«zip» (Za1 (au (ha pos pins s σ H _ I h) fun us s1 ⟨vs,H1,I1,r1,q1⟩=> ?_) (by rw[hs,dz]) (by rw[dz];rfl)))
 obtain⟨l1,l2,e,⟨xs,ys,fG,cJ⟩,q⟩:=q1
 subst e
 obtain⟨u,v,rfl,ru,rv⟩:=vals2 r1
 cases ru
 cases rv
 obtain⟨dF,jd,dR,pX⟩:=I1.list fG
 obtain⟨eP,iD,eI,eQ⟩:=I1.list cJ
 have t1:l1<s1.heap.objs.size:=by obtain⟨o,ho,_⟩:=dR.isList;exact Zad ho
 have t2:l2<s1.heap.objs.size:=by obtain⟨o,ho,_⟩:=eI.isList;exact Zad ho
 have D:=W0 s1.heap.objs.size l1 l2 t1 t2
 refine call_zip_2 dR.isList eI.isList fun h' b1 b2 b3 b4 b5 b6 hk=>Zdj b1 ?_
 have I2:Inv X pins σ H1 {s1 with heap:=h'} :=I1.kept (t':=s1.toks) hk
 refine⟨s1.heap.objs.size+4,[s1.heap.objs.size+4,s1.heap.objs.size+2,s1.heap.objs.size+3,s1.heap.objs.size,s1.heap.objs.size+1],_,_,H1,rfl,I2,
  SQ _ _ _ _ _ l1 l2 D,⟨b1,b2,⟨_,_,b3⟩,b4,b5⟩,fun b hb=> ?_,q⟩
 have iR:s1.heap.objs.size<=b:=by
  simp only[Zaj,Za5,Zb4]at hb
  rcases hb with z |z |z |z |z<;>rw[z]<;>first |exact Zal _ |exact ZcT _ _
 exact I1.jB iR (I1.ak.fresh iR)
end
theorem Uj {K:Zgc}{l1 l2:Addr}{xs zs:List V}{g:TG}{tt:TT}{ti:TC}{ys:List V}{σ:St}{H:Hp}{Q:List V->St->Hp->Prop}(Pv:Nat->List V->St->Hp->Prop) (h0:Pv 0 ys σ H)
  (hl:∀i ys σ H,i<=min xs.length zs.length->Pv i ys σ H->ai K H l1 xs/\ai K H l2 zs)
  (hs:∀i x y T ys σ H,xs[i]? =some x->zs[i]? =some y->H T=none->Pv i ys σ H->g (.ref T) σ (upd H T (.par [x,y])) fun bc H2=>tt bc H2 fun b H3=>if b=true then ti ys bc H3 (Pv (i+1)) else Pv (i+1) ys bc H3)
  (hd:∀ys σ H,Pv (min xs.length zs.length) ys σ H->Q ys σ H):fT g tt ti (zX K l1 l2) ys σ H Q:=by
 refine⟨fun i m ys σ H=>m=min xs.length zs.length - i/\i<=min xs.length zs.length/\Pv i ys σ H,⟨min xs.length zs.length,by simp,Zaz _,h0⟩,?_⟩
 rintro i m ys σ H ⟨rfl,hi,p⟩
 obtain⟨q1,q2⟩:=hl i ys σ H hi p
 by_cases ar:i<min xs.length zs.length
 ·have h1:i<xs.length:=.o
  have h2:i<zs.length:=.o
  refine .inr ⟨⟨xs,zs,xs[i],zs[i],q1,q2,by simp[h1],by simp[h2]⟩,Pv (i+1),fun aV aj H' p'=> ⟨min xs.length zs.length - (i+1),.o,rfl,ar,p'⟩,fun x H' y=> ?_⟩
  obtain⟨T,a,b,e1,e2,e3,e4⟩:=y
  subst e1 e3
  obtain⟨f1,f2⟩:=e4 xs zs q1 q2
  exact hs i a b T ys σ H f1 f2 e2 p
 ·have e:i=min xs.length zs.length:=.o
  subst e
  exact .inl ⟨⟨xs,zs,q1,q2,rfl⟩,hd ys σ H p⟩
end L2
namespace L2
open PySem PySem.Spec PyProof.Rows SeqAt
section
variable {X:Cx}
def lV:V->Bool
 | .ah=>true
 | .int _=>true
 |_=>false
theorem QE {A:Around}{s:Shared}{x y:V}{u v:Value}(hx:lV x=true) (hy:lV y=true) (ru:RelV x u) (rv:RelV y v):EqAt A s u v (decide (x=y)):=by
 cases x with
 |ah=>
  cases ru
  cases y with
  |ah=>cases rv;exact EqAt.same _
  |int j=>obtain⟨t,rfl⟩:=rv;exact EqAt.none_int j t
  |_=>cases hy
 |int i=>
  obtain⟨t,rfl⟩:=ru
  cases y with
  |ah=>cases rv;exact EqAt.int_none i t
  |int j=>
   obtain⟨t',rfl⟩:=rv
   rw[UX]
   exact EqAt.int_int i t j t'
  |_=>cases hy
 |_=>cases hx
theorem PB {A:Around}{s:Shared}{xs ys:List V}{us vs:List Value}(hx:xs.all lV=true) (hy:ys.all lV=true) (r1:Vals xs us) (r2:Vals ys vs):
  ∀j (h1:j<us.toArray.size) (h2:j<vs.toArray.size),EqAt A s us.toArray[j] vs.toArray[j] (decide (xs.getD j .ah=ys.getD j .ah)):=fun j h1 h2=>by
 have l1:=r1.length
 have l2:=r2.length
 have k1:j<xs.length:=by simp at h1;omega
 have k2:j<ys.length:=by simp at h2;omega
 obtain⟨u,hu,ru⟩:=r1.get (Zai k1)
 obtain⟨v,hv,rv⟩:=r2.get (Zai k2)
 have e1:us.toArray[j]=u:=by simpa using (X8.mp hu).2
 have e2:vs.toArray[j]=v:=by simpa using (X8.mp hv).2
 rw[e1,e2,ZaM,ZaM,Zai k1,Zai k2]
 exact QE (ZaF.mp hx _ (Zcx k1)) (ZaF.mp hy _ (Zcx k2)) ru rv
theorem QF {xs ys:List V}{us vs:List Value}(r1:Vals xs us) (r2:Vals ys vs):((List.range (min us.toArray.size vs.toArray.size)).all (fun j=>decide (xs.getD j .ah=ys.getD j .ah))&&us.toArray.size==vs.toArray.size)=decide (xs=ys):=by
 have l1:=r1.length
 have l2:=r2.length
 rw[Zb6,Zaw,ZaF,Zbw,Zcm,Zae,Zae]
 constructor
 ·rintro⟨h,hl⟩
  refine ZcU .o fun i h1 h2=> ?_
  have:=h i (by rw[ZaU];omega)
  simpa[h1,h2] using this
 ·rintro rfl
  exact⟨fun j _=>by simp,.o⟩
theorem J9 (ns:List Int):(ns.map V.int).all lV=true:=by
 rw[List.all_map,ZaF]
 exact fun _ _=>rfl
end
end L2
namespace U
open PySem L2 PyProof.Rows
def ee (K:Zgc) (H:Hp) (a:Addr) (ns:List Int):Prop:=(∃o,H a=some (.cD o (.lst (ns.map V.int))))∨∃(o:Obj) (aa:Array Value) (n:Nat),K.lookup a=some o/\o.cls=.type "list" /\o.dict=none/\o.data=.seq aa n/\aa.size<=sizeLine/\Vals (ns.map V.int) aa.toList
theorem ee.sq {K:Zgc}{H:Hp}{a:Addr}{ns:List Int}(h:ee K H a ns):ai K H a (ns.map V.int):=by
 rcases h with ⟨o,h⟩ |h
 ·exact .inl (.inr ⟨o,h⟩)
 ·exact .inr h
theorem ee.same {K:Zgc}{H H':Hp}{a:Addr}{ns:List Int}(h:ee K H a ns) (s:af H H'):ee K H' a ns:=by
 rcases h with ⟨o,h⟩ |h
 ·exact .inl ⟨o,s _ _ h⟩
 ·exact .inr h
theorem ee.x {K:Zgc}{H H':Hp}{a p:Addr}{ns:List Int}{o:HO}(h:ee K H a ns) (s:bZ p H H') (hp:H p=some o) (hn:∀ob u,o≠.cD ob u):ee K H' a ns:=by
 rcases h with ⟨ob,h⟩ |h
 ·exact .inl ⟨ob,s _ _ h fun z=>by rw[z,hp]at h;cases h;exact hn _ _ rfl⟩
 ·exact .inr h
end U
namespace U
open PySem L2 PyProof.Rows PySem.Spec
def rA (mg:Str->Option Value) (h:Heap):Prop:=∃bm ob,mg "__builtins__" =some (.ref bm)/\bm≠builtinsNs/\h.get? bm=some ob/\ob.cls=.type "module" /\ob.dict=some builtinsNs/\ob.data=.plain
theorem TJ {P:Program}{w:World}{K:Zgc}{mg mb:Str->Option Value}{k:Nat}{fa a:Addr}{Pts:List Addr}{fd:FuncData}{x:Str}{sp:Sp}{aF:Shared}{vs:List Value}{ns:List Int}
  (KX:K.In aF.heap) (qk:aF.heap.Ns mainGlobals mg) (hb:aF.heap.Ns builtinsNs mb) (mD:∀x:Str,x≠ "__name__" ->mb x=bootBuiltins x) (MT:aF.heap.NoLimit) (hg:aF.gens= #[])
  (ha:aF.heap.get? a=some {cls:=.type "list",data:=.seq vs.toArray}) (hi:IntsAre vs ns) (hl:ns.length<=sizeLine) (hr:bj k callerA)
  (cP:∀Pt∈Pts,aF.heap.get? Pt=some (PySem.W.tabObj #[])) (NU:∀Pt∈Pts,∃c,PySem.W.CodeHd aF.heap c Pt) (NS:∀Pt∈Pts,K.lookup Pt=none) (yC:rA mg aF.heap)
  (F:∀base:Heap,K.In base->base.Ns mainGlobals mg->rA mg base->aA P w K mg base az k fa fd [x] sp) (Nv:∀(s:Shared) (u:Value),BindsTo s fd ⟨[u],[]⟩ [(x,u)])
  (dG:∀H:Hp,ee K H a ns->(∀Pt∈Pts,H Pt=some (.cz #[]))->sp [.ref a] H (fun v _=>v=.bl true) fun _ _ _=>False):
  codeAny (model P w) callerA (.call (.ref fa) ⟨[.ref a],[]⟩) (fun r s'=>r=.ok (.ret (.bool true))/\OldK aF.heap s'.heap/\s'.os=aF.os/\AllBare s'.gens) aF:=by
 have rv:=W1 hi
 have Lm:=hi.length
 have qA:∀{Pt:Addr},Pt∈Pts->aF.heap.get? Pt=some {cls:=.none,data:=.fields #[]} :=fun h=>cP _ h
 have CG:a∉Pts:=fun z=>by have h:=qA z;rw[ha]at h;cases h
 have core:∀H:Hp,(∀b,b∉Pts->H b=none∨∃o xs,H b=some (.cD o (.lst xs)))->ee K H a ns->(∀Pt∈Pts,H Pt=some (.cz #[]))->bw P w H aF.heap->(∀b,H b≠none->b=a∨b∈Pts)->(H a≠none->K.lookup a=none)->
   codeAny (model P w) callerA (.call (.ref fa) ⟨[.ref a],[]⟩) (fun r s'=>r=.ok (.ret (.bool true))/\OldK aF.heap s'.heap/\s'.os=aF.os/\AllBare s'.gens) aF:=by
  intro H hO hS hP ak hA hK
  have zw:∀{b:Addr}{o:Obj},aF.heap.get? b=some o->H b=none->(hG aF.heap H).get? b=some o:=fun e n=>FH e n
  have kO:∀{b:Addr}{o:Obj},aF.heap.get? b=some o->(∀vs n,o.data≠.seq vs n)->(∀ps,o.data≠.fields ps)->H b=none:=fun {b o} e d1 d2=>by
   cases q:H b with
   |none=>rfl
   |some u=>
    rcases hA b (by rw[q];simp) with e' |e'
    ·subst e'
     rw[ha]at e;cases e
     exact absurd rfl (d1 _ _)
    ·rw[qA e']at e;cases e
     exact absurd rfl (d2 _)
  have sY:∀{b:Addr}{m:Str->Option Value},aF.heap.Ns b m->(hG aF.heap H).Ns b m:=fun {b m} ⟨o,es,ep,e,d,r⟩=> ⟨o,es,ep,zw e (kO e (fun _ _ z=>by rw[d]at z;cases z) fun _ z=>by rw[d]at z;cases z),d,r⟩
  have CI:K.In (hG aF.heap H):=fun b o e=>zw (KX b o e) (by
   cases q:H b with
   |none=>rfl
   |some u=>
    rcases hA b (by rw[q];simp) with e' |e'
    ·subst e'
     rw[hK (by rw[q];simp)]at e;cases e
    ·rw[NS _ e']at e;cases e)
  have hM:Mod K mg (hG aF.heap H):=⟨CI,sY qk,⟨mb,sY hb,mD⟩,let ⟨mc,h1,h2⟩:=MT;⟨mc,sY h1,h2⟩⟩
  have Nu:rA mg (hG aF.heap H):=let ⟨bm,ob,b1,b2,b3,b4,b5,b6⟩:=yC;⟨bm,ob,b1,b2,zw b3 (kO b3 (fun _ _ z=>by rw[b6]at z;cases z) fun _ z=>by rw[b6]at z;cases z),b4,b5,b6⟩
  have e0:rm P w K mg (hG aF.heap H) callerA [] aF H:=⟨rfl,hM,fun b o e=>EE e,Nat.le_of_eq (Up _ _),trivial,fun b hb=>absurd (show b∈([]:List Addr) from hb) (by simp),ak,.of_eq hg⟩
  refine Zb7 ((F _ CI (sY qk) Nu).run callerA [] aF H ⟨[.ref a],[]⟩ [.ref a] [.ref a] _ _ hr e0 (Nv aF (.ref a)) (.cons rfl .nil) (dG H hS hP)) fun r s' h=> ?_
  cases r with
  |error e=>exact False.elim h
  |ok fl=>
   cases fl with
   |next=>exact False.elim h
   |brk=>exact False.elim h
   |cont=>exact False.elim h
   |ret u=>
    obtain⟨v,H',os,bare,un,Cb,r',q⟩:=h
    have q':v=.bl true:=q
    subst q'
    obtain rfl:u=Value.bool true:=r'
    have old:∀b o,aF.heap.get? b=some o->asItWas aF.heap s'.heap b o:=fun b o e=>by
     cases q:H b with
     |none=>exact .inl (un.keep b o e q (by intro z;exact absurd (show b∈([]:List Addr) from z) (by simp)) (by simp))
     |some u=>
      by_cases mE:b∈Pts
      ·obtain⟨more,z⟩:=un.fv b _ (hP b mE)
       have e2:s'.heap.get? b=some {cls:=.none,data:=.fields (#[]++more)} :=Cb b _ z
       rw[qA mE]at e
       cases e
       obtain⟨c,hC⟩:=NU b mE
       exact .inr (.inl ⟨(hC.tab (cP b mE)).isCodeTable,rfl, #[],more,rfl,e2⟩)
      ·rcases hO b mE with z |⟨ob,xs,z⟩
       ·rw[q]at z;cases z
       ·have z2:=un.fL b ob _ z
        obtain⟨e1,_⟩:=ak b _ z
        obtain⟨e2,_⟩:=Cb b _ z2
        rw[e]at e1;cases e1
        exact .inl e2
    exact⟨rfl,⟨old,fun b o e=>un.there b o e (by simp)⟩,os,bare⟩
 cases hk:K.lookup a with
 |some o=>
  have e:=KX a o hk
  rw[ha]at e
  cases e
  refine core (fun b=>if b∈Pts then some (.cz #[]) else none) (fun b n=> .inl (Zav n)) (.inr ⟨_,vs.toArray,_,hk,rfl,rfl,rfl,by rw[Zae,Lm];exact hl,by simpa using rv⟩) (fun Pt h=>Zay h) (fun b u z=> ?_) (fun b z=> ?_) fun z=>absurd (Zav CG) z
  ·by_cases hb:b∈Pts
   ·have z':=(Zay hb).symm.trans z
    cases z'
    exact qA hb
   ·have z':=(Zav hb).symm.trans z
    cases z'
  ·by_cases hb:b∈Pts
   ·exact .inr hb
   ·exact absurd (Zav hb) z
 |none=>
  refine core (fun b=>if b∈Pts then some (.cz #[]) else if b=a then some (.cD {cls:=.type "list",data:=.seq vs.toArray} (.lst (ns.map V.int))) else none) (fun b n=> ?_) (.inl ⟨{cls:=.type "list",data:=.seq vs.toArray},(Zav CG).trans (Zay rfl)⟩) (fun Pt h=>Zay h) (fun b u z=> ?_) (fun b z=> ?_) fun _=>hk
  ·by_cases hb:b=a
   ·exact .inr ⟨_,_,(Zav n).trans (Zay hb)⟩
   ·exact .inl ((Zav n).trans (Zav hb))
  ·by_cases hP:b∈Pts
   ·have z':=(Zay hP).symm.trans z
    cases z'
    exact qA hP
   ·by_cases hb:b=a
    ·have z':=((Zav hP).trans (Zay hb)).symm.trans z
     cases z'
     subst hb
     exact⟨ha,by rw[Zac];exact hl,vs,_,rv,ha⟩
    ·have z':=((Zav hP).trans (Zav hb)).symm.trans z
     cases z'
  ·by_cases hP:b∈Pts
   ·exact .inr hP
   ·by_cases hb:b=a
    ·exact .inl hb
    ·exact absurd ((Zav hP).trans (Zav hb)) z
theorem Gd {l:PySem.W.OpenLaw}{n k:Nat}{q:Program}{loose:List Str}{XP:(Str->Option Value)->Heap->Prop}{YP:World->Heap->Prop}{d:DefRec}{K:Params->Zgc}{sp:Zgc->Sp}{x:Str}{Pts:List Addr}
    (hn:l.most=some n) (mi:n<=sizeLine) (yx:d.params.defaults=[]) (hr:bj k callerA)
    (hY:∀(w:World) (h:Heap),YP w h->(K w.params).In h) (NJ:∀(w:World) (h:Heap),YP w h->∀Pt∈Pts,h.get? Pt=some (PySem.W.tabObj #[]))
    (hC:∀(w:World) (h:Heap),(K w.params).In h->∀Pt∈Pts,∃c,PySem.W.CodeHd h c Pt) (NT:∀w:World,∀Pt∈Pts,(K w.params).lookup Pt=none)
    (F:∀(w:World) (mg:Str->Option Value) (fa:Addr) (h:Heap),(K w.params).In h->h.Ns mainGlobals mg->mg d.name=some (.ref fa)->
      ∃fd:FuncData,(∀(s:Shared) (u:Value),BindsTo s fd ⟨[u],[]⟩ [(x,u)])/\
       ∀base:Heap,(K w.params).In base->base.Ns mainGlobals mg->rA mg base->aA l.prog w (K w.params) mg base az k fa fd [x] (sp (K w.params)))
    (dG:∀(K:Zgc) (H:Hp) (a:Addr) (ns:List Int),ns.length<=n->ee K H a ns->(∀Pt∈Pts,H Pt=some (.cz #[]))->sp K [.ref a] H (fun v _=>v=.bl true) fun _ _ _=>False):
    PySem.W.WalkO q loose XP YP l.row.toRowW d [] (fun f vs=>PySem.call f vs):=by
  refine F9.Pp hn yx fun w bX aF mg mb fa o pm cd doc a vs ns G Y ho hd cO hmg x6 hints hlen hg=> ?_
  have KX:=hY w _ Y
  obtain⟨fd,hb,hF⟩:=F w mg fa _ KX G.T.g hmg
  exact TJ KX G.T.g G.T.b G.T.builtins G.T.nolimit hg x6 hints (Zbf hlen mi) hr (NJ w _ Y) (hC w _ KX) (NT w) G.T.bmain hF hb (fun H hS hP=>dG (K w.params) H a ns hlen hS hP)
def aU (K:Zgc) (x:Str) (st:Stmt):Prop:=∃f fd,PySem.W.nsIn K mainGlobals x=some (some (.ref f))/\aC K x x st f fd
theorem aZ {K:Zgc}{x:Str}{st:Stmt}{f:Addr}{oc:Value}{od an:Option Addr}{fB:Array (Option Value)}{kV doc pm aq ct:Value}(e1:PySem.W.nsIn K mainGlobals x=some (some (.ref f)))
  (e2:K.lookup f=some ⟨oc,od,.func (PySem.W.fnOf x x (gz st) (cY st) (aw st) .none kV doc pm an aq ct),fB⟩) (e3:PySem.W.codeIn K aq x=true) (e4:PySem.W.keepIn K (.ref f)=true):aU K x st:=⟨f,_,e1,Qq e2 e3 e4⟩
section
variable {P:Program}{w:World}{K:Zgc}{mg:Str->Option Value}{base:Heap}
abbrev oX (x:Str) (st:Stmt) (ps:List Str):Prop:=∀(kV doc pm:Value) (an:Option Addr) (aq ct:Value) (us:List Value),us.length=ps.length->bindArgs (PySem.W.fnOf x x (gz st) (cY st) (aw st) .none kV doc pm an aq ct) ⟨us,[]⟩=pure (ps.zip us)
theorem aU.to {h:Heap}{x:Str}{st:Stmt}{ps:List Str}{k:Nat}{sp:Sp}(d:aU K x st) (KX:K.In h) (G:h.Ns mainGlobals mg) (hb:oX x st ps) (ok:∀f fd,aC K x x st f fd->aA P w K mg base az k f fd ps sp):Def P w K mg base k x ps sp:=by
 obtain⟨f,fd,e,F⟩:=d
 exact⟨f,fd,ok f fd F,ZbH KX G e,F.kp,F.binds hb⟩
theorem aU.uR {h:Heap}{x:Str}{st:Stmt}{ps:List Str}{k:Nat}{sp:Sp}(d:aU K x st) (KX:K.In h) (G:h.Ns mainGlobals mg) (hb:oX x st ps) (ok:∀f fd,aC K x x st f fd->aA P w K mg base (cf P w) k f fd ps sp):eZ P w K mg base k x ps sp:=by
 obtain⟨f,fd,e,F⟩:=d
 exact⟨f,fd,ok f fd F,ZbH KX G e,F.kp,F.binds hb⟩
def sZ (K:Zgc) (x:Str):Bool:=match PySem.W.nsIn K mainGlobals x with |some none=>true |_=>false
theorem Sv {h:Heap}{x:Str}(KX:K.In h) (G:h.Ns mainGlobals mg) (e:sZ K x=true):mg x=none:=by
 unfold sZ at e
 split at e
 ·rename_i q
  exact PySem.W.mg_none_of KX G q
 ·cases e
end
end U
namespace HS
open PySem PySem.SetTable
abbrev ip (l:List Nat):Prop:=l.Pairwise (· < ·)
theorem zL {xs:Array Nat}(hr:ip xs.toList) {i k:Nat}(hi:i<xs.size) (hk:k<xs.size) (h:i<k):xs[i]<xs[k]:=by
 have:=Zb5.mp hr i k (by simpa using hi) (by simpa using hk) h
 simpa using this
theorem Ec {xs:Array Nat}(hr:ip xs.toList) {i k:Nat}(hi:i<xs.size) (hk:k<xs.size) (h:i<=k):xs[i]<=xs[k]:=by
 rcases Nat.lt_or_eq_of_le h with h |h
 ·exact ZbD (zL hr hi hk h)
 ·subst h;exact Zal _
theorem WM {xs:Array Nat}{j:Nat}(hr:ip xs.toList):∀(fuel lo hi:Nat),hi<=xs.size->lo<=hi->hi - lo<=fuel->(∀i (h:i<xs.size),i<lo->xs[i]<j)->(∀i (h:i<xs.size),hi<=i->j<=xs[i])->
  below.go xs j fuel lo hi<=xs.size/\(∀i (h:i<xs.size),i<below.go xs j fuel lo hi->xs[i]<j)/\(∀i (h:i<xs.size),below.go xs j fuel lo hi<=i->j<=xs[i])
 |0,lo,hi,h1,h2,h3,h4,h5=>by
  have e:lo=hi:=.o
  subst e
  exact⟨h1,h4,h5⟩
 |fuel+1,lo,hi,h1,h2,h3,h4,h5=>by
  unfold below.go
  by_cases ar:lo<hi
  ·rw[Zay ar]
   dsimp only
   have hm:(lo+hi)/2<xs.size:=.o
   have e:xs.getD ((lo+hi)/2) j=xs[(lo+hi)/2]:=by
    unfold Array.getD
    rw[dif_pos hm]
    rfl
   rw[e]
   by_cases hc:xs[(lo+hi)/2]<j
   ·rw[Zay hc]
    refine WM hr fuel _ hi h1 .o .o (fun i h aX=> ?_) h5
    exact Nat.lt_of_le_of_lt (Ec hr h hm .o) hc
   ·rw[Zav hc]
    refine WM hr fuel lo _ .o .o .o h4 (fun i h aX=> ?_)
    exact Zbf (Nat.le_of_not_lt hc) (Ec hr hm h aX)
  ·rw[Zav ar]
   have e:lo=hi:=.o
   subst e
   exact⟨h1,h4,h5⟩
theorem Yp {xs:Array Nat}{j:Nat}(hr:ip xs.toList):below xs j<=xs.size/\(∀i (h:i<xs.size),i<below xs j->xs[i]<j)/\(∀i (h:i<xs.size),below xs j<=i->j<=xs[i]):=
 WM hr _ _ _ (Zal _) (Zaz _) .o (fun i h z=>absurd z (Zcs _)) (fun i h z=>.o)
theorem YQ {xs:Array Nat}{i j:Nat}(hr:ip xs.toList) (h:xs[i]? =some j):below xs j=i:=by
 obtain⟨hi,e⟩:=ZaN.mp h
 obtain⟨h1,h2,h3⟩:=Yp (j:=j) hr
 rcases Nat.lt_trichotomy (below xs j) i with q |q |q
 ·have a:=h3 (below xs j) .o (Zal _)
  have b:=zL hr .o hi q
  omega
 ·exact q
 ·have:=h2 i hi q
  omega
theorem W8 {t:SetTable}{i j:Nat}(hr:ip t.place.toList) (h:t.place[i]? =some j):t.slot j=.live i:=by
 unfold slot
 rw[YQ hr h]
 dsimp only
 rw[h,Zay (by simp)]
theorem Vq {t:SetTable}{j:Nat}(hd:t.dummies= #[]) (h:j∉t.place.toList):t.slot j=.empty:=by
 unfold slot
 dsimp only
 have h1:¬(t.place[below t.place j]? ==some j)=true:=by
  intro z
  have z':=eq_of_beq z
  obtain⟨hi,e⟩:=ZaN.mp z'
  exact h (by rw[<-e];simp)
 have h2:¬has t.dummies j=true:=by
  rw[hd]
  unfold has
  simp
 rw[Zav h1,Zav h2]
theorem Pz {xs:Array Nat}{j:Nat}(h:j∈xs.toList):∃i:Nat,xs[i]? =some j:=by
 obtain⟨i,hi,e⟩:=ZbF h
 exact⟨i,by rw[<-Za6,Zai hi,e]⟩
theorem Qj {xs:Array Nat}{i j:Nat}(h:xs[i]? =some j):j∈xs.toList:=by
 rw[<-Za6]at h
 exact Zap h
theorem Ub {t:SetTable}{j:Nat} :(t.put j).1.place.toList=t.place.toList.take (below t.place j)++j::t.place.toList.drop (below t.place j):=by
 unfold put
 exact toList_insertAt _ _ _
theorem QM {t:SetTable}{j:Nat}(hr:ip t.place.toList) (h:j∉t.place.toList):ip (t.put j).1.place.toList:=by
 rw[Ub]
 obtain⟨h1,h2,h3⟩:=Yp (j:=j) hr
 generalize below t.place j=p at *
 have a:∀x∈t.place.toList.take p,x<j:=fun x hx=>by
  obtain⟨i,hi,e⟩:=ZbF hx
  rw[ZaI]at hi
  rw[List.getElem_take]at e
  rw[<-e]
  have:=h2 i (by simp at hi;omega) .o
  simpa using this
 have b:∀x∈t.place.toList.drop p,j<x:=fun x hx=>by
  obtain⟨i,hi,e⟩:=ZbF hx
  rw[Zcb]at hi
  rw[List.getElem_drop]at e
  have:=h3 (p+i) (by simp at hi;omega) .o
  have e':t.place[p+i]'(by simp at hi;omega)=x:=by simpa using e
  rw[e']at this
  rcases Nat.lt_or_eq_of_le this with q |q
  ·exact q
  ·exact absurd (ZcF hx) (by rw[<-q];exact h)
 refine List.pairwise_append.mpr ?_
 refine⟨hr.sublist (List.take_sublist ..),Zbp.mpr ⟨b,hr.sublist (List.drop_sublist ..)⟩,fun x hx y hy=> ?_⟩
 rcases Zaj.mp hy with rfl |hy
 ·exact a x hx
 ·exact Nat.lt_trans (a x hx) (b y hy)
abbrev tb (m:Nat):SetTable:= {mask:=m,place:= #[],dummies:= #[],finger:=0,led:=false,moves:=0,plain:=false}
def dZ (m:Nat) (p:Probe):Probe:=(tb m).advance p
theorem Qg (t:SetTable) (p:Probe):t.advance p=dZ t.mask p:=rfl
def it (m:Nat) (p:Probe):Nat->Probe
 |0=>p
 |k+1=>dZ m (it m p k)
theorem Yr (m:Nat) (p:Probe):∀k,it m p (k+1)=it m (dZ m p) k
 |0=>rfl
 |k+1=>by
  show dZ m (it m p (k+1))=dZ m (it m (dZ m p) k)
  rw[Yr m p k]
theorem WE (m:Nat) (p:Probe) (a:Nat):∀b,it m p (a+b)=it m (it m p a) b
 |0=>rfl
 |b+1=>by
  show dZ m (it m p (a+b))=dZ m (it m (it m p a) b)
  rw[WE m p a b]
theorem UD (m:Nat) (p:Probe):(dZ m p).dummy=p.dummy:=by
 unfold dZ advance
 split<;>rfl
theorem FN (m:Nat) (p:Probe):∀k,(it m p k).dummy=p.dummy
 |0=>rfl
 |k+1=> (UD m _).trans (FN m p k)
theorem Ew {t:SetTable}{hashAt:Nat->Int}{h:Int}(hr:ip t.place.toList) (hd:t.dummies= #[]):∀(n fuel:Nat) (p:Probe),p.dummy=none->n<fuel->(∀k<n,(it t.mask p k).j∈t.place.toList)->(it t.mask p n).j∉t.place.toList->
  (probe.go t hashAt h fuel p=some (.empty (it t.mask p n).j none)/\∀k<n,∀i:Nat,t.place[i]? =some (it t.mask p k).j->hashAt i≠h)∨
  ∃k i:Nat,k<n/\t.place[i]? =some (it t.mask p k).j/\hashAt i=h/\probe.go t hashAt h fuel p=some (.candidate (it t.mask p k).j i (it t.mask p (k+1)))/\∀k'<k,∀i:Nat,t.place[i]? =some (it t.mask p k').j->hashAt i≠h
 |0,0,p,_,h1,_,_=>absurd h1 (Zba _)
 |n+1,0,p,_,h1,_,_=>absurd h1 (Zcs _)
 |0,fuel+1,p,hp,h1,h2,h3=>by
  refine .inl ⟨?_,fun k hk=>absurd hk (Zcs _)⟩
  unfold probe.go
  have e:t.slot p.j=.empty:=Vq hd h3
  rw[e]
  dsimp only
  rw[hp]
  rfl
 |n+1,fuel+1,p,hp,h1,h2,h3=>by
  obtain⟨i,hi⟩:=Pz (h2 0 (Nat.succ_pos _))
  have e:t.slot p.j=.live i:=W8 hr hi
  unfold probe.go
  rw[e]
  dsimp only
  rw[Qg]
  by_cases hh:hashAt i=h
  ·rw[Zay (by simp[hh])]
   exact .inr ⟨0,i,Nat.succ_pos _,hi,hh,rfl,fun k' ay=>absurd ay (Zcs _)⟩
  ·rw[Zav (by simp[hh])]
   have uniq:∀i':Nat,t.place[i']? =some (it t.mask p 0).j->hashAt i'≠h:=fun i' aX=>by
    have q1:=YQ hr aX
    have q2:=YQ hr hi
    have:i'=i:=q1.symm.trans q2
    subst this
    exact hh
   rcases Ew (hashAt:=hashAt) (h:=h) hr hd n fuel (dZ t.mask p) (by rw[UD];exact hp) .o (fun k hk=>by rw[<-Yr];exact h2 (k+1) .o) (by rw[<-Yr];exact h3) with ⟨g1,g2⟩ |⟨k,i2,g1,g2,g3,g4,g5⟩
   ·rw[<-Yr]at g1
    refine .inl ⟨g1,fun k hk=> ?_⟩
    cases k with
    |zero=>exact uniq
    |succ k=>rw[Yr];exact g2 k .o
   ·rw[<-Yr]at g2 g4
    rw[<-Yr]at g4
    refine .inr ⟨k+1,i2,.o,g2,g3,g4,fun k' ay=> ?_⟩
    cases k' with
    |zero=>exact uniq
    |succ k'=>rw[Yr];exact g5 k' .o
abbrev fr (m i pt:Nat):Probe:= {j:=i,more:=runEnd m i - i,i,perturb:=pt,dummy:=none}
abbrev st (m:Nat) (h:Int):Probe:=fr m (bits h%(m+1)) (bits h)
def lp (m:Nat) (x:Nat×Nat):Nat×Nat:=leap m x.1 x.2
def cj (m:Nat) (x:Nat×Nat):Nat->Nat×Nat
 |0=>x
 |k+1=>lp m (cj m x k)
theorem Wx (m:Nat) (x:Nat×Nat):∀k,cj m x (k+1)=cj m (lp m x) k
 |0=>rfl
 |k+1=>by
  show lp m (cj m x (k+1))=lp m (cj m (lp m x) k)
  rw[Wx m x k]
theorem ED (m:Nat) (x:Nat×Nat) (a:Nat):∀b,cj m x (a+b)=cj m (cj m x a) b
 |0=>rfl
 |b+1=>by
  show lp m (cj m x (a+b))=lp m (cj m (cj m x a) b)
  rw[ED m x a b]
theorem P0 (m i:Nat):runEnd m i - i<=9:=by
 unfold runEnd
 split<;>omega
theorem WD (m i pt:Nat):∀k,k<=runEnd m i - i->it m (fr m i pt) k= {j:=i+k,more:=runEnd m i - i - k,i:=i,perturb:=pt,dummy:=none}
 |0,_=>rfl
 |k+1,h=>by
  show dZ m (it m (fr m i pt) k)=_
  rw[WD m i pt k .o]
  unfold dZ advance
  dsimp only
  rw[Zay .o]
  have e:runEnd m i - i - k - 1=runEnd m i - i - (k+1):=.o
  rw[e,Nat.add_assoc]
theorem UT (m i pt:Nat):it m (fr m i pt) (runEnd m i - i+1)=fr m (lp m (i,pt)).1 (lp m (i,pt)).2:=by
 show dZ m (it m (fr m i pt) (runEnd m i - i))=_
 rw[WD m i pt _ (Zal _)]
 unfold dZ advance
 dsimp only
 rw[Zav .o]
 rfl
theorem FO (m:Nat):∀(k:Nat) (x:Nat×Nat),∃d,d<=10*k/\it m (fr m x.1 x.2) d=fr m (cj m x k).1 (cj m x k).2
 |0,x=> ⟨0,.o,rfl⟩
 |k+1,x=>by
  obtain⟨d,h1,h2⟩:=FO m k (lp m x)
  refine⟨runEnd m x.1 - x.1+1+d,by have:=P0 m x.1;omega,?_⟩
  rw[WE,UT m x.1 x.2]
  rw[Wx]
  exact h2
theorem Ej (m:Nat) (x:Nat×Nat):∀k,(cj m x k).2=x.2/32^k
 |0=>by simp[cj]
 |k+1=>by
  show(cj m x k).2/32=_
  rw[Ej m x k,Nat.div_div_eq_div_mul,Nat.pow_succ]
theorem Px (m:Nat) (x:Nat×Nat) (h:x.1<m+1):∀k,(cj m x k).1<m+1
 |0=>h
 |k+1=>Nat.mod_lt _ (Nat.succ_pos _)
def nx (m i:Nat):Nat:=(i*5+1)%(m+1)
def dE (m:Nat):Nat->Nat
 |0=>0
 |k+1=>nx m (dE m k)
def sX (m:Nat):Nat->Nat->List Nat
 |0,_=> []
 |k+1,i=>i::sX m k (nx m i)
theorem Ek (m:Nat):∀(k n:Nat) (f:Nat),f∈sX m k (dE m n)->∃u,n<=u/\u<n+k/\dE m u=f
 |0,n,f,h=>by cases h
 |k+1,n,f,h=>by
  rcases Zaj.mp h with rfl |h
  ·exact⟨n,Zal _,.o,rfl⟩
  ·obtain⟨u,h1,h2,h3⟩:=Ek m k (n+1) f h
   exact⟨u,.o,.o,h3⟩
def gO (m:Nat):Prop:=m=7∨m=31∨m=127∨m=511
def qQ (m:Nat):Bool:=(List.range (m+1)).all fun f=> (sX m (m+1) 0).contains f
theorem O9:qQ 7=true/\dE 7 8=0:=by decide+kernel
theorem Pb:qQ 31=true/\dE 31 32=0:=by decide+kernel
theorem Pc:qQ 127=true/\dE 127 128=0:=by decide+kernel
theorem Pa:qQ 511=true/\dE 511 512=0:=by decide+kernel
theorem EY {m:Nat}(hm:gO m):qQ m=true/\dE m (m+1)=0:=by
 rcases hm with rfl |rfl |rfl |rfl
 ·exact O9
 ·exact Pb
 ·exact Pc
 ·exact Pa
theorem DI {m f:Nat}(hm:gO m) (hf:f<m+1):∃u,u<m+1/\dE m u=f:=by
 have:=ZaF.mp (EY hm).1 f (ZaU.mpr hf)
 obtain⟨u,_,h2,h3⟩:=Ek m (m+1) 0 f (show f∈sX m (m+1) 0 by simpa using this)
 exact⟨u,.o,h3⟩
theorem xw (m:Nat):∀(k s:Nat),cj m (dE m s,0) k=(dE m (s+k),0)
 |0,s=>rfl
 |k+1,s=>by
  show lp m (cj m (dE m s,0) k)=_
  rw[xw m k s]
  unfold lp leap
  simp[dE,nx]
theorem Ff {m a:Nat}(hm:gO m):∀k,dE m (m+1+k)=dE m k
 |0=> (EY hm).2
 |k+1=>by
  show nx m (dE m (m+1+k))=nx m (dE m k)
  rw[Ff (a:=a) hm k]
theorem full {m a f:Nat}(hm:gO m) (ha:a<m+1) (hf:f<m+1):∃k,k<m+1/\(cj m (a,0) k).1=f:=by
 obtain⟨s,hs,rfl⟩:=DI hm ha
 obtain⟨u,hu,rfl⟩:=DI hm hf
 by_cases h:s<=u
 ·exact⟨u - s,.o,by rw[xw];show dE m (s+(u - s))=_;congr 1;omega⟩
 ·refine⟨m+1+u - s,.o,?_⟩
  rw[xw]
  show dE m (s+(m+1+u - s))=_
  rw[show s+(m+1+u - s)=m+1+u by omega,Ff (a:=0) hm]
theorem EW (h:Int):bits h<2^64:=by
 unfold bits
 have h1:0<=h%(2^64:Int):=Zdf _ .d
 have h2:h%(2^64:Int)<2^64:=ZcD _ .d
 omega
theorem Uw {m i pt f:Nat}(hm:gO m) (hi:i<m+1) (hp:pt<2^64) (hf:f<m+1):∃k,k<m+14/\(cj m (i,pt) k).1=f:=by
 have e:(cj m (i,pt) 13).2=0:=by
  rw[Ej]
  exact Nat.div_eq_of_lt (Zar hp .d)
 have l:=Px m (i,pt) hi 13
 obtain⟨k,h1,h2⟩:=full hm l hf
 refine⟨13+k,.o,?_⟩
 rw[ED]
 have e2:cj m (i,pt) 13=((cj m (i,pt) 13).1,0):=by rw[<-e]
 rw[e2]
 exact h2
theorem cover {m f:Nat}(hm:gO m) (h:Int) (hf:f<m+1):∃n,n<10*turns m/\(it m (st m h) n).j=f:=by
 obtain⟨k,h1,h2⟩:=Uw hm (Nat.mod_lt _ (Nat.succ_pos _)) (EW h) hf (i:=bits h%(m+1))
 obtain⟨d,h3,h4⟩:=FO m k (bits h%(m+1),bits h)
 refine⟨d,by unfold turns;omega,?_⟩
 show(it m (fr m (bits h%(m+1)) (bits h)) d).j=f
 rw[h4]
 exact h2
def nj (m:Nat) (dg:Nat->Prop) (p:Probe) (j:Nat):Prop:=∃n,(it m p n).j=j/\∀k<n,dg (it m p k).j
theorem nj.mono {m:Nat}{dg Bk:Nat->Prop}{p:Probe}{j:Nat}(h:nj m dg p j) (w:∀x,dg x->Bk x):nj m Bk p j:=
 let ⟨n,a,b⟩:=h;⟨n,a,fun k hk=>w _ (b k hk)⟩
theorem WJ {m f:Nat}{dg:Nat->Prop}(hm:gO m) (h:Int) (hf:f<m+1) (ho:¬dg f):∃n,n<10*turns m/\(∀k<n,dg (it m (st m h) k).j)/\¬dg (it m (st m h) n).j:=by
 obtain⟨n,h1,h2⟩:=cover hm h hf
 have key:∀n,n<10*turns m->¬dg (it m (st m h) n).j->∃n,n<10*turns m/\(∀k<n,dg (it m (st m h) k).j)/\¬dg (it m (st m h) n).j:=by
  intro n
  induction n using Nat.strongRecOn with
  |_ n ih=>
   intro g1 g2
   by_cases z:∀k<n,dg (it m (st m h) k).j
   ·exact⟨n,g1,z,g2⟩
   ·have:∃k,k<n/\¬dg (it m (st m h) k).j:=Zby fun c=>z fun k hk=>Zby fun o=>c ⟨k,hk,o⟩
    obtain⟨k,hk,o⟩:=this
    exact ih k hk .o o
 exact key n h1 (by rw[h2];exact ho)
theorem Uq {m:Nat}{owner:Array (Option Nat)} :∀(fuel k:Nat) (i pt:Nat),k<fuel->((owner.getD (cj m (i,pt) k).1 (some 0)).isNone=true)->
  ∃j,layClean.free m owner fuel i pt=some j/\(owner.getD j (some 0)).isNone=true/\nj m (fun x=> (owner.getD x (some 0)).isNone=false) (fr m i pt) j
 |0,k,i,pt,h,_=>absurd h (Zcs _)
 |fuel+1,k,i,pt,h,ho=>by
  unfold layClean.free
  cases hq:(List.range (runEnd m i+1 - i)).find? fun k=> (owner.getD (i+k) (some 0)).isNone with
  |some d=>
   dsimp only
   have h1:=List.find?_some hq
   have bK:=List.mem_of_find?_eq_some hq
   rw[ZaU]at bK
   refine⟨i+d,rfl,h1,d,?_,fun k hk=> ?_⟩
   ·rw[WD m i pt d (by unfold runEnd at *;split at bK<;>split<;>omega)]
   ·rw[WD m i pt k (by unfold runEnd at *;split at bK<;>split<;>omega)]
    obtain⟨as,bs,e,aM⟩:=(List.find?_eq_some_iff_append.mp hq).2
    have Cm:k∈as:=by
     have hp:(List.range (runEnd m i+1 - i)).Pairwise (· < ·):=List.pairwise_lt_range
     have Cj:k∈List.range (runEnd m i+1 - i):=ZaU.mpr .o
     rw[e]at hp Cj
     rcases ZaG.mp Cj with q |q
     ·exact q
     ·rcases Zaj.mp q with q |q
      ·omega
      ·have:=(Zbp.mp (List.pairwise_append.mp hp).2.1).1 k q
       omega
    have:=aM k Cm
    simpa using this
  |none=>
   dsimp only
   have aM:=List.find?_eq_none.mp hq
   have om:∀d,d<=runEnd m i - i->(owner.getD (i+d) (some 0)).isNone=false:=fun d hd=>by
    have:=aM d (ZaU.mpr (by unfold runEnd at *;split at hd<;>split<;>omega))
    exact Bool.eq_false_iff.mpr this
   cases k with
   |zero=>
    have:=om 0 (Zaz _)
    rw[show(cj m (i,pt) 0).1=i+0 from rfl,this]at ho
    cases ho
   |succ k=>
    rw[Wx]at ho
    obtain⟨j,g1,g2,n,g3,g4⟩:=Uq (m:=m) (owner:=owner) fuel k (lp m (i,pt)).1 (lp m (i,pt)).2 .o ho
    refine⟨j,g1,g2,runEnd m i - i+1+n,?_,fun d hd=> ?_⟩
    ·rw[WE,UT]
     exact g3
    ·by_cases hd2:d<=runEnd m i - i
     ·rw[WD m i pt d hd2]
      exact om d hd2
     ·obtain⟨c,rfl⟩:∃c,d=runEnd m i - i+1+c:=⟨d - (runEnd m i - i+1),.o⟩
      rw[WE,UT]
      exact g4 c .o
theorem RN {m:Nat}{p:Probe}(h:p.j+p.more<=m):(dZ m p).j+(dZ m p).more<=m:=by
 unfold dZ advance
 split
 ·dsimp only;omega
 ·dsimp only[leap,runEnd]
  have:=Nat.mod_lt (p.i*5+1+p.perturb/32) (show 0<m+1 by omega)
  split<;>omega
theorem Ex {m:Nat}{p:Probe}(h:p.j+p.more<=m):∀k,(it m p k).j+(it m p k).more<=m
 |0=>h
 |k+1=>RN (Ex h k)
theorem DG {m:Nat}(h:Int) (k:Nat):(it m (st m h) k).j<m+1:=by
 have:=Ex (m:=m) (p:=st m h) (by
  have:=Nat.mod_lt (bits h) (show 0<m+1 by omega)
  dsimp only[fr,runEnd]
  split<;>omega) k
 omega
structure T0 (t:SetTable) (es:Array (Int×Value)):Prop where
 sz:t.place.size=es.size
 je:ip t.place.toList
 qN:t.dummies= #[]
 le:∀j∈t.place.toList,j<t.mask+1
 ld:∀z∈t.place.toList.zip es.toList,nj t.mask (·∈t.place.toList) (st t.mask z.2.1) z.1
def il (m n:Nat):Prop:=(m=7/\n<=4)∨(m=31/\n<=18)∨(m=127/\n<=76)∨(m=511/\n<=306)
theorem il.kP {m n:Nat}(h:il m n):gO m:=by
 rcases h with ⟨h,_⟩ |⟨h,_⟩ |⟨h,_⟩ |⟨h,_⟩
 ·exact .inl h
 ·exact .inr (.inl h)
 ·exact .inr (.inr (.inl h))
 ·exact .inr (.inr (.inr h))
theorem il.lt {m n:Nat}(h:il m n):n+1<m:=by
 rcases h with ⟨h,_⟩ |⟨h,_⟩ |⟨h,_⟩ |⟨h,_⟩<;>omega
theorem il.small {m n:Nat}(h:il m n):n<=306:=by
 rcases h with ⟨h,_⟩ |⟨h,_⟩ |⟨h,_⟩ |⟨h,_⟩<;>omega
theorem Ua {l:List Nat}(h:ip l):l.Nodup:=ZbI (fun h=>Zan h) h
theorem T0.free {t:SetTable}{es:Array (Int×Value)}(T:T0 t es) (h:es.size<t.mask+1):∃f,f<t.mask+1/\f∉t.place.toList:=by
 refine Zby fun c=> ?_
 have all:∀f,f<t.mask+1->f∈t.place.toList:=fun f hf=>Zby fun n=>c ⟨f,hf,n⟩
 have p:(t.place.toList).Perm (List.range (t.mask+1)):=(Zcu (Ua T.je) ZcW).mpr fun f=> ⟨fun hf=>ZaU.mpr (T.le f hf),fun hf=>all f (ZaU.mp hf)⟩
 have:=p.length_eq
 rw[Zbz,Zas,T.sz]at this
 omega
theorem T0.fits {t:SetTable}{es:Array (Int×Value)}(T:T0 t es) (h:es.size<=t.mask):t.fits es.size=true:=by
 unfold SetTable.fits SetTable.fill
 rw[T.qN,T.sz]
 simp[h]
theorem QX {α β:Type}{a:List α}{b:List β}(p:Nat) (x:α) (y:β) (h:a.length=b.length):(a.take p++x::a.drop p).zip (b.take p++y::b.drop p)=(a.zip b).take p++(x,y)::(a.zip b).drop p:=by
 rw[List.zip_append (by rw[ZaI,ZaI,h]),Zbo]
 simp only[List.zip,List.take_zipWith,List.drop_zipWith]
theorem T0.put {t:SetTable}{es:Array (Int×Value)}(T:T0 t es) {h:Int}{x:Value}{n:Nat}(h1:∀k<n,(it t.mask (st t.mask h) k).j∈t.place.toList) (h2:(it t.mask (st t.mask h) n).j∉t.place.toList) (pl:Bool):
  T0 {(t.put (it t.mask (st t.mask h) n).j).1 with plain:=pl} (insertAt es (t.put (it t.mask (st t.mask h) n).j).2 (h,x)):=by
 have lt:=DG (m:=t.mask) h n
 generalize hf:(it t.mask (st t.mask h) n).j=f at *
 have dR:=Ub (t:=t) (j:=f)
 have e2:(t.put f).2=below t.place f:=rfl
 have em:(t.put f).1.mask=t.mask:=rfl
 have dg:∀y,y∈t.place.toList->y∈(t.put f).1.place.toList:=fun y hy=>by
  rw[dR]
  rw[<-List.take_append_drop (below t.place f) t.place.toList]at hy
  rcases ZaG.mp hy with q |q
  ·exact Zbb _ q
  ·exact Zah _ (Zaa _ q)
 have lz:t.place.toList.length=es.toList.length:=by rw[Zas,Zas,T.sz]
 refine⟨?_,QM T.je h2,?_,fun j hj=> ?_,fun z hz=> ?_⟩
 ·have a:(t.put f).1.place.size=t.place.size+1:=by
   rw[<-Zas,dR,Zam,ZaJ,ZaI,Zcb,Zas]
   have:=(Yp (j:=f) T.je).1
   omega
  have b:(insertAt es (t.put f).2 (h,x)).size=es.size+1:=by
   rw[<-Zas,(insertAt_perm es _ (h,x)).length_eq,Zas,Array.size_push]
  show(t.put f).1.place.size=_
  rw[a,b,T.sz]
 ·show(if has t.dummies f then _ else t.dummies)= #[]
  rw[T.qN]
  simp[has]
 ·show j<t.mask+1
  have jY:j∈(t.put f).1.place.toList:=hj
  rw[dR]at jY
  rcases ZaG.mp jY with q |q
  ·exact T.le j (List.mem_of_mem_take q)
  ·rcases Zaj.mp q with q |q
   ·rw[q];exact lt
   ·exact T.le j (ZcF q)
 ·have f9:z∈(t.put f).1.place.toList.zip (insertAt es (t.put f).2 (h,x)).toList:=hz
  rw[dR,toList_insertAt,e2,QX _ _ _ lz]at f9
  have old:∀z∈t.place.toList.zip es.toList,nj t.mask (·∈(t.put f).1.place.toList) (st t.mask z.2.1) z.1:=fun z hz=> (T.ld z hz).mono dg
  rcases ZaG.mp f9 with q |q
  ·exact old z (List.mem_of_mem_take q)
  ·rcases Zaj.mp q with q |q
   ·rw[q]
    exact⟨n,hf,fun k hk=>dg _ (h1 k hk)⟩
   ·exact old z (ZcF q)
structure jG (m:Nat) (hs:List Int) (owner:Array (Option Nat)):Prop where
 sz:owner.size=m+1
 lt:∀(j k:Nat),owner[j]? =some (some k)->k<hs.length
 at_:∀(k:Nat) (h:Int),hs[k]? =some h->∃j:Nat,owner[j]? =some (some k)/\nj m (fun x=> ∃k,owner[x]? =some (some k)) (st m h) j
 inj:∀(j j' k:Nat),owner[j]? =some (some k)->owner[j']? =some (some k)->j=j'
def live (m:Nat) (owner:Array (Option Nat)):List (Nat×Nat):=(List.range (m+1)).filterMap fun j=> (owner.getD j none).map (j, ·)
theorem getD_none {owner:Array (Option Nat)}{j k:Nat} :owner.getD j none=some k↔owner[j]? =some (some k):=by
 rw[Array.getD_eq_getD_getElem?]
 cases owner[j]? with
 |none=>simp
 |some o=>cases o<;>simp
theorem ZZ {m:Nat}{owner:Array (Option Nat)}(hs:owner.size=m+1) {x:Nat×Nat} :x∈live m owner↔owner[x.1]? =some (some x.2):=by
 unfold live
 rw[Zbn]
 constructor
 ·rintro⟨j,hj,e⟩
  obtain⟨k,hk,rfl⟩:=ZaB.mp e
  exact getD_none.mp hk
 ·intro h
  obtain⟨hl,_⟩:=ZaN.mp h
  exact⟨x.1,ZaU.mpr .o,by rw[getD_none.mpr h];rfl⟩
theorem Wy (m:Nat) (owner:Array (Option Nat)):ip ((live m owner).map (·.1)):=by
 refine Zbx.mpr ?_
 unfold live
 refine ZcQ.mpr (ZbI ?_ (List.pairwise_lt_range (n:=m+1)))
 intro a b jw x hx y hy
 obtain⟨_,_,rfl⟩:=ZaB.mp hx
 obtain⟨_,_,rfl⟩:=ZaB.mp hy
 exact jw
theorem Uk {m:Nat}{hs:List Int}{owner:Array (Option Nat)}(L:jG m hs owner):((live m owner).map (·.2)).Perm (List.range hs.length):=by
 refine(Zcu ?_ ZcW).mpr fun k=> ?_
 ·refine ZaQ.mpr (Zbx.mpr ?_)
  refine List.Pairwise.imp_of_mem ?_ (Zbx.mp (Wy m owner))
  intro a b ha hb jw e
  have h1:=(ZZ L.sz).mp ha
  have h2:=(ZZ L.sz).mp hb
  rw[e]at h1
  have:=L.inj _ _ _ h1 h2
  omega
 ·rw[ZaU]
  constructor
  ·intro h
   obtain⟨x,hx,rfl⟩:=ZaC.mp h
   exact L.lt _ _ ((ZZ L.sz).mp hx)
  ·intro h
   obtain⟨j,hj,_⟩:=L.at_ k _ (Zai h)
   exact ZaC.mpr ⟨(j,k),(ZZ L.sz).mpr hj,rfl⟩
theorem Fe {m:Nat}{hs:List Int}{owner:Array (Option Nat)}(L:jG m hs owner):(live m owner).length=hs.length:=by
 have:=(Uk L).length_eq
 rw[Zac,Zbz]at this
 exact this
theorem jG.free {m:Nat}{hs:List Int}{owner:Array (Option Nat)}(L:jG m hs owner) (h:hs.length<m+1):∃f,f<m+1/\owner[f]? =some none:=by
 refine Zby fun c=> ?_
 have all:∀f,f<m+1->∃k,owner[f]? =some (some k):=fun f hf=>by
  have Ct:f<owner.size:=by rw[L.sz];exact hf
  cases e:owner[f] with
  |none=>exact absurd ⟨f,hf,by rw[ZaE Ct,e]⟩ c
  |some k=>exact⟨k,by rw[ZaE Ct,e]⟩
 have p:((live m owner).map (·.1)).Perm (List.range (m+1)):=(Zcu (Ua (Wy m owner)) ZcW).mpr fun f=>by
  rw[ZaU,ZaC]
  constructor
  ·rintro⟨x,hx,rfl⟩
   obtain⟨hl,_⟩:=ZaN.mp ((ZZ L.sz).mp hx)
   rw[L.sz]at hl
   exact hl
  ·intro hf
   obtain⟨k,hk⟩:=all f hf
   exact⟨(f,k),(ZZ L.sz).mpr hk,rfl⟩
 have:=p.length_eq
 rw[Zac,Fe L,Zbz]at this
 omega
theorem getD_some {owner:Array (Option Nat)}{j:Nat} :(owner.getD j (some 0)).isNone=true↔owner[j]? =some none:=by
 rw[Array.getD_eq_getD_getElem?]
 cases owner[j]? with
 |none=>simp
 |some o=>cases o<;>simp
theorem jG.step {m:Nat}{hs:List Int}{owner:Array (Option Nat)}(hm:gO m) (L:jG m hs owner) (hl:hs.length<m+1) (h:Int):
  ∃j,layClean.free m owner (turns m) (bits h%(m+1)) (bits h)=some j/\jG m (hs++[h]) (owner.setIfInBounds j (some hs.length)):=by
 obtain⟨f,hf,hn⟩:=L.free hl
 obtain⟨k,hk,e⟩:=Uw hm (Nat.mod_lt (bits h) (show 0<m+1 by omega)) (EW h) hf
 obtain⟨j,g1,g2,g3⟩:=Uq (m:=m) (owner:=owner) (turns m) k (bits h%(m+1)) (bits h) (by unfold turns;omega) (by rw[e];exact getD_some.mpr hn)
 have CU:=getD_some.mp g2
 obtain⟨jl,_⟩:=ZaN.mp CU
 have uC:(owner.setIfInBounds j (some hs.length))[j]? =some (some hs.length):=by simp[jl]
 have mU:∀{i:Nat},i≠j->(owner.setIfInBounds j (some hs.length))[i]? =owner[i]? :=fun {i} hi=>by
  rw[Array.getElem?_setIfInBounds]
  rw[Zav (ZcE hi)]
 have Wt:∀{i k:Nat},owner[i]? =some (some k)->i≠j:=fun {i k} hi z=>by rw[z,CU]at hi;cases hi
 have dg:∀x:Nat,(∃k:Nat,owner[x]? =some (some k))->∃k:Nat,(owner.setIfInBounds j (some hs.length))[x]? =some (some k):=fun x hx=>by
  obtain⟨k,hk⟩:=hx
  exact⟨k,by rw[mU (Wt hk)];exact hk⟩
 refine⟨j,g1,⟨by rw[Array.size_setIfInBounds];exact L.sz,fun i k hi=> ?_,fun k h' ay=> ?_,fun i i' k hi aX=> ?_⟩⟩
 ·rw[Zam]
  by_cases iP:i=j
  ·rw[iP,uC]at hi
   cases hi
   simp
  ·rw[mU iP]at hi
   have:=L.lt _ _ hi
   simp;omega
 ·by_cases yk:k<hs.length
  ·rw[ZbO yk]at ay
   obtain⟨i,hi,ld⟩:=L.at_ k h' ay
   exact⟨i,by rw[mU (Wt hi)];exact hi,ld.mono dg⟩
  ·rw[ZbJ .o]at ay
   have ek:k=hs.length:=by
    have:=(X8.mp ay).1
    simp at this
    omega
   subst ek
   simp at ay
   subst ay
   obtain⟨n,en,aM⟩:=g3
   refine⟨j,uC,n,en,fun d hd=> ?_⟩
   have hx:=aM d hd
   have ar:(it m (fr m (bits h%(m+1)) (bits h)) d).j<owner.size:=by rw[L.sz];exact DG h d
   show ∃k:Nat,(owner.setIfInBounds j (some hs.length))[(it m (fr m (bits h%(m+1)) (bits h)) d).j]? =some (some k)
   generalize (it m (fr m (bits h%(m+1)) (bits h)) d).j=x at *
   have e:=ZaE ar
   cases e2:owner[x] with
   |none=>
    rw[e2]at e
    rw[getD_some.mpr e]at hx
    cases hx
   |some k=>
    rw[e2]at e
    exact dg x ⟨k,e⟩
 ·by_cases iP:i=j
  ·by_cases qr:i'=j
   ·rw[iP,qr]
   ·rw[iP,uC]at hi
    rw[mU qr]at aX
    cases hi
    exact absurd (L.lt _ _ aX) (Zba _)
  ·by_cases qr:i'=j
   ·rw[qr,uC]at aX
    rw[mU iP]at hi
    cases aX
    exact absurd (L.lt _ _ hi) (Zba _)
   ·rw[mU iP]at hi
    rw[mU qr]at aX
    exact L.inj _ _ _ hi aX
def pT (m:Nat) (acc:Option (Array (Option Nat)×Nat)) (h:Int):Option (Array (Option Nat)×Nat):=do
 let (owner,k) <-acc
 let j <-layClean.free m owner (turns m) (bits h%(m+1)) (bits h)
 pure (owner.setIfInBounds j (some k),k+1)
theorem T9 (m:Nat) (hs:Array Int):layClean m hs=(hs.toList.foldl (pT m) (some (Array.replicate (m+1) none,0))).map (·.1):=by
 unfold layClean
 rw[<-Array.foldl_toList]
 rfl
theorem Ur {m:Nat}(hm:gO m):∀(rest hs:List Int) (owner:Array (Option Nat)),jG m hs owner->hs.length+rest.length<=m+1->
  ∃Bg,rest.foldl (pT m) (some (owner,hs.length))=some (Bg,(hs++rest).length)/\jG m (hs++rest) Bg
 | [],hs,owner,L,_=> ⟨owner,by rw[ZbN];rfl,by rw[ZbN];exact L⟩
 |h::rest,hs,owner,L,hl=>by
  rw[ZaJ]at hl
  obtain⟨j,g1,g2⟩:=L.step hm .o h
  obtain⟨o',g3,g4⟩:=Ur hm rest (hs++[h]) _ g2 (by rw[Zam,ZbW];omega)
  refine⟨o',?_,by rw[<-List.append_cons]at g4;exact g4⟩
  rw[Zc9]
  have e:pT m (some (owner,hs.length)) h=some (owner.setIfInBounds j (some hs.length),(hs++[h]).length):=by
   unfold pT
   simp[g1]
  rw[e,g3,<-List.append_cons]
theorem Jp {es:Array (Int×Value)} :∀{L:List (Nat×Nat)},(∀x∈L,x.2<es.size)->(L.map (·.2)).filterMap (fun k=>es[k]?)=L.map fun x=> (es[x.2]?).getD (0,.none)
 | [],_=>rfl
 |x::L,h=>by
  have hx:=h x Zab
  rw[ZaR,Zb2,ZaR,ZaE hx]
  dsimp only
  rw[Jp fun y hy=>h y (Zaa _ hy)]
  rfl
theorem Ul {m:Nat}(hm:gO m) (es:Array (Int×Value)) (hl:es.size<=m+1) (fi mo:Nat) (le pl:Bool):
  ∃t order,laid m fi mo le pl (es.map (·.1))=some (t,order)/\t.mask=m/\T0 t (order.filterMap (es[·]?))/\(order.filterMap (es[·]?)).toList.Perm es.toList:=by
 have L0:jG m [] (Array.replicate (m+1) none):=by
  refine⟨Array.size_replicate ..,fun j k h=> ?_,fun k h hk=>by simp at hk,fun j j' k h=> ?_⟩<;>
  ·rw[Array.getElem?_replicate]at h
   split at h<;>cases h
 obtain⟨owner,e1,L⟩:=Ur hm (es.map (·.1)).toList [] _ L0 (by simp;exact hl)
 rw[List.nil_append]at e1 L
 have hsz:((es.map (·.1)).toList).length=es.size:=by simp
 have e2:layClean m (es.map (·.1))=some owner:=by
  rw[T9]
  have ur:List.foldl (pT m) (some (Array.replicate (m+1) none,0)) (es.map (·.1)).toList=_:=e1
  rw[ur]
  rfl
 have ar:∀x∈live m owner,x.2<es.size:=fun x hx=>by
  have:=L.lt _ _ ((ZZ L.sz).mp hx)
  rw[hsz]at this
  exact this
 have Oy:(((live m owner).map (·.2)).toArray.filterMap (es[·]?)).toList=(live m owner).map fun x=> (es[x.2]?).getD (0,.none):=by
  rw[Array.toList_filterMap]
  exact Jp ar
 have perm:(((live m owner).map (·.2)).toArray.filterMap (es[·]?)).toList.Perm es.toList:=by
  rw[Array.toList_filterMap]
  have p:=(Uk L).filterMap (fun i=>es[i]?)
  rw[hsz,filterMap_getElem?_range]at p
  exact p
 refine⟨{mask:=m,place:=((live m owner).map (·.1)).toArray,dummies:= #[],finger:=fi,led:=le,moves:=mo,plain:=pl},((live m owner).map (·.2)).toArray,?_,rfl,?_,perm⟩
 ·unfold laid
  rw[e2]
  rfl
 ·refine⟨?_,Wy m owner,rfl,fun j hj=> ?_,fun z hz=> ?_⟩
  ·have:=perm.length_eq
   rw[Zas,Zas]at this
   rw[this]
   show((live m owner).map (·.1)).toArray.size=_
   rw[Zae,Zac,Fe L,hsz]
  ·obtain⟨x,hx,rfl⟩:=ZaC.mp (show j∈(live m owner).map (·.1) from hj)
   obtain⟨hq,_⟩:=ZaN.mp ((ZZ L.sz).mp hx)
   rw[L.sz]at hq
   exact hq
  ·have f9:z∈((live m owner).map (·.1)).zip (((live m owner).map (·.2)).toArray.filterMap (es[·]?)).toList:=hz
   rw[Oy,List.zip_map',ZaC]at f9
   obtain⟨x,hx,rfl⟩:=f9
   have pZ:=(ZZ L.sz).mp hx
   have BN:=ar x hx
   have eh:(es.map (·.1)).toList[x.2]? =some (es[x.2].1):=by simp[BN]
   obtain⟨j,g1,g2⟩:=L.at_ _ _ eh
   have ej:=L.inj _ _ _ g1 pZ
   subst ej
   dsimp only
   rw[ZaE BN,Zcv]
   refine g2.mono fun y hy=> ?_
   obtain⟨k,hk⟩:=hy
   exact ZaC.mpr ⟨(y,k),(ZZ L.sz).mpr hk,rfl⟩
theorem grow {m n:Nat}(h:il m n) (hn:n+1<=306):((n+1)*5>=m*3/\il (sizeAbove (grown (n+1)) - 1) (n+1)/\sizeAbove (grown (n+1))<=512)∨(¬(n+1)*5>=m*3/\il m (n+1)):=by
 rcases h with ⟨rfl,h⟩ |⟨rfl,h⟩ |⟨rfl,h⟩ |⟨rfl,h⟩
 ·by_cases q:n=4
  ·subst q
   exact .inl ⟨.d,.inr (.inl ⟨.d,.d⟩),.d⟩
  ·exact .inr ⟨.o,.inl ⟨rfl,.o⟩⟩
 ·by_cases q:n=18
  ·subst q
   exact .inl ⟨.d,.inr (.inr (.inl ⟨.d,.d⟩)),.d⟩
  ·exact .inr ⟨.o,.inr (.inl ⟨rfl,.o⟩)⟩
 ·by_cases q:n=76
  ·subst q
   exact .inl ⟨.d,.inr (.inr (.inr ⟨.d,.d⟩)),.d⟩
  ·exact .inr ⟨.o,.inr (.inr (.inl ⟨rfl,.o⟩))⟩
 ·exact .inr ⟨.o,.inr (.inr (.inr ⟨rfl,.o⟩))⟩
section
variable {prog:Program}{w:World}{K:Type} [DecidableEq K]
structure HK (knd:HeapKind prog w K):Prop where
 Dx:∀{A:Around}{E:Value->Shared->Prop}{s:Shared}{k:K}{a:Addr}{Q:Bool->Shared->Prop},knd.is s.heap k a->(∀b,Q b s)->wpAny (model prog w) A (hashByValue 8 (.ref a)) Q E s
 notCls:∀{A:Around}{E:Value->Shared->Prop}{s:Shared}{k:K}{a:Addr}{Q:Bool->Shared->Prop},knd.is s.heap k a->Q false s->wpAny (model prog w) A (ofAClassStatement 8 (.ref a)) Q E s
 BI:∀{h h':Heap}{k:K}{a d:Addr}{o:Obj}{es ep t},knd.is h k a->h.get? d=some o->o.data=.set es ep t->Heap.SameBut d h h'->knd.is h' k a
variable {knd:HeapKind prog w K}{A:Around}{E:Value->Shared->Prop}{s:Shared}
def ft (knd:HeapKind prog w K) (h:Heap) (k:K) (e:Int×Value):Prop:=∃a,e.2=.ref a/\knd.is h k a/\e.1=knd.hash k
theorem QW (hk:HK knd) {k:K}{x:Addr}(hx:knd.is s.heap k x):∀{ys:List Value}{Q:Bool->Shared->Prop},(∀y∈ys,∃k' b,y=.ref b/\knd.is s.heap k' b)->Q false s->wpAny (model prog w) A (searchCouldBeSeen (.ref x) ys) Q E s:=by
 intro ys Q hy hq
 unfold searchCouldBeSeen
 refine eg ?_
 refine Zbj _ (fun rest r s'=>r.1=none/\s'=s/\∀y∈rest,∃k' b,y=.ref b/\knd.is s.heap k' b) _ ?_ ?_ _ _ ⟨rfl,rfl,hy⟩
 ·rintro v rest r s' ⟨hr,rfl,aM⟩
  obtain⟨k',b,rfl,hb⟩:=aM v Zab
  have CD:∀y∈rest,∃k' b,y=Value.ref b/\knd.is s'.heap k' b:=fun y hy=>aM y (Zaa _ hy)
  dsimp only
  split
  ·exact X6 ⟨rfl,rfl,CD⟩
  ·refine eg (knd.quiet hx ?_)
   simp only[Za9,Zak,Za0]
   refine eg (knd.quiet hb ?_)
   simp only[Za9,Zak,Za0]
   refine eg (hk.notCls hx ?_)
   simp only[Zak,Za0]
   refine eg (hk.notCls hb ?_)
   simp only[Zak,Za0]
   exact X6 ⟨rfl,rfl,CD⟩
 ·rintro⟨r1,r2⟩ s' ⟨hr,rfl,_⟩
  simp only at hr
  subst hr
  exact X6 hq
theorem Qk {t:SetTable}{es:Array (Int×Value)}(T:T0 t es) {i:Nat}{e:Int×Value}(h:es[i]? =some e):∃j,t.place[i]? =some j/\(j,e)∈t.place.toList.zip es.toList:=by
 obtain⟨hi,_⟩:=ZaN.mp h
 have hp:i<t.place.size:=by rw[T.sz];exact hi
 refine⟨t.place[i],ZaE hp,Zap (i:=i) ?_⟩
 rw[List.getElem?_zip_eq_some]
 exact⟨by rw[Za6];exact ZaE hp,by rw[Za6];exact h⟩
theorem Qy {t:SetTable}{es:Array (Int×Value)}(T:T0 t es) {i j:Nat}(h:t.place[i]? =some j):∃e,es[i]? =some e:=by
 obtain⟨hi,_⟩:=ZaN.mp h
 exact⟨es[i]'(by rw[<-T.sz];exact hi),ZaE _⟩
theorem TV {t:SetTable}{es:Array (Int×Value)}(T:T0 t es) {hashAt:Nat->Int}{h:Int}{p:Probe}{met:Option Met}{n:Nat}(hp:p.dummy=none) (hn:n<10*turns t.mask) (h1:∀k<n,(it t.mask p k).j∈t.place.toList) (h2:(it t.mask p n).j∉t.place.toList)
  (tQ:t.probe hashAt h p=met) (hH:∀i:Nat,hashAt i=(es[i]?.map (·.1)).getD 0):
  (met=some (.empty (it t.mask p n).j none)/\∀k<n,∀(i:Nat) (e:Int×Value),t.place[i]? =some (it t.mask p k).j->es[i]? =some e->e.1≠h)∨
  ∃(k i:Nat) (e:Int×Value),k<n/\t.place[i]? =some (it t.mask p k).j/\es[i]? =some e/\e.1=h/\met=some (.candidate (it t.mask p k).j i (it t.mask p (k+1)))/\∀k'<k,∀(i:Nat) (e:Int×Value),t.place[i]? =some (it t.mask p k').j->es[i]? =some e->e.1≠h:=by
 have conv:∀{i:Nat}{e:Int×Value},es[i]? =some e->hashAt i=e.1:=fun {i e} he=>by rw[hH,he];rfl
 rcases Ew (hashAt:=hashAt) (h:=h) T.je T.qN n (10*turns t.mask) p hp hn h1 h2 with ⟨g1,g2⟩ |⟨k,i,g1,g2,g3,g4,g5⟩
 ·exact .inl ⟨tQ.symm.trans g1,fun k hk i e hi he=>by rw[<-conv he];exact g2 k hk i hi⟩
 ·obtain⟨e,he⟩:=Qy T g2
  exact .inr ⟨k,i,e,g1,g2,he,by rw[<-conv he];exact g3,tQ.symm.trans g4,fun k' ay i e hi he=>by rw[<-conv he];exact g5 k' ay i hi⟩
theorem Ju (hk:HK knd) {S x:Addr}{k:K}{o:Obj}{es:Array (Int×Value)}{ep:Nat}{t:SetTable}{n:Nat}{Q:SetFound->Shared->Prop}
  (hroom:knd.room A) (hx:knd.is s.heap k x) (ho:s.heap.get? S=some o) (hd:o.data=.set es ep t) (T:T0 t es) (hm:t.mask%2=1) (hf:es.size<=t.mask)
  (j4:∀e∈es.toList,∃k',ft knd s.heap k' e)
  (hn:n<10*turns t.mask) (h1:∀i<n,(it t.mask (st t.mask (knd.hash k)) i).j∈t.place.toList) (h2:(it t.mask (st t.mask (knd.hash k)) n).j∉t.place.toList)
  (yF:(∃e∈es.toList,ft knd s.heap k e)->Q (.there none) s) (CJ:(¬∃e∈es.toList,ft knd s.heap k e)->Q (.free (it t.mask (st t.mask (knd.hash k)) n).j false) s):
  ∀(d fuel m0:Nat) (rW:Option Probe),m0+d=n->d<fuel->rW.getD (t.probeStart (knd.hash k))=it t.mask (st t.mask (knd.hash k)) m0->
   (∀i'<m0,∀(i:Nat) (e:Int×Value),t.place[i]? =some (it t.mask (st t.mask (knd.hash k)) i').j->es[i]? =some e->¬ft knd s.heap k e)->
   wpAny (model prog w) A (setSearchFrom S (.ref x) (knd.hash k) true fuel rW) Q E s
 |d,0,m0,rW,_,Cp,_,_=>absurd Cp (Zcs _)
 |d,fuel+1,m0,rW,Cw,Cp,jU,hold=>by
  have iQ:=T.fits hf
  unfold setSearchFrom
  refine eg (Zbg ho hd iQ ?_)
  dsimp only
  have hg:t.gaveWay=false:=by unfold SetTable.gaveWay;rw[hm];rfl
  rw[hg]
  simp only[Zak,Za0]
  rw[jU]
  generalize tQ:t.probe _ (knd.hash k) _=met
  have Ng:(it t.mask (st t.mask (knd.hash k)) m0).dummy=none:=FN _ _ _
  have kW:∀i,it t.mask (it t.mask (st t.mask (knd.hash k)) m0) i=it t.mask (st t.mask (knd.hash k)) (m0+i):=fun i=> (WE _ _ _ _).symm
  rcases TV (es:=es) T Ng (n:=d) .o (fun i hi=>by rw[kW];exact h1 _ .o) (by rw[kW,Cw];exact h2) tQ (fun i=>rfl) with ⟨rfl,g2⟩ |⟨c,i,e,g1,g2,g3,g4,rfl,g5⟩
  ·dsimp only
   rw[kW,Cw]
   refine X6 (CJ ?_)
   rintro⟨e,he,el⟩
   obtain⟨i,hi,rfl⟩:=ZbF he
   have aX:es[i]? =some es.toList[i]:=by rw[<-Za6];exact Zai hi
   obtain⟨j,hj,hz⟩:=Qk T aX
   obtain⟨a,ea,g9,eh⟩:=id el
   obtain⟨nn,jm,om⟩:=T.ld _ hz
   dsimp only at jm om
   rw[eh]at jm om
   have ar:nn<n:=by
    rcases Nat.lt_trichotomy nn n with q |q |q
    ·exact q
    ·rw[q]at jm
     exact absurd (by rw[jm];exact Qj hj) h2
    ·exact absurd (om n q) h2
   by_cases MQ:nn<m0
   ·exact hold nn MQ i _ (by rw[jm];exact hj) aX el
   ·obtain⟨c,rfl⟩:∃c,nn=m0+c:=⟨nn - m0,.o⟩
    exact g2 c .o i _ (by rw[kW,jm];exact hj) aX eh
  ·have yq:e∈es.toList:=by rw[<-Za6]at g3;exact Zap g3
   obtain⟨k2,b,eb,mq,Dd⟩:=j4 e yq
   rw[kW]at g2
   have Mn:∀y∈List.map (fun x=>x.snd) (Array.filter (fun x=>x.fst==knd.hash k) es).toList,∃k' b,y=Value.ref b/\knd.is s.heap k' b:=fun y hy=>by
    obtain⟨z,hz,rfl⟩:=ZaC.mp hy
    have f9:z∈es.toList:=by
     rw[Array.toList_filter]at hz
     exact(ZaW.mp hz).1
    obtain⟨k3,b3,e3,h3,_⟩:=j4 z f9
    exact⟨k3,b3,e3,h3⟩
   have BV:t.slot (it t.mask (it t.mask (st t.mask (knd.hash k)) m0) c).j=.live i:=W8 T.je (by rw[kW];exact g2)
   have tN:¬k2=k->wpAny (model prog w) A (setSearchFrom S (.ref x) (knd.hash k) true fuel (some (it t.mask (it t.mask (st t.mask (knd.hash k)) m0) (c+1)))) Q E s:=fun aW=>by
    refine Ju hk hroom hx ho hd T hm hf j4 hn h1 h2 yF CJ (d - c - 1) fuel (m0+c+1) _ .o .o (by rw[kW];rfl) fun i' aX i2 e2 gk ua zg=> ?_
    by_cases q1:i'<m0
    ·exact hold i' q1 i2 e2 gk ua zg
    ·by_cases q2:i'<m0+c
     ·obtain⟨c',rfl⟩:∃c',i'=m0+c':=⟨i' - m0,.o⟩
      obtain⟨_,_,_,Ox⟩:=zg
      exact g5 c' .o i2 e2 (by rw[kW];exact gk) ua Ox
     ·have e0:i'=m0+c:=.o
      subst e0
      have ei:i2=i:=(YQ T.je gk).symm.trans (YQ T.je g2)
      subst ei
      rw[g3]at ua
      cases ua
      obtain⟨b',Dg,yl,_⟩:=zg
      rw[eb]at Dg
      cases Dg
      exact aW (knd.inj mq yl)
   dsimp only
   cases hl:t.led with
   |false=>
    simp only[ZbY,Zch]
    refine eg (QW hk hx Mn ?_)
    simp only[Zak,Za0]
    rw[g3]
    dsimp only
    refine eg (ZaO ?_)
    rw[eb]
    refine knd.eqBool hroom mq hx ?_
    refine eg (Zbg ho hd iQ ?_)
    by_cases hq:k2=k
    ·rw[Zat hq]
     simp only[Bool.and_self,Zch]
     refine X6 (yF ⟨e,yq,b,eb,by rw[<-hq];exact mq,by rw[<-hq];exact Dd⟩)
    ·rw[Zaq hq]
     simp only[Zc0,Zak,Za0]
     have xR:t.sameMemory t.moves t.mask=some true:=by unfold SetTable.sameMemory;simp
     rw[xR]
     dsimp only
     rw[Zay rfl,BV]
     dsimp only
     rw[g3]
     dsimp only
     rw[eb]
     refine eg (wpAny_isSame_ref_self ?_)
     refine eg (X6 ?_)
     rw[Zay rfl]
     dsimp only
     exact tN hq
   |true=>
    simp only[Za9,Zak,Za0]
    rw[g3]
    dsimp only
    refine eg (ZaO ?_)
    rw[eb]
    refine knd.eqBool hroom mq hx ?_
    refine eg (Zbg ho hd iQ ?_)
    by_cases hq:k2=k
    ·rw[Zat hq]
     simp only[Bool.and_self,Zch]
     refine X6 (yF ⟨e,yq,b,eb,by rw[<-hq];exact mq,by rw[<-hq];exact Dd⟩)
    ·rw[Zaq hq]
     simp only[Zc0,Zak,Za0]
     have xR:t.sameMemory t.moves t.mask=some true:=by unfold SetTable.sameMemory;simp
     rw[xR]
     dsimp only
     rw[Zay rfl,BV]
     dsimp only
     rw[g3]
     dsimp only
     rw[eb]
     refine eg (wpAny_isSame_ref_self ?_)
     refine eg (X6 ?_)
     rw[Zay rfl]
     dsimp only
     exact tN hq
end
section
variable {prog:Program}{w:World}{K:Type} [DecidableEq K] {knd:HeapKind prog w K}{A:Around}{E:Value->Shared->Prop}{s:Shared}
structure FV (knd:HeapKind prog w K) (h:Heap) (S:Addr) (ks:List K) (o:Obj) (es:Array (Int×Value)) (ep:Nat) (t:SetTable):Prop where
 ho:h.get? S=some o
 ex:o.ExactSet
 hd:o.data=.set es ep t
 T:T0 t es
 room:il t.mask es.size
 el:∀e∈es.toList,∃k∈ks,ft knd h k e
 all:∀k∈ks,∃e∈es.toList,ft knd h k e
 sz:es.size=ks.length
def jH (knd:HeapKind prog w K) (h:Heap) (S:Addr) (ks:List K):Prop:=∃o es ep t,FV knd h S ks o es ep t
theorem Z1 (hk:HK knd) {h h':Heap}{S:Addr}{o:Obj}{es ep t} (ho:h.get? S=some o) (hd:o.data=.set es ep t) (hs:Heap.SameBut S h h') {k:K}{e:Int×Value}(x:ft knd h k e):ft knd h' k e:=by
 obtain⟨a,e1,e2,e3⟩:=x
 exact⟨a,e1,hk.BI e2 ho hd hs,e3⟩
theorem SU {S:Addr}{o:Obj}{es:Array (Int×Value)}{ep:Nat}{t:SetTable}{Q:Unit->Shared->Prop}(ho:s.heap.get? S=some o) (hd:o.data=.set es ep t) (hf:t.fits es.size=true) {wanted:Nat}(hm:gO (sizeAbove wanted - 1)) (hw:sizeAbove wanted<=512) (hl:es.size<=sizeAbove wanted - 1)
  (h:∀cE t',t'.mask=sizeAbove wanted - 1->T0 t' cE->cE.toList.Perm es.toList->Q () {s with heap:=s.heap.update S (Obj.putSet cE t')}):wpAny (model prog w) A (setRelay S wanted) Q E s:=by
 unfold setRelay
 refine eg (Zbg ho hd hf ?_)
 dsimp only
 rw[Zav (by rw[Zau];omega)]
 obtain⟨t',order,e,em,T',pm⟩:=Ul hm es .o t.finger (t.movedTo (sizeAbove wanted - 1)) t.led t.plain
 have er:t.relaid (es.map (·.1)) wanted=some (t',order):=e
 rw[er]
 refine eg ?_
 have hz:(order.filterMap (es[·]?)).size=es.size:=by rw[<-Zas,pm.length_eq,Zas]
 refine(show wpAny _ _ (if ((order.filterMap (es[·]?)).size !=es.size)=true then _ else pure _) _ _ s from ?_)
 rw[Zav (by rw[hz];simp)]
 refine X6 ?_
 dsimp only
 refine ZdQ ho hd (h _ _ em T' pm) (by rw[hz,Zau];omega)
theorem J3 {h:Heap}{S:Addr}{o:Obj}{es:Array (Int×Value)}{ep:Nat}{t:SetTable}(ho:h.get? S=some o) (hd:o.data=.set es ep t) (cE:Array (Int×Value)) (t':SetTable):(h.update S (Obj.putSet cE t')).get? S=some {o with data:=.set cE (ep+1) t'} :=by
 have:=Zbq (Obj.putSet cE t') ho (by rw[putSet_of cE t' hd];rfl)
 rw[putSet_of cE t' hd]at this
 exact this
theorem P5 (hk:HK knd) {S x:Addr}{k:K}{ks:List K}{Q:Bool->Shared->Prop}(hroom:knd.room A) (hx:knd.is s.heap k x) (H:jH knd s.heap S ks) (hn:ks.length+1<=306)
  (h:∀h' b,Heap.SameBut S s.heap h'->jH knd h' S (if k∈ks then ks else ks++[k])->Q b {s with heap:=h'}):
  wpAny (model prog w) A (setAddHashed S (.ref x) (knd.hash k)) Q E s:=by
 obtain⟨o,es,ep,t,H⟩:=H
 have iQ:=H.T.fits (ZbD (Zcn H.room.lt))
 unfold setAddHashed setAddHashedIn
 refine ZaO (eg (Zbg H.ho H.hd iQ ?_))
 dsimp only
 have hb:byScan (.ref x) es=false:=rfl
 rw[hb]
 simp only[Zak,Za0]
 obtain⟨f,hf,oC⟩:=H.T.free (by have:=H.room.lt;omega)
 obtain⟨n,ql,mi,mh⟩:=WJ (dg:=(·∈t.place.toList)) H.room.kP (knd.hash k) hf oC
 have odd:t.mask%2=1:=by rcases H.room.kP with q |q |q |q<;>rw[q]
 unfold setSearch
 refine eg ?_
 refine Ju hk hroom hx H.ho H.hd H.T odd (by have:=H.room.lt;omega) (fun e he=>let ⟨k',_,el⟩:=H.el e he;⟨k',el⟩) ql mi mh (fun xJ=> ?_) (fun eT=> ?_) n 100000 0 none .o ?_ rfl (fun i' aX=>absurd aX (Zcs _))
 ·dsimp only
  refine X6 ?_
  have bK:k∈ks:=by
   obtain⟨e,he,a,ea,g9,_⟩:=xJ
   obtain⟨k',ay,a',qJ,ym,_⟩:=H.el e he
   rw[ea]at qJ
   cases qJ
   rw[knd.inj g9 ym]
   exact ay
  have:=h s.heap false (PySem.Heap.SameBut.refl _ _) (by rw[Zay bK];exact⟨o,es,ep,t,H⟩)
  exact this
 ·dsimp only
  have bK:k∉ks:=fun m=>eT (H.all k m)
  refine eg (Zbg H.ho H.hd iQ ?_)
  dsimp only
  generalize yp:(it t.mask (st t.mask (knd.hash k)) n).j=f'
  have Tp:=fun pl=>H.T.put (x:=.ref x) mi mh pl
  rw[yp]at Tp
  have fN:(insertAt es (t.put f').2 (knd.hash k,.ref x)).size=es.size+1:=by rw[<-Zas,(insertAt_perm es _ _).length_eq,Zas,Array.size_push]
  have mQ:∀e,e∈(insertAt es (t.put f').2 (knd.hash k,Value.ref x)).toList↔e∈es.toList∨e=(knd.hash k,Value.ref x):=fun e=>by
   rw[(insertAt_perm es _ _).mem_iff,Array.toList_push,ZaG,Zao]
  have j4:∀e∈(insertAt es (t.put f').2 (knd.hash k,Value.ref x)).toList,∃k'∈ks++[k],ft knd s.heap k' e:=fun e he=>by
   rcases (mQ e).mp he with q |q
   ·obtain⟨k',h1,h2⟩:=H.el e q
    exact⟨k',Zbb _ h1,h2⟩
   ·exact⟨k,by simp,x,by rw[q],hx,by rw[q]⟩
  have qw:∀k'∈ks++[k],∃e∈(insertAt es (t.put f').2 (knd.hash k,Value.ref x)).toList,ft knd s.heap k' e:=fun k' ay=>by
   rcases ZaG.mp ay with q |q
   ·obtain⟨e,h1,h2⟩:=H.all k' q
    exact⟨e,(mQ e).mpr (.inl h1),h2⟩
   ·rw[Zao.mp q]
    exact⟨_,(mQ _).mpr (.inr rfl),x,rfl,hx,rfl⟩
  have qp:(insertAt es (t.put f').2 (knd.hash k,Value.ref x)).size=(ks++[k]).length:=by rw[fN,Zam,ZbW,H.sz]
  have h':=fun h' b=>h h' b
  rw[Zav bK]at h'
  generalize Nb:insertAt es (t.put f').2 (knd.hash k,Value.ref x)=iW at *
  have tail:∀t1,(∃pl,t1= {(t.put f').1 with plain:=pl})->wpAny (model prog w) A (storeSet S iW t1 >>=fun _=>if (!false&&t1.tooFull)=true then (setRelay S (grown (es.size+1)) >>=fun _=>pure true) else pure true) Q E s:=by
   rintro t1 ⟨pl,rfl⟩
   have T1:=Tp pl
   have g1:=J3 H.ho H.hd iW {(t.put f').1 with plain:=pl}
   have sb:=ZaT s.heap S (Obj.putSet iW {(t.put f').1 with plain:=pl})
   refine eg (ZdQ H.ho H.hd ?_ (by rw[fN,Zau];have:=H.room.small;omega))
   have fill:({(t.put f').1 with plain:=pl} :SetTable).tooFull=decide ((es.size+1)*5>=t.mask*3):=by
    unfold SetTable.tooFull SetTable.fill
    have a:({(t.put f').1 with plain:=pl} :SetTable).place.size=es.size+1:=by rw[T1.sz,fN]
    have b:=T1.qN
    rw[b,a]
    rfl
   rw[fill]
   rcases grow H.room (by rw[H.sz];exact hn) with ⟨q1,q2,q3⟩ |⟨q1,q2⟩
   ·rw[Zat q1]
    simp only[ZbY,Bool.and_self,Zch]
    refine eg (SU g1 rfl (T1.fits (by rw[fN];exact ZbD H.room.lt)) q2.kP q3 (by have:=q2.lt;rw[fN];omega) fun kd t2 zf T2 lT=>X6 (h' _ true (sb.trans (ZaT _ S _)) ?_))
    have bf:kd.size=iW.size:=by rw[<-Zas,lT.length_eq,Zas]
    have jM:=sb.trans (ZaT _ S (Obj.putSet kd t2))
    exact⟨_,kd,ep+1+1,t2,J3 g1 rfl kd t2,H.ex,rfl,T2,by rw[zf,bf,fN];exact q2,fun e he=>let ⟨k',a,b⟩:=j4 e (lT.mem_iff.mp he);⟨k',a,Z1 hk H.ho H.hd jM b⟩,fun k' ay=>let ⟨e,a,b⟩:=qw k' ay;⟨e,lT.mem_iff.mpr a,Z1 hk H.ho H.hd jM b⟩,by rw[bf,qp]⟩
   ·rw[Zaq q1]
    simp only[ZbY,Zc0,Zak,Za0]
    refine X6 (h' _ true sb ?_)
    exact⟨_,iW,ep+1,_,g1,H.ex,rfl,T1,by rw[fN];exact q2,fun e he=>let ⟨k',a,b⟩:=j4 e he;⟨k',a,Z1 hk H.ho H.hd sb b⟩,fun k' ay=>let ⟨e,a,b⟩:=qw k' ay;⟨e,a,Z1 hk H.ho H.hd sb b⟩,qp⟩
  split
  ·refine eg (hk.Dx hx fun b=> ?_)
   cases b with
   |true=>exact tail _ ⟨(t.put f').1.plain,rfl⟩
   |false=>exact tail _ ⟨false,rfl⟩
  ·refine eg (X6 ?_)
   exact tail _ ⟨(t.put f').1.plain,rfl⟩
 ·have:10*turns t.mask<=5260:=by
   unfold turns
   rcases H.room.kP with q |q |q |q<;>rw[q]<;>decide
  omega
end
end HS
namespace HS
open PySem PySem.SetTable PySem.Spec
theorem RO (n:Nat) {v:Value}(h:carriedByValue v=true):∃b,hashByValue n v=pure b:=by
 cases n<;>cases v<;>first |exact⟨_,rfl⟩ |(simp[carriedByValue]at h)
theorem Fj (n:Nat) {v:Value}(h:carriedByValue v=true):ofAClassStatement n v=pure false:=by
 cases n<;>cases v<;>first |rfl |(simp[carriedByValue]at h) |(unfold ofAClassStatement;rfl)
section
variable {prog:Program}{w:World}{K:Type} [DecidableEq K] {knd:KeyKind prog w K}{A:Around}{E:Value->Shared->Prop}{s:Shared}
theorem Vx {ks:List K}{a:Addr}{Q:Bool->Shared->Prop}(hk:IsTupleKey knd s.heap ks a) (h:∀b,Q b s):wpAny (model prog w) A (hashByValue 8 (.ref a)) Q E s:=by
 have hT:=hk.typeIs
 obtain⟨o,items,n,ho,_,hd,hi⟩:=hk
 unfold hashByValue
 refine eg (Zb8 hT Zco.lookup ?_)
 refine(show wpAny _ _ (seqItems? (.ref a) >>=_) _ _ s from eg (ZaS ho hd ?_))
 refine eg ?_
 show wpAny _ _ (forIn items _ _) _ _ s
 rw[<-ZbM]
 refine Zbj _ (fun rest r s'=>r.1=none/\s'=s/\∀v∈rest,carriedByValue v=true) _ ?_ ?_ _ _ ⟨rfl,rfl,hi.byValue⟩
 ·rintro v rest r s' ⟨hr,rfl,aM⟩
  obtain⟨b,e⟩:=RO 7 (aM v Zab)
  rw[e]
  refine eg (X6 ?_)
  cases b with
  |true=>
   simp only[Za9,Zak,Za0]
   exact X6 ⟨rfl,rfl,fun u cq=>aM u (Zaa _ cq)⟩
  |false=>
   simp only[ZbY,Zch]
   exact X6 (X6 (h false))
 ·rintro⟨r1,r2⟩ s' ⟨hr,rfl,_⟩
  simp only at hr
  subst hr
  exact X6 (h true)
theorem UO {ks:List K}{a:Addr}{Q:Bool->Shared->Prop}(hk:IsTupleKey knd s.heap ks a) (h:Q false s):wpAny (model prog w) A (ofAClassStatement 8 (.ref a)) Q E s:=by
 have hT:=hk.typeIs
 obtain⟨o,items,n,ho,_,hd,hi⟩:=hk
 unfold ofAClassStatement
 refine eg (Zc8 hT ?_)
 dsimp only
 rw[Zay .d]
 refine eg (X6 ?_)
 simp only[Za9,Zak,Za0]
 refine eg (ZaS ho hd ?_)
 dsimp only
 refine eg ?_
 rw[<-ZbM]
 refine Zbj _ (fun rest r s'=>r.1=none/\s'=s/\∀v∈rest,carriedByValue v=true) _ ?_ ?_ _ _ ⟨rfl,rfl,hi.byValue⟩
 ·rintro v rest r s' ⟨hr,rfl,aM⟩
  rw[Fj 7 (aM v Zab)]
  refine eg (X6 ?_)
  simp only[Zak,Za0]
  exact X6 ⟨rfl,rfl,fun u cq=>aM u (Zaa _ cq)⟩
 ·rintro⟨r1,r2⟩ s' ⟨hr,rfl,_⟩
  simp only at hr
  subst hr
  exact X6 h
theorem FJ (knd:KeyKind prog w K):HK (tupleKind knd):=by
 refine⟨fun hk h=>Vx hk h,fun hk h=>UO hk h,?_⟩
 intro h h' k a d o es ep t x ho hd hs
 obtain⟨o',items,n,bE,hc,gp,hi⟩:=x
 have aW:a≠d:=by
  rintro rfl
  obtain rfl:o'=o:=ZaV (bE.symm.trans ho)
  rw[hd]at gp
  exact nomatch gp
 exact⟨o',items,n,(hs.2 a aW).trans bE,hc,gp,hi⟩
end
section
variable {K:Type} [DecidableEq K]
def met (val:Nat->K):Nat->List K
 |0=> []
 |n+1=>if val n∈met val n then met val n else met val n++[val n]
theorem Yx (val:Nat->K) (n:Nat):met val (n+1)=if val n∈met val n then met val n else met val n++[val n]:=rfl
theorem pR (val:Nat->K):∀n,(met val n).length<=n
 |0=>Zal _
 |n+1=>by
  rw[Yx]
  have:=pR val n
  split
  ·omega
  ·rw[Zam,ZbW];omega
theorem xq (val:Nat->K):∀n k,k∈met val n↔k∈(List.range n).map val
 |0,k=>by simp[met]
 |n+1,k=>by
  rw[Zcr,Zax,ZaG,<-xq val n k,Yx]
  split
  ·rename_i h
   simp only[ZaR,List.map_nil,Zao]
   exact⟨.inl,fun z=>z.elim id fun e=>by rw[e];exact h⟩
  ·simp
theorem BC (val:Nat->K):∀n,((met val n).length=n↔((List.range n).map val).Nodup)
 |0=>by simp[met]
 |n+1=>by
  have ih:=BC val n
  have le:=pR val n
  have mm:=xq val n (val n)
  rw[Zcr,Zax]
  have nd:((List.range n).map val++List.map val [n]).Nodup↔((List.range n).map val).Nodup/\¬val n∈(List.range n).map val:=by
   rw[Zcp]
   constructor
   ·rintro⟨h1,_,h3⟩
    exact⟨h1,fun m=>h3 _ m (val n) (by simp) rfl⟩
   ·rintro⟨h1,h2⟩
    refine⟨h1,by simp,fun a ha b hb q=>h2 ?_⟩
    have bY:b=val n:=by simpa using hb
    rw[<-bY,<-q];exact ha
  rw[nd,<-ih,<-mm,Yx]
  split
  ·rename_i h
   constructor
   ·intro z;omega
   ·rintro⟨_,z⟩;exact absurd h z
  ·rename_i h
   rw[Zam,ZbW]
   constructor
   ·intro z;exact⟨.o,h⟩
   ·rintro⟨z,_⟩;omega
variable {prog:Program}{w:World}{kk:KeyKind prog w K}{A:Around}{E:Value->Shared->Prop}{s:Shared}{R:Result->Shared->Prop}{I:Addr}{fp wr:List Addr}{G:Array GenState->Array GenState->Prop}{n:Nat}{P:Nat->Value->Prop}{St:Nat->Shared->Prop}
def iZ (h:Heap) (b:Addr):Prop:=∃o,h.get? b=some o/\o.cls≠.type "tuple"
theorem Ym {h h':Heap}{ws:List Addr}{ks:List K}{a:Addr}(hw:∀b∈ws,iZ h b) (eR:∀b o,b∉ws->h.get? b=some o->h'.get? b=some o) (x:IsTupleKey kk h ks a):IsTupleKey kk h' ks a:=by
 obtain⟨o',items,n,bE,hc,gp,hi⟩:=x
 have aW:a∉ws:=fun m=>by
  obtain⟨o,ho,hn⟩:=hw a m
  rw[bE]at ho
  cases ho
  exact hn hc
 exact⟨o',items,n,eR _ _ aW bE,hc,gp,hi⟩
theorem Fu {h h':Heap}{ws:List Addr}{S:Addr}{ks:List (List K)}(hw:∀b∈ws,iZ h b) (hS:S∉ws) (eR:∀b o,b∉ws->h.get? b=some o->h'.get? b=some o) (x:jH (tupleKind kk) h S ks):jH (tupleKind kk) h' S ks:=by
 obtain⟨o,es,ep,t,X⟩:=x
 have ke:∀{k:List K}{e:Int×Value},ft (tupleKind kk) h k e->ft (tupleKind kk) h' k e:=fun⟨a,e1,e2,e3⟩=> ⟨a,e1,Ym hw eR e2,e3⟩
 exact⟨o,es,ep,t,eR _ _ hS X.ho,X.ex,X.hd,X.T,X.room,fun e he=>let ⟨k,a,b⟩:=X.el e he;⟨k,a,ke b⟩,fun k hk=>let ⟨e,a,b⟩:=X.all k hk;⟨e,a,ke b⟩,X.sz⟩
theorem SJ {h:Heap}{S:Addr}{ks:List (List K)}(x:jH (tupleKind kk) h S ks):iZ h S:=by
 obtain⟨o,es,ep,t,X⟩:=x
 exact⟨o,X.ho,by rw[X.ex.1];decide⟩
theorem Lh (hroom:A.in1.units<cLine) (W:WalksS prog w A.in1 I fp wr G n P St) (S:Addr) (qC:S∉fp) (val:Nat->List K) (hb:n<=305) (hI:∀i s,St i s->∀b∈wr,iZ s.heap b):
  ∀(k i:Nat) (s:Shared),n - i=k->i<=n->St i s->jH (tupleKind kk) s.heap S (met val i)->(∀i v,P i v->∃a,v=.ref a/\IsTupleKey kk s.heap (val i) a)->
   (∀s',Moved (S::wr) G s s'->jH (tupleKind kk) s'.heap S (met val n)->R (.ok (.ret .none)) s')->
   codeAny (model prog w) A (.builtin "set.update.loop" ⟨[.ref S,.ref I],[]⟩) R s:=by
 have qB:S∉wr:=fun h=>qC (W.sub _ h)
 have iJ:∀b∈wr,b∈S::wr:=fun b hb=>Zaa _ hb
 intro k
 induction k with
 |zero=>
  intro i s ay hi cI hS j8 hR
  have mw:i=n:=.o
  subst mw
  refine Za3 ZbR ?_
  rw[ZaP Zbd _]
  show wpAny _ A.in1 (pyNext (.ref I) >>=_) _ _ s
  refine eg (W.done s _ _ cI fun s' hm=> ?_)
  show wpAny _ A.in1 (ret Value.none) _ _ s'
  exact X6 (hR s' (hm.mono iJ) (Fu (hI _ _ cI) qB (fun b o hb e=>hm.heap b o hb e) hS))
 |succ k ih=>
  intro i s ay hi cI hS j8 hR
  have ar:i<n:=.o
  refine Za3 ZbR ?_
  rw[ZaP Zbd _]
  show wpAny _ A.in1 (pyNext (.ref I) >>=_) _ _ s
  refine eg (W.item i s _ _ ar cI fun v s' hP xQ hm=> ?_)
  have kp:∀b o,b∉wr->s.heap.get? b=some o->s'.heap.get? b=some o:=fun b o hb e=>hm.heap b o hb e
  have bP:=Fu (hI _ _ cI) qB kp hS
  have qD:∀i v,P i v->∃a,v=.ref a/\IsTupleKey kk s'.heap (val i) a:=fun i v hv=>let ⟨a,e,x⟩:=j8 i v hv;⟨a,e,Ym (hI _ _ cI) kp x⟩
  obtain⟨a,rfl,g9⟩:=qD i v hP
  show wpAny _ A.in1 (holding [Value.ref a] (setAdd S (.ref a)) >>=_) _ _ s'
  refine eg (ZaO ?_)
  unfold setAdd
  refine ZaO ?_
  refine eg ((tupleKind kk).pyHash hroom g9 ?_)
  refine P5 (s:= {s' with toks:=s'.toks+(tupleKind kk).draws (val i)}) (FJ kk) hroom g9 bP (by have:=pR val i;omega) fun h' b sb jz=> ?_
  have vS:∀b o,b∉[S]->s'.heap.get? b=some o->h'.get? b=some o:=fun b o hb e=>by
   rw[sb.2 b (fun z=>hb (by rw[z];exact Zao.mpr rfl))];exact e
  have nS:∀b∈[S],iZ s'.heap b:=fun b hb=>by rw[Zao.mp hb];exact SJ bP
  refine X6 ⟨Zbr Zbd _,ih (i+1) _ .o ar (W.frame _ s' _ _ xQ (ZcT _ _) fun b hb o e=> ?_) (by rw[Yx];exact jz) (fun i v hv=>let ⟨a,e,x⟩:=qD i v hv;⟨a,e,Ym nS vS x⟩) fun eG yc yI=> ?_⟩
  ·rw[sb.2 b (fun h:b=S=>qC (by rw[<-h];exact hb))];exact e
  ·refine hR eG (Moved.trans W.gtrans ((hm.mono iJ).then_heap (ZcT _ _) fun b o hb e=> ?_) yc) yI
   rw[sb.2 b (fun h:b=S=>hb (by rw[h];exact Zab))];exact e
end
section
variable {K:Type} [DecidableEq K] {prog:Program}{w:World}{kk:KeyKind prog w K}{A:Around}{E:Value->Shared->Prop}{s:Shared}
abbrev cV (led:Bool):Obj:= {cls:=.type "set",dict:=none,data:=.set #[] 0 (.fresh 0 0 led)}
theorem Te {h:Heap}{S:Addr}(led:Bool) (g:h.get? S=some (cV led)):jH (tupleKind kk) h S []:=by
 refine⟨_, #[],0,_,g,⟨rfl,rfl,rfl⟩,rfl,⟨rfl,.nil,rfl,fun j hj=> ?_,fun z hz=> ?_⟩,.inl ⟨rfl,Zaz _⟩,fun e he=> ?_,fun k hk=> ?_,rfl⟩
 ·exact absurd hj (by simp[SetTable.fresh])
 ·exact absurd hz (by simp[SetTable.fresh])
 ·exact absurd he (by simp)
 ·exact absurd hk (by simp)
set_option maxHeartbeats 8000000 in
theorem Pj {l:Addr}{items:Array Value}{val:Nat->List K}{Q:Value->Shared->Prop}
  (hh:A.handled=none) (hu:A.in1.in1.in1.units<cLine) (hl:s.heap.IsList l items) (hi:∀i v,items[i]? =some v->∃a,v=.ref a/\IsTupleKey kk s.heap (val i) a) (hb:items.size<=305)
  (h:∀(h':Heap) (tk:Nat),jH (tupleKind kk) h' s.heap.objs.size (met val items.size)->(∀b o,b<s.heap.objs.size->s.heap.get? b=some o->h'.get? b=some o)->Q (.ref s.heap.objs.size) {s with heap:=h',toks:=tk}):
  wpAny (model prog w) A (call (.type "set") [.ref l]) Q E s:=by
 have cS:=F.called_set
 obtain⟨c0,Gu,K3⟩:=cS.mro
 have K6:=cS.made;have Hk:=cS.sub
 refine PySem.wpAny_call (ZdF (show wpAny _ _ (callAny (.type "set") _) _ _ _ from ?_))
 refine X6 ⟨PySem.Code.quiet_builtin _ (by decide+kernel),Za3 F.entry_type_call ?_⟩
 rw[Around.under_plain (weight_type_call_type "set" [.ref l] []) rfl]
 have k1:=cS.notType;have k2:=cS.canCreate;have k3:=F.typeCall_set_1 (.ref l)
 repeat (any_goals (first |assumption |wp_step))
 refine Zb7 (code_set_new_1 (.ref l) (E:=E) (Q₁:=fun ob aF=> ∃led:Bool,ob=.ref s.heap.objs.size/\aF= {s with heap:=s.heap.push (cV led)}) fun led=> ⟨led,rfl,rfl⟩) fun wR aF mJ=> ?_
 cases wR with
 |error e=>exact mJ
 |ok yU=>
  cases yU with
  |ret ob=>
   obtain⟨led,rfl,rfl⟩:=mJ
   have gS:(s.heap.push (cV led)).get? s.heap.objs.size=some (cV led):=Zaf _ rfl
   have tS:Shared.TypeIs {s with heap:=s.heap.push (cV led)} (.ref s.heap.objs.size) "set" :=⟨_,gS,rfl⟩
   have Lj:=cS.init.lookup;have Pm:=cS.init.bind (.ref s.heap.objs.size)
   repeat (any_goals (first |assumption |wp_step))
   refine Zb7 (Zdh (R:=wants (fun r fU=>r=.none/\∃h' tk,fU= {s with heap:=h',toks:=tk}/\jH (tupleKind kk) h' s.heap.objs.size (met val items.size)/\(∀b o,b<s.heap.objs.size->s.heap.get? b=some o->h'.get? b=some o)) E) cS.init.plain F.entry_set_init (check_set_init_1 tS ?_)) fun wQ fU mH=> ?_
   ·obtain⟨⟨lc,ld,lt,ls⟩,jW,cM,nl,lh⟩:=hl
    simp only at cM lh
    subst cM;subst lh
    have xY:=X7 (cV led) jW
    have vI:=F.sub_list_set;have eF:=F.sub_list_frozenset
    have KL:(Value.type "list" ==Value.type "dict")=false:=.d
    have fm:(s.heap.push (cV led)).IsList l items:=⟨_,xY,rfl,nl,rfl⟩
    unfold Builtin.«set.__init__» noKeywords Builtin.Frozenset.updateFrom
    generalize yK:pyIter=PI
    wp_walk
    subst yK
    refine Zcl fm (eg (PySem.wpAny_runValue ?_))
    have pS:l<s.heap.objs.size:=Zad jW
    have yo:A.in1.in1.in1.handled=none:=by simp[hh]
    have nI:l≠(s.heap.push (cV led)).objs.size:=by rw[Zbh];exact Zan (Zbl pS)
    have Sf:s.heap.objs.size∉[(s.heap.push (cV led)).objs.size,l]:=by
     rw[Zbh]
     simp only[Zaj,Zao,Za5,Zb4,not_or]
     exact⟨Zan (Zcw _),ZbZ pS⟩
    refine Lh (kk:=kk) ?hroom ((ZdN yo _ l nI items).toS) s.heap.objs.size Sf val hb ?hI (items.size - 0) 0 _ .o (Zaz _) ⟨⟨_,Zaf _ rfl,rfl,rfl⟩,(fm.push _)⟩ ?yH ?j8 ?hR
    case hroom=>exact hu
    case hI=>
     rintro i s1 ⟨⟨o1,e1,e2,_⟩,_⟩ b hb
     rw[Zao.mp hb]
     exact⟨o1,e1,by rw[e2];decide⟩
    case yH=>exact Te led (X7 _ gS)
    case j8=>
     intro i v hv
     obtain⟨a,e,x⟩:=hi i v hv
     refine⟨a,e,Ym (ws:=[]) (fun b hb=>absurd hb (by simp)) (fun b o _ eb=>X7 _ (X7 _ eb)) x⟩
    case hR=>
     rintro⟨h',g',d',fe,lU⟩ hm bP
     obtain rfl:g'=s.gens:=hm.gens
     obtain rfl:d'=s.drawn:=hm.drawn
     obtain rfl:lU=s.os:=hm.os
     show wpAny _ _ _ _ _ _
     refine X6 (show wpAny _ _ (ret Value.none) _ _ _ from X6 ⟨rfl,h',fe,rfl,bP,fun b o hb e=> ?_⟩)
     refine hm.heap b o ?_ (X7 _ (X7 _ e))
     simp only[Zaj,Zao,Za5,Zb4,not_or]
     exact⟨Zan hb,by rw[Zbh];exact Zan (Zbl hb)⟩
   ·cases wQ with
    |error e=>exact mH
    |ok yT=>
     cases yT with
     |ret r=>
      obtain⟨rfl,h',tk,rfl,bP,ay⟩:=mH
      repeat (any_goals (first |assumption |wp_step))
      exact h _ _ bP ay
     |_=>exact mH.elim
  |_=>exact mJ.elim
end
end HS
namespace L2
open PySem PySem.Spec PyProof.Rows
def gF (ks:List (List Int)):Nat:=(HS.met (fun i=>ks.getD i []) ks.length).length
theorem Rj (ks:List (List Int)):gF ks=ks.length↔ks.Nodup:=by
 unfold gF
 rw[HS.BC]
 have e:(List.range ks.length).map (fun i=>ks.getD i [])=ks:=by
  refine ZcU (by simp) fun i h1 h2=> ?_
  rw[List.getElem_map,List.getElem_range,ZaM,Zai h2,Zcv]
 rw[e]
theorem items_int {prog:Program}{w:World} :∀{ks:List Int}{us:List Value},Vals (ks.map V.int) us->ItemsAre (intKind prog w) ks us
 | [],_,.nil=> .nil
 |k::ks,_,.cons r rs=>by
  obtain⟨t,rfl⟩:=r
  exact .cons (intKind_is _ _ _ _) (items_int rs)
section
variable {X:Cx}
theorem lK {pins:List (Addr×Obj)}{σ:St}{H:Hp}{s:Shared}{v:V}{u:Value}{k:List Int}(I:Inv X pins σ H s) (h:bq H v k) (r:RelV v u):∃a,u=.ref a/\IsTupleKey (intKind X.prog X.w) s.heap k a:=by
 obtain⟨t,rfl,ht⟩:=h
 cases r
 obtain⟨us,rv,⟨o,ho,hc,n,hd⟩,_⟩:=I.tuple (ag.of ht)
 exact⟨t,rfl,o,us.toArray,n,ho,hc,hd,by simpa using items_int rv⟩
def GX (K:Zgc) (te:TE):TE:=fun σ H Q=>te σ H fun v H1=> ∃(l:Addr) (ts:List V) (ks:List (List Int)),v=.ref l/\ai K H1 l ts/\Paired (bq H1) ts ks/\ts.length<=305/\Q (.int (gF ks)) H1
theorem Sy {e:Expr}{te:TE}{p p2 pos dr:Pos}(hc:X.calm=true) (hu:X.A.units+4<cLine) (hg:Gl X "len") (hm:X.mg "len" =none) (qt:Gl X "set") (iO:X.mg "set" =none) (he:PE X e te)
  (iK:starEach [.Call (.Name "set" p2) [e] [] dr] X.env=[(false,eval (.Call (.Name "set" p2) [e] [] dr) X.env)]:=by rfl) (dz:starEach [e] X.env=[(false,eval e X.env)]:=by rfl):
  PE X (.Call (.Name "len" p) [.Call (.Name "set" p2) [e] [] dr] [] pos) (GX X.K te):=by
 intro pins s σ H Q I h
 refine Za2 (ZU I hg hm Zc6 ?_)
 refine ZbL ?_ iK rfl
 rw[iK]
 show wpAny _ _ (spliced ((false,eval (.Call (.Name "set" p2) [e] [] dr) X.env)::backTo pos (starEach [] X.env))) _ _ s
 refine Zcz ?_
 refine Za2 (ZU I qt iO boot_set ?_)
 have h2:i9 te i8 σ H fun vs H1=> ∃v,vs=[v]/\∃(l:Addr) (ts:List V) (ks:List (List Int)),v=.ref l/\ai X.K H1 l ts/\Paired (bq H1) ts ks/\ts.length<=305/\Q (.int (gF ks)) H1:=by
  have e0:(fun(v:V) (H1:Hp)=> ∃v':V,[v]=[v']/\∃(l:Addr) (ts:List V) (ks:List (List Int)),v'=.ref l/\ai X.K H1 l ts/\Paired (bq H1) ts ks/\ts.length<=305/\Q (.int (gF ks)) H1)=(fun(v:V) (H1:Hp)=> ∃(l:Addr) (ts:List V) (ks:List (List Int)),v=.ref l/\ai X.K H1 l ts/\Paired (bq H1) ts ks/\ts.length<=305/\Q (.int (gF ks)) H1):=by
   funext v H1
   refine propext ⟨fun⟨v',z,q⟩=> ?_,fun q=> ⟨v,rfl,q⟩⟩
   cases z
   exact q
  show te σ H (fun(v:V) (H1:Hp)=> ∃v':V,[v]=[v']/\∃(l:Addr) (ts:List V) (ks:List (List Int)),v'=.ref l/\ai X.K H1 l ts/\Paired (bq H1) ts ks/\ts.length<=305/\Q (.int (gF ks)) H1)
  rw[e0]
  exact h
 refine Za1 (au (Za he Zb dz dr pins s σ H _ I h2) fun us s1 ⟨vs,H1,I1,r1,q1⟩=> ?_) dz rfl
 obtain⟨v,rfl,l,ts,ks,rfl,hl,pr,hn,q⟩:=q1
 obtain⟨u,rfl,ru⟩:=ZeN r1
 cases ru
 obtain⟨aa,rv,pl,hz⟩:=I1.list hl
 have ll:=rv.length
 have lk:=ZaA pr
 refine HS.Pj (kk:=intKind X.prog X.w) (val:=fun i=>ks.getD i []) (items:=aa.toArray) (I1.ok.hd hc) (by show X.A.units+1+1+1<cLine;omega) pl.isList (fun i u cq=> ?_) (by rw[Zae];omega) fun h' tk hS hk=> ?_
 ·have gh:aa[i]? =some u:=by simpa using cq
  have hi:i<ts.length:=by rw[ll];exact(X8.mp gh).1
  obtain⟨u',e1,r2⟩:=rv.get (Zai hi)
  rw[gh]at e1
  cases e1
  obtain⟨k,hk,tp⟩:=ZV pr (Zai hi)
  obtain⟨a,e,x⟩:=lK I1 tp r2
  refine⟨a,e,?_⟩
  show IsTupleKey _ _ (ks.getD i []) a
  rw[ZaM,hk]
  exact x
 ·have I2:Inv X pins σ H1 {s1 with heap:=h',toks:=tk} :=I1.kept fun b o eb=>hk b o (Zad eb) eb
  refine ZcH ?_
  obtain⟨o,es,ep,t,SH⟩:=hS
  have sm:=SH.room.small
  refine call_len_set SH.ho SH.ex SH.hd (SH.T.fits (ZbD (Zcn SH.room.lt))) .o ?_
  have ez:(es.size:Int)=(gF ks:Int):=by
   rw[SH.sz]
   unfold gF
   rw[Zae,<-ll,lk]
  exact⟨.int (gF ks),H1,I2.tok _,⟨_,by rw[<-ez]⟩,q⟩
end
end L2
namespace L2
open PySem PySem.Spec PyProof.Rows SeqAt
end L2
namespace L2
open PySem PySem.Spec PyProof.Rows
def rg (K:Zgc) (t:Addr):It:=
 ⟨fun i H=> ∃xs x,ai K H t xs/\xs[i]? =some x,fun i H x H'=> ∃(T:Addr) (y:V),x=.ref T/\H T=none/\H'=upd H T (.par [.int (i:Int),y])/\∀xs,ai K H t xs->xs[i]? =some y,fun i H=> ∃xs,ai K H t xs/\xs.length=i⟩
theorem Vs {P:Program}{w:World}{K:Zgc}{elts:List Expr}{kk:Nat}{pos:Pos}(t e j:Addr) (j6:e≠j) (qc:t≠e) (qb:t≠j):
  Turn P w K (.Tuple elts kk pos) (rg K t) [e,j] e (fun i h=> (∃old,IsEnum h e j i old)/\h.IsListIter j t i) where
 mem:=by simp
 obj:=fun i h st b hb=>by
  obtain⟨⟨old,he⟩,o,ho,hc,hd⟩:=st
  rcases Zaj.mp hb with rfl |hb
  ·exact⟨_,he,fun v z=>by cases z⟩
  ·rw[Zao.mp hb]
   exact⟨o,ho,fun v z=>by rw[hd]at z;cases z⟩
 keep:=fun i h h' st k=> ⟨let ⟨old,he⟩:=st.1;⟨old,k e (by simp) _ he⟩,st.2.at fun o q=>k j (by simp) o q⟩
 item:=by
  intro X hP hw hK hc i pins s σ H E I hf st hg
  subst hP hw hK
  obtain⟨xs,x,hq,hx⟩:=hg
  obtain⟨aa,rv,p,hz⟩:=I.list hq
  obtain⟨u,hu,ru⟩:=rv.get hx
  have hl:=rv.length
  have mz:i<aa.toArray.size:=by
   have:=(X8.mp hu).1
   simpa using this
  have W:=ZdO (prog:=X.prog) (w:=X.w) (A:=X.A) (Draws.list (A:=X.A.in1) (show X.A.in1.handled=none from I.ok.hd hc) j t qb aa.toArray) e j6 (by simp[j6,qc.symm]) (by simp)
  have hT:s.heap.IsList t aa.toArray:=p.isList
  refine W.item i s _ _ mz ⟨st.1,st.2,hT⟩ fun T vals h' tk hP cP mF iN hk=> ⟨_,rfl,W.go elts kk pos i T _ _ _ iN fun eU cH bO=> ?_⟩
  obtain⟨rJ,x2,iH,rfl⟩:=hP
  have kX:aa[i]? =some x2:=by simpa using iH
  rw[hu]at kX
  cases kX
  have qy:T∉[e,j]:=W.apart _ _ _ iN
  refine⟨.ref T,upd H T (.par [.int (i:Int),x]),Jm (s:=s) (h':=eU) (tk:=tk) I hf (fun b o hb q=>bO b o hb (hk b o hb q)) cP (mF.at fun o q=>bO T o qy q) ⟨rJ,rfl⟩ ru,rfl,⟨T,x,rfl,I.ak.fresh cP,rfl,fun ys hy=>by rw[I.tF hy hq];exact hx⟩,⟨cH.1,cH.2.1⟩,fun b hb=> ?_⟩
  rw[Zi (fun z=>qy (by rw[<-z];exact hb))]
  exact(hf b hb).1
 done:=by
  intro X hP hw hK hc i pins s σ H E I hf st hg
  subst hP hw hK
  obtain⟨xs,hq,hx⟩:=hg
  obtain⟨aa,rv,p,hz⟩:=I.list hq
  have hl:=rv.length
  have W:=ZdO (prog:=X.prog) (w:=X.w) (A:=X.A) (Draws.list (A:=X.A.in1) (show X.A.in1.handled=none from I.ok.hd hc) j t qb aa.toArray) e j6 (by simp[j6,qc.symm]) (by simp)
  have hn:i=aa.toArray.size:=by rw[Zae];omega
  have hT:s.heap.IsList t aa.toArray:=p.isList
  rw[hn]at st
  exact W.done s _ _ ⟨st.1,st.2,hT⟩ fun h' tk hk=> ⟨rfl,Wd (s:=s) (h':=h') (tk:=tk) I hf hk⟩
 self:=fun A i s Q E st h=>let ⟨old,he⟩:=st.1;ZdP he h
section
variable {X:Cx}{elts:List Expr}{kk:Nat}{tp:Pos}
def LO (K:Zgc) (ta:TA):TI:=fun σ H R=>ta σ H fun vs H1=> ∃t,vs=[.ref t]/\(∃xs,ai K H1 t xs)/\R (rg K t) H1
theorem RG {a:Expr}{ta:TA}{p pos:Pos}(hg:Gl X "enumerate") (hm:X.mg "enumerate" =none) (ha:PA X [a] ta) (hs:starEach [a] X.env=[(false,eval a X.env)]:=by rfl):PI X (.Tuple elts kk tp) (.Call (.Name "enumerate" p) [a] [] pos) (LO X.K ta):=by
 intro pins s σ H R I h
 refine Call_ (ZU I hg hm boot_enumerate (Za1 (au (ha pos pins s σ H _ I h) fun us s1 ⟨vs,H1,I1,r1,q1⟩=> ?_) hs rfl))
 obtain⟨t,e,⟨xs,hq⟩,q⟩:=q1
 subst e
 obtain⟨u,rfl,ru⟩:=ZeN r1
 cases ru
 obtain⟨aa,rv,pl,hz⟩:=I1.list hq
 have hT:s1.heap.IsList t aa.toArray:=pl.isList
 have ht:t<s1.heap.objs.size:=by obtain⟨o,ho,_⟩:=hT;exact Zad ho
 refine call_enumerate_list hT fun h' he hj eQ hk=>ZdP he ?_
 have I2:Inv X pins σ H1 {s1 with heap:=h'} :=I1.kept (t':=s1.toks) hk
 refine⟨s1.heap.objs.size+1,[s1.heap.objs.size+1,s1.heap.objs.size],_,_,H1,rfl,I2,Vs t _ _ (Nat.succ_ne_self _) (Zan (Zbl ht)) (Zan ht),⟨⟨_,he⟩,hj⟩,fun b hb=> ?_,q⟩
 have iR:s1.heap.objs.size<=b:=by
  rcases Zaj.mp hb with z |z
  ·rw[z];exact Nat.le_succ _
  ·rw[Zao.mp z];exact Zal _
 exact I1.jB iR (I1.ak.fresh iR)
end
theorem Tb {K:Zgc}{a:Addr}{xs:List V}{g:TG}{tb:TS}{D:Ends}{σ:St}{H:Hp}(Pv:Nat->St->Hp->Prop) (h0:Pv 0 σ H) (hl:∀i σ H,i<=xs.length->Pv i σ H->ai K H a xs)
  (hs:∀i x T σ H,xs[i]? =some x->H T=none->Pv i σ H->g (.ref T) σ (upd H T (.par [.int (i:Int),x])) fun bc H2=>tb {D with nx:=Pv (i+1),ct:=Pv (i+1),bk:=D.nx} bc H2) (hd:∀σ H,Pv xs.length σ H->D.nx σ H):
  ∃W:Nat->Nat->St->Hp->Prop,(∃m,W 0 m σ H)/\∀i m σ H,W i m σ H->
   ((rg K a).stop i H/\D.nx σ H)∨((rg K a).go i H/\∃N:St->Hp->Prop,(∀aj H',N aj H'->∃m',m'<m/\W (i+1) m' aj H')/\∀x H',(rg K a).nA i H x H'->g x σ H' fun bc H2=>tb {D with nx:=N,ct:=N,bk:=D.nx} bc H2):=by
 refine⟨fun i m σ H=>m=xs.length - i/\i<=xs.length/\Pv i σ H,⟨xs.length,by simp,Zaz _,h0⟩,?_⟩
 rintro i m σ H ⟨rfl,hi,p⟩
 have q:=hl i σ H hi p
 by_cases ar:i<xs.length
 ·refine .inr ⟨⟨xs,xs[i],q,by simp[ar]⟩,Pv (i+1),fun aj H' p'=> ⟨xs.length - (i+1),.o,rfl,ar,p'⟩,fun x H' y=> ?_⟩
  obtain⟨T,z,e1,e2,e3,e4⟩:=y
  subst e1 e3
  exact hs i z T σ H (e4 xs q) e2 p
 ·have e:i=xs.length:=.o
  subst e
  exact .inl ⟨⟨xs,q,rfl⟩,hd σ H p⟩
end L2
namespace L2
open PySem PySem.Spec PyProof.Rows SeqAt
end L2
namespace L2
open PySem PySem.Spec PyProof.Rows
section
variable {X:Cx}{CX:i6}{k:Nat}{f:Addr}{fd:FuncData}{ps:List Str}{ds:List Value}{gw:List V}{sp:Sp}{E:XK}{x:Str}{p pos:Pos}{e:Expr}{es:List Expr}{t:TA}
theorem TR {i:Nat}(F:aA X.prog X.w X.K X.mg X.base CX k f fd ps sp) (hr:bj k X.A) (hv:PE X (.Name x p) (pd i)) (hk:PySem.W.keepIn X.K (.ref f)=true) (hb:Binds X.K fd ps ds) (hd:Vals gw ds) (hx:Passes CX X E)
  (ha:PA X (e::es) t) (he:starEach (e::es) X.env=(false,eval e X.env)::starEach es X.env:=by rfl) (dm:(backTo pos (starEach es X.env)).any (·.1)=false:=by rfl):
  PE X (.Call (.Name x p) (e::es) [] pos) (fun σ H Q=>σ[i]? =some (some (.ref f))/\nC sp gw E t σ H Q):=by
 intro pins s σ H Q I h
 obtain⟨l9,h⟩:=h
 refine Za2 (au (hv pins s σ H (fun v H1=>v=.ref f/\H1=H) I ⟨_,l9,rfl,rfl⟩) fun u s1 ⟨v,H1,I1,rv,e1,e2⟩=> ?_)
 subst e1 e2
 cases rv
 refine PySem.W.callWith_K (h₀:=X.base) I1.ok.mod.kU hk (au (ha pos pins s1 σ H1 _ I1 h) fun us s2 ⟨vs,H2,I2,r,q⟩=> ⟨I2.bN,?_⟩) he dm
 exact UG F hr hb hd hx I2 r q
end
end L2
namespace L2
open PySem PySem.Spec PyProof.Rows PyProof.Rows.dc
end L2
namespace L2
open PySem PySem.Spec PyProof.Rows
end L2
namespace PyProof.Rows.dc
open PySem
end PyProof.Rows.dc
namespace L2
open PySem PySem.Spec PyProof.Rows PyProof.Rows.dc
end L2
namespace L2
open PySem PySem.Spec PyProof.Rows
structure X5 (X:Cx) (N':List Str) (ts:Nat) (ba:List Nat) (scope:Scope) (zc:Str):Prop where
 kind:scope.kind=.function
 one:(scope.names.filter fun y=>y.2==.cell)=[(zc,.cell)]
 own:scope.names.lookup zc=some .cell
 names:∀y∈scope.names,y.2=.local->scope.names.lookup y.1=some .local
 free:∀y∈scope.names,y.2=.free->X.env.kindOf y.1=some .cell∨X.env.kindOf y.1=some .free
 nd:N'.Nodup
 len:N'.length=ts+ba.length
 Dv:∀k j,ba[k]? =some j->∃x,N'[ts+k]? =some x/\X.N[j]? =some x/\X.env.kindOf x≠some .local/\scope.names.lookup x=some .free
end L2
namespace L2
open PySem PySem.Spec PyProof.Rows SeqAt
def bu (A:Around) (s:Shared) (y x:Value) (b:Bool):Prop:=
 ∀(prog:Program) (w:World) (E:Value->Shared->Prop) (Q:Value->Shared->Prop),Q (.bool b) s->wpAny (model prog w) A (richCompare .Lt y x) Q E s
inductive fP (A:Around) (s:Shared):List Value->List Value->Bool->Prop where
 |nn:fP A s [] [] false
 |nc {y:Value}{ys:List Value} :fP A s [] (y::ys) true
 |cn {x:Value}{xs:List Value} :fP A s (x::xs) [] false
 |eq {x y:Value}{xs ys:List Value}{r:Bool} :EqAt A s x y true->fP A s xs ys r->fP A s (x::xs) (y::ys) r
 |lt {x y:Value}{xs ys:List Value}{r:Bool} :EqAt A s x y false->bu A s x y r->fP A s (x::xs) (y::ys) r
section
open PySem.AutoSeq1 (wpAny_loadPart')
open PySem.MeetsSeq PySem.MeetsSeq2 PySem.MeetsSeq3 PySem.SeqRoads2
theorem Vr (l b:Addr) (items items2:Array Value) (n n2:Nat) (dd hJ:Option Addr) (sl eF:Array (Option Value)) (r:Bool):
  Meets (Builtin.«tuple.__lt__» ⟨[.ref l,.ref b],[]⟩)
   (fun A R s=>s.heap.get? l=some {cls:=.type "tuple",dict:=dd,data:=.seq items n,slots:=sl}/\s.heap.get? b=some {cls:=.type "tuple",dict:=hJ,data:=.seq items2 n2,slots:=eF}/\
    fP A.in1 s items.toList items2.toList r/\R (.ok (.ret (.bool r))) s):=
 .of_wp fun prog w A R s h=>by
  obtain⟨hp,g,d,tk,os⟩:=s;obtain⟨hl,hb,hc,h⟩:=h
  have f2:=PySem.AutoSeq1.sub_tuple_tuple
  wp_walk using wpAny_loadPart' hl,PySem.wpAny_loadPart' hb,Zbj _ (fun rest b s'=>b.1=none/\s'=⟨hp,g,d,tk,os⟩/\∃(vs ws:List Value),rest=vs.zip ws/\
   fP A.in1 ⟨hp,g,d,tk,os⟩ vs ws r/\vs.length+items2.size=ws.length+items.size) _
  case turn=>
   rintro⟨y,x⟩ rest b s' ⟨bY,rfl,vs,ws,hz,bC,hlen⟩
   cases bC with
   |nn=>cases hz
   |nc=>cases hz
   |cn=>cases hz
   |eq he hr=>
    rw[Zbo]at hz
    injection hz with pY tM
    injection pY with hy hx
    subst hy hx
    simp only[ZaJ]at hlen
    refine eg (he prog w _ _ ?_)
    wp_walk
    exact⟨rfl,rfl,_,_,tM,hr,.o⟩
   |lt he hr=>
    rw[Zbo]at hz
    injection hz with pY tM
    injection pY with hy hx
    subst hy hx
    refine eg (he prog w _ _ ?_)
    have xT:=hr prog w
    wp_walk using xT
    exact⟨_,rfl,h⟩
  case fin=>
   rintro⟨b1,b2⟩ s' ⟨bY,rfl,vs,ws,hz,bC,hlen⟩
   simp only at bY
   subst bY
   have hv:r=decide (items.size<items2.size):=by
    cases bC with
    |nn=>
     simp only[ZbP]at hlen
     exact(Zaq .o).symm
    |nc=>
     simp only[ZbP,ZaJ]at hlen
     exact(Zat .o).symm
    |cn=>
     simp only[ZbP,ZaJ]at hlen
     exact(Zaq .o).symm
    |eq=>rw[Zbo]at hz;cases hz
    |lt=>rw[Zbo]at hz;cases hz
   rw[hv]at h
   wp_walk
   exact⟨_,rfl,by simpa[Builtin.Tuple.tupleCompareSizes] using h⟩
  case h=>
   exact⟨rfl,rfl,items.toList,items2.toList,rfl,hc,by simp;omega⟩
end
section
variable {A:Around}{s:Shared}
theorem bu.tuples {l b:Addr}{items items2:Array Value}{r:Bool}(hl:IsTup s.heap l items) (hb:IsTup s.heap b items2) (hu:A.units<cLine) (hc:fP A.in1 s items.toList items2.toList r):bu A s (.ref l) (.ref b) r:=fun prog w E Q h=>by
 obtain⟨⟨cls,dd,data,sl⟩,ho,Cz,n,hd⟩:=id hl
 obtain⟨⟨zq,hJ,data2,eF⟩,fj,gq,n2,hd2⟩:=id hb
 simp only at Cz hd gq hd2
 subst Cz hd gq hd2
 exact richCompare_meets_room (op:=.Lt) ⟨_,ho,rfl⟩ ⟨_,fj,rfl⟩ PySem.F.slot_tuple_lt PySem.F.entry_tuple_lt (PySem.F.args_tuple_lt_2 _ _) (Vr l b items items2 n n2 dd hJ sl eF r)
  ⟨ho,fj,hc,show Value.bool r≠Value.notImplemented/\Q (.bool r) s from ⟨(fun x=>nomatch x),h⟩⟩ hu
theorem bu.int (a:Int) (t:Tok) (c:Int) (u:Tok):bu A s (.int a t) (.int c u) (decide (a<c)):=fun prog w E Q h=>HT.A8 A s a t c u prog w E Q h
theorem fP.ints:∀{us ws:List Value}{ns ms:List Int},IntsAre us ns->IntsAre ws ms->fP A s us ws (HT.lexLt ns ms)
 |_,_,_,_,.nil,.nil=> .nn
 |_,_,_,_,.nil,.cons _ _ _=> .nc
 |_,_,_,_,.cons _ _ _,.nil=> .cn
 |_,_,_,_,.cons a t h1,.cons c u h2=>by
  rw[HT.xx]
  by_cases e:a=c
  ·rw[Zay e]
   refine .eq ?_ (fP.ints h1 h2)
   have:=EqAt.int_int (A:=A) (s:=s) a t c u
   rw[Zcm.mpr e]at this
   exact this
  ·rw[Zav e]
   refine .lt ?_ (bu.int a t c u)
   have:=EqAt.int_int (A:=A) (s:=s) a t c u
   rw[Zcq.mpr e]at this
   exact this
end
end L2
namespace L2
open PySem PySem.Spec PyProof.Rows
end L2
namespace L2
open PySem PySem.Spec PyProof.Rows PyProof.Rows.dc SeqAt
section
variable {X:Cx}
theorem UY {c:String} :fc X (.builtin "isinstance") (fun xs H Q=> ∃(a:Addr) (ys:List V) (b:Bool),xs=[.ref a,.ty c]/\ag X.K H a ys/\PySem.W.kitOne X.K (.type "tuple") (.type c)=some b/\Q (.bl b) H):=by
 intro pins s σ H xs us Q I r h
 obtain⟨a,ys,b,rfl,sq,e,q⟩:=h
 obtain⟨u,v,rfl,ru,rv⟩:=vals2 r
 cases rv
 cases ru
 obtain⟨aa,_,⟨o,h1,h2,_⟩,_⟩:=I.tuple sq
 exact Zbu PySem.W.kitx_tuple I.bN ⟨o,h1,h2⟩ e (fun z=>nomatch z) fun tk=> ⟨.bl b,H,I.tok tk,rfl,q⟩
theorem FC {pins:List (Addr×Obj)}{σ:St}{H:Hp}{s:Shared}{A:Around}{a b:Addr}{xs ys:List V}(I:Inv X pins σ H s) (hu:A.units<cLine) (ha:ag X.K H a xs) (hb:ag X.K H b ys) (hx:xs.all lV=true) (hy:ys.all lV=true):EqAt A s (.ref a) (.ref b) (decide (xs=ys)):=by
 by_cases e:a=b
 ·subst e
  rw[I.o8 ha hb,Zat rfl]
  exact EqAt.same _
 ·obtain⟨us,r1,p1,_⟩:=I.tuple ha
  obtain⟨vs,r2,p2,_⟩:=I.tuple hb
  have z:=RcAt.tuples (A:=A) (s:=s) p1 p2 hu (PB hx hy r1 r2)
  rw[QF r1 r2]at z
  exact EqAt.of_refs e z
theorem DD {u v:Value}{aa:List Value}{x y:V}(r:Vals [x,y] aa) (ru:∀w,RelV x w->w=u) (rv:∀w,RelV y w->w=v):aa=[u,v]:=by
 cases r with
 |cons r1 r2=>
  cases r2 with
  |cons r3 r4=>
   cases r4
   rw[ru _ r1,rv _ r3]
def ir (H:Hp) (v:V) (k:List Int):Prop:=∃(t tb tl:Addr) (wd hg:Int) (rs:List Int),v=.ref t/\H t=some (.tup [.ref tb,.ref tl])/\H tb=some (.tup [.int wd,.int hg])/\H tl=some (.tup (rs.map V.int))/\k=wd::hg::rs
theorem ir.same {H H':Hp}{v:V}{k:List Int}(h:ir H v k) (s:af H H'):ir H' v k:=by
 obtain⟨t,tb,tl,wd,hg,rs,e,h1,h2,h3,h4⟩:=h
 exact⟨t,tb,tl,wd,hg,rs,e,s _ _ h1,s _ _ h2,s _ _ h3,h4⟩
theorem Ji (k:List Int):av k k=false:=by
 cases h:av k k with
 |false=>rfl
 |true=>
  have:=Z8 _ _ h
  exact absurd (h.symm.trans this) .d
theorem ir.lt {pins:List (Addr×Obj)}{σ:St}{H:Hp}{s:Shared}{A:Around}{x y:V}{u v:Value}{k k':List Int}(I:Inv X pins σ H s) (hu:A.units+1<cLine) (hx:ir H x k) (hy:ir H y k') (rx:RelV x u) (ry:RelV y v):bu A s u v (av k k'):=by
 obtain⟨t,tb,tl,wd,hg,rs,rfl,h1,h2,h3,rfl⟩:=hx
 obtain⟨t',nB,Ay,o7,jZ,kJ,rfl,qG,fK,qF,rfl⟩:=hy
 cases rx
 cases ry
 obtain⟨us,r1,p1,_⟩:=I.tuple (ag.of h1)
 obtain⟨vs,r2,p2,_⟩:=I.tuple (ag.of qG)
 obtain rfl:=DD (u:=.ref tb) (v:=.ref tl) r1 (fun _ z=>z) (fun _ z=>z)
 obtain rfl:=DD (u:=.ref nB) (v:=.ref Ay) r2 (fun _ z=>z) (fun _ z=>z)
 refine bu.tuples p1 p2 (Zcn hu) ?_
 have q1:=FC (A:=A.in1) I hu (ag.of h2) (ag.of fK) (J9 [wd,hg]) (J9 [o7,jZ])
 have q2:=FC (A:=A.in1) I hu (ag.of h3) (ag.of qF) (J9 rs) (J9 kJ)
 have e1:decide ([V.int wd,V.int hg]=[V.int o7,V.int jZ])=decide ([wd,hg]=[o7,jZ]):=by simp
 have inj:∀{a b:List Int},a.map V.int=b.map V.int->a=b:=fun {a b} h=> (by have:=Zce (List.map fun v=>match v with |V.int i=>i |_=>0) h;simpa[Function.comp_def] using this)
 have e2:decide (rs.map V.int=kJ.map V.int)=decide (rs=kJ):=by
  by_cases z:rs=kJ
  ·rw[Zat z,Zat (by rw[z])]
  ·rw[Zaq z,Zaq (fun y=>z (inj y))]
 rw[e2]at q2
 rw[e1]at q1
 rw[Fd]
 show fP A.in1 s [.ref tb,.ref tl] [.ref nB,.ref Ay] _
 by_cases z:[wd,hg]=[o7,jZ]
 ·rw[Zay z]
  rw[Zat z]at q1
  refine .eq q1 ?_
  by_cases z2:rs=kJ
  ·rw[Zat z2]at q2
   rw[z2,Ji]
   exact .eq q2 .nn
  ·rw[Zaq z2]at q2
   obtain⟨dF,i1,j1,_⟩:=I.tuple (ag.of h3)
   obtain⟨eP,i2,j2,_⟩:=I.tuple (ag.of qF)
   have c:=fP.ints (A:=A.in1.in1) (s:=s) (ZP i1) (ZP i2)
   rw[Y7]at c
   exact .lt q2 (bu.tuples j1 j2 hu (by simpa using c))
 ·rw[Zav z]
  rw[Zaq z]at q1
  obtain⟨dF,i1,j1,_⟩:=I.tuple (ag.of h2)
  obtain⟨eP,i2,j2,_⟩:=I.tuple (ag.of fK)
  have c:=fP.ints (A:=A.in1.in1) (s:=s) (ZP (ns:=[wd,hg]) i1) (ZP (ns:=[o7,jZ]) i2)
  exact .lt q1 (bu.tuples j1 j2 hu (by simpa using c))
end
theorem Eg {X:Cx}{pins:List (Addr×Obj)}{σ:St}{H:Hp}{s:Shared}{A:Around}{XE:Value->Shared->Prop}(hd:X.calm=true->A.handled=none) (hf:A.frames=some X.stack) (I:Inv X pins σ H s):Inv {X with A:=A,xe:=XE} pins σ H s:=
 ⟨⟨I.ok.mod,I.ok.kind,I.ok.glob,I.ok.blt,I.ok.above,I.ok.inj,I.ok.has,I.ok.kg,hd,hf,I.ok.lL,I.ok.kc,I.ok.bs,I.ok.iX,I.ok.kN,I.ok.j9,I.ok.dJ,I.ok.gM⟩,
  I.os,I.bare,I.base,I.loc,I.cell,I.free,I.fM,I.pin,I.ak,I.len⟩
section
variable {X:Cx}{pins:List (Addr×Obj)}{σ:St}{H1:Hp}{f:Addr}{fd:FuncData}{k:Nat}{p1:Str}{sp:Sp}{vs:List V}{ks:List (List Int)}{l it S:Addr}{R:Result->Shared->Prop}
def rf (sp:Sp) (H1:Hp) (vs:List V) (ks:List (List Int)):Prop:=∀(j:Nat) v k',vs[j]? =some v->ks[j]? =some k'->∀H2,af H1 H2->∀Q':VK,(∀u H3,af H2 H3->ir H3 u k'->Q' u H3)->sp [v] H2 Q' E0
theorem Fc {s:Shared}{H2:Hp}{j:Nat}{v:V}{u:Value}{kj:List Int}{Q:Value->Shared->Prop}{E:Value->Shared->Prop}(hc:X.calm=true) (F:aA X.prog X.w X.K X.mg X.base az k f fd [p1] sp) (hr:bj k X.A.in1) (hb:Binds X.K fd [p1] [])
  (I:Inv X pins σ H2 s) (fI:aH X pins H2 it) (fS:aH X pins H2 S) (oI:∃o,s.heap.get? it=some o/\∀v,o.data≠.cell v) (oS:∃o,s.heap.get? S=some o/\∀v,o.data≠.cell v) (turn:rf sp H1 vs ks) (sm:af H1 H2) (hv:vs[j]? =some v) (hk:ks[j]? =some kj) (ru:RelV v u)
  (q:∀(z:Value) (kv:V) (H3:Hp) (s':Shared),Inv X pins σ H3 s'->af H2 H3->ir H3 kv kj->RelV kv z->aH X pins H3 it->aH X pins H3 S->(∀o,s.heap.get? it=some o->s'.heap.get? it=some o)->(∀o,s.heap.get? S=some o->s'.heap.get? S=some o)->Q z s'):
  wpAny (model X.prog X.w) X.A.in1 (call (.ref f) [u]) Q E s:=by
 have M9:∀b∈[it,S],aH X pins H2 b:=fun b hb=>by
  rcases Zaj.mp hb with rfl |hb
  ·exact fI
  ·rw[Zao.mp hb];exact fS
 have I1:=I.pinned (fp:=[it,S]) M9 fun b hb=>by
  rcases Zaj.mp hb with rfl |hb
  ·exact oI
  ·rw[Zao.mp hb];exact oS
 have I2:Inv {X with A:=X.A.in1,xe:=fun _ _=>False} (pins++fg [it,S] s.heap) σ H2 s:=Eg (fun _=>I.ok.hd hc) I.ok.frames I1
 have r:=UG (X:= {X with A:=X.A.in1,xe:=fun _ _=>False}) (vs:=[v]) (us:=[u]) (gw:=[]) (ds:=[]) (Q:=fun z H3=>af H2 H3/\ir H3 z kj) F hr hb .nil xc I2 (.cons ru .nil) (turn j v kj hv hk H2 sm _ fun z H3 s3 k3=> ⟨s3,k3⟩)
 refine ZaL r (fun z s' ⟨kv,H3,I3,rz,s3,k3⟩=> ?_) fun _ _ z=>False.elim z
 have I4:Inv X (pins++fg [it,S] s.heap) σ H3 s':=Eg (X:= {X with A:=X.A.in1,xe:=fun _ _=>False}) (A:=X.A) (XE:=X.xe) (fun h=>I.ok.hd h) I.ok.frames I3
 have ki:∀b∈[it,S],∀o,s.heap.get? b=some o->s'.heap.get? b=some o/\H3 b=none:=fun b hb o e=>
  let h:=I4.pin (b,o) (Zah _ (Zah _ (Zu hb e)))
  ⟨h.1,h.2.1⟩
 obtain⟨o1,g1,_⟩:=oI
 obtain⟨o2,g2,_⟩:=oS
 exact q z kv H3 s' I4.eD s3 k3 rz ⟨(ki it (by simp) o1 g1).2,fI.2⟩ ⟨(ki S (by simp) o2 g2).2,fS.2⟩ (fun o e=> (ki it (by simp) o e).1) (fun o e=> (ki S (by simp) o e).1)
theorem Sn (hc:X.calm=true) (F:aA X.prog X.w X.K X.mg X.base az k f fd [p1] sp) (hr:bj k X.A.in1) (hb:Binds X.K fd [p1] []) (jo:l≠it) (fH:S≠it) (hu:X.A.units+2<cLine) (fm:H1 l=some (.lst vs)) (hlen:vs.length=ks.length) (turn:rf sp H1 vs ks)
  (hR:∀(i:Nat) v k' H2 u s',vs[i]? =some v->ks[i]? =some k'->(∀eK∈ks,av eK k'=false)->af H1 H2->Inv X pins σ H2 s'->RelV v u->R (.ok (.ret u)) s'):
  ∀(r j i:Nat) (s:Shared) (H2:Hp) (vb ub:Value) (v kv:V) (kb:List Int) (c:Nat),vs.length - (j+1)=r->j+1<=vs.length->Inv X pins σ H2 s->af H1 H2->aH X pins H2 it->aH X pins H2 S->s.heap.IsListIter it l (j+1)->
   s.heap.get? S=some (seqObj "list" #[vb,ub] c)->vs[i]? =some v->RelV v vb->ks[i]? =some kb->RelV kv ub->ir H2 kv kb->(∀(j':Nat),j'<=j->∀eK,ks[j']? =some eK->av eK kb=false)->
   codeAny (model X.prog X.w) X.A (.builtin "min.loop" ⟨[.ref it,.ref f,.ref S],[]⟩) R s:=by
 have iM:(toString "min" ++toString ".loop" :String)= "min.loop" :=.d
 intro r
 induction r with
 |zero=>
  intro j i s H2 vb ub v kv kb c cw hj I sm fI fS hit hS hv rv hk rk ka best
  obtain⟨aa,rl,pl,_⟩:=I.list (ai.of (sm _ _ fm))
  have hsz:aa.toArray.size=vs.length:=by rw[Zae,<-rl.length]
  have W:=ZdN (prog:=X.prog) (w:=X.w) (A:=X.A.in1) (I.ok.hd hc) it l jo aa.toArray
  refine Za3 Zc2 ?_
  rw[ZaP Zbe _]
  show wpAny _ X.A.in1 (seqItems? (.ref S) >>=_) _ _ _
  refine eg (ZaS hS rfl ?_)
  show wpAny _ X.A.in1 (tryCatch (pyNext (.ref it)) _ >>=_) _ _ _
  refine eg (ZbQ (W.done _ _ _ ⟨by rw[hsz,show vs.length=j+1 by omega];exact hit,pl.isList⟩ fun h' fe ay=> ?_))
  have I1:Inv X pins σ H2 {s with heap:=h',toks:=fe} :=I.turned (it:=it) (fun b o hb e=>ay b o (by simpa using hb) e) fI.1 fI.2.1 fI.2.2.2.1 fI.2.2.2.2.1 fI.2.2.2.2.2
  have bP:=ay S _ (by simpa using fH) hS
  show wpAny _ X.A.in1 (updateSeq S (fun _=> #[]) >>=_) _ _ _
  refine eg ?_
  refine Zde bP rfl (eg (ZcP (X6 ?_)))
  have I2:=I1.turned (h':=h'.update S (Obj.mapSeq fun _=> #[])) (t':=fe) (it:=S) (fun b o hb e=> (ZaZ _ _ (ZcE hb)).trans e) fS.1 fS.2.1 fS.2.2.2.1 fS.2.2.2.2.1 fS.2.2.2.2.2
  refine hR i v kb H2 vb _ hv hk (fun eK bO=> ?_) sm I2 rv
  obtain⟨j',jY,e⟩:=ZbF bO
  exact best j' .o eK (by rw[<-e];simp)
 |succ r ih=>
  intro j i s H2 vb ub v kv kb c cw hj I sm fI fS hit hS hv rv hk rk ka best
  obtain⟨aa,rl,pl,_⟩:=I.list (ai.of (sm _ _ fm))
  have hsz:aa.toArray.size=vs.length:=by rw[Zae,<-rl.length]
  have W:=ZdN (prog:=X.prog) (w:=X.w) (A:=X.A.in1) (I.ok.hd hc) it l jo aa.toArray
  refine Za3 Zc2 ?_
  rw[ZaP Zbe _]
  show wpAny _ X.A.in1 (seqItems? (.ref S) >>=_) _ _ _
  refine eg (ZaS hS rfl ?_)
  show wpAny _ X.A.in1 (tryCatch (pyNext (.ref it)) _ >>=_) _ _ _
  refine eg (ZbQ (W.item (j+1) _ _ _ .o ⟨hit,pl.isList⟩ fun u h' fe hP cI ay=> ?_))
  have jS:aa[j+1]? =some u:=by simpa using hP
  have ar:j+1<vs.length:=.o
  obtain⟨u',gh,ru⟩:=rl.get (i:=j+1) (x:=vs[j+1]) (by simp[ar])
  rw[jS]at gh
  cases gh
  have qa:vs[j+1]? =some vs[j+1]:=by simp[ar]
  obtain⟨kj,lg⟩:∃kj,ks[j+1]? =some kj:=⟨ks[j+1]'(by omega),by simp⟩
  have I1:Inv X pins σ H2 {s with heap:=h',toks:=fe} :=I.turned (it:=it) (fun b o hb e=>ay b o (by simpa using hb) e) fI.1 fI.2.1 fI.2.2.2.1 fI.2.2.2.2.1 fI.2.2.2.2.2
  have bP:=ay S _ (by simpa using fH) hS
  obtain⟨oI,qH,zp,qO⟩:=id cI.1
  show wpAny _ X.A.in1 (tryCatch (holding [u] (call (.ref f) [u])) _ >>=_) _ _ _
  refine eg (ZbQ (ZaO (Fc hc F hr hb I1 fI fS ⟨oI,qH,fun v z=>by rw[qO]at z;cases z⟩ ⟨_,bP,fun v z=>by cases z⟩ turn sm qa lg ru fun z kz H3 s' I3 s3 k3 rz uk gr gI gS=> ?_)))
  have lA:=gS _ bP
  have tX:s'.heap.IsListIter it l (j+1+1):=⟨oI,gI _ qH,zp,qO⟩
  show wpAny _ X.A.in1 (tryCatch (holding [u,z] (richCompare .Lt z ub >>=_)) _ >>=_) _ _ _
  refine eg (ZbQ (ZaO (eg (ir.lt (A:=X.A.in1) I3 hu k3 (ka.same s3) rz rk X.prog X.w _ _ ?_))))
  refine eg (ZaO (ZbG ?_))
  refine eg (ZcP (X6 ?_))
  cases bY:av kj kb with
  |true=>
   simp only[Zch]
   refine eg ?_
   refine Zde lA rfl (eg (ZcP ?_))
   rw[iM]
   have I4:=I3.turned (h':=s'.heap.update S (Obj.mapSeq fun _=> #[u,z])) (t':=s'.toks) (it:=S) (fun b o hb e=> (ZaZ _ _ (ZcE hb)).trans e) gr.1 gr.2.1 gr.2.2.2.1 gr.2.2.2.2.1 gr.2.2.2.2.2
   refine X6 ⟨Zbr Zbe _,ih (j+1) (j+1) _ H3 u z vs[j+1] kz kj _ .o ar I4 (sm.trans s3) uk gr (tX.at fun o e=> (ZaZ _ _ fH).trans e) (get?_update_seq lA fun _=> #[u,z]) qa ru lg rz k3 fun j' jY eK bO=> ?_⟩
   by_cases e:j'=j+1
   ·subst e
    rw[lg]at bO
    cases bO
    exact Ji _
   ·exact Yy _ _ _ (Z8 _ _ bY) (best j' .o eK bO)
  |false=>
   simp only[Zak,Za0]
   refine eg (ZcP ?_)
   rw[iM]
   refine X6 ⟨Zbr Zbe _,ih (j+1) i _ H3 vb ub v kv kb c .o ar I3 (sm.trans s3) uk gr tX lA hv rv hk rk (ka.same s3) fun j' jY eK bO=> ?_⟩
   by_cases e:j'=j+1
   ·subst e
    rw[lg]at bO
    cases bO
    exact bY
   ·exact best j' .o eK bO
end
section
variable {X:Cx}{k:Nat}{p1 y:Str}{sp:Sp}{te:TE}{e:Expr}
def GV (te:TE) (sp:Sp):TE:=fun σ H Q=>te σ H fun v H1=> ∃(a:Addr) (vs:List V) (ks:List (List Int)),v=.ref a/\H1 a=some (.lst vs)/\vs≠[]/\vs.length=ks.length/\rf sp H1 vs ks/\
 ∀(i:Nat) v k' H2,vs[i]? =some v->ks[i]? =some k'->(∀eK∈ks,av eK k'=false)->af H1 H2->Q v H2
theorem SX {pins:List (Addr×Obj)}{σ:St}{H1:Hp}{s:Shared}{f:Addr}{fd:FuncData}{vs:List V}{ks:List (List Int)}{l:Addr}{Q:VK}(hc:X.calm=true) (F:aA X.prog X.w X.K X.mg X.base az k f fd [p1] sp) (hr:bj (k+1) X.A) (hb:Binds X.K fd [p1] [])
  (I:Inv X pins σ H1 s) (fm:H1 l=some (.lst vs)) (aW:vs≠[]) (hlen:vs.length=ks.length) (turn:rf sp H1 vs ks) (q:∀(i:Nat) v k' H2,vs[i]? =some v->ks[i]? =some k'->(∀eK∈ks,av eK k'=false)->af H1 H2->Q v H2):
  wpAny (model X.prog X.w) X.A (call (.builtin "min") [.ref l] [(Str.ofString "key",.ref f)]) (EP X pins σ Q) X.xe s:=by
 have iM:(toString "min" ++toString ".loop" :String)= "min.loop" :=.d
 obtain⟨aa,rl,pl,_⟩:=I.list (ai.of fm)
 have mj:=pl.isList
 obtain⟨ol,jW,_⟩:=id mj
 have tU:l<s.heap.objs.size:=Zad jW
 have xV:0<vs.length:=List.length_pos_iff.mpr aW
 refine kmk_tree PySem.F.kind_min PySem.F.plain_min PySem.F.entry_min (kmk_min_key _ _) ?_
 show wpAny _ X.A.in1 (Builtin.Builtins.bindParams "min" ["key", "default"] 0 ⟨[],[(Str.ofString "key",.ref f)]⟩ >>=_) _ _ s
 refine eg (Zdm (show Builtin.Builtins.bindParams "min" ["key", "default"] 0 ⟨[],[(Str.ofString "key",.ref f)]⟩=pure [some (.ref f),none] from rfl) ?_)
 refine eg (X6 ?_)
 refine eg (Zcl mj ?_)
 refine eg (Zef ?_ (Zaz _))
 rw[iM]
 have hS:(s.heap.push {cls:=.type "list_iterator",data:=.fields #[.ref l,.int 0 0]}).objs.size=s.heap.objs.size+1:=size_push' ..
 generalize NO:(s.heap.push {cls:=.type "list_iterator",data:=.fields #[.ref l,.int 0 0]}).objs.size=S at hS
 have jo:l≠s.heap.objs.size:=Zan tU
 have fH:S≠s.heap.objs.size:=by rw[hS];exact ZbZ (Zcw _)
 refine X6 ⟨Zbr Zbe _,?_⟩
 have kp:∀b o,s.heap.get? b=some o->((s.heap.push {cls:=.type "list_iterator",data:=.fields #[.ref l,.int 0 0]}).push (seqObj "list" #[] 0)).get? b=some o:=fun b o e=>X7 _ (X7 _ e)
 have gI:((s.heap.push {cls:=.type "list_iterator",data:=.fields #[.ref l,.int 0 0]}).push (seqObj "list" #[] 0)).get? s.heap.objs.size=some {cls:=.type "list_iterator",data:=.fields #[.ref l,.int 0 0]} :=
  X7 _ (Zaf _ rfl)
 have gS:((s.heap.push {cls:=.type "list_iterator",data:=.fields #[.ref l,.int 0 0]}).push (seqObj "list" #[] 0)).get? S=some (seqObj "list" #[] 0):=by rw[<-NO];exact Zaf _ rfl
 have I0:Inv X pins σ H1 {s with heap:=(s.heap.push {cls:=.type "list_iterator",data:=.fields #[.ref l,.int 0 0]}).push (seqObj "list" #[] 0)} :=I.kept (t':=s.toks) kp
 have fI:aH X pins H1 s.heap.objs.size:=I.jB (Zal _) (I.ak.fresh (Zal _))
 have BH:s.heap.objs.size<=S:=by rw[hS];exact Nat.le_succ _
 have fS:aH X pins H1 S:=I.jB BH (I.ak.fresh BH)
 have W:=ZdN (prog:=X.prog) (w:=X.w) (A:=X.A.in1) (I.ok.hd hc) s.heap.objs.size l jo aa.toArray
 have hsz:aa.toArray.size=vs.length:=by rw[Zae,<-rl.length]
 refine Za3 Zc2 ?_
 rw[ZaP Zbe _]
 show wpAny _ X.A.in1 (seqItems? (.ref S) >>=_) _ _ _
 refine eg (ZaS gS rfl ?_)
 show wpAny _ X.A.in1 (tryCatch (pyNext (.ref s.heap.objs.size)) _ >>=_) _ _ _
 refine eg (ZbQ (W.item 0 _ _ _ .o ⟨⟨_,gI,rfl,rfl⟩,mj.at fun o e=>kp _ _ e⟩ fun u h' fe hP cI ay=> ?_))
 have jS:aa[0]? =some u:=by simpa using hP
 obtain⟨u',gh,ru⟩:=rl.get (i:=0) (x:=vs[0]) (by simp[xV])
 rw[jS]at gh
 cases gh
 have qa:vs[0]? =some vs[0]:=by simp[xV]
 obtain⟨kj,lg⟩:∃kj,ks[0]? =some kj:=⟨ks[0]'(by omega),by simp⟩
 have I1:Inv X pins σ H1 {s with heap:=h',toks:=fe} :=Inv.turned (s:= {s with heap:=(s.heap.push {cls:=.type "list_iterator",data:=.fields #[.ref l,.int 0 0]}).push (seqObj "list" #[] 0)}) I0 (it:=s.heap.objs.size) (fun b o hb e=>ay b o (by simpa using hb) e) fI.1 fI.2.1 fI.2.2.2.1 fI.2.2.2.2.1 fI.2.2.2.2.2
 have bP:=ay S _ (by simpa using fH) gS
 obtain⟨oI,qH,zp,qO⟩:=id cI.1
 show wpAny _ X.A.in1 (tryCatch (holding [u] (call (.ref f) [u])) _ >>=_) _ _ _
 refine eg (ZbQ (ZaO (Fc hc F hr.in1 hb I1 fI fS ⟨oI,qH,fun v z=>by rw[qO]at z;cases z⟩ ⟨_,bP,fun v z=>by cases z⟩ turn (af.refl _) qa lg ru fun z kz H3 s' I3 s3 k3 rz uk gr gI gS=> ?_)))
 have lA:=gS _ bP
 have tX:s'.heap.IsListIter s.heap.objs.size l (0+1):=⟨oI,gI _ qH,zp,qO⟩
 have I4:=I3.turned (h':=s'.heap.update S (Obj.mapSeq fun _=> #[u,z])) (t':=s'.toks) (it:=S) (fun b o hb e=> (ZaZ _ _ (ZcE hb)).trans e) gr.1 gr.2.1 gr.2.2.2.1 gr.2.2.2.2.1 gr.2.2.2.2.2
 show wpAny _ X.A.in1 (updateSeq S (fun _=> #[u,z]) >>=_) _ _ _
 refine eg ?_
 refine Zde lA rfl ?_
 rw[iM]
 have hu:X.A.units+2<cLine:=by have:=hr.un;omega
 refine X6 ⟨Zbr Zbe _,Sn (pins:=pins) (σ:=σ) hc F hr.in1 hb jo fH hu fm hlen turn (fun i v k' H2 w s' hv hk best sm I' rv=> ⟨v,H2,I',rv,q i v k' H2 hv hk best sm⟩) _ 0 0 _ H3 u z vs[0] kz kj _ rfl xV I4 s3 uk gr (tX.at fun o e=> (ZaZ _ _ fH).trans e) (get?_update_seq lA fun _=> #[u,z]) qa ru lg rz k3 fun j' jY eK bO=> ?_⟩
 obtain rfl:j'=0:=Nat.le_zero.mp jY
 rw[lg]at bO
 cases bO
 exact Ji _
theorem QJ {p py jQ pos:Pos}(hc:X.calm=true) (hg:Gl X "min") (hm:X.mg "min" =none) (d:Def X.prog X.w X.K X.mg X.base k y [p1] sp) (M4:Gl X y) (hr:bj (k+1) X.A) (he:PE X e te) (dI:(y==("__debug__" :Str))=false:=by decide)
  (Mo:starEach [e] X.env=(false,eval e X.env)::starEach [] X.env:=by rfl) (cX:backTo pos (starEach [e] X.env)=(false,eval e X.env)::backTo pos (starEach [] X.env):=by rfl) (jt:(backTo pos (starEach [e] X.env)).any (·.1)=false:=by rfl)
  (aM:(backToKw pos (keywordEach [⟨some "key",.Name y py,jQ⟩] X.env)).filterMap (·.1)=[Str.ofString "key"]:=by rfl):
  PE X (.Call (.Name "min" p) [e] [⟨some "key",.Name y py,jQ⟩] pos) (GV te sp):=by
 obtain⟨f,fd,F,MJ,hk,hb⟩:=d
 intro pins s σ H Q I h
 refine Za2 (ZU I hg hm PyProof.Rows.Boot.«min» ?_ .d .d)
 have pa:PA X [e] (i9 te i8):=Za he Zb Mo
 have pk:PK X [⟨some "key",.Name y py,jQ⟩] (i9 (tC (.ref f)) i8):=EN (Z6 (v:=.ref f) M4 MJ rfl dI) DX
 refine PyProof.Rows.callWith_kw (au (pa pos pins s σ H (fun us H1=>match us with
  | [v]=> ∃(a:Addr) (vs:List V) (ks:List (List Int)),v=.ref a/\H1 a=some (.lst vs)/\vs≠[]/\vs.length=ks.length/\rf sp H1 vs ks/\∀(i:Nat) v k' H2,vs[i]? =some v->ks[i]? =some k'->(∀eK∈ks,av eK k'=false)->af H1 H2->Q v H2
  |_=>False) I h) fun us s1 ⟨uN,H1,I1,r1,q1⟩=> ?_) cX jt
 match uN,q1 with
 | [v],q1=>
  obtain⟨a,vs,ks,rfl,hq,aW,hlen,turn,q2⟩:=q1
  refine au (pk pos pins s1 σ H1 (fun zs H2=>zs=[.ref f]/\H2=H1) I1 ⟨rfl,rfl⟩) fun ws s2 ⟨zs,H2,I2,rz,e1,e2⟩=> ?_
  subst e1 e2
  obtain⟨u,rfl,ru⟩:=ZeN r1
  obtain⟨z,rfl,wU⟩:=ZeN rz
  cases ru
  cases wU
  rw[aM]
  exact SX hc F hr hb I2 hq aW hlen turn q2
end
end L2
namespace HS
open PySem PySem.SetTable PySem.Spec
structure FU (prog:Program) (w:World) (h:Heap) (S:Addr) (ns:List Int) (o:Obj) (es:Array (Int×Value)) (ep:Nat) (t:SetTable):Prop where
 ho:h.get? S=some o
 ex:o.ExactSet
 hd:o.data=.set es ep t
 T:T0 t es
 R:il t.mask es.size
 pl:t.plain=true
 ld:t.led= !(w.params.followText "set-order")
 el:ElemsOf (intKind prog w) es.toList
 vs:PyProof.Rows.IntsAre (es.toList.map (·.2)) ns
def VF (prog:Program) (w:World) (h:Heap) (S:Addr) (m:Int->Prop) (c:Nat):Prop:=∃ns o es ep t,FU prog w h S ns o es ep t/\ns.Nodup/\ns.length<=c/\∀k,k∈ns↔m k
def gX (w:World) (S:Addr) (es:Array (Int×Value)) (ep:Nat):Array (Int×Value):=if w.params.followText "set-order" =true then pickOrder (w.params.setOrder S ep) es else es
def iB (w:World) (t:SetTable):Nat->Nat
 |0=>0
 |i+1=>if w.params.followText "set-order" =true then 0 else t.place.getD i 0+1
abbrev fZ (w:World) (S:Addr) (t:SetTable) (n ep i:Nat):Obj:= {cls:=.type "set_iterator",data:=.fields #[rawInt (iB w t i),rawInt i,.ref S,rawInt n,rawInt ep]}
section
variable {prog:Program}{w:World}{A:Around}{E:Value->Shared->Prop}{s:Shared}{S it:Addr}{ns:List Int}{o:Obj}{es:Array (Int×Value)}{ep:Nat}{t:SetTable}
def ra (prog:Program) (w:World) (S it:Addr) (ns:List Int) (o:Obj) (es:Array (Int×Value)) (ep:Nat) (t:SetTable) (i:Nat) (s:Shared):Prop:=FU prog w s.heap S ns o es ep t/\s.heap.get? it=some (fZ w S t es.size ep i)
end
end HS
namespace HS
open PySem PySem.SetTable PySem.Spec L2
end HS
namespace L2
open PySem PySem.Spec PyProof.Rows
end L2
namespace HS
open PySem PySem.SetTable PySem.Spec
end HS
namespace L2.SC
open PySem PySem.Spec PyProof.Rows
def AccAt (P:Program) (w:World) (h:Heap) (D:Addr) (ys:List V):Prop:=∃ks:List Int,ys=ks.map V.int/\(∀k∈ks,0<=k/\k<63)/\HS.VF P w h D (·∈ks) 63
def gC (Y:Cx) (D:Addr) (m:Sem PySem.Fin->Sem PySem.Fin) (t:TC):Prop:=
 ∀(pins:List (Addr×Obj)) (s:Shared) (σ:St) (H:Hp) (ys:List V) (Q:List V->St->Hp->Prop) (k:Sem PySem.Fin) (R:PySem.Fin->Shared->Prop),Inv Y pins σ H s->aH Y pins H D->AccAt Y.prog Y.w s.heap D ys->t ys σ H Q->
  (∀s' aV aj H',Inv Y pins aj H' s'->aH Y pins H' D->AccAt Y.prog Y.w s'.heap D aV->Q aV aj H'->wpAny (model Y.prog Y.w) Y.A k R (fun _ _=>False) s')->wpAny (model Y.prog Y.w) Y.A (m k) R (fun _ _=>False) s
section
variable {Y:Cx}{D:Addr}
def pe (te:TE):TC:=fun ys σ H Q=>te σ H fun v H1=> ∃k:Int,v=.int k/\0<=k/\k<63/\Q (ys++[v]) σ H1
def inner (elt:Expr) (gens:List Comprehension) (scope:Scope) (pos:Pos) (d:Nat) (acc:Value) (env:Env) (k:Sem PySem.Fin):Sem PySem.Fin:=
 match gens[d+1]? with
 |some g'=>eval g'.iter env >>=fun x=>standAt g'.iter.pos >>=fun _=>foldedSetIterable g'.iter env x >>=fun x=>holding [x] (pyIter x) >>=fun fY=>
  runOwn (.compStart (.SetComp elt gens scope pos) (d+1) fY acc env) env >>=fun _=>k
 |none=> (do let v <-eval elt env;standAt elt.pos;let _ <-call (.builtin "set.add") [acc,v]) >>=fun _=>k
end
def AD (wi:TI) (ts:Nat) (ba:List Nat) (g:TG) (tt:TT) (ti:TC):TE:=fun σ H Q=>wi σ H fun J H1=>fT g tt ti J [] (hZ ts ba σ) H1 fun ys _ H2=> ∀ks:List Int,ys=ks.map V.int->∀(q:Addr) (iE:List Int),H2 q=none->iE.Pairwise (·<= ·)->iE.Nodup->(∀k,k∈iE↔k∈ks)->Q (.ref q) (upd H2 q (.lst (iE.map V.int)))
end L2.SC
namespace L2
open PySem PySem.Spec PyProof.Rows
end L2
namespace L2
open PySem PySem.Spec PyProof.Rows PyProof.Rows.dc
end L2
namespace L2
open PySem PySem.Spec PyProof.Rows
end L2
namespace L2.DC
open PySem PySem.Spec PyProof.Rows
def Og (ps:List (Key×V)):List V:=ps.flatMap fun p=> [kV p.1,p.2]
def CW (ps:List (Key×V)):List (Key×V):=ps.foldl (fun d p=>putK d p.1 p.2) []
def Xh (P:Program) (w:World) (h:Heap) (D:Addr) (ps:List (Key×V)):Prop:=(CW ps).length<=sizeLine/\(D==sysModules)=false/\∃vs,KV (CW ps) vs/\h.DictOf (dU P w) D vs
def AccAt (P:Program) (w:World) (h:Heap) (D:Addr) (ys:List V):Prop:=∃ps,ys=Og ps/\Xh P w h D ps
def gC (Y:Cx) (D:Addr) (m:Sem PySem.Fin->Sem PySem.Fin) (t:TC):Prop:=
 ∀(pins:List (Addr×Obj)) (s:Shared) (σ:St) (H:Hp) (ys:List V) (Q:List V->St->Hp->Prop) (k:Sem PySem.Fin) (R:PySem.Fin->Shared->Prop),Inv Y pins σ H s->aH Y pins H D->AccAt Y.prog Y.w s.heap D ys->t ys σ H Q->
  (∀s' aV aj H',Inv Y pins aj H' s'->aH Y pins H' D->AccAt Y.prog Y.w s'.heap D aV->Q aV aj H'->wpAny (model Y.prog Y.w) Y.A k R (fun _ _=>False) s')->wpAny (model Y.prog Y.w) Y.A (m k) R (fun _ _=>False) s
section
variable {Y:Cx}{D:Addr}
def pe (tk tv:TE):TC:=fun ys σ H Q=>tk σ H fun x H1=>tv σ H1 fun v H2=> ∃k:Key,x=kV k/\ys.length<sizeLine/\Q (ys++[kV k,v]) σ H2
def inner (elt:Expr×Expr) (gens:List Comprehension) (scope:Scope) (pos:Pos) (d:Nat) (acc:Value) (env:Env) (k:Sem PySem.Fin):Sem PySem.Fin:=
 match gens[d+1]? with
 |some g'=>eval g'.iter env >>=fun x=>standAt g'.iter.pos >>=fun _=>foldedSetIterable g'.iter env x >>=fun x=>holding [x] (pyIter x) >>=fun fY=>
  runOwn (.compStart (.DictComp elt.1 elt.2 gens scope pos) (d+1) fY acc env) env >>=fun _=>k
 |none=> (do let kv <-eval elt.1 env;let vv <-holding [kv] (eval elt.2 env);match acc with | .ref d=> (do standAt {elt.1.pos with endLine:=elt.2.pos.endLine,endCol:=elt.2.pos.endCol};holding [kv,vv] (dictSet d kv vv)) |_=>unsupported "internal:dictcomp") >>=fun _=>k
end
end L2.DC
namespace L2
open PySem PySem.Spec PyProof.Rows
end L2
namespace L2
open PySem PySem.StrLaws
end L2
namespace L2
open PySem PySem.Spec PyProof.Rows
section
variable {X:Cx}
theorem SK {f:Expr}{as:List Expr}{ks:List Keyword}{p:Pos}{es:List Expr}{env:Env} :starEach (.Call f as ks p::es) env=(false,eval (.Call f as ks p) env)::starEach es env:=rfl
theorem Tv {a b:Expr}{op:Operator}{p:Pos}{es:List Expr}{env:Env} :starEach (.BinOp a op b p::es) env=(false,eval (.BinOp a op b p) env)::starEach es env:=rfl
theorem J7 {f:Expr}{as:List Expr}{ks:List Keyword}{p:Pos}{es:List Expr}{te:TE}{t:TA}(h:PE X (.Call f as ks p) te) (hr:PA X es t):PA X (.Call f as ks p::es) (i9 te t):=Za h hr SK
theorem zH {a b:Expr}{op:Operator}{p:Pos}{es:List Expr}{te:TE}{t:TA}(h:PE X (.BinOp a op b p) te) (hr:PA X es t):PA X (.BinOp a op b p::es) (i9 te t):=Za h hr Tv
end
end L2
namespace HC
open PySem PySem.SetTable PySem.Spec HS L2
structure gB (w:World) (h:Heap) (S:Addr) (o:Obj) (es:Array (Int×Value)) (ep:Nat) (t:SetTable):Prop where
 ho:h.get? S=some o
 ex:o.ExactSet
 hd:o.data=.set es ep t
 T:T0 t es
 R:il t.mask es.size
 pl:t.plain=true
 ld:t.led= !(w.params.followText "set-order")
theorem EM {α:Type}(nx:Nat->Nat):∀(fuel k:Nat) (left:List α) (out:Array α),left.length<=fuel->(pickOrder.go nx fuel k left out).toList.Perm (out.toList++left)
 |0,k,left,out,h=>by
  have:left=[]:=List.eq_nil_of_length_eq_zero (Nat.le_zero.mp h)
  subst this
  show out.toList.Perm (out.toList++[])
  rw[ZbN]
 |fuel+1,k,left,out,h=>by
  unfold pickOrder.go
  cases left with
  |nil=>simp
  |cons y ys=>
   have ar:nx k%(y::ys).length< (y::ys).length:=Nat.mod_lt _ (by simp)
   rw[Zai ar]
   dsimp only
   refine(EM nx fuel (k+1) _ _ (by rw[List.length_eraseIdx_of_lt ar];omega)).trans ?_
   rw[Array.toList_push,ZbV]
   refine List.Perm.append_left _ ?_
   generalize nx k%(y::ys).length=j at ar
   generalize (y::ys)=l at ar
   clear h
   induction l generalizing j with
   |nil=>simp at ar
   |cons a l ih=>
    cases j with
    |zero=>simp
    |succ j=>
     simp only[List.getElem_cons_succ,List.eraseIdx_cons_succ]
     exact(List.Perm.swap _ _ _).trans (List.Perm.cons a (ih j (by simpa using ar)))
theorem SA {α:Type}(nx:Nat->Nat) (xs:Array α):(pickOrder nx xs).toList.Perm xs.toList:=by
 have:=EM nx xs.size 0 xs.toList #[] (by simp)
 rw[List.nil_append]at this
 exact this
def gX (w:World) (S:Addr) (es:Array (Int×Value)) (ep:Nat):Array (Int×Value):=if w.params.followText "set-order" =true then pickOrder (w.params.setOrder S ep) es else es
theorem xh (w:World) (S:Addr) (es:Array (Int×Value)) (ep:Nat):(gX w S es ep).toList.Perm es.toList:=by
 unfold gX
 split
 ·exact SA _ _
 ·exact .refl _
def iB (w:World) (t:SetTable):Nat->Nat
 |0=>0
 |i+1=>if w.params.followText "set-order" =true then 0 else t.place.getD i 0+1
abbrev fZ (w:World) (S:Addr) (t:SetTable) (n ep i:Nat):Obj:= {cls:=.type "set_iterator",data:=.fields #[rawInt (iB w t i),rawInt i,.ref S,rawInt n,rawInt ep]}
theorem ZK:Slot "set_iterator" "__next__" "set_iterator.__next__" :=
 .of (owner:= "set_iterator") (n:= "__next__") (by rw[PySem.typeLookup_type,Zdd];kernel_rfl) (by decide+kernel) (by decide+kernel) (by decide+kernel)
  (by first |exact .inl (by decide+kernel) |exact .inr (by decide+kernel)) (by rw[isSubtype_type];kernel_rfl)
theorem YA:entryFor table "set_iterator.__next__" =some Builtin.«set_iterator.__next__» :=entryFor_of_tree (by kernel_rfl)
theorem YH (a:Value):argsOk "set_iterator.__next__" ⟨[a],[]⟩:=by unfold argsOk;kernel_rfl
theorem J0:entryFor table "set.__iter__" =some Builtin.«frozenset.__iter__» :=
 entryFor_alias (id':= "frozenset.__iter__") (by kernel_rfl) rfl (by decide+kernel) (by kernel_rfl)
section
variable {prog:Program}{w:World}{A:Around}{E:Value->Shared->Prop}{s:Shared}{S it:Addr}{o:Obj}{es:Array (Int×Value)}{ep:Nat}{t:SetTable}
theorem gB.fits (X:gB w s.heap S o es ep t):t.fits es.size=true:=X.T.fits (by have:=X.R.lt;omega)
theorem U9 (hb:w.params.followText "set-order" =true) (t:SetTable):∀i,iB w t i=0
 |0=>rfl
 |i+1=>Zay hb
theorem U8 (hb:¬w.params.followText "set-order" =true) (t:SetTable) (i:Nat):iB w t (i+1)=t.place.getD i 0+1:=Zav hb
theorem Vh {i:Nat}(hb:¬w.params.followText "set-order" =true) (X:gB w s.heap S o es ep t) (hi:i<=es.size):below t.place (iB w t i)=i:=by
 have hz:=X.T.sz
 cases i with
 |zero=>
  show below t.place 0=0
  obtain⟨b1,b2,b3⟩:=Yp (xs:=t.place) (j:=0) X.T.je
  rcases Nat.eq_zero_or_pos (below t.place 0) with z |z
  ·exact z
  ·have:=b2 0 .o z
   omega
 |succ i=>
  rw[U8 hb]
  have aX:i<t.place.size:=.o
  have e:t.place.getD i 0=t.place[i]:=by simp[aX]
  rw[e]
  obtain⟨b1,b2,b3⟩:=Yp (xs:=t.place) (j:=t.place[i]+1) X.T.je
  have k1:i<below t.place (t.place[i]+1):=by
   rcases Nat.lt_or_ge i (below t.place (t.place[i]+1)) with z |z
   ·exact z
   ·have:=b3 i aX z;omega
  have k2:below t.place (t.place[i]+1)<=i+1:=by
   rcases Nat.lt_or_ge (i+1) (below t.place (t.place[i]+1)) with z |z
   ·have CL:i+1<t.place.size:=.o
    have h1:=b2 (i+1) CL z
    have h2:=zL X.T.je aX CL (Zcw i)
    omega
   ·exact z
  omega
theorem Vw {i:Nat}{Q:Option (Value×Nat)->Shared->Prop}(X:gB w s.heap S o es ep t) (hi:i<=es.size)
  (h1:∀e,(gX w S es ep)[i]? =some e->Q (some (e.2,iB w t (i+1))) s) (h2:(gX w S es ep)[i]? =none->Q none s):
  wpAny (model prog w) A (setNext S (iB w t i) i ep) Q E s:=by
 unfold setNext setsByText
 refine eg (Zbg X.ho X.hd X.fits ?_)
 dsimp only
 refine eg (eg (Zcc (X6 ?_)))
 show wpAny _ _ (if w.params.followText "set-order" =true then _ else _) _ _ _
 unfold gX at h1 h2
 by_cases hb:w.params.followText "set-order" =true
 ·rw[Zay hb]at h1 h2 |-
  rw[U9 hb]
  rw[U9 hb]at h1
  simp only[ZcL,Zak,Za0]
  unfold setWalk setsByText
  refine eg (eg (Zbg X.ho X.hd X.fits ?_))
  dsimp only
  refine eg (eg (Zcc (X6 ?_)))
  show wpAny _ _ (if w.params.followText "set-order" =true then _ else _) _ _ _
  rw[Zay hb]
  refine eg (Zcc (X6 ?_))
  refine X6 ?_
  show Q (((pickOrder (w.params.setOrder S ep) es)[i]?).map fun e=> (e.2,0)) s
  cases hx:(pickOrder (w.params.setOrder S ep) es)[i]? with
  |none=>exact h2 hx
  |some e=>exact h1 e hx
 ·rw[Zav hb]at h1 h2 |-
  have yf:t.led=true:=by rw[X.ld];simpa using hb
  refine PySem.wpAny_ite_split (fun hc=>absurd hc ?_) (fun _=> ?_)
  ·show ¬((!t.plain&&decide (es.size>1))=true)
   rw[X.pl];simp
  refine eg ?_
  show wpAny _ _ (if (!t.led&& !es.isEmpty)=true then _ else _) _ _ _
  rw[yf]
  simp only[Za9,Bool.false_and,Zak,Za0]
  refine X6 ?_
  refine X6 ?_
  rw[Vh hb X hi]
  rw[U8 hb]at h1
  have hz:=X.T.sz
  cases hx:es[i]? with
  |none=>exact h2 hx
  |some e=>
   have ar:i<es.size:=(ZaN.mp hx).1
   have hp:t.place[i]? =some (t.place.getD i 0):=by simp[hz,ar]
   rw[hp]
   exact h1 e hx
theorem Ti {Q:Value->Shared->Prop}(X:gB w s.heap S o es ep t) (h:Q (.ref s.heap.objs.size) {s with heap:=s.heap.push (fZ w S t es.size ep 0)}):wpAny (model prog w) A (pyIter (.ref S)) Q E s:=by
 have hT:s.TypeIs (.ref S) "set" :=⟨o,X.ho,X.ex.1⟩
 refine PySem.wpAny_pyIter_slot hT F.slot_set_iter (ZaY F.slot_set_iter hT J0 ?_ (F.args_set_iter_1 _))
 unfold Builtin.«frozenset.__iter__» Builtin.Frozenset.slot0 slotArgs
 simp only[List.isEmpty_nil,Za9,Zak, ↓reduceIte,bind_assoc,ZbP,ZcL]
 unfold Builtin.Frozenset.addrOf Builtin.Frozenset.sizeOf
 refine eg (X6 ?_)
 try dsimp only
 refine eg (X6 ?_)
 refine eg (eg (wpAny_setEntries_of X.ho X.hd X.fits (X6 ?_)))
 unfold setDrawn setsByText
 refine eg (eg (Zbg X.ho X.hd X.fits ?_))
 dsimp only
 refine eg (eg (Zcc (X6 ?_)))
 refine X6 ?_
 refine PySem.wpAny_ite_split (fun hc=>absurd hc ?_) (fun _=> ?_)
 ·show ¬((!(w.params.followText "set-order")&&(!t.plain&&decide (es.size>1)))=true)
  rw[X.pl]
  simp
 refine eg (X6 ?_)
 unfold setEpoch
 refine eg (eg (Zbg X.ho X.hd X.fits (X6 ?_)))
 exact eg (ZaX (X6 ⟨_,rfl, "set_iterator",_,⟨_,Zaf _ rfl,rfl⟩,ZK.lookup,h⟩))
def ra (w:World) (S it:Addr) (o:Obj) (es:Array (Int×Value)) (ep:Nat) (t:SetTable) (i:Nat) (s:Shared):Prop:=gB w s.heap S o es ep t/\s.heap.get? it=some (fZ w S t es.size ep i)
theorem gB.keep {h h':Heap}(X:gB w h S o es ep t) (k:∀o,h.get? S=some o->h'.get? S=some o):gB w h' S o es ep t:=⟨k _ X.ho,X.ex,X.hd,X.T,X.R,X.pl,X.ld⟩
theorem xg (w:World) (S:Addr) (es:Array (Int×Value)) (ep:Nat):(gX w S es ep).size=es.size:=by
 have:=(xh w S es ep).length_eq
 rw[Zas,Zas]at this
 exact this
theorem Ws {i:Nat}{Q:PySem.Fin->Shared->Prop}(hi:i<=es.size) (h:ra w S it o es ep t i s) (ne:S≠it)
  (h1:∀e h',(gX w S es ep)[i]? =some e->Heap.SameBut it s.heap h'->ra w S it o es ep t (i+1) {s with heap:=h'}->Q (.done (.ret e.2)) {s with heap:=h'})
  (h2:∀h',(gX w S es ep)[i]? =none->Heap.SameBut it s.heap h'->wpAny (model prog w) A (do raiseNew (<-newExc (.type "StopIteration") [])) Q E {s with heap:=h'}):
  wpAny (model prog w) A (Builtin.«set_iterator.__next__» ⟨[.ref it],[]⟩) Q E s:=by
 obtain⟨X,hit⟩:=h
 unfold Builtin.«set_iterator.__next__» slotArgs
 simp only[List.isEmpty_nil,Za9,Zak, ↓reduceIte,bind_assoc,ZbP,ZcL]
 refine eg (X6 ?_)
 refine eg (PySem.wpAny_fieldsOf hit rfl ?_)
 dsimp only
 refine eg (wpAny_setEntries_of X.ho X.hd X.fits ?_)
 show wpAny _ _ (if (((es.size:Nat):Int) !=((es.size:Nat):Int))=true then _ else _) _ _ _
 rw[ZcL,Zav Zag]
 show wpAny _ _ (setNext S ((iB w t i:Nat):Int).toNat ((i:Nat):Int).toNat ((ep:Nat):Int).toNat >>=_) _ _ _
 rw[Za7,Za7,Za7]
 refine eg (Vw X hi (fun e he=> ?_) (fun he=> ?_))
 ·dsimp only
  refine eg (Zcj hit rfl (by simp) ?_)
  have g1:(s.heap.update it (Obj.mapFields (·.setIfInBounds 0 (rawInt (iB w t (i+1)))))).get? it=some _:=Zbq _ hit (ZcB (ZbB rfl _))
  refine eg (Zcj g1 (ZbB rfl _) (by simp) ?_)
  have g2:=Zbq (Obj.mapFields (·.setIfInBounds 1 (rawInt ((i:Int)+1)))) g1 (ZcB (ZbB (ZbB rfl _) _))
  have sb:=(ZaT s.heap it (Obj.mapFields (·.setIfInBounds 0 (rawInt (iB w t (i+1)))))).trans (ZaT _ it (Obj.mapFields (·.setIfInBounds 1 (rawInt ((i:Int)+1)))))
  refine X6 (h1 e _ he sb ⟨X.keep fun o' e'=> (sb.2 S ne).trans e',?_⟩)
  exact g2
 ·dsimp only
  refine eg (Zcj hit rfl (by simp) ?_)
  exact h2 _ he (ZaT ..)
end
theorem YF:Slot "set_iterator" "__iter__" "set_iterator.__iter__" :=
 .of (owner:= "set_iterator") (n:= "__iter__") (by rw[PySem.typeLookup_type,Zdd];kernel_rfl) (by decide+kernel) (by decide+kernel) (by decide+kernel)
  (by first |exact .inl (by decide+kernel) |exact .inr (by decide+kernel)) (by rw[isSubtype_type];kernel_rfl)
theorem JL:entryFor table "set_iterator.__iter__" =some Builtin.«dict_keyiterator.__iter__» :=
 entryFor_alias (id':= "dict_keyiterator.__iter__") (by kernel_rfl) rfl (by decide+kernel) (by kernel_rfl)
theorem J1 (a:Value):argsOk "set_iterator.__iter__" ⟨[a],[]⟩:=by unfold argsOk;kernel_rfl
theorem UF:typeLookup (.type "set") "__len__" =pure (some (.builtin "set.__len__")):=by rw[PySem.typeLookup_type,Zdd];kernel_rfl
section
variable {prog:Program}{w:World}{A:Around}{E:Value->Shared->Prop}{s:Shared}{S it:Addr}{o:Obj}{es:Array (Int×Value)}{ep:Nat}{t:SetTable}
theorem TZ {Q:PySem.Fin->Shared->Prop}(hh:A.handled=none) (q:∀h' e,(∀b o,s.heap.get? b=some o->h'.get? b=some o)->(∃o,h'.get? e=some o/\o.cls=.type "StopIteration")->E (.ref e) {s with heap:=h'}):
  wpAny (model prog w) A (do raiseNew (<-newExc (.type "StopIteration") [])) Q E s:=by
 refine eg ?_
 simp only[newExc,newTuple]
 refine eg (ZaX ?_ (by size_fits))
 refine eg (m:=firstArgMember _ _) (Zdm (a:=Value.none) (by first |rfl |(simp only[firstArgMember];rfl)) ?_)
 refine ZaX ?_ (by size_fits)
 simp only[raiseNew]
 refine eg (PySem.wpAny_handled ?_)
 rw[hh]
 refine eg (X6 (PySem.wpAny_throw ?_))
 exact q _ _ (fun b o e=>X7 _ (X7 _ e)) ⟨_,Zaf _ rfl,rfl⟩
theorem Ge (hh:A.handled=none) (ne:S≠it):WalksS prog w A it [it,S] [it] (fun a b=>b=a) es.size (fun i v=> ∃e,(gX w S es ep)[i]? =some e/\v=e.2) (ra w S it o es ep t) where
 sub:=fun b hb=>by rw[Zao.mp hb];simp
 grefl:=fun _=>rfl
 gtrans:=fun _ _ _ h1 h2=>h2.trans h1
 frame:=fun i s h' tk st _ k=> ⟨st.1.keep fun o e=>k S (by simp) o e,k it (by simp) _ st.2⟩
 item:=fun i s Q E hi st q=>by
  have hT:s.TypeIs (.ref it) "set_iterator" :=⟨_,st.2,rfl⟩
  unfold pyNext
  refine eg (ZcC (Za8 (name:=Str.ofString "__next__") hT ZK (ZaY ZK hT YA (Ws (A:=A.in1) (ZbD hi) st ne (fun e h' he sb ao=> ⟨_,rfl,X6 ?_⟩) (fun h' he _=> ?_)) (YH _))))
  ·exact q e.2 _ ⟨e,he,rfl⟩ ao ⟨fun b o hb eb=> (sb.2 b (fun z=>hb (by rw[z];exact Zao.mpr rfl))).trans eb,rfl,rfl,rfl,Zal _⟩
  ·rw[Array.getElem?_eq_none_iff,xg]at he
   omega
 done:=fun s Q E st q=>by
  have hT:s.TypeIs (.ref it) "set_iterator" :=⟨_,st.2,rfl⟩
  unfold pyNext
  refine eg (ZcC (Za8 (name:=Str.ofString "__next__") hT ZK (ZaY ZK hT YA (Ws (A:=A.in1) (Zal _) st ne (fun e h' he sb ao=> ?_) (fun h' he sb=>TZ (show A.in1.handled=none from hh) fun h2 e k ⟨oe,ge,ce⟩=> ?_)) (YH _))))
  ·have:=(ZaN.mp he).1
   rw[xg]at this
   omega
  ·refine eg (Zcy (T:= "StopIteration") (b:=true) ⟨oe,ge,ce⟩ PySem.isSubtype_stop (X6 (q _ ⟨fun b o hb eb=>k b o ((sb.2 b (fun z=>hb (by rw[z];exact Zao.mpr rfl))).trans eb),rfl,rfl,rfl,Zal _⟩)))
 self:=fun i s Q E st q=>by
  have hT:s.TypeIs (.ref it) "set_iterator" :=⟨_,st.2,rfl⟩
  refine PySem.wpAny_pyIter_slot hT YF (ZaY YF hT JL ?_ (J1 _))
  exact(show wpAny _ _ (ret (.ref it)) _ _ s from X6 ⟨_,rfl, "set_iterator",_,hT,ZK.lookup,q⟩)
theorem Pf {Q:List Value->Shared->Prop}(hh:A.handled=none) (X:gB w s.heap S o es ep t)
  (h:∀h' tk acc,(∀b o,s.heap.get? b=some o->h'.get? b=some o)->s.heap.objs.size<=h'.objs.size->ItemsOf (fun i v=> ∃e,(gX w S es ep)[i]? =some e/\v=e.2) acc es.size->Q acc.toList {s with heap:=h',toks:=tk}):wpAny (model prog w) A (collect (.ref S)) Q E s:=by
 have ar:S<s.heap.objs.size:=Zad X.ho
 unfold collect
 refine eg (PySem.wpAny_runValue (Za3 F.entry_proto_collect ?_))
 rw[ZaP F.plain_proto_collect _]
 refine(show wpAny _ A.in1 (newList [] >>=fun l=>again (.builtin "list.__iadd__" ⟨[l,.ref S],[]⟩)) _ _ s from eg (ZaX ?_))
 refine X6 ⟨Zbr ZdR _,Za3 F.entry_list_iadd ?_⟩
 rw[ZaP ZdR _]
 generalize hL:s.heap.objs.size=L
 rw[hL]at ar
 have gL:(s.heap.push {cls:=.type "list",data:=.seq ([]:List Value).toArray}).get? L=some {cls:=.type "list",dict:=none,data:=.seq #[] 0,slots:= #[]} :=by rw[<-hL];exact Zaf _ rfl
 have X1:gB w (s.heap.push {cls:=.type "list",data:=.seq ([]:List Value).toArray}) S o es ep t:=X.keep fun o e=>X7 _ e
 have NM:Shared.TypeIs {s with heap:=s.heap.push {cls:=.type "list",data:=.seq ([]:List Value).toArray} } (.ref S) "set" :=⟨o,X1.ho,X.ex.1⟩
 show wpAny _ A.in1 (Builtin.List.listExtendWith (.ref L) (.ref S) (.ref L)) _ _ _
 unfold Builtin.List.listExtendWith
 refine eg (Zc8 NM ?_)
 have nS:Builtin.List.listSameRef (.ref L) (.ref S)=false:=by show(L==S)=false;rw[Zcq];exact ZbZ ar
 rw[Zav (by rw[nS];decide)]
 refine eg (Ti X1 ?_)
 have hsz:(s.heap.push {cls:=.type "list",data:=.seq ([]:List Value).toArray}).objs.size=L+1:=by rw[Zbh,hL]
 dsimp only
 rw[hsz]
 refine eg (ZaO ?_)
 unfold Builtin.List.listLengthHint
 have yG:Shared.TypeIs {s with heap:=(s.heap.push {cls:=.type "list",data:=.seq ([]:List Value).toArray}).push (fZ w S t es.size ep 0)} (.ref S) "set" :=⟨o,X7 _ X1.ho,X.ex.1⟩
 refine eg (Zb8 yG UF ?_)
 dsimp only
 rw[show splitId "set.__len__" =some ("set", "__len__") from by decide+kernel]
 dsimp only
 refine eg (Zcy (b:=true) yG sub_set_self ?_)
 simp only[Za9,Zak,Za0]
 refine PySem.wpAny_ite_split (fun _=> ?_) (fun hc=>absurd (by rfl) hc)
 refine eg (Zc8 yG ?_)
 refine X6 ?_
 refine PySem.wpAny_ite_split (fun _=> ?_) (fun hc=>absurd (by rfl) hc)
 refine eg (Zck ?_)
 have CQ:((s.heap.push {cls:=.type "list",data:=.seq ([]:List Value).toArray}).push (fZ w S t es.size ep 0)).get? L=some {cls:=.type "list",dict:=none,data:=.seq #[] 0,slots:= #[]} :=X7 _ gL
 have N9:((s.heap.push {cls:=.type "list",data:=.seq ([]:List Value).toArray}).push (fZ w S t es.size ep 0)).get? (L+1)=some (fZ w S t es.size ep 0):=by rw[<-hsz];exact Zaf _ rfl
 have X2:gB w ((s.heap.push {cls:=.type "list",data:=.seq ([]:List Value).toArray}).push (fZ w S t es.size ep 0)) S o es ep t:=X1.keep fun o e=>X7 _ e
 unfold Builtin.List.listTouch
 refine eg (eg (PyProof.Rows.listUpdate_at CQ rfl ?_ .d))
 obtain⟨n3,g3⟩:∃n3,(((s.heap.push {cls:=.type "list",data:=.seq ([]:List Value).toArray}).push (fZ w S t es.size ep 0)).update L (Obj.mapSeq (·.push .none))).get? L=some (PyProof.Rows.seqObj "list" #[.none] n3):=⟨_,PyProof.Rows.get?_update_seq CQ (·.push .none)⟩
 refine PyProof.Rows.listUpdate_at g3 rfl ?_ .d
 obtain⟨n4,g4⟩:∃n4,((((s.heap.push {cls:=.type "list",data:=.seq ([]:List Value).toArray}).push (fZ w S t es.size ep 0)).update L (Obj.mapSeq (·.push .none))).update L (Obj.mapSeq (·.pop))).get? L=some (PyProof.Rows.seqObj "list" #[] n4):=⟨_,PyProof.Rows.get?_update_seq g3 (·.pop)⟩
 have sU:∀b o,b≠L->((s.heap.push {cls:=.type "list",data:=.seq ([]:List Value).toArray}).push (fZ w S t es.size ep 0)).get? b=some o->((((s.heap.push {cls:=.type "list",data:=.seq ([]:List Value).toArray}).push (fZ w S t es.size ep 0)).update L (Obj.mapSeq (·.push .none))).update L (Obj.mapSeq (·.pop))).get? b=some o:=fun b o hb e=>by
  rw[Zdp _ _ _ _ hb,Zdp _ _ _ _ hb]
  exact e
 generalize (((s.heap.push {cls:=.type "list",data:=.seq ([]:List Value).toArray}).push (fZ w S t es.size ep 0)).update L (Obj.mapSeq (·.push .none))).update L (Obj.mapSeq (·.pop))=h4 at g4 sU
 have kF:ra w S (L+1) o es ep t 0 {s with heap:=h4} :=⟨X2.keep fun o e=>sU S o (Zan ar) e,sU _ _ (Nat.succ_ne_self L) N9⟩
 have W:=Ge (prog:=prog) (w:=w) (A:=A.in1) (S:=S) (it:=L+1) (o:=o) (es:=es) (ep:=ep) (t:=t) (show A.in1.handled=none from hh) (Zan (Zbl ar))
 have MH:L∉[L+1,S]:=by
  simp only[Zaj,Za5,Zb4,not_or]
  exact⟨(Nat.succ_ne_self L).symm,ZbZ ar⟩
 have mh:es.size<=sizeLine:=by
  have:=X.R.small
  rw[Zau]
  omega
 refine X6 ⟨Zbr F.plain_extend_loop _,codeAny_extend_loopS W mh L MH _ es.size 0 _ _ _ rfl (Zaz _) kF g4 (ItemsOf.nil _) fun s' Pu c' hm bP qx=> ?_⟩
 show wpAny _ A (load L >>=_) _ _ s'
 refine eg (wpAny_load bP ?_)
 obtain⟨h',g',d',fe,lU⟩:=s'
 obtain rfl:g'=s.gens:=hm.gens
 obtain rfl:d'=s.drawn:=hm.drawn
 obtain rfl:lU=s.os:=hm.os
 refine X6 (h h' fe Pu (fun b ob eb=> ?_) (by rw[hL];exact ZbD (Zad bP)) qx)
 have hb:b<L:=by rw[<-hL];exact Zad eb
 refine hm.heap b ob ?_ (sU b ob (Zan hb) (X7 _ (X7 _ eb)))
 simp only[Zaj,Za5,Zb4,not_or]
 exact⟨Zan hb,Zan (Zbl hb)⟩
end
end HC
namespace HC
open PySem PySem.SetTable PySem.Spec HS
section
variable {prog:Program}{w:World}{K:Type} [DecidableEq K] {knd:HeapKind prog w K}{A:Around}{E:Value->Shared->Prop}{s:Shared}
structure kC (knd:HeapKind prog w K):Prop where
 hk:HK knd
 Dy:∀{A:Around}{E:Value->Shared->Prop}{s:Shared}{k:K}{a:Addr}{Q:Bool->Shared->Prop},knd.is s.heap k a->Q true s->wpAny (model prog w) A (hashByValue 8 (.ref a)) Q E s
 keep:∀{h h':Heap}{ws:List Addr}{k:K}{a:Addr},(∀b∈ws,iZ h b)->(∀b o,b∉ws->h.get? b=some o->h'.get? b=some o)->knd.is h k a->knd.is h' k a
structure zP (knd:HeapKind prog w K) (h:Heap) (S:Addr) (ks:List K) (o:Obj) (es:Array (Int×Value)) (ep:Nat) (t:SetTable):Prop where
 b:FV knd h S ks o es ep t
 pl:t.plain=true
 ld:t.led= !(w.params.followText "set-order")
theorem zP.core {h:Heap}{S:Addr}{ks:List K}{o:Obj}{es:Array (Int×Value)}{ep:Nat}{t:SetTable}(X:zP knd h S ks o es ep t):gB w h S o es ep t:=⟨X.b.ho,X.b.ex,X.b.hd,X.b.T,X.b.room,X.pl,X.ld⟩
def fq (knd:HeapKind prog w K) (h:Heap) (S:Addr) (ks:List K):Prop:=∃o es ep t,zP knd h S ks o es ep t
theorem WB {m fi mo:Nat}{le pl:Bool}{hs:Array Int}{t:SetTable}{order:Array Nat}(e:laid m fi mo le pl hs=some (t,order)):t.plain=pl/\t.led=le:=by
 unfold laid at e
 cases hl:layClean m hs with
 |none=>rw[hl]at e;cases e
 |some owner=>
  rw[hl]at e
  injection e with e
  injection e with e1 e2
  rw[<-e1]
  exact⟨rfl,rfl⟩
theorem T8 {S:Addr}{o:Obj}{es:Array (Int×Value)}{ep:Nat}{t:SetTable}{Q:Unit->Shared->Prop}(ho:s.heap.get? S=some o) (hd:o.data=.set es ep t) (hf:t.fits es.size=true) {wanted:Nat}(hm:gO (sizeAbove wanted - 1)) (hw:sizeAbove wanted<=512) (hl:es.size<=sizeAbove wanted - 1)
  (h:∀cE t',t'.mask=sizeAbove wanted - 1->T0 t' cE->cE.toList.Perm es.toList->t'.plain=t.plain->t'.led=t.led->Q () {s with heap:=s.heap.update S (Obj.putSet cE t')}):wpAny (model prog w) A (setRelay S wanted) Q E s:=by
 unfold setRelay
 refine eg (Zbg ho hd hf ?_)
 dsimp only
 rw[Zav (by rw[Zau];omega)]
 obtain⟨t',order,e,em,T',pm⟩:=Ul hm es .o t.finger (t.movedTo (sizeAbove wanted - 1)) t.led t.plain
 have er:t.relaid (es.map (·.1)) wanted=some (t',order):=e
 rw[er]
 refine eg ?_
 have hz:(order.filterMap (es[·]?)).size=es.size:=by rw[<-Zas,pm.length_eq,Zas]
 refine(show wpAny _ _ (if ((order.filterMap (es[·]?)).size !=es.size)=true then _ else pure _) _ _ s from ?_)
 rw[Zav (by rw[hz];simp)]
 refine X6 ?_
 dsimp only
 refine ZdQ ho hd (h _ _ em T' pm (WB e).1 (WB e).2) (by rw[hz,Zau];omega)
theorem EU (hp:kC knd) {S x:Addr}{k:K}{ks:List K}{Q:Bool->Shared->Prop}(hroom:knd.room A) (hx:knd.is s.heap k x) (H:fq knd s.heap S ks) (hn:ks.length+1<=306)
  (h:∀h' b,Heap.SameBut S s.heap h'->fq knd h' S (if k∈ks then ks else ks++[k])->Q b {s with heap:=h'}):
  wpAny (model prog w) A (setAddHashed S (.ref x) (knd.hash k)) Q E s:=by
 obtain⟨o,es,ep,t,HP⟩:=H
 have H:=HP.b
 have hk:=hp.hk
 have iQ:=H.T.fits (ZbD (Zcn H.room.lt))
 unfold setAddHashed setAddHashedIn
 refine ZaO (eg (Zbg H.ho H.hd iQ ?_))
 dsimp only
 have hb:byScan (.ref x) es=false:=rfl
 rw[hb]
 simp only[Zak,Za0]
 obtain⟨f,hf,oC⟩:=H.T.free (by have:=H.room.lt;omega)
 obtain⟨n,ql,mi,mh⟩:=WJ (dg:=(·∈t.place.toList)) H.room.kP (knd.hash k) hf oC
 have odd:t.mask%2=1:=by rcases H.room.kP with q |q |q |q<;>rw[q]
 unfold setSearch
 refine eg ?_
 refine Ju hk hroom hx H.ho H.hd H.T odd (by have:=H.room.lt;omega) (fun e he=>let ⟨k',_,el⟩:=H.el e he;⟨k',el⟩) ql mi mh (fun xJ=> ?_) (fun eT=> ?_) n 100000 0 none .o ?_ rfl (fun i' aX=>absurd aX (Zcs _))
 ·dsimp only
  refine X6 ?_
  have bK:k∈ks:=by
   obtain⟨e,he,a,ea,g9,_⟩:=xJ
   obtain⟨k',ay,a',qJ,ym,_⟩:=H.el e he
   rw[ea]at qJ
   cases qJ
   rw[knd.inj g9 ym]
   exact ay
  have:=h s.heap false (PySem.Heap.SameBut.refl _ _) (by rw[Zay bK];exact⟨o,es,ep,t,HP⟩)
  exact this
 ·dsimp only
  have bK:k∉ks:=fun m=>eT (H.all k m)
  refine eg (Zbg H.ho H.hd iQ ?_)
  dsimp only
  generalize yp:(it t.mask (st t.mask (knd.hash k)) n).j=f'
  have Tp:=fun pl=>H.T.put (x:=.ref x) mi mh pl
  rw[yp]at Tp
  have fN:(insertAt es (t.put f').2 (knd.hash k,.ref x)).size=es.size+1:=by rw[<-Zas,(insertAt_perm es _ _).length_eq,Zas,Array.size_push]
  have mQ:∀e,e∈(insertAt es (t.put f').2 (knd.hash k,Value.ref x)).toList↔e∈es.toList∨e=(knd.hash k,Value.ref x):=fun e=>by
   rw[(insertAt_perm es _ _).mem_iff,Array.toList_push,ZaG,Zao]
  have j4:∀e∈(insertAt es (t.put f').2 (knd.hash k,Value.ref x)).toList,∃k'∈ks++[k],ft knd s.heap k' e:=fun e he=>by
   rcases (mQ e).mp he with q |q
   ·obtain⟨k',h1,h2⟩:=H.el e q
    exact⟨k',Zbb _ h1,h2⟩
   ·exact⟨k,by simp,x,by rw[q],hx,by rw[q]⟩
  have qw:∀k'∈ks++[k],∃e∈(insertAt es (t.put f').2 (knd.hash k,Value.ref x)).toList,ft knd s.heap k' e:=fun k' ay=>by
   rcases ZaG.mp ay with q |q
   ·obtain⟨e,h1,h2⟩:=H.all k' q
    exact⟨e,(mQ e).mpr (.inl h1),h2⟩
   ·rw[Zao.mp q]
    exact⟨_,(mQ _).mpr (.inr rfl),x,rfl,hx,rfl⟩
  have qp:(insertAt es (t.put f').2 (knd.hash k,Value.ref x)).size=(ks++[k]).length:=by rw[fN,Zam,ZbW,H.sz]
  have h':=fun h' b=>h h' b
  rw[Zav bK]at h'
  generalize Nb:insertAt es (t.put f').2 (knd.hash k,Value.ref x)=iW at *
  have tail:∀t1,(∃pl,pl=true/\t1= {(t.put f').1 with plain:=pl})->wpAny (model prog w) A (storeSet S iW t1 >>=fun _=>if (!false&&t1.tooFull)=true then (setRelay S (grown (es.size+1)) >>=fun _=>pure true) else pure true) Q E s:=by
   rintro t1 ⟨pl,dm,rfl⟩
   have T1:=Tp pl
   have g1:=J3 H.ho H.hd iW {(t.put f').1 with plain:=pl}
   have sb:=ZaT s.heap S (Obj.putSet iW {(t.put f').1 with plain:=pl})
   refine eg (ZdQ H.ho H.hd ?_ (by rw[fN,Zau];have:=H.room.small;omega))
   have fill:({(t.put f').1 with plain:=pl} :SetTable).tooFull=decide ((es.size+1)*5>=t.mask*3):=by
    unfold SetTable.tooFull SetTable.fill
    have a:({(t.put f').1 with plain:=pl} :SetTable).place.size=es.size+1:=by rw[T1.sz,fN]
    have b:=T1.qN
    rw[b,a]
    rfl
   rw[fill]
   rcases grow H.room (by rw[H.sz];exact hn) with ⟨q1,q2,q3⟩ |⟨q1,q2⟩
   ·rw[Zat q1]
    simp only[ZbY,Bool.and_self,Zch]
    refine eg (T8 g1 rfl (T1.fits (by rw[fN];exact ZbD H.room.lt)) q2.kP q3 (by have:=q2.lt;rw[fN];omega) fun kd t2 zf T2 lT eI Lp=>X6 (h' _ true (sb.trans (ZaT _ S _)) ?_))
    have bf:kd.size=iW.size:=by rw[<-Zas,lT.length_eq,Zas]
    have jM:=sb.trans (ZaT _ S (Obj.putSet kd t2))
    refine⟨_,kd,ep+1+1,t2,⟨J3 g1 rfl kd t2,H.ex,rfl,T2,by rw[zf,bf,fN];exact q2,fun e he=>let ⟨k',a,b⟩:=j4 e (lT.mem_iff.mp he);⟨k',a,Z1 hk H.ho H.hd jM b⟩,fun k' ay=>let ⟨e,a,b⟩:=qw k' ay;⟨e,lT.mem_iff.mpr a,Z1 hk H.ho H.hd jM b⟩,by rw[bf,qp]⟩,eI.trans dm,Lp.trans HP.ld⟩
   ·rw[Zaq q1]
    simp only[ZbY,Zc0,Zak,Za0]
    refine X6 (h' _ true sb ?_)
    refine⟨_,iW,ep+1,_,⟨g1,H.ex,rfl,T1,by rw[fN];exact q2,fun e he=>let ⟨k',a,b⟩:=j4 e he;⟨k',a,Z1 hk H.ho H.hd sb b⟩,fun k' ay=>let ⟨e,a,b⟩:=qw k' ay;⟨e,a,Z1 hk H.ho H.hd sb b⟩,qp⟩,dm,HP.ld⟩
  have C6:({(t.put f').1 with plain:=true} :SetTable)=(t.put f').1:=by
   have:(t.put f').1.plain=true:=HP.pl
   rw[<-this]
  split
  ·refine eg (hp.Dy hx ?_)
   have:=tail _ ⟨true,rfl,rfl⟩
   rw[C6]at this
   exact this
  ·refine eg (X6 ?_)
   have:=tail _ ⟨true,rfl,rfl⟩
   rw[C6]at this
   exact this
 ·have:10*turns t.mask<=5260:=by
   unfold turns
   rcases H.room.kP with q |q |q |q<;>rw[q]<;>decide
  omega
end
section
variable {K:Type} [DecidableEq K] {prog:Program}{w:World}{knd:HeapKind prog w K}{A:Around}{E:Value->Shared->Prop}{s:Shared}{R:Result->Shared->Prop}{I:Addr}{fp wr:List Addr}{G:Array GenState->Array GenState->Prop}{n:Nat}{P:Nat->Value->Prop}{St:Nat->Shared->Prop}
theorem W9 (hp:kC knd) {h h':Heap}{ws:List Addr}{S:Addr}{ks:List K}(hw:∀b∈ws,iZ h b) (hS:S∉ws) (eR:∀b o,b∉ws->h.get? b=some o->h'.get? b=some o) (x:fq knd h S ks):fq knd h' S ks:=by
 obtain⟨o,es,ep,t,X⟩:=x
 have ke:∀{k:K}{e:Int×Value},ft knd h k e->ft knd h' k e:=fun⟨a,e1,e2,e3⟩=> ⟨a,e1,hp.keep hw eR e2,e3⟩
 exact⟨o,es,ep,t,⟨eR _ _ hS X.b.ho,X.b.ex,X.b.hd,X.b.T,X.b.room,fun e he=>let ⟨k,a,b⟩:=X.b.el e he;⟨k,a,ke b⟩,fun k hk=>let ⟨e,a,b⟩:=X.b.all k hk;⟨e,a,ke b⟩,X.b.sz⟩,X.pl,X.ld⟩
theorem Vp {h:Heap}{S:Addr}{ks:List K}(x:fq knd h S ks):iZ h S:=by
 obtain⟨o,es,ep,t,X⟩:=x
 exact⟨o,X.b.ho,by rw[X.b.ex.1];decide⟩
theorem Lg (hp:kC knd) (hroom:knd.room A.in1) (W:WalksS prog w A.in1 I fp wr G n P St) (S:Addr) (qC:S∉fp) (val:Nat->K) (hb:n<=305) (hI:∀i s,St i s->∀b∈wr,iZ s.heap b):
  ∀(k i:Nat) (s:Shared),n - i=k->i<=n->St i s->fq knd s.heap S (met val i)->(∀i v,P i v->∃a,v=.ref a/\knd.is s.heap (val i) a)->
   (∀s',Moved (S::wr) G s s'->fq knd s'.heap S (met val n)->R (.ok (.ret .none)) s')->
   codeAny (model prog w) A (.builtin "set.update.loop" ⟨[.ref S,.ref I],[]⟩) R s:=by
 have qB:S∉wr:=fun h=>qC (W.sub _ h)
 have iJ:∀b∈wr,b∈S::wr:=fun b hb=>Zaa _ hb
 intro k
 induction k with
 |zero=>
  intro i s ay hi cI hS j8 hR
  have mw:i=n:=.o
  subst mw
  refine Za3 ZbR ?_
  rw[ZaP Zbd _]
  show wpAny _ A.in1 (pyNext (.ref I) >>=_) _ _ s
  refine eg (W.done s _ _ cI fun s' hm=> ?_)
  show wpAny _ A.in1 (ret Value.none) _ _ s'
  exact X6 (hR s' (hm.mono iJ) (W9 hp (hI _ _ cI) qB (fun b o hb e=>hm.heap b o hb e) hS))
 |succ k ih=>
  intro i s ay hi cI hS j8 hR
  have ar:i<n:=.o
  refine Za3 ZbR ?_
  rw[ZaP Zbd _]
  show wpAny _ A.in1 (pyNext (.ref I) >>=_) _ _ s
  refine eg (W.item i s _ _ ar cI fun v s' hP xQ hm=> ?_)
  have kp:∀b o,b∉wr->s.heap.get? b=some o->s'.heap.get? b=some o:=fun b o hb e=>hm.heap b o hb e
  have bP:=W9 hp (hI _ _ cI) qB kp hS
  have qD:∀i v,P i v->∃a,v=.ref a/\knd.is s'.heap (val i) a:=fun i v hv=>let ⟨a,e,x⟩:=j8 i v hv;⟨a,e,hp.keep (hI _ _ cI) kp x⟩
  obtain⟨a,rfl,g9⟩:=qD i v hP
  show wpAny _ A.in1 (holding [Value.ref a] (setAdd S (.ref a)) >>=_) _ _ s'
  refine eg (ZaO ?_)
  unfold setAdd
  refine ZaO ?_
  refine eg (knd.pyHash hroom g9 ?_)
  refine EU (s:= {s' with toks:=s'.toks+knd.draws (val i)}) hp hroom g9 bP (by have:=pR val i;omega) fun h' b sb jz=> ?_
  have vS:∀b o,b∉[S]->s'.heap.get? b=some o->h'.get? b=some o:=fun b o hb e=>by
   rw[sb.2 b (fun z=>hb (by rw[z];exact Zao.mpr rfl))];exact e
  have nS:∀b∈[S],iZ s'.heap b:=fun b hb=>by rw[Zao.mp hb];exact Vp bP
  refine X6 ⟨Zbr Zbd _,ih (i+1) _ .o ar (W.frame _ s' _ _ xQ (ZcT _ _) fun b hb o e=> ?_) (by rw[Yx];exact jz) (fun i v hv=>let ⟨a,e,x⟩:=qD i v hv;⟨a,e,hp.keep nS vS x⟩) fun eG yc yI=> ?_⟩
  ·rw[sb.2 b (fun h:b=S=>qC (by rw[<-h];exact hb))];exact e
  ·refine hR eG (Moved.trans W.gtrans ((hm.mono iJ).then_heap (ZcT _ _) fun b o hb e=> ?_) yc) yI
   rw[sb.2 b (fun h:b=S=>hb (by rw[h];exact Zab))];exact e
theorem CV {h:Heap}{S:Addr}{led:Bool}(hl:(!(w.params.followText "set-order"))=led) (g:h.get? S=some (cV led)):fq knd h S []:=by
 refine⟨_, #[],0,_,⟨g,⟨rfl,rfl,rfl⟩,rfl,⟨rfl,.nil,rfl,fun j hj=> ?_,fun z hz=> ?_⟩,.inl ⟨rfl,Zaz _⟩,fun e he=> ?_,fun k hk=> ?_,rfl⟩,rfl,hl.symm⟩
 ·exact absurd hj (by simp[SetTable.fresh])
 ·exact absurd hz (by simp[SetTable.fresh])
 ·exact absurd he (by simp)
 ·exact absurd hk (by simp)
theorem Ts (a:Value) {Q₁:Value->Shared->Prop}(h:Q₁ (.ref s.heap.objs.size) {s with heap:=s.heap.push (cV (!(w.params.followText "set-order")))}):codeAny (model prog w) A (.call (.builtin "set.__new__") ⟨[.type "set",a],[]⟩) (wants Q₁ E) s:=by
 refine ZdF (show wpAny _ A.in1 (do checkBuiltinCall "set.__new__" ⟨[.type "set",a],[]⟩;again (.builtin "set.__new__" ⟨[.type "set",a],[]⟩)) _ _ s from ?_)
 refine eg (Zdm (F.newCall_set_1 a) (X6 ⟨Zbr F.plain_set_new _,(Za3 F.entry_set_new ?_)⟩))
 rw[ZaP F.plain_set_new _]
 unfold Builtin.«set.__new__» Builtin.Frozenset.newClass
 have iJ:=sub_set_self
 obtain⟨h0,g0,d0,t0,o0⟩:=s
 dsimp only
 wp_walk
 refine Zcc (X6 ?_)
 dsimp only
 simp only[newObj]
 exact eg (wpAny_alloc (X6 (X6 h)))
theorem Dw {l:Addr}{items:Array Value}{val:Nat->K}{Q:Value->Shared->Prop}
  (hp:kC knd) (hh:A.handled=none) (hu:knd.room A.in1.in1.in1) (hl:s.heap.IsList l items) (hi:∀(i:Nat) (v:Value),items[i]? =some v->∃a,v=.ref a/\knd.is s.heap (val i) a) (hb:items.size<=304)
  (h:∀(h':Heap) (tk:Nat),fq knd h' s.heap.objs.size (met val items.size)->(∀b o,b<s.heap.objs.size->s.heap.get? b=some o->h'.get? b=some o)->Q (.ref s.heap.objs.size) {s with heap:=h',toks:=tk}):
  wpAny (model prog w) A (call (.type "set") [.ref l]) Q E s:=by
 have cS:=F.called_set
 obtain⟨c0,Gu,K3⟩:=cS.mro
 have K6:=cS.made;have Hk:=cS.sub
 refine PySem.wpAny_call (ZdF (show wpAny _ _ (callAny (.type "set") _) _ _ _ from ?_))
 refine X6 ⟨PySem.Code.quiet_builtin _ (by decide+kernel),Za3 F.entry_type_call ?_⟩
 rw[Around.under_plain (weight_type_call_type "set" [.ref l] []) rfl]
 have k1:=cS.notType;have k2:=cS.canCreate;have k3:=F.typeCall_set_1 (.ref l)
 repeat (any_goals (first |assumption |wp_step))
 refine Zb7 (Ts (.ref l) (E:=E) (Q₁:=fun ob aF=>ob=.ref s.heap.objs.size/\aF= {s with heap:=s.heap.push (cV (!(w.params.followText "set-order")))}) ⟨rfl,rfl⟩) fun wR aF mJ=> ?_
 cases wR with
 |error e=>exact mJ
 |ok yU=>
  cases yU with
  |ret ob=>
   obtain⟨rfl,rfl⟩:=mJ
   generalize yf:(!(w.params.followText "set-order"))=led
   have gS:(s.heap.push (cV led)).get? s.heap.objs.size=some (cV led):=Zaf _ rfl
   have tS:Shared.TypeIs {s with heap:=s.heap.push (cV led)} (.ref s.heap.objs.size) "set" :=⟨_,gS,rfl⟩
   have Lj:=cS.init.lookup;have Pm:=cS.init.bind (.ref s.heap.objs.size)
   repeat (any_goals (first |assumption |wp_step))
   refine Zb7 (Zdh (R:=wants (fun r fU=>r=.none/\∃h' tk,fU= {s with heap:=h',toks:=tk}/\fq knd h' s.heap.objs.size (met val items.size)/\(∀b o,b<s.heap.objs.size->s.heap.get? b=some o->h'.get? b=some o)) E) cS.init.plain F.entry_set_init (check_set_init_1 tS ?_)) fun wQ fU mH=> ?_
   ·obtain⟨⟨lc,ld,lt,ls⟩,jW,cM,nl,lh⟩:=hl
    simp only at cM lh
    subst cM;subst lh
    have xY:=X7 (cV led) jW
    have vI:=F.sub_list_set;have eF:=F.sub_list_frozenset
    have KL:(Value.type "list" ==Value.type "dict")=false:=.d
    have fm:(s.heap.push (cV led)).IsList l items:=⟨_,xY,rfl,nl,rfl⟩
    unfold Builtin.«set.__init__» noKeywords Builtin.Frozenset.updateFrom
    generalize yK:pyIter=PI
    wp_walk
    subst yK
    refine Zcl fm (eg (PySem.wpAny_runValue ?_))
    have pS:l<s.heap.objs.size:=Zad jW
    have yo:A.in1.in1.in1.handled=none:=by simp[hh]
    have nI:l≠(s.heap.push (cV led)).objs.size:=by rw[Zbh];exact Zan (Zbl pS)
    have Sf:s.heap.objs.size∉[(s.heap.push (cV led)).objs.size,l]:=by
     rw[Zbh]
     simp only[Zaj,Zao,Za5,Zb4,not_or]
     exact⟨Zan (Zcw _),ZbZ pS⟩
    refine Lg (knd:=knd) hp ?hroom ((ZdN yo _ l nI items).toS) s.heap.objs.size Sf val .o ?hI (items.size - 0) 0 _ .o (Zaz _) ⟨⟨_,Zaf _ rfl,rfl,rfl⟩,(fm.push _)⟩ ?yH ?j8 ?hR
    case hroom=>exact hu
    case hI=>
     rintro i s1 ⟨⟨o1,e1,e2,_⟩,_⟩ b hb
     rw[Zao.mp hb]
     exact⟨o1,e1,by rw[e2];decide⟩
    case yH=>exact CV yf (X7 _ gS)
    case j8=>
     intro i v hv
     obtain⟨a,e,x⟩:=hi i v hv
     refine⟨a,e,hp.keep (ws:=[]) (fun b hb=>absurd hb (by simp)) (fun b o _ eb=>X7 _ (X7 _ eb)) x⟩
    case hR=>
     rintro⟨h',g',d',fe,lU⟩ hm bP
     obtain rfl:g'=s.gens:=hm.gens
     obtain rfl:d'=s.drawn:=hm.drawn
     obtain rfl:lU=s.os:=hm.os
     show wpAny _ _ _ _ _ _
     refine X6 (show wpAny _ _ (ret Value.none) _ _ _ from X6 ⟨rfl,h',fe,rfl,bP,fun b o hb e=> ?_⟩)
     refine hm.heap b o ?_ (X7 _ (X7 _ e))
     simp only[Zaj,Zao,Za5,Zb4,not_or]
     exact⟨Zan hb,by rw[Zbh];exact Zan (Zbl hb)⟩
   ·cases wQ with
    |error e=>exact mH
    |ok yT=>
     cases yT with
     |ret r=>
      obtain⟨rfl,h',tk,rfl,bP,ay⟩:=mH
      repeat (any_goals (first |assumption |wp_step))
      exact h _ _ bP ay
     |_=>exact mH.elim
  |_=>exact mJ.elim
end
section
variable {prog:Program}{w:World}{K:Type} [DecidableEq K] {knd:KeyKind prog w K}{A:Around}{E:Value->Shared->Prop}{s:Shared}
theorem A9 (n:Nat) {ks:List K}{a:Addr}{Q:Bool->Shared->Prop}(hk:IsTupleKey knd s.heap ks a) (h:Q true s):wpAny (model prog w) A (eqIsQuiet (n+1) (.ref a)) Q E s:=by
 have hT:=hk.typeIs
 obtain⟨o,items,m,ho,_,hd,hi⟩:=hk
 unfold eqIsQuiet
 refine eg (Zb8 hT PySem.F.slot_tuple_eq.lookup ?_)
 show wpAny _ _ (isInstance (.ref a) (.type "tuple") >>=_) _ _ s
 refine eg (Zcy hT PySem.isSubtype_tuple_tuple ?_)
 simp only[Za9,Zak,Za0]
 refine eg (ZaS ho hd ?_)
 refine eg ?_
 show wpAny _ _ (forIn items _ _) _ _ s
 rw[<-ZbM]
 refine Zbj _ (fun rest r s'=>r.1=none/\s'=s/\∀v∈rest,carriedByValue v=true) _ ?_ ?_ _ _ ⟨rfl,rfl,hi.byValue⟩
 ·rintro v rest r s' ⟨hr,rfl,aM⟩
  rw[eqIsQuiet_byValue _ (aM v Zab)]
  refine eg (X6 ?_)
  simp only[Za9,Zak,Za0]
  exact X6 ⟨rfl,rfl,fun u cq=>aM u (Zaa _ cq)⟩
 ·rintro⟨r1,r2⟩ s' ⟨hr,rfl,_⟩
  simp only at hr
  subst hr
  exact X6 h
theorem Bo (n:Nat) {ks:List K}{a:Addr}{Q:Bool->Shared->Prop}(hk:IsTupleKey knd s.heap ks a) (h:Q false s):wpAny (model prog w) A (ofAClassStatement (n+1) (.ref a)) Q E s:=by
 have hT:=hk.typeIs
 obtain⟨o,items,m,ho,_,hd,hi⟩:=hk
 unfold ofAClassStatement
 refine eg (Zc8 hT ?_)
 dsimp only
 rw[Zay .d]
 refine eg (X6 ?_)
 simp only[Za9,Zak,Za0]
 refine eg (ZaS ho hd ?_)
 dsimp only
 refine eg ?_
 rw[<-ZbM]
 refine Zbj _ (fun rest r s'=>r.1=none/\s'=s/\∀v∈rest,carriedByValue v=true) _ ?_ ?_ _ _ ⟨rfl,rfl,hi.byValue⟩
 ·rintro v rest r s' ⟨hr,rfl,aM⟩
  rw[Fj n (aM v Zab)]
  refine eg (X6 ?_)
  simp only[Zak,Za0]
  exact X6 ⟨rfl,rfl,fun u cq=>aM u (Zaa _ cq)⟩
 ·rintro⟨r1,r2⟩ s' ⟨hr,rfl,_⟩
  simp only at hr
  subst hr
  exact X6 h
theorem Rc (n:Nat) (i:Int) (t:Tok):hashByValue n (.int i t)=pure true:=by cases n<;>rfl
theorem WF:∀{ks:List Int}{vs:List Value},ItemsAre (intKind prog w) ks vs->∀v∈vs,∃i t,v=.int i t
 |_,_,.nil=>fun v hv=>by cases hv
 |_,_,.cons (k:=k) (v:=u) h r=>fun v hv=>by
  rcases Zaj.mp hv with rfl |hv
  ·cases v with
   |int i t=>exact⟨i,t,rfl⟩
   |_=>exact Bool.noConfusion (show false=true from h)
  ·exact WF r v hv
theorem zu (n:Nat) {ks:List Int}{a:Addr}{Q:Bool->Shared->Prop}(hk:IsTupleKey (intKind prog w) s.heap ks a) (h:Q true s):wpAny (model prog w) A (hashByValue (n+1) (.ref a)) Q E s:=by
 have hT:=hk.typeIs
 obtain⟨o,items,m,ho,_,hd,hi⟩:=hk
 unfold hashByValue
 refine eg (Zb8 hT Zco.lookup ?_)
 refine(show wpAny _ _ (seqItems? (.ref a) >>=_) _ _ s from eg (ZaS ho hd ?_))
 refine eg ?_
 show wpAny _ _ (forIn items _ _) _ _ s
 rw[<-ZbM]
 refine Zbj _ (fun rest r s'=>r.1=none/\s'=s/\∀v∈rest,∃i t,v=.int i t) _ ?_ ?_ _ _ ⟨rfl,rfl,WF hi⟩
 ·rintro v rest r s' ⟨hr,rfl,aM⟩
  obtain⟨i,t,rfl⟩:=aM v Zab
  rw[Rc]
  refine eg (X6 ?_)
  simp only[Za9,Zak,Za0]
  exact X6 ⟨rfl,rfl,fun u cq=>aM u (Zaa _ cq)⟩
 ·rintro⟨r1,r2⟩ s' ⟨hr,rfl,_⟩
  simp only at hr
  subst hr
  exact X6 h
theorem Cg (prog:Program) (w:World):kC (tupleKind (intKind prog w)):=⟨FJ _,fun hk h=>zu 7 hk h,fun hw eR x=>Ym hw eR x⟩
end
section
variable {prog:Program}{w:World}{A:Around}{E:Value->Shared->Prop}{s:Shared}
abbrev KI (prog:Program) (w:World):KeyKind prog w Int:=intKind prog w
def dq (prog:Program) (w:World) (h:Heap) (k:List Int×List Int) (a:Addr):Prop:=∃o n b c,h.get? a=some o/\o.cls=.type "tuple" /\o.data=.seq #[.ref b,.ref c] n/\IsTupleKey (KI prog w) h k.1 b/\IsTupleKey (KI prog w) h k.2 c
theorem dq.typeIs {k:List Int×List Int}{a:Addr}(x:dq prog w s.heap k a):s.TypeIs (.ref a) "tuple" :=let ⟨o,_,_,_,ho,hc,_⟩:=x;⟨o,ho,hc⟩
theorem dq.inj {h:Heap}{a:Addr}{x y:List Int×List Int}(hx:dq prog w h x a) (hy:dq prog w h y a):x=y:=by
 obtain⟨o,n,b,c,ho,_,hd,h1,h2⟩:=hx
 obtain⟨o',n',b',c',bE,_,gp,qG,fK⟩:=hy
 obtain rfl:o=o':=ZaV (ho.symm.trans bE)
 rw[hd]at gp
 injection gp with e _
 have e1:[Value.ref b,Value.ref c]=[Value.ref b',Value.ref c']:=Zce Array.toList e
 injection e1 with e1 e2
 injection e2 with e2 _
 injection e1 with e1
 injection e2 with e2
 subst e1 e2
 exact Prod.ext (h1.inj qG) (h2.inj fK)
theorem dq.keep {h h':Heap}{ws:List Addr}{k:List Int×List Int}{a:Addr}(hw:∀b∈ws,iZ h b) (eR:∀b o,b∉ws->h.get? b=some o->h'.get? b=some o) (x:dq prog w h k a):dq prog w h' k a:=by
 obtain⟨o,n,b,c,ho,hc,hd,h1,h2⟩:=x
 have aW:a∉ws:=fun m=>by
  obtain⟨o',bE,hn⟩:=hw a m
  rw[ho]at bE
  cases bE
  exact hn hc
 exact⟨o,n,b,c,eR _ _ aW ho,hc,hd,Ym hw eR h1,Ym hw eR h2⟩
def xf (prog:Program) (w:World) (k:List Int×List Int):Int:=reduceHash (Builtin.Tuple.tupleHashOf [tupleKeyHash (KI prog w) k.1,tupleKeyHash (KI prog w) k.2])
theorem Tf {k:List Int×List Int}{a:Addr}{Q:Int->Shared->Prop}(hu:A.units+1<cLine) (hk:dq prog w s.heap k a) (h:Q (xf prog w k) {s with toks:=s.toks+(k.1.length+1+(k.2.length+1)+1)}):
  wpAny (model prog w) A (pyHash (.ref a)) Q E s:=by
 have hT:=hk.typeIs
 obtain⟨o,n,b,c,ho,_,hd,h1,h2⟩:=hk
 unfold pyHash
 first |unfold pyHashByItsType |skip
 first |refine eg (wpAny_cRoomFor_or (.inr (Zcn hu)) ?_) |skip
 refine eg (Zb8 hT Zco.lookup ?_)
 show wpAny _ _ (if (some (Value.builtin "tuple.__hash__")==some Value.none)=true then _ else _) Q E s
 rw[Zav (by rw[beq_builtin_none];exact Zag)]
 refine eg (Zb8 hT Zco.lookup ?_)
 show wpAny _ _ (callSpecialIfBoundUnlessNone? (.ref a) "__hash__" _ >>=_) Q E s
 refine eg (wpAny_callSpecialIfBoundUnlessNone?_slot hT Zco (ZaY Zco hT F.entry_tuple_hash ?_ (F.args_tuple_hash_1 _)))
 show wpAny _ _ (Builtin.Tuple.tupleItemsOf (.ref a) >>=_) _ _ s
 refine eg (PySem.wpAny_tupleItemsOf ho hd ?_)
 refine eg ?_
 rw[<-ZbM]
 refine Zbj _
  (fun rest (bs:Array Int) s'=> (rest=[.ref b,.ref c]/\bs= #[]/\s'=s)∨(rest=[.ref c]/\bs= #[tupleKeyHash (KI prog w) k.1]/\s'= {s with toks:=s.toks+(k.1.length+1)})∨(rest=[]/\bs= #[tupleKeyHash (KI prog w) k.1,tupleKeyHash (KI prog w) k.2]/\s'= {s with toks:=s.toks+(k.1.length+1+(k.2.length+1))}))
  _ ?_ ?_ _ _ (.inl ⟨rfl,rfl,rfl⟩)
 ·rintro x rest bs s' (⟨e,rfl,rfl⟩ |⟨e,rfl,rfl⟩ |⟨e,_⟩)
  ·cases e
   refine eg (wpAny_pyHash_tuple (knd:=KI prog w) (by exact hu) h1 ?_)
   first
    |exact X6 (.inr (.inl ⟨rfl,rfl,rfl⟩))
    |exact eg (X6 (X6 (.inr (.inl ⟨rfl,rfl,rfl⟩))))
  ·cases e
   refine eg (wpAny_pyHash_tuple (knd:=KI prog w) (by exact hu) h2 ?_)
   first
    |exact X6 (.inr (.inr ⟨rfl,rfl,by rw[Nat.add_assoc]⟩))
    |exact eg (X6 (X6 (.inr (.inr ⟨rfl,rfl,by rw[Nat.add_assoc]⟩))))
  ·cases e
 ·rintro bs s' (⟨e,_⟩ |⟨e,_⟩ |⟨_,rfl,rfl⟩)
  ·cases e
  ·cases e
  show wpAny _ _ (retInt (Builtin.Tuple.tupleHashOf [tupleKeyHash (KI prog w) k.1,tupleKeyHash (KI prog w) k.2])) _ _ _
  refine wpAny_ret_mkInt ?_
  unfold xf reduceHash at h
  generalize Builtin.Tuple.tupleHashOf [tupleKeyHash (KI prog w) k.1,tupleKeyHash (KI prog w) k.2]=z at h
  show wpAny _ _ (if (decide (-(2:Int)^63<=z)&&decide (z<2^63))=true then _ else _) Q E _
  by_cases hr:(decide (-(2:Int)^63<=z)&&decide (z<2^63))=true
  ·rw[Zay hr]
   rw[Zay hr]at h
   exact X6 (by simpa[Nat.add_assoc] using h)
  ·rw[Zav hr]
   rw[Zav hr]at h
   exact eg (Zck (X6 (by simpa[Nat.add_assoc] using h)))
theorem Vj {x y:List Int×List Int}{a b:Addr}{P:Fin->Shared->Prop}(hu:A.units<cLine) (hx:dq prog w s.heap x a) (hy:dq prog w s.heap y b) (h:P (.done (.ret (.bool (decide (x=y))))) s):
  wpAny (model prog w) A (Builtin.«tuple.__eq__» ⟨[.ref a,.ref b],[]⟩) P E s:=by
 have NL:=hy.typeIs
 obtain⟨oa,na,a1,a2,ME,_,Nj,gH,NF⟩:=hx
 obtain⟨ob,nb,b1,b2,x9,_,dI,cX,jt⟩:=hy
 show wpAny _ _ (isInstance (.ref b) (.type "tuple") >>=_) _ _ s
 refine eg (Zcy NL PySem.isSubtype_tuple_tuple ?_)
 simp only[Za9,Zak,Za0]
 refine eg (PySem.wpAny_tupleItemsOf ME Nj ?_)
 refine eg (PySem.wpAny_tupleItemsOf x9 dI ?_)
 refine eg ?_
 refine Zbj _
  (fun rest r s'=>r.1=none/\s'=s/\((rest=[(.ref a1,.ref b1),(.ref a2,.ref b2)])∨(rest=[(.ref a2,.ref b2)]/\x.1=y.1)∨(rest=[]/\x=y)))
  _ ?_ ?_ _ _ ⟨rfl,rfl,.inl rfl⟩
 ·rintro⟨u,v⟩ rest r s' ⟨hr,rfl,e |⟨e,e1⟩ |⟨e,_⟩⟩
  ·cases e
   refine eg (wpAny_eqBool_tuple (knd:=KI prog w) hu gH cX ?_)
   by_cases hk:x.1=y.1
   ·rw[Zat hk]
    simp only[Za9,Zak,Za0]
    exact X6 ⟨rfl,rfl,.inr (.inl ⟨trivial,hk⟩)⟩
   ·rw[Zaq hk]
    simp only[ZbY,Zch]
    have hf:decide (x=y)=false:=Zaq fun z=>hk (by rw[z])
    rw[hf]at h
    exact eg (X6 (X6 (X6 h)))
  ·cases e
   refine eg (wpAny_eqBool_tuple (knd:=KI prog w) hu NF jt ?_)
   by_cases hk:x.2=y.2
   ·rw[Zat hk]
    simp only[Za9,Zak,Za0]
    exact X6 ⟨rfl,rfl,.inr (.inr ⟨trivial,Prod.ext e1 hk⟩)⟩
   ·rw[Zaq hk]
    simp only[ZbY,Zch]
    have hf:decide (x=y)=false:=Zaq fun z=>hk (by rw[z])
    rw[hf]at h
    exact eg (X6 (X6 (X6 h)))
  ·cases e
 ·rintro⟨r1,r2⟩ s' ⟨hr,rfl,e |⟨e,_⟩ |⟨_,e⟩⟩
  ·cases e
  ·cases e
  ·simp only at hr
   subst hr
   refine X6 ?_
   rw[Zat e]at h
   exact h
theorem Q8 {x y:List Int×List Int}{a b:Addr}{Q:Bool->Shared->Prop}(hu:A.units+1<cLine) (hx:dq prog w s.heap x a) (hy:dq prog w s.heap y b) (h:Q (decide (x=y)) s):
  wpAny (model prog w) A (eqBool (.ref a) (.ref b)) Q E s:=by
 unfold eqBool
 try with_reducible refine ZaO ?_
 show wpAny _ _ (if (Value.ref a==Value.ref b)=true then _ else _) Q E s
 by_cases jw:(Value.ref a==Value.ref b)=true
 ·rw[Zay jw]
  have e:a=b:=by have:=eq_of_beq jw;injection this
  subst e
  obtain rfl:=hx.inj hy
  exact eg (Zck (X6 (by simpa using h)))
 ·rw[Zav jw]
  exact eg (wpAny_richCompare_same_room (op:=.Eq) hx.typeIs hy.typeIs PySem.F.slot_tuple_eq
   (ZaY PySem.F.slot_tuple_eq hx.typeIs F.entry_tuple_eq (Vj (by exact hu) hx hy ⟨_,rfl,(fun e=>nomatch e),ZbG h⟩) (F.args_tuple_eq_2 _ _)) (Zcn hu))
theorem TY {k:List Int×List Int}{a:Addr}{Q:Bool->Shared->Prop}(hk:dq prog w s.heap k a) (h:Q true s):wpAny (model prog w) A (eqIsQuiet 8 (.ref a)) Q E s:=by
 have hT:=hk.typeIs
 obtain⟨o,n,b,c,ho,_,hd,h1,h2⟩:=hk
 unfold eqIsQuiet
 refine eg (Zb8 hT PySem.F.slot_tuple_eq.lookup ?_)
 show wpAny _ _ (isInstance (.ref a) (.type "tuple") >>=_) _ _ s
 refine eg (Zcy hT PySem.isSubtype_tuple_tuple ?_)
 simp only[Za9,Zak,Za0]
 refine eg (ZaS ho hd ?_)
 refine eg ?_
 show wpAny _ _ (forIn (#[Value.ref b,Value.ref c]:Array Value) _ _) _ _ s
 rw[<-ZbM]
 refine Zbj _ (fun rest r s'=>r.1=none/\s'=s/\∀v∈rest,v=Value.ref b∨v=.ref c) _ ?_ ?_ _ _ ⟨rfl,rfl,fun v hv=>by simpa using hv⟩
 ·rintro v rest r s' ⟨hr,rfl,aM⟩
  have key:wpAny (model prog w) A (eqIsQuiet 7 v) (fun b s2=>b=true/\s2=s') E s':=by
   rcases aM v Zab with rfl |rfl
   ·exact A9 6 h1 ⟨rfl,rfl⟩
   ·exact A9 6 h2 ⟨rfl,rfl⟩
  refine eg (ZaL key (fun b s2 ⟨e1,e2⟩=> ?_) fun _ _ z=>z)
  subst e1 e2
  simp only[Za9,Zak,Za0]
  exact X6 ⟨rfl,rfl,fun u cq=>aM u (Zaa _ cq)⟩
 ·rintro⟨r1,r2⟩ s' ⟨hr,rfl,_⟩
  simp only at hr
  subst hr
  exact X6 h
theorem FP {k:List Int×List Int}{a:Addr}{Q:Bool->Shared->Prop}(hk:dq prog w s.heap k a) (h:Q true s):wpAny (model prog w) A (hashByValue 8 (.ref a)) Q E s:=by
 have hT:=hk.typeIs
 obtain⟨o,n,b,c,ho,_,hd,h1,h2⟩:=hk
 unfold hashByValue
 refine eg (Zb8 hT Zco.lookup ?_)
 refine(show wpAny _ _ (seqItems? (.ref a) >>=_) _ _ s from eg (ZaS ho hd ?_))
 refine eg ?_
 show wpAny _ _ (forIn (#[Value.ref b,Value.ref c]:Array Value) _ _) _ _ s
 rw[<-ZbM]
 refine Zbj _ (fun rest r s'=>r.1=none/\s'=s/\∀v∈rest,v=Value.ref b∨v=.ref c) _ ?_ ?_ _ _ ⟨rfl,rfl,fun v hv=>by simpa using hv⟩
 ·rintro v rest r s' ⟨hr,rfl,aM⟩
  have key:wpAny (model prog w) A (hashByValue 7 v) (fun b s2=>b=true/\s2=s') E s':=by
   rcases aM v Zab with rfl |rfl
   ·exact zu 6 h1 ⟨rfl,rfl⟩
   ·exact zu 6 h2 ⟨rfl,rfl⟩
  refine eg (ZaL key (fun b s2 ⟨e1,e2⟩=> ?_) fun _ _ z=>z)
  subst e1 e2
  simp only[Za9,Zak,Za0]
  exact X6 ⟨rfl,rfl,fun u cq=>aM u (Zaa _ cq)⟩
 ·rintro⟨r1,r2⟩ s' ⟨hr,rfl,_⟩
  simp only at hr
  subst hr
  exact X6 h
theorem Ve {k:List Int×List Int}{a:Addr}{Q:Bool->Shared->Prop}(hk:dq prog w s.heap k a) (h:Q false s):wpAny (model prog w) A (ofAClassStatement 8 (.ref a)) Q E s:=by
 have hT:=hk.typeIs
 obtain⟨o,n,b,c,ho,_,hd,h1,h2⟩:=hk
 unfold ofAClassStatement
 refine eg (Zc8 hT ?_)
 dsimp only
 rw[Zay .d]
 refine eg (X6 ?_)
 simp only[Za9,Zak,Za0]
 refine eg (ZaS ho hd ?_)
 dsimp only
 refine eg ?_
 rw[<-ZbM]
 refine Zbj _ (fun rest r s'=>r.1=none/\s'=s/\∀v∈rest,v=Value.ref b∨v=.ref c) _ ?_ ?_ _ _ ⟨rfl,rfl,fun v hv=>by simpa using hv⟩
 ·rintro v rest r s' ⟨hr,rfl,aM⟩
  have key:wpAny (model prog w) A (ofAClassStatement 7 v) (fun b s2=>b=false/\s2=s') E s':=by
   rcases aM v Zab with rfl |rfl
   ·exact Bo 6 h1 ⟨rfl,rfl⟩
   ·exact Bo 6 h2 ⟨rfl,rfl⟩
  refine eg (ZaL key (fun b s2 ⟨e1,e2⟩=> ?_) fun _ _ z=>z)
  subst e1 e2
  simp only[Zak,Za0]
  exact X6 ⟨rfl,rfl,fun u cq=>aM u (Zaa _ cq)⟩
 ·rintro⟨r1,r2⟩ s' ⟨hr,rfl,_⟩
  simp only at hr
  subst hr
  exact X6 h
theorem dq.Dz {h h':Heap}{k:List Int×List Int}{a d:Addr}{o:Obj}(x:dq prog w h k a) (ho:h.get? d=some o) (hd:∀aa n,o.data≠.seq aa n) (hs:Heap.SameBut d h h'):dq prog w h' k a:=by
 obtain⟨o1,n,b,c,e1,e2,e3,⟨o2,i2,n2,f1,f2,f3,f4⟩,o3,i3,n3,g1,g2,g3,g4⟩:=x
 have ne:∀{y:Addr}{oy:Obj}{iy:Array Value}{ny:Nat},h.get? y=some oy->oy.data=.seq iy ny->h'.get? y=some oy:=fun {y oy iy ny} q1 q2=>by
  refine(hs.2 y ?_).trans q1
  rintro rfl
  rw[ho]at q1
  cases q1
  exact hd _ _ q2
 exact⟨o1,n,b,c,ne e1 e3,e2,e3,⟨o2,i2,n2,ne f1 f3,f2,f3,f4⟩,o3,i3,n3,ne g1 g3,g2,g3,g4⟩
def Bf (prog:Program) (w:World):HeapKind prog w (List Int×List Int) where
 is:=dq prog w
 hash:=xf prog w
 draws:=fun k=>k.1.length+1+(k.2.length+1)+1
 room:=fun A=>A.units+1<cLine
 inj:=fun hx hy=>hx.inj hy
 keeps:=fun x ho hd hs=>x.Dz ho (fun aa n z=>by rw[hd]at z;cases z) hs
 pyHash:=fun hu hk h=>Tf hu hk h
 eqBool:=fun hu hx hy h=>Q8 hu hx hy h
 quiet:=fun hk h=>TY hk h
theorem MV (prog:Program) (w:World):kC (Bf prog w):=⟨⟨fun hk h=>FP hk (h true),fun hk h=>Ve hk h,fun x ho hd hs=>x.Dz ho (fun aa n z=>by rw[hd]at z;cases z) hs⟩,fun hk h=>FP hk h,fun hw eR x=>x.keep hw eR⟩
end
def restrict {prog:Program}{w:World}{K:Type} [DecidableEq K] (knd:HeapKind prog w K) (ok:Addr->Prop):HeapKind prog w K where
 is:=fun h k a=>ok a/\knd.is h k a
 hash:=knd.hash
 draws:=knd.draws
 room:=knd.room
 inj:=fun hx hy=>knd.inj hx.2 hy.2
 keeps:=fun x ho hd hs=> ⟨x.1,knd.keeps x.2 ho hd hs⟩
 pyHash:=fun hu hk h=>knd.pyHash hu hk.2 h
 eqBool:=fun hu hx hy h=>knd.eqBool hu hx.2 hy.2 h
 quiet:=fun hk h=>knd.quiet hk.2 h
theorem Ci {prog:Program}{w:World}{K:Type} [DecidableEq K] {knd:HeapKind prog w K}(hp:kC knd) (ok:Addr->Prop):kC (restrict knd ok):=
 ⟨⟨fun hk h=>hp.hk.Dx hk.2 h,fun hk h=>hp.hk.notCls hk.2 h,fun x ho hd hs=> ⟨x.1,hp.hk.BI x.2 ho hd hs⟩⟩,fun hk h=>hp.Dy hk.2 h,fun hw eR x=> ⟨x.1,hp.keep hw eR x.2⟩⟩
theorem sR {α:Type} [DecidableEq α]:∀{ks l:List α},ks.Nodup->(∀k∈ks,k∈l)->l.length<=ks.length->l.Perm ks
 | [],l,_,_,h=>by
  have:l=[]:=List.eq_nil_of_length_eq_zero (Nat.le_zero.mp h)
  rw[this]
 |k::ks,l,nd,hs,h=>by
  obtain⟨n1,n2⟩:=Zbk.mp nd
  have hk:=hs k Zab
  have p:=List.perm_cons_erase hk
  refine p.trans (List.Perm.cons k (sR n2 (fun k' ay=> ?_) ?_))
  ·exact(List.mem_erase_of_ne fun z=>n1 (by rw[<-z];exact ay)).mpr (hs k' (Zaa _ ay))
  ·have:=p.length_eq
   rw[ZaJ]at this h
   omega
theorem pQ {K:Type} [DecidableEq K] (val:Nat->K):∀n,(met val n).Nodup
 |0=> .nil
 |n+1=>by
  rw[Yx]
  split
  ·exact pQ val n
  ·rename_i h
   exact Zcp.mpr ⟨pQ val n,(by simp),fun a ha b hb e=>h (by rw[Zao]at hb;rw[<-hb,<-e];exact ha)⟩
end HC
namespace L2
open PySem PySem.Spec PyProof.Rows PyProof.Rows.dc
section
variable {X:Cx}
abbrev FQ (H:Hp) (a:Addr):Prop:=∃k:List Int,H a=some (.tup (k.map V.int))
abbrev KO (X:Cx) (H:Hp):HeapKind X.prog X.w (List Int):=HC.restrict (tupleKind (intKind X.prog X.w)) (FQ H)
theorem DQ {pins:List (Addr×Obj)}{σ:St}{H:Hp}{s:Shared}{k:List Int}{a:Addr}(I:Inv X pins σ H s) (h:(KO X H).is s.heap k a):H a=some (.tup (k.map V.int)):=by
 obtain⟨⟨k',h'⟩,x⟩:=h
 obtain⟨a',e,y⟩:=lK I ⟨a,rfl,h'⟩ (show RelV (.ref a) (.ref a) from rfl)
 cases e
 rw[x.inj y]
 exact h'
theorem DP {pins:List (Addr×Obj)}{σ:St}{H:Hp}{s:Shared}{k:List Int}{a:Addr}(I:Inv X pins σ H s) (h:H a=some (.tup (k.map V.int))):(KO X H).is s.heap k a:=by
 obtain⟨a',e,y⟩:=lK I ⟨a,rfl,h⟩ (show RelV (.ref a) (.ref a) from rfl)
 cases e
 exact⟨⟨k,h⟩,y⟩
theorem W7 {pins:List (Addr×Obj)}{σ:St}{H:Hp}{s:Shared}{S:Addr}{ks:List (List Int)}{Q:VK}(I:Inv X pins σ H s) (nd:ks.Nodup) (aW:∀k∈ks,k≠[]) (hl:ks.length<64)
  (Nq:∀(E:Value->Shared->Prop) (Q':List Value->Shared->Prop),(∀h1 tk (acc:List Value),(∀b o,s.heap.get? b=some o->h1.get? b=some o)->s.heap.objs.size<=h1.objs.size->(∀u∈acc,∃a k,u=Value.ref a/\k∈ks/\H a=some (.tup (k.map V.int)))->(∀k∈ks,∃a,Value.ref a∈acc/\H a=some (.tup (k.map V.int)))->acc.length=ks.length->Q' acc {s with heap:=h1,toks:=tk})->wpAny (model X.prog X.w) X.A.in1 (collect (.ref S)) Q' E s)
  (q:∀(q:Addr) (bQ:List V) (bz:List (List Int)),H q=none->bz.Perm ks->bz.Pairwise (fun a b=>av b a=false)->Paired (bq H) bQ bz->Q (.ref q) (upd H q (.lst bQ))):
  wpAny (model X.prog X.w) X.A (call (.builtin "sorted") [.ref S]) (EP X pins σ Q) X.xe s:=by
 refine PySem.Calls.call_function_entry PyProof.Rows.kind_sorted PyProof.Rows.plain_sorted PyProof.Rows.entry_sorted (PyProof.Rows.args_sorted1 _) ?_
 unfold Builtin.«sorted»
 refine eg (m:=checkCount "sorted" 1 1 _) (X6 ?_)
 refine eg (Nq _ _ fun h1 tk acc k1 hle el al la=> ?_)
 have I1:Inv X pins σ H {s with heap:=h1,toks:=tk} :=I.kept (t':=tk) k1
 have each:∀u∈acc,∃a k,u=.ref a/\k∈ks/\H a=some (.tup (k.map V.int))/\jE h1 u k:=fun u hu=>by
  obtain⟨a,k,e1,hk,hH⟩:=el u hu
  obtain⟨items,ri,⟨oo,go,oc,n,od⟩,_⟩:=I1.tuple (ag.of hH)
  exact⟨a,k,e1,hk,hH,a,oo,_,n,e1,go,oc,od,by simpa using ZP ri⟩
 have tu:Paired (jE h1) acc (acc.map (bJ h1)):=by
  have:∀l:List Value,(∀u∈l,∃k,jE h1 u k)->Paired (jE h1) l (l.map (bJ h1)):=fun l=>by
   induction l with
   |nil=>intro _;exact .nil
   |cons u l ih=>
    intro hh
    refine .cons ?_ (ih fun v hv=>hh v (Zaa _ hv))
    obtain⟨k,tq⟩:=hh u Zab
    have Gq:=id tq
    obtain⟨t0,o0,i0,n0,e0,g0,_,d0,j0⟩:=tq
    rw[e0]
    rw[ZX g0 d0 j0]
    rw[<-e0]
    exact Gq
  exact this _ fun u hu=>let ⟨a,k,_,_,_,h⟩:=each u hu;⟨k,h⟩
 have kU:∀u∈acc,bJ h1 u∈ks:=fun u hu=>by
  obtain⟨a,k,e,hk,_,t0,o0,i0,n0,e0,g0,_,d0,j0⟩:=each u hu
  rw[e0,ZX g0 d0 j0]
  exact hk
 have pk:(acc.map (bJ h1)).Perm ks:=by
  refine HC.sR nd (fun k hk=> ?_) (by rw[Zac,la];exact Zal _)
  obtain⟨a,ha,hH⟩:=al k hk
  obtain⟨items,ri,⟨oo,go,oc,n,od⟩,_⟩:=I1.tuple (ag.of hH)
  exact ZaC.mpr ⟨.ref a,ha,ZX go od (by simpa using ZP ri)⟩
 have MG:∀k∈acc.map (bJ h1),k≠[]:=fun k hk=>aW k (pk.mem_iff.mp hk)
 refine eg (Zef ?_ (by rw[Zau];omega))
 have jX:(h1.push (PyProof.Rows.seqObj "list" acc.toArray 0)).get? h1.objs.size=some (PyProof.Rows.seqObj "list" acc.toArray 0):=Zaf _ rfl
 have nL:∀b o,h1.get? b=some o->b≠h1.objs.size:=fun b o e=>Zan (Zad e)
 have asks:rB X.prog X.w X.A.in1.in1 (fun _ _=>False) (tuples' true) (fun x y=>av (bJ h1 x.1) (bJ h1 y.1)) h1.objs.size (h1.push (PyProof.Rows.seqObj "list" acc.toArray 0)) acc:=fun s6 h6=>by
  have uQ:Paired (jE s6.heap) acc (acc.map (bJ h1)):=Paired.aS tu fun u k x=>x.keep (a:=h1.objs.size) (fun b o hb e=>h6 b o hb (X7 _ e)) nL
  refine⟨fun h2 Q' hq=> ?_,fun x y st Q' mx my hk hq=> ?_⟩
  ·obtain⟨fs,kt,kl,kf⟩:=W4 uQ MG
   refine PySem.W.kat_kind (T:=.type "int") kt .o (fun v hv=> ?_) (by rfl) hq
   obtain⟨n,t,rfl⟩:=kf v hv
   exact PySem.W.Looks.of_pure rfl
  ·rw[lt'_eq]
   refine Zbi (wpS_get ?_)
   rw[hk]
   obtain⟨xp,_⟩:=Yd mx
   obtain⟨xo,_⟩:=Yd my
   obtain⟨kx,_,tx,ox,ix,nx,ex,gx,cx,dx,jx⟩:=Z4 tu xp
   obtain⟨ky,_,ty,oy,iy,ny,ey,gy,cy,dy,jy⟩:=Z4 tu xo
   have e1:bJ h1 x.1=kx:=by rw[ex];exact ZX gx dx jx
   have e2:bJ h1 y.1=ky:=by rw[ey];exact ZX gy dy jy
   dsimp only at hq
   rw[e1,e2]at hq
   rw[ex,ey]
   refine Zbi (wpS_lift (ZcC (PySem.W.kat_lt (h6 _ _ (nL _ _ gx) (X7 _ gx)) dx (h6 _ _ (nL _ _ gy) (X7 _ gy)) dy (WC jx jy ?_ ⟨rfl,?_⟩))))
   ·have l1:=jx.length
    have l2:=jy.length
    rw[Zas]at l1 l2
    rw[l1,l2]
   ·exact ZbS hq
 have zy:rB X.prog X.w X.A.in1.in1 X.xe (tuples' true) (fun x y=>av (bJ h1 x.1) (bJ h1 y.1)) h1.objs.size (h1.push (PyProof.Rows.seqObj "list" acc.toArray 0)) acc:=fun s6 h6=>by
  obtain⟨q1,q2⟩:=asks s6 h6
  refine⟨fun g Q hq=>ZaL (q1 g Q hq) (fun _ _ x=>x) fun _ _ x=>x.elim,fun x y st Q m1 m2 hk hq=> ?_⟩
  exact ZaL (q2 x y st Q m1 m2 hk hq) (fun _ _ x=>x) fun _ _ x=>x.elim
 refine eg (ZaO (ZaY PyProof.Rows.slot_list_sort ⟨_,jX,rfl⟩ PyProof.Rows.entry_list_sort (JS (EI _) jX zy .o fun xs p7 pZ=> ⟨_,rfl,?_⟩) (PyProof.Rows.args_list_sort _)))
 have bK:∀pq∈xs.toList,pq.1∈acc/\pq.2=pq.1:=fun pq me=>Yd ((Zb1.mp p7).mem_iff.mp me)
 have eo:(xs.map (·.2)).toList=xs.toList.map (·.1):=by
  rw[Array.toList_map]
  exact List.map_congr_left fun pq me=> (bK pq me).2
 have po:(xs.toList.map (·.1)).Perm acc:=by
  refine List.Perm.trans ((Zb1.mp p7).map _) ?_
  unfold pairsOf
  rw[Array.toList_zip,List.toList_toArray]
  have:∀l:List Value,(l.zip l).map (·.1)=l:=fun l=>by
   induction l with
   |nil=>rfl
   |cons a l ih=>rw[Zbo,ZaR,ih]
  rw[this]
 generalize MC:xs.map (·.2)=out at eo
 have rel:∀u∈out.toList,∃k,bq H (toV u) k/\bJ h1 u=k/\RelV (toV u) u:=fun u hu=>by
  rw[eo]at hu
  obtain⟨a,k,e,_,hH,t0,o0,i0,n0,e0,g0,_,d0,j0⟩:=each u (po.mem_iff.mp hu)
  subst e
  exact⟨k,⟨a,rfl,hH⟩,by rw[e0];exact ZX g0 d0 j0,rfl⟩
 have vals:∀l:List Value,(∀u∈l,∃k,bq H (toV u) k/\bJ h1 u=k/\RelV (toV u) u)->Vals (l.map toV) l/\Paired (bq H) (l.map toV) (l.map (bJ h1)):=fun l=>by
  induction l with
  |nil=>intro _;exact⟨.nil,.nil⟩
  |cons u l ih=>
   intro hl
   obtain⟨i1,i2⟩:=ih fun v hv=>hl v (Zaa _ hv)
   obtain⟨k,a1,a2,a3⟩:=hl u Zab
   exact⟨.cons a3 i1,.cons (by rw[a2];exact a1) i2⟩
 obtain⟨v1,v2⟩:=vals out.toList rel
 obtain⟨e,he⟩:=PyProof.Rows.sortedHeap_at (out:=out) jX
 have lo:out.toList.length=acc.length:=by rw[eo];exact po.length_eq
 have hlen:(out.toList.map toV).length<=sizeLine:=by rw[Zac,lo,Zau];omega
 refine X6 ⟨_,rfl,.ref h1.objs.size,_,I.laid (t':=tk) (a:=h1.objs.size) (o:=.lst (out.toList.map toV)) (fun b ob eb=> ?_) hle ⟨hlen,out.toList,e,v1,by simpa using he⟩,rfl,q _ _ (out.toList.map (bJ h1)) (I.ak.fresh hle) ?_ ?_ v2⟩
 ·have hb:=Zad (k1 b ob eb)
  rw[PyProof.Rows.sortedHeap_old (Zan hb) (by rw[Zbh];exact Zbl hb)]
  exact X7 _ (k1 b ob eb)
 ·rw[eo]
  exact(po.map _).trans pk
 ·rw[eo,Zb0,Zbx]
  exact pZ
theorem JP {pins:List (Addr×Obj)}{σ:St}{H:Hp}{s:Shared}{S:Addr}{ks:List (List Int)}{Q:VK}(I:Inv X pins σ H s) (uf:X.calm=true) (hS:HC.fq (KO X H) s.heap S ks) (nd:ks.Nodup) (aW:∀k∈ks,k≠[]) (hl:ks.length<64)
  (q:∀(q:Addr) (bQ:List V) (bz:List (List Int)),H q=none->bz.Perm ks->bz.Pairwise (fun a b=>av b a=false)->Paired (bq H) bQ bz->Q (.ref q) (upd H q (.lst bQ))):
  wpAny (model X.prog X.w) X.A (call (.builtin "sorted") [.ref S]) (EP X pins σ Q) X.xe s:=by
 obtain⟨o,es,ep,t,P⟩:=hS
 refine W7 I nd aW hl (fun E Q' hQ=> ?_) q
 refine HC.Pf (show X.A.in1.handled=none from I.ok.hd uf) P.core fun h1 tk acc k1 hle ia=> ?_
 have ea:acc.toList=(HC.gX X.w S es ep).toList.map (·.2):=by
  refine List.ext_getElem? fun j=> ?_
  rw[ZaH,Za6,Za6]
  by_cases hj:j<acc.size
  ·obtain⟨e,q1,q2⟩:=ia.2 j _ (ZaE hj)
   rw[q1,ZaE hj,q2]
   rfl
  ·rw[Array.getElem?_eq_none .o,Array.getElem?_eq_none (by rw[HC.xg,<-ia.1];omega)]
   rfl
 have BD:∀u,u∈acc.toList↔∃e∈es.toList,e.2=u:=fun u=>by
  rw[ea,ZaC]
  constructor
  ·rintro⟨e,he,rfl⟩;exact⟨e,(HC.xh X.w S es ep).mem_iff.mp he,rfl⟩
  ·rintro⟨e,he,rfl⟩;exact⟨e,(HC.xh X.w S es ep).mem_iff.mpr he,rfl⟩
 refine hQ h1 tk acc.toList k1 hle (fun u hu=> ?_) (fun k hk=> ?_) (by rw[Zas,ia.1,P.b.sz])
 ·obtain⟨e,he,rfl⟩:=(BD u).mp hu
  obtain⟨k,hk,a,e1,e2,_⟩:=P.b.el e he
  exact⟨a,k,e1,hk,DQ I e2⟩
 ·obtain⟨e,he,a,e1,e2,_⟩:=P.b.all k hk
  exact⟨a,(BD _).mpr ⟨e,he,e1⟩,DQ I e2⟩
def Ia (K:Zgc) (Q:VK):V->Hp->Prop:=fun v H1=> ∃(l:Addr) (ts:List V) (ks:List (List Int)),v=.ref l/\ai K H1 l ts/\Paired (bq H1) ts ks/\(∀k∈ks,k≠[])/\ts.length<64/\
 ∀(q:Addr) (bQ:List V) (bz:List (List Int)),H1 q=none->bz.Nodup->(∀k,k∈bz↔k∈ks)->bz.Pairwise (fun a b=>av b a=false)->Paired (bq H1) bQ bz->Q (.ref q) (upd H1 q (.lst bQ))
def GH (K:Zgc) (te:TE):TE:=fun σ H Q=>te σ H (Ia K Q)
theorem EF {te:TE}{σ:St}{H:Hp}{R:V->Hp->Prop}(h:te σ H R):i9 te i8 σ H fun vs H1=> ∃v,vs=[v]/\R v H1:=by
 have e0:(fun(v:V) (H1:Hp)=> ∃v':V,[v]=[v']/\R v' H1)=R:=by
  funext v H1
  refine propext ⟨fun⟨v',z,q⟩=> ?_,fun q=> ⟨v,rfl,q⟩⟩
  cases z
  exact q
 show te σ H (fun(v:V) (H1:Hp)=> ∃v':V,[v]=[v']/\R v' H1)
 rw[e0]
 exact h
theorem Eu {α β:Type}{R:α->β->Prop}{xs:List α}{ks:List β}{d:β}(pr:Paired R xs ks) {i:Nat}(hi:i<xs.length):R xs[i] (ks.getD i d):=by
 obtain⟨k,hk,r⟩:=ZV pr (Zai hi)
 rw[ZaM,hk]
 exact r
theorem Wa {α:Type} [DecidableEq α] {ks:List α}{d:α}(k:α):k∈HS.met (fun i=>ks.getD i d) ks.length↔k∈ks:=by
 rw[HS.xq]
 have e:(List.range ks.length).map (fun i=>ks.getD i d)=ks:=by
  refine ZcU (by simp) fun i h1 h2=> ?_
  rw[List.getElem_map,List.getElem_range,ZaM,Zai h2,Zcv]
 rw[e]
theorem Vg {e:Expr}{te:TE}{p p2 pos dr:Pos}(hc:X.calm=true) (hu:X.A.units+4<cLine) (hg:Gl X "sorted") (hm:X.mg "sorted" =none) (qt:Gl X "set") (iO:X.mg "set" =none) (he:PE X e te)
  (dz:starEach [e] X.env=[(false,eval e X.env)]:=by rfl):
  PE X (.Call (.Name "sorted" p) [.Call (.Name "set" p2) [e] [] dr] [] pos) (GH X.K te):=by
 intro pins s σ H Q I h
 have iK:starEach [.Call (.Name "set" p2) [e] [] dr] X.env=[(false,eval (.Call (.Name "set" p2) [e] [] dr) X.env)]:=rfl
 refine Za2 (ZU I hg hm boot_sorted ?_)
 refine ZbL ?_ iK rfl
 rw[iK]
 show wpAny _ _ (spliced ((false,eval (.Call (.Name "set" p2) [e] [] dr) X.env)::backTo pos (starEach [] X.env))) _ _ s
 refine Zcz ?_
 refine Za2 (ZU I qt iO boot_set ?_)
 refine Za1 (au (Za he Zb dz dr pins s σ H _ I (EF h)) fun us s1 ⟨vs,H1,I1,r1,q1⟩=> ?_) dz rfl
 obtain⟨v,rfl,l,ts,ks,rfl,hl,pr,aW,hn,q⟩:=q1
 obtain⟨u,rfl,ru⟩:=ZeN r1
 cases ru
 obtain⟨aa,rv,pl,hz⟩:=I1.list hl
 have ll:=rv.length
 have lk:=ZaA pr
 refine HC.Dw (knd:=KO X H1) (HC.Ci (HC.Cg _ _) _) (val:=fun i=>ks.getD i []) (items:=aa.toArray) (I1.ok.hd hc) (by show X.A.units+1+1+1<cLine;omega) pl.isList (fun i u cq=> ?_) (by rw[Zae];omega) fun h' tk hS hk=> ?_
 ·have gh:aa[i]? =some u:=by simpa using cq
  have hi:i<ts.length:=by rw[ll];exact(X8.mp gh).1
  obtain⟨u',e1,r2⟩:=rv.get (Zai hi)
  rw[gh]at e1
  cases e1
  obtain⟨a,ea,ha⟩:=Eu (d:=[]) pr hi
  rw[ea]at r2
  cases r2
  exact⟨a,rfl,DP I1 ha⟩
 ·have I2:Inv X pins σ H1 {s1 with heap:=h',toks:=tk} :=I1.kept fun b o eb=>hk b o (Zad eb) eb
  refine ZcH ?_
  have ez:aa.toArray.size=ks.length:=by rw[Zae,<-ll,lk]
  rw[ez]at hS
  have ml:=HS.pR (fun i=>ks.getD i []) ks.length
  refine JP I2 hc hS (HC.pQ _ _) (fun k hk=>aW k ((Wa k).mp hk)) .o fun q' bQ bz hq pm so jg=> ?_
  exact q q' bQ bz hq (pm.nodup_iff.mpr (HC.pQ _ _)) (fun k=>pm.mem_iff.trans (Wa k)) so jg
def zQ (H:Hp) (v:V) (k:List Int×List Int):Prop:=∃a b c:Addr,v=.ref a/\H a=some (.tup [.ref b,.ref c])/\H b=some (.tup (k.1.map V.int))/\H c=some (.tup (k.2.map V.int))
theorem IE {pins:List (Addr×Obj)}{σ:St}{H:Hp}{s:Shared}{v:V}{u:Value}{k:List Int×List Int}(I:Inv X pins σ H s) (h:zQ H v k) (r:RelV v u):∃a,u=.ref a/\HC.dq X.prog X.w s.heap k a:=by
 obtain⟨a,b,c,rfl,h1,h2,h3⟩:=h
 cases r
 obtain⟨us,rv,⟨o,ho,hc,n,hd⟩,_⟩:=I.tuple (ag.of h1)
 obtain⟨b',e1,x1⟩:=lK I ⟨b,rfl,h2⟩ (show RelV (.ref b) (.ref b) from rfl)
 obtain⟨c',e2,x2⟩:=lK I ⟨c,rfl,h3⟩ (show RelV (.ref c) (.ref c) from rfl)
 cases e1
 cases e2
 have eu:us=[.ref b,.ref c]:=by
  cases rv with
  |cons r1 r2=>
   cases r2 with
   |cons r3 r4=>
    cases r4
    cases r1
    cases r3
    rfl
 subst eu
 exact⟨a,rfl,o,n,b,c,ho,hc,hd,x1,x2⟩
def nY (ks:List (List Int×List Int)):Nat:=(HS.met (fun i=>ks.getD i ([],[])) ks.length).length
def Ij (K:Zgc) (Q:VK):V->Hp->Prop:=fun v H1=> ∃(l:Addr) (ts:List V) (ks:List (List Int×List Int)),v=.ref l/\ai K H1 l ts/\Paired (zQ H1) ts ks/\ts.length<=304/\Q (.int (nY ks)) H1
def uX (K:Zgc) (te:TE):TE:=fun σ H Q=>te σ H (Ij K Q)
theorem Wk {e:Expr}{te:TE}{p p2 pos dr:Pos}(hc:X.calm=true) (hu:X.A.units+5<cLine) (hg:Gl X "len") (hm:X.mg "len" =none) (qt:Gl X "set") (iO:X.mg "set" =none) (he:PE X e te)
  (dz:starEach [e] X.env=[(false,eval e X.env)]:=by rfl):
  PE X (.Call (.Name "len" p) [.Call (.Name "set" p2) [e] [] dr] [] pos) (uX X.K te):=by
 intro pins s σ H Q I h
 have iK:starEach [.Call (.Name "set" p2) [e] [] dr] X.env=[(false,eval (.Call (.Name "set" p2) [e] [] dr) X.env)]:=rfl
 refine Za2 (ZU I hg hm Zc6 ?_)
 refine ZbL ?_ iK rfl
 rw[iK]
 show wpAny _ _ (spliced ((false,eval (.Call (.Name "set" p2) [e] [] dr) X.env)::backTo pos (starEach [] X.env))) _ _ s
 refine Zcz ?_
 refine Za2 (ZU I qt iO boot_set ?_)
 refine Za1 (au (Za he Zb dz dr pins s σ H _ I (EF h)) fun us s1 ⟨vs,H1,I1,r1,q1⟩=> ?_) dz rfl
 obtain⟨v,rfl,l,ts,ks,rfl,hl,pr,hn,q⟩:=q1
 obtain⟨u,rfl,ru⟩:=ZeN r1
 cases ru
 obtain⟨aa,rv,pl,hz⟩:=I1.list hl
 have ll:=rv.length
 have lk:=ZaA pr
 refine HC.Dw (knd:=HC.Bf X.prog X.w) (HC.MV _ _) (val:=fun i=>ks.getD i ([],[])) (items:=aa.toArray) (I1.ok.hd hc) (by show X.A.units+1+1+1+1<cLine;omega) pl.isList (fun i u cq=> ?_) (by rw[Zae];omega) fun h' tk hS hk=> ?_
 ·have gh:aa[i]? =some u:=by simpa using cq
  have hi:i<ts.length:=by rw[ll];exact(X8.mp gh).1
  obtain⟨u',e1,r2⟩:=rv.get (Zai hi)
  rw[gh]at e1
  cases e1
  exact IE I1 (Eu (d:=([],[])) pr hi) r2
 ·have I2:Inv X pins σ H1 {s1 with heap:=h',toks:=tk} :=I1.kept fun b o eb=>hk b o (Zad eb) eb
  refine ZcH ?_
  obtain⟨o,es,ep,t,SP⟩:=hS
  have SH:=SP.b
  have sm:=SH.room.small
  refine call_len_set SH.ho SH.ex SH.hd (SH.T.fits (ZbD (Zcn SH.room.lt))) .o ?_
  have ez:(es.size:Int)=(nY ks:Int):=by
   rw[SH.sz]
   unfold nY
   rw[Zae,<-ll,lk]
  exact⟨.int (nY ks),H1,I2.tok _,⟨_,by rw[<-ez]⟩,q⟩
end
section
variable {prog:Program}{w:World}{A:Around}{E:Value->Shared->Prop}{s:Shared}{it d:Addr}{i n ep:Nat}{od:Obj}{es:Array DictEntry}
theorem Ss {en:DictEntry}{Q:Option Value->Shared->Prop}(hit:s.heap.IsKeyIter it d i n ep) (go:s.heap.get? d=some od) (gd:od.data=.dict es ep) (gn:es.size=n) (gx:es[i]? =some en)
  (hQ:∀h',h'.IsKeyIter it d (i+1) n ep->Heap.SameBut it s.heap h'->Q (some en.key) {s with heap:=h'}):wpAny (model prog w) A (pyNext (.ref it)) Q E s:=by
 obtain⟨o,ho,hc,hd⟩:=id hit
 unfold pyNext
 refine eg (ZcC (Za8 (name:=Str.ofString "__next__") hit.typeIs ZbX (ZaY ZbX hit.typeIs PySem.F.entry_dict_keyiterator_next ?_ (PySem.F.args_dict_keyiterator_next_1 _))))
 refine eg (X6 (eg (eg ?_)))
 first |refine eg (Zcd hit.typeIs (X6 ?_)) |refine eg (ZcM hit.typeIs (X6 ?_))
 refine eg (PySem.wpAny_fieldsOf ho hd ?_)
 have xX:Builtin.Dict_items.ownsTuple "dict_keyiterator" =false:=.d
 simp only[xX,Zak,Za0]
 show wpAny _ _ (if (Value.ref d==Value.none)=true then _ else _) _ _ s
 rw[Zav (show ¬((Value.ref d==Value.none)=true) from Zag)]
 refine eg (X6 (eg (PySem.wpAny_dictEntries go gd ?_)))
 rw[Zav (by rw[gn];simp)]
 refine eg (X6 (eg (PySem.wpAny_dictEpoch go gd ?_)))
 rw[Zav (by simp)]
 refine X6 ?_
 simp only[show ¬((i:Int)<0) from by omega,Za0,Za7,gx]
 refine eg ?_
 first |refine eg (Zcd hit.typeIs (X6 ?_)) |refine eg (ZcM hit.typeIs (X6 ?_))
 refine eg (wpAny_isOneOf_keyiter hit.typeIs ?_)
 show wpAny _ _ (setField (.ref it) 1 (rawInt ((i:Int)+1)) >>=_) _ _ s
 refine eg (Zcj ho hd (by simp) ?_)
 have oB:(s.heap.update it (Obj.mapFields (·.setIfInBounds 1 (rawInt ((i:Int)+1))))).IsKeyIter it d (i+1) n ep:=
  ⟨_,Zbq _ ho (ZcB (ZbB hd _)),(PySem.Obj.cls_mapFields ..).trans hc,by rw[ZbB hd];simp[rawInt]⟩
 refine eg (ZaO ?_)
 refine eg (wpAny_isOneOf_keyiter (s:= {s with heap:=s.heap.update it (Obj.mapFields (·.setIfInBounds 1 (rawInt ((i:Int)+1))))}) oB.typeIs ?_)
 show wpAny _ _ (pure en.key) _ _ _
 exact X6 (X6 ⟨_,rfl,X6 (hQ _ oB (ZaT ..))⟩)
theorem TQ {Q:Option Value->Shared->Prop}(hh:A.handled=none) (hit:s.heap.IsKeyIter it d i n ep) (go:s.heap.get? d=some od) (gd:od.data=.dict es ep) (gn:es.size=n) (mB:n<=i)
  (hQ:∀h',Heap.ExtBut it s.heap h'->Q none {s with heap:=h'}):wpAny (model prog w) A (pyNext (.ref it)) Q E s:=by
 obtain⟨o,ho,hc,hd⟩:=id hit
 unfold pyNext
 refine eg (ZcC (Za8 (name:=Str.ofString "__next__") hit.typeIs ZbX (ZaY ZbX hit.typeIs PySem.F.entry_dict_keyiterator_next ?_ (PySem.F.args_dict_keyiterator_next_1 _))))
 refine eg (X6 (eg (eg ?_)))
 first |refine eg (Zcd hit.typeIs (X6 ?_)) |refine eg (ZcM hit.typeIs (X6 ?_))
 refine eg (PySem.wpAny_fieldsOf ho hd ?_)
 have xX:Builtin.Dict_items.ownsTuple "dict_keyiterator" =false:=.d
 simp only[xX,Zak,Za0]
 show wpAny _ _ (if (Value.ref d==Value.none)=true then _ else _) _ _ s
 rw[Zav (show ¬((Value.ref d==Value.none)=true) from Zag)]
 refine eg (X6 (eg (PySem.wpAny_dictEntries go gd ?_)))
 rw[Zav (by rw[gn];simp)]
 refine eg (X6 (eg (PySem.wpAny_dictEpoch go gd ?_)))
 rw[Zav (by simp)]
 refine X6 ?_
 simp only[show ¬((i:Int)<0) from by omega,Za0,Za7,Array.getElem?_eq_none (show es.size<=i by omega)]
 refine eg ?_
 first |refine eg (Zcd hit.typeIs (X6 ?_)) |refine eg (ZcM hit.typeIs (X6 ?_))
 show wpAny _ _ (setField (.ref it) 0 .none >>=_) _ _ s
 refine eg (Zcj ho hd (by simp) ?_)
 show wpAny _ _ (newExc (.type "StopIteration") [] >>=_) _ _ _
 refine eg ?_
 simp only[newExc,newTuple]
 refine eg (ZaX ?_ (by size_fits))
 refine eg (m:=firstArgMember _ _) (Zdm (a:=Value.none) (by first |rfl |(simp only[firstArgMember];rfl)) ?_)
 refine ZaX ?_ (by size_fits)
 simp only[raiseNew]
 refine eg (PySem.wpAny_handled ?_)
 rw[show A.in1.handled=none from hh]
 refine eg (X6 (PySem.wpAny_throw ?_))
 refine eg (Zcy (T:= "StopIteration") (b:=true) ⟨_,Zaf _ rfl,rfl⟩ PySem.isSubtype_stop ?_)
 exact X6 (hQ _ (((ZaT ..).extBut.push _).push _))
theorem TH {Q:Value->Shared->Prop}(sm:(d==sysModules)=false) (g:s.heap.get? d=some od) (ex:od.cls=.type "dict") (gd:od.data=.dict es ep)
  (q:Q (.ref s.heap.objs.size) {s with heap:=s.heap.push {cls:=.type "dict_keyiterator",data:=.fields #[.ref d,.int 0 0,.int es.size 0,.int ep 0]} }):wpAny (model prog w) A (pyIter (.ref d)) Q E s:=by
 have hT:s.TypeIs (.ref d) "dict" :=⟨od,g,ex⟩
 refine PySem.wpAny_pyIter_slot hT F.slot_dict_iter (ZaY F.slot_dict_iter hT F.entry_dict_iter ?_ (F.args_dict_iter_1 _))
 unfold Builtin.«dict.__iter__» Builtin.Dict.dictSlotNone
 refine eg (eg (wpAny_notOrdered_dict hT ?_))
 show wpAny _ _ (pure (Value.ref d)) _ _ s
 refine X6 ?_
 show wpAny _ _ (Builtin.Dict.showsAll d >>=_) _ _ s
 unfold Builtin.Dict.showsAll
 rw[Zav (by rw[sm];exact Zag)]
 refine eg (X6 (eg (PySem.wpAny_dictEntries g gd (eg (PySem.wpAny_dictEpoch g gd ?_)))))
 refine eg (ZaX (X6 ⟨_,rfl, "dict_keyiterator",_,⟨_,Zaf _ rfl,rfl⟩,ZbX.lookup,?_⟩))
 simpa[rawInt] using q
theorem Vv (hh:A.handled=none) (I d:Addr) (aW:d≠I) (gd:od.data=.dict es ep):
  Walks prog w A I [I,d] [I] es.size (fun i v=> ∃en,es[i]? =some en/\en.key=v) (fun i h=>h.IsKeyIter I d i es.size ep/\h.get? d=some od) where
 sub:=fun b hb=>by simp at hb;simp[hb]
 frame:=fun _ _ _ st hk=> ⟨st.1.at fun o e=>hk I (by simp) o e,hk d (by simp) _ st.2⟩
 item:=fun i s Q E hi st hQ=>by
  refine Ss st.1 st.2 gd rfl (ZaE hi) fun h' oB BW=> ?_
  exact hQ _ h' s.toks ⟨_,ZaE hi,rfl⟩ ⟨oB,BW.extBut d _ aW st.2⟩ fun b o hb e=>BW.extBut b o (fun h=>hb (by simp[h])) e
 done:=fun s Q E st hQ=>TQ hh st.1 st.2 gd rfl (Zal _) fun h' Nf=>hQ h' s.toks fun b o hb e=>Nf b o (fun h=>hb (by simp[h])) e
 self:=fun _ _ _ _ st hQ=>wpAny_pyIter_keyiter st.1 hQ
theorem RQ (sm:(d==sysModules)=false) (ex:od.cls=.type "dict") (gd:od.data=.dict es ep):PySem.W.KdlSrc prog w "dict" d d es.size (fun i v=> ∃en,es[i]? =some en/\en.key=v) (fun h=>h.get? d=some od) where
 type:=fun _ hm=> ⟨od,hm,ex⟩
 there:=fun _ hm=> ⟨Zad hm,Zad hm⟩
 keep:=fun _ _ hm hk=>hk d (.inl rfl) _ hm
 notList:=.d
 notTuple:=.d
 hint:=fun _ _ _ _ hm hq=>PySem.W.kdl_hint_dict ⟨od,hm,ex⟩ hq
 iter:=fun _ _ hh hm=> ⟨_,_,(fun _ _ hq=>TH sm hm ex gd hq),Vv hh _ d (Zan (Zad hm)) gd,⟨⟨_,Zaf _ rfl,rfl,rfl⟩,X7 _ hm⟩⟩
theorem Pg {Q:List Value->Shared->Prop}(hh:A.handled=none) (sm:(d==sysModules)=false) (g:s.heap.get? d=some od) (ex:od.cls=.type "dict") (gd:od.data=.dict es ep) (hz:es.size<=sizeLine)
  (h:∀h' tk acc,(∀b o,s.heap.get? b=some o->h'.get? b=some o)->s.heap.objs.size<=h'.objs.size->ItemsOf (fun i v=> ∃en,es[i]? =some en/\en.key=v) acc es.size->Q acc.toList {s with heap:=h',toks:=tk}):wpAny (model prog w) A (collect (.ref d)) Q E s:=by
 have ar:d<s.heap.objs.size:=Zad g
 unfold collect
 refine eg (PySem.wpAny_runValue (Za3 F.entry_proto_collect ?_))
 rw[ZaP F.plain_proto_collect _]
 refine(show wpAny _ A.in1 (newList [] >>=fun l=>again (.builtin "list.__iadd__" ⟨[l,.ref d],[]⟩)) _ _ s from eg (ZaX ?_))
 refine X6 ⟨Zbr ZdR _,Za3 F.entry_list_iadd ?_⟩
 rw[ZaP ZdR _]
 generalize hL:s.heap.objs.size=L
 rw[hL]at ar
 have gL:(s.heap.push {cls:=.type "list",data:=.seq ([]:List Value).toArray}).get? L=some {cls:=.type "list",dict:=none,data:=.seq #[] 0,slots:= #[]} :=by rw[<-hL];exact Zaf _ rfl
 show wpAny _ A.in1 (Builtin.List.listExtendWith (.ref L) (.ref d) (.ref L)) _ _ _
 refine PySem.W.kdl_extend (R:=wants (fun v s2=>wpAny (model prog w) A (_) Q E s2) E) (s:= {s with heap:=s.heap.push {cls:=.type "list",data:=.seq ([]:List Value).toArray} }) (RQ sm ex gd) hh (X7 _ g) L (ZbZ ar) (ZbZ ar) (.ref L) 0 gL (fun h' tk acc c k1 e it=> ?_) hz
 show wpAny _ A (load L >>=_) _ _ _
 refine eg (wpAny_load e ?_)
 refine X6 (h h' tk acc (fun b ob eb=>k1 b ob (by rw[<-hL];exact Zan (Zad eb)) (X7 _ eb)) (by rw[hL];exact ZbD (Zad e)) it)
end
section
variable {X:Cx}
theorem Ee {F:List Key×V->List Key×Addr×Value->Prop} :∀{ae:List (List Key×V)}{xs:List (List Key×Addr×Value)},Paired (fun p q=>p.1=q.1/\F p q) ae xs->xs.map (·.1)=ae.map (·.1)
 |_,_,.nil=>rfl
 |_,_,.cons h r=>by rw[ZaR,ZaR,Ee r,h.1]
theorem zG (k:List Int):(k.map Sum.inl:List Key).map kV=k.map V.int:=by rw[Zb0];rfl
theorem Jr (hc:X.calm=true:=by rfl):fc X (.builtin "sorted") (fun xs H Q=> ∃(d:Addr) (ae:List (List Key×V)) (ks:List (List Int)),xs=[.ref d]/\H d=some (.dT ae)/\ae.map (·.1)=ks.map (fun k=>k.map Sum.inl)/\(∀k∈ks,k≠[])/\ks.length<64/\
  ∀(q:Addr) (bQ:List V) (bz:List (List Int)),H q=none->bz.Perm ks->bz.Pairwise (fun a b=>av b a=false)->Paired (bq H) bQ bz->Q (.ref q) (upd H q (.lst bQ))):=by
 intro pins s σ H xs us Q I r h
 obtain⟨d,ae,ks,rfl,hd,ek,aW,hl,q⟩:=h
 obtain⟨u,rfl,ru⟩:=ZeN r
 cases ru
 obtain⟨z,sm,xs,pr,od,es,ep,g1,g2,g3,g4,g5⟩:=(show bt X.prog X.w H s.heap d (.dT ae) from I.ak d _ hd)
 have lx:=ZaA pr
 have lk:ae.length=ks.length:=by have:=Zce List.length ek;simpa using this
 have gn:es.size=ks.length:=by rw[<-lk,lx,<-Zas,g4,Zac]
 have cZ:∀(j:Nat) (k:List Int),ks[j]? =some k->∃a,(es[j]?).map (·.key)=some (.ref a)/\H a=some (.tup (k.map V.int)):=fun j k hk=>by
  have h1:(ae.map (·.1))[j]? =some (k.map Sum.inl):=by rw[ek,ZaH,hk];rfl
  rw[ZaH]at h1
  obtain⟨kv,yi,e1⟩:=ZaB.mp h1
  obtain⟨q',cW,p1,p2,p3⟩:=ZV pr yi
  refine⟨q'.2.1,?_,?_⟩
  ·rw[<-Za6,g4,ZaH,cW]
   rfl
  ·rw[p2,e1,zG]
 have nd:ks.Nodup:=by
  rw[Ee pr,ek]at g5
  exact ZaQ.mpr ((Zbx.mp (ZaQ.mp g5)).imp fun h e=>h (by rw[e]))
 refine W7 I nd aW hl (fun E Q' hQ=> ?_) q
 refine Pg (show X.A.in1.handled=none from I.ok.hd hc) sm g1 g2.1 g3 (by rw[gn,Zau];omega) fun h1 tk acc k1 hle it=> ?_
 refine hQ h1 tk acc.toList k1 hle (fun u hu=> ?_) (fun k hk=> ?_) (by rw[Zas,it.1,gn])
 ·obtain⟨j,hj⟩:=List.getElem?_of_mem hu
  have jY:acc[j]? =some u:=by rw[<-Za6];exact hj
  obtain⟨en,e1,e2⟩:=it.2 j u jY
  have ar:j<ks.length:=by rw[<-gn];exact(ZaN.mp e1).1
  obtain⟨a,b1,b2⟩:=cZ j _ (Zai ar)
  rw[e1]at b1
  refine⟨a,_,?_,Zcx ar,b2⟩
  rw[<-e2]
  exact ZaV b1
 ·obtain⟨j,hj⟩:=List.getElem?_of_mem hk
  obtain⟨a,b1,b2⟩:=cZ j k hj
  obtain⟨en,e1,e2⟩:=ZaB.mp b1
  have ar:j<acc.size:=by rw[it.1];exact(ZaN.mp e1).1
  obtain⟨XT,f1,f2⟩:=it.2 j _ (ZaE ar)
  rw[e1]at f1
  cases f1
  refine⟨a,?_,b2⟩
  rw[<-e2,f2,<-Array.getElem_toList (h:=ar)]
  exact Zcx _
end
end L2
namespace HC
open PySem PySem.SetTable PySem.Spec HS
section
variable {prog:Program}{w:World}{K:Type} [DecidableEq K] {knd:HeapKind prog w K}{A:Around}{E:Value->Shared->Prop}{s:Shared}
theorem Pk (hp:kC knd) {S x:Addr}{k:K}{ks:List K}{Q:Value->Shared->Prop}(hroom:knd.room A.in1) (hx:knd.is s.heap k x) (H:fq knd s.heap S ks) (hn:ks.length+1<=306)
  (h:∀h',Heap.SameBut S s.heap h'->fq knd h' S (if k∈ks then ks else ks++[k])->Q .none {s with heap:=h',toks:=s.toks+knd.draws k}):
  wpAny (model prog w) A (call (.builtin "set.add") [.ref S,.ref x]) Q E s:=by
 have hT:s.TypeIs (.ref S) "set" :=let ⟨o,es,ep,t,X⟩:=H;⟨o,X.b.ho,X.b.ex.1⟩
 refine ZaY F.slot_set_add hT F.entry_set_add ?_ (F.args_set_add_2 _ _)
 unfold Builtin.«set.add» Builtin.Frozenset.oneOther
 simp only[List.isEmpty_nil,bind_assoc]
 unfold Builtin.Frozenset.addrOf setAdd
 refine eg (X6 ?_)
 try dsimp only
 refine eg (X6 ?_)
 try dsimp only
 refine eg ?_
 refine ZaO ?_
 refine eg (knd.pyHash hroom hx ?_)
 refine EU (s:= {s with toks:=s.toks+knd.draws k}) hp hroom hx H hn fun h' b sb jz=> ?_
 show wpAny _ _ (ret Value.none) _ _ _
 exact X6 ⟨_,rfl,h h' sb jz⟩
theorem KJ {Q:Value->Shared->Prop}(h:Q (.ref s.heap.objs.size) {s with heap:=s.heap.push (cV (!(w.params.followText "set-order")))}):wpAny (model prog w) A (newSet (.type "set")) Q E s:=by
 unfold newSet setsByText
 refine eg (eg (Zcc (X6 ?_)))
 dsimp only
 simp only[newObj]
 exact eg (wpAny_alloc (X6 h))
end
end HC
namespace L2.ST
open PySem PySem.Spec PyProof.Rows
def enc (as:List (Addr×List Int)):List V:=as.flatMap fun p=> .ref p.1::p.2.map V.int
theorem YO (p:Addr×List Int) (as:List (Addr×List Int)):enc (p::as)=.ref p.1::(p.2.map V.int++enc as):=rfl
theorem Fz (as:List (Addr×List Int)):enc as=[]∨∃a l,enc as=V.ref a::l:=by
 cases as with
 |nil=>exact .inl rfl
 |cons p as=>exact .inr ⟨_,_,YO p as⟩
theorem FK:∀{k l:List Int}{x y:List V},(x=[]∨∃a r,x=V.ref a::r)->(y=[]∨∃a r,y=V.ref a::r)->k.map V.int++x=l.map V.int++y->k=l/\x=y
 | [],[],x,y,_,_,h=> ⟨rfl,h⟩
 | [],i::l,x,y,hx,_,h=>by
  have h':x=V.int i::(l.map V.int++y):=h
  rcases hx with e |⟨a,r,e⟩<;>rw[e]at h'<;>cases h'
 |i::k,[],x,y,_,hy,h=>by
  have h':V.int i::(k.map V.int++x)=y:=h
  rcases hy with e |⟨a,r,e⟩<;>rw[e]at h'<;>cases h'
 |i::k,j::l,x,y,hx,hy,h=>by
  have h':V.int i::(k.map V.int++x)=V.int j::(l.map V.int++y):=h
  injection h' with h1 h2
  injection h1 with h1
  obtain⟨e1,e2⟩:=FK hx hy h2
  exact⟨by rw[h1,e1],e2⟩
theorem UW:∀{as bs:List (Addr×List Int)},enc as=enc bs->as=bs
 | [],[],_=>rfl
 | [],b::bs,h=>by rw[YO]at h;cases h
 |a::as,[],h=>by rw[YO]at h;cases h
 |a::as,b::bs,h=>by
  rw[YO,YO]at h
  injection h with h1 h2
  injection h1 with h1
  obtain⟨e1,e2⟩:=FK (Fz as) (Fz bs) h2
  rw[UW e2,show a=b from Prod.ext h1 e1]
def fh (ks:List (List Int)):List (List Int):=ks.foldl (fun acc k=>if k∈acc then acc else acc++[k]) []
theorem xy (ks:List (List Int)) (k:List Int):fh (ks++[k])=if k∈fh ks then fh ks else fh ks++[k]:=by
 unfold fh
 rw[List.foldl_append]
 rfl
theorem lX:∀(n:Nat) (ks:List (List Int)),ks.length=n->(fh ks).Nodup/\(∀k,k∈fh ks↔k∈ks)/\(fh ks).length<=ks.length
 |0,ks,h=>by
  have:ks=[]:=List.eq_nil_of_length_eq_zero h
  subst this
  exact⟨.nil,fun _=>Iff.rfl,Zal _⟩
 |n+1,ks,h=>by
  have aW:ks≠[]:=fun z=>by rw[z]at h;cases h
  have e:ks=ks.dropLast++[ks.getLast aW]:=(List.dropLast_concat_getLast aW).symm
  obtain⟨p1,p2,p3⟩:=lX n ks.dropLast (by rw[List.length_dropLast];omega)
  have l1:ks.dropLast.length=n:=by rw[List.length_dropLast];omega
  generalize ks.dropLast=l at *
  generalize ks.getLast aW=x at *
  subst e
  rw[xy]
  split
  ·rename_i hx
   refine⟨p1,fun k=> ?_,by rw[Zam];omega⟩
   rw[p2,ZaG,Zao]
   constructor
   ·exact .inl
   ·rintro(h |rfl)
    ·exact h
    ·exact(p2 _).mp hx
  ·rename_i hx
   refine⟨Zcp.mpr ⟨p1,by simp,fun a ha b hb e=>hx (by rw[Zao]at hb;rw[<-hb,<-e];exact ha)⟩,fun k=> ?_,by rw[Zam,Zam];simp;omega⟩
   rw[ZaG,ZaG,p2]
abbrev qg (P:Program) (w:World) (k:List Int):Int:=tupleKeyHash (intKind P w) k
structure Core (P:Program) (w:World) (h:Heap) (D:Addr) (as:List (Addr×List Int)) (o:Obj) (es:Array (Int×Value)) (ep:Nat) (t:SetTable):Prop where
 c:HC.gB w h D o es ep t
 el:∀e∈es.toList,∃p∈as,e=(qg P w p.2,Value.ref p.1)
 all:∀p∈as,∃p'∈as,p'.2=p.2/\(qg P w p'.2,Value.ref p'.1)∈es.toList
 sz:es.size=(fh (as.map (·.2))).length
def AccAt (P:Program) (w:World) (h:Heap) (D:Addr) (ys:List V):Prop:=∃as,ys=enc as/\as.length<=63/\∃o es ep t,Core P w h D as o es ep t
theorem AccAt.obj {P:Program}{w:World}{h:Heap}{D:Addr}{ys:List V}(a:AccAt P w h D ys):∃o,h.get? D=some o/\(∀v,o.data≠.cell v)/\∀h':Heap,h'.get? D=some o->AccAt P w h' D ys:=by
 obtain⟨as,e,hl,o,es,ep,t,X⟩:=a
 refine⟨o,X.c.ho,fun v z=> ?_,fun h' q=> ⟨as,e,hl,o,es,ep,t,⟨q,X.c.ex,X.c.hd,X.c.T,X.c.R,X.c.pl,X.c.ld⟩,X.el,X.all,X.sz⟩⟩
 rw[X.c.hd]at z
 cases z
theorem AccAt.keep {P:Program}{w:World}{h h':Heap}{D:Addr}{ys:List V}(a:AccAt P w h D ys) (k:∀o,h.get? D=some o->h'.get? D=some o):AccAt P w h' D ys:=by
 obtain⟨o,e,_,kp⟩:=a.obj
 exact kp _ (k _ e)
theorem Core.set {P:Program}{w:World}{h:Heap}{D:Addr}{as:List (Addr×List Int)}{o:Obj}{es:Array (Int×Value)}{ep:Nat}{t:SetTable}(X:Core P w h D as o es ep t) {ok:Addr->Prop}(hi:∀p∈as,(HC.restrict (tupleKind (intKind P w)) ok).is h p.2 p.1):HC.fq (HC.restrict (tupleKind (intKind P w)) ok) h D (fh (as.map (·.2))):=by
 obtain⟨_,km,_⟩:=lX _ (as.map (·.2)) rfl
 refine⟨o,es,ep,t,⟨X.c.ho,X.c.ex,X.c.hd,X.c.T,X.c.R,fun e he=> ?_,fun k hk=> ?_,X.sz⟩,X.c.pl,X.c.ld⟩
 ·obtain⟨p,hp,rfl⟩:=X.el e he
  exact⟨p.2,(km _).mpr (Zb3 hp),p.1,rfl,hi p hp,rfl⟩
 ·obtain⟨p,hp,rfl⟩:=ZaC.mp ((km _).mp hk)
  obtain⟨p',qi,e2,he⟩:=X.all p hp
  exact⟨_,he,p'.1,rfl,e2▸hi p' qi,by rw[e2];rfl⟩
section
variable {X:Cx}
abbrev KA (X:Cx) (H:Hp) (as:List (Addr×List Int)):HeapKind X.prog X.w (List Int):=HC.restrict (tupleKind (intKind X.prog X.w)) fun a=> ∃k,(a,k)∈as/\H a=some (.tup (k.map V.int))
theorem DO {pins:List (Addr×Obj)}{σ:St}{H:Hp}{s:Shared}{as:List (Addr×List Int)}{k:List Int}{a:Addr}(I:Inv X pins σ H s) (h:(KA X H as).is s.heap k a):(a,k)∈as:=by
 obtain⟨⟨k',m,h'⟩,x⟩:=h
 obtain⟨a',e,y⟩:=lK I ⟨a,rfl,h'⟩ (show RelV (.ref a) (.ref a) from rfl)
 cases e
 rw[x.inj y]
 exact m
theorem DN {pins:List (Addr×Obj)}{σ:St}{H:Hp}{s:Shared}{as:List (Addr×List Int)}{k:List Int}{a:Addr}(I:Inv X pins σ H s) (m:(a,k)∈as) (h:H a=some (.tup (k.map V.int))):(KA X H as).is s.heap k a:=by
 obtain⟨a',e,y⟩:=lK I ⟨a,rfl,h⟩ (show RelV (.ref a) (.ref a) from rfl)
 cases e
 exact⟨⟨k,m,h⟩,y⟩
theorem Q7 {pins:List (Addr×Obj)}{σ:St}{H:Hp}{s:Shared}{D:Addr}{as:List (Addr×List Int)}(I:Inv X pins σ H s) (hS:HC.fq (KA X H as) s.heap D (fh (as.map (·.2)))):∃o es ep t,Core X.prog X.w s.heap D as o es ep t:=by
 obtain⟨o,es,ep,t,P⟩:=hS
 obtain⟨_,km,_⟩:=lX _ (as.map (·.2)) rfl
 refine⟨o,es,ep,t,P.core,fun e he=> ?_,fun p hp=> ?_,P.b.sz⟩
 ·obtain⟨k,hk,a,e1,e2,e3⟩:=P.b.el e he
  exact⟨(a,k),DO I e2,Prod.ext e3 e1⟩
 ·obtain⟨e,he,a,e1,e2,e3⟩:=P.b.all p.2 ((km _).mpr (Zb3 hp))
  refine⟨(a,p.2),DO I e2,rfl,?_⟩
  have:e=(qg X.prog X.w p.2,Value.ref a):=Prod.ext e3 e1
  rw[<-this]
  exact he
end
def gC (Y:Cx) (D:Addr) (m:Sem PySem.Fin->Sem PySem.Fin) (t:TC):Prop:=
 ∀(pins:List (Addr×Obj)) (s:Shared) (σ:St) (H:Hp) (ys:List V) (Q:List V->St->Hp->Prop) (k:Sem PySem.Fin) (R:PySem.Fin->Shared->Prop),Inv Y pins σ H s->aH Y pins H D->AccAt Y.prog Y.w s.heap D ys->t ys σ H Q->
  (∀s' aV aj H',Inv Y pins aj H' s'->aH Y pins H' D->AccAt Y.prog Y.w s'.heap D aV->Q aV aj H'->wpAny (model Y.prog Y.w) Y.A k R (fun _ _=>False) s')->wpAny (model Y.prog Y.w) Y.A (m k) R (fun _ _=>False) s
section
variable {Y:Cx}{D:Addr}
def pe (te:TE):TC:=fun ys σ H Q=>te σ H fun v H1=> ∃(as:List (Addr×List Int)) (a:Addr) (k:List Int),ys=enc as/\v=.ref a/\H1 a=some (.tup (k.map V.int))/\(∀p∈as,H1 p.1=some (.tup (p.2.map V.int)))/\as.length<63/\Q (enc (as++[(a,k)])) σ H1
theorem AccAt.fE {P:Program}{w:World}{h:Heap}{ys:List V}(a:AccAt P w h D ys):∀b∈[D],∃o,h.get? b=some o/\∀v,o.data≠.cell v:=fun b hb=>by
 have e:b=D:=by simpa using hb
 subst e
 obtain⟨o,e,nc,_⟩:=a.obj
 exact⟨o,e,nc⟩
theorem AccAt.through {P:Program}{w:World}{h:Heap}{pins:List (Addr×Obj)}{aj:St}{H':Hp}{s':Shared}{ys:List V}(a:AccAt P w h D ys) (I:Inv Y (pins++fg [D] h) aj H' s'):AccAt P w s'.heap D ys/\H' D=none:=by
 obtain⟨o,e,_,kp⟩:=a.obj
 have q:=I.pin (D,_) (Zah _ (Zah _ (Zu (Zao.mpr rfl) e)))
 exact⟨kp _ q.1,q.2.1⟩
theorem bL {elt:Expr}{te:TE}(hu:Y.A.units+1<cLine) (hx:Y.xe=fun _ _=>False) (he:PE Y elt te):
    gC Y D (fun k=> (do let v <-eval elt Y.env;standAt elt.pos;let _ <-call (.builtin "set.add") [.ref D,v]) >>=fun _=>k) (pe te):=by
  intro pins s σ H ys Q k R I f a h hk
  refine eg (ZaL (Q:=fun _ s'=> ∃aV aj H',Inv Y pins aj H' s'/\aH Y pins H' D/\AccAt Y.prog Y.w s'.heap D aV/\Q aV aj H') ?_ (fun _ s' ⟨aV,aj,H',q1,q2,q3,q4⟩=>hk s' aV aj H' q1 q2 q3 q4) fun _ _ z=>z)
  have I':=I.pinned (fp:=[D]) (fun b hb=>by have e:b=D:=by simpa using hb
                                            subst e;exact f) a.fE
  refine eg (ZaL (he _ s σ H _ I' h) (fun u s1 ⟨v,H1,I1,ru,ik,x,k0,ey,ev,BO,aM,hlen,q⟩=> ?_) fun e s1 z=>by rw[hx]at z;exact z)
  subst ev
  cases ru
  obtain⟨⟨as,e,hl,o,es,ep,t,CO⟩,n1⟩:=a.through I1
  rw[ey]at e
  have:=UW e
  subst this
  have f1:aH Y pins H1 D:=⟨n1,f.2⟩
  have Ab:=I1.eD
  have XU:∀p∈ik++[(x,k0)],H1 p.1=some (.tup (p.2.map V.int)):=fun p hp=>by
    rcases ZaG.mp hp with hp |hp
    · exact aM p hp
    · rw[Zao.mp hp];exact BO
  have hS:=CO.set (ok:=fun a=> ∃k,(a,k)∈ik++[(x,k0)]/\H1 a=some (.tup (k.map V.int))) fun p hp=>DN Ab (Zbb _ hp) (aM p hp)
  have kl:=(lX _ (ik.map (·.2)) rfl).2.2
  rw[Zac]at kl
  refine eg (Zcf (eg (HC.Pk (HC.Ci (HC.Cg _ _) _) (by exact hu) (DN Ab (Zah _ (Zao.mpr rfl)) BO) hS .o fun h' sb jz=>X6 ?_)))
  obtain⟨f0,g1,g2,g3,g4,g5⟩:=f1
  have I2:Inv Y pins σ H1 {s1 with heap:=h',toks:=s1.toks+(HC.restrict (tupleKind (intKind Y.prog Y.w)) fun a=> ∃k,(a,k)∈ik++[(x,k0)]/\H1 a=some (.tup (k.map V.int))).draws k0} :=Ab.turned (it:=D) (fun b o hb eb=> (sb.2 b hb).trans eb) f0 g1 g3 g4 g5
  have lA:HC.fq (KA Y H1 (ik++[(x,k0)])) h' D (fh ((ik++[(x,k0)]).map (·.2))):=by
    rw[show(ik++[(x,k0)]).map (·.2)=ik.map (·.2)++[k0] by rw[Zax];rfl,xy]
    by_cases hm:k0∈fh (ik.map (·.2))
    · rw[Zay hm]at jz |-;exact jz
    · rw[Zav hm]at jz |-;exact jz
  exact⟨_,σ,H1,I2,⟨f0,g1,g2,g3,g4,g5⟩,⟨ik++[(x,k0)],rfl,by rw[Zam];show ik.length+1<=63;omega,Q7 I2 lA⟩,q⟩
def inner (elt:Expr) (gens:List Comprehension) (scope:Scope) (pos:Pos) (d:Nat) (acc:Value) (env:Env) (k:Sem PySem.Fin):Sem PySem.Fin:=
 match gens[d+1]? with
 |some g'=>eval g'.iter env >>=fun x=>standAt g'.iter.pos >>=fun _=>foldedSetIterable g'.iter env x >>=fun x=>holding [x] (pyIter x) >>=fun fY=>
  runOwn (.compStart (.SetComp elt gens scope pos) (d+1) fY acc env) env >>=fun _=>k
 |none=> (do let v <-eval elt env;standAt elt.pos;let _ <-call (.builtin "set.add") [acc,v]) >>=fun _=>k
set_option maxHeartbeats 400000 in
theorem zo (elt tg iter:Expr) (ifs:List Expr) (gens:List Comprehension) (scope:Scope) (pos:Pos) (d:Nat) (it acc:Value) (env:Env) (hg:gens[d]? =some ⟨tg,iter,ifs,0⟩) (h2:∀g',gens[d+1]? =some g'->g'.is_async=0):
  compTurn (.SetComp elt gens scope pos) d it acc env=(standAt iter.pos >>=fun _=>pyNext it >>=fun r=>match r with
   |none=>pure (.done .next)
   |some v=>letOwnedTupleGo tg it v >>=fun _=>assign tg env v >>=fun _=>uS ifs env >>=fun ok=>
    if ok=true then inner elt gens scope pos d acc env (again (.compLoop (.SetComp elt gens scope pos) d it acc env)) else again (.compLoop (.SetComp elt gens scope pos) d it acc env)):=by
 unfold compTurn inner
 dsimp only
 rw[hg]
 generalize hn:gens[d+1]? =o
 cases o with
 |none=>rfl
 |some g'=>
  have e:=h2 g' hn
  obtain⟨t',i',f',a'⟩:=g'
  have e':a'=0:=e
  subst e'
  rfl
theorem uy {elt tg iter:Expr}{ifs:List Expr}{gens:List Comprehension}{scope:Scope}{pos:Pos}{d:Nat}{it:Addr}{fp:List Addr}{tn:Nat->Heap->Prop}{J:It}{g:TG}{tt:TT}{ti:TC}{pins:List (Addr×Obj)}{s:Shared}{σ:St}{H:Hp}{ys:List V}{Q:List V->St->Hp->Prop}
    (hx:Y.xe=fun _ _=>False) (hc:Y.calm=true) (hg:gens[d]? =some ⟨tg,iter,ifs,0⟩) (T:Turn Y.prog Y.w Y.K tg J fp it tn) (hf:∀b∈fp,aH Y pins H b) (st:tn 0 s.heap) (hD:D∉fp)
    (h2:∀g',gens[d+1]? =some g'->g'.is_async=0) (pg:PG Y tg g) (pt:jF Y ifs tt) (pi:gC Y D (inner elt gens scope pos d (.ref D) Y.env) ti)
    (I:Inv Y pins σ H s) (f:aH Y pins H D) (a:AccAt Y.prog Y.w s.heap D ys) (h:fT g tt ti J ys σ H Q):
    codeAny (model Y.prog Y.w) Y.A (.compLoop (.SetComp elt gens scope pos) d (.ref it) (.ref D) Y.env) (fun r s'=>match r with
      | .ok _=> ∃aV aj H',Inv Y pins aj H' s'/\aH Y pins H' D/\AccAt Y.prog Y.w s'.heap D aV/\Q aV aj H'
      | .error _=>False) s:=by
  obtain⟨W,⟨m0,w0⟩,turn⟩:=h
  have stat:∀{H':Hp},(∀b∈fp,H' b=none)->∀b∈fp,aH Y pins H' b:=fun hn b hb=> ⟨hn b hb,(hf b hb).2⟩
  refine codeAny_loop rfl (fun n s'=> ∃i aV aj H',Inv Y pins aj H' s'/\aH Y pins H' D/\AccAt Y.prog Y.w s'.heap D aV/\tn i s'.heap/\(∀b∈fp,H' b=none)/\W i n aV aj H') (fun n s3 hI=> ?_) m0 ⟨0,ys,σ,H,I,f,a,st,fun b hb=> (hf b hb).1,w0⟩
  obtain⟨i,iz,eC,H3,I3,f3,a3,fw,oH,w3⟩:=hI
  show wpAny _ Y.A ((compTurn (.SetComp elt gens scope pos) d (.ref it) (.ref D) Y.env).onRaise (fun x=>do noteFrame x Y.env;theTreesLotGoes x)) _ _ s3
  refine wpAny_noted (ZaL (E:=fun _ _=>False) ?_ (fun _ _ q=>q) fun _ _ z=>z.elim)
  rw[zo elt tg iter ifs gens scope pos d (.ref it) (.ref D) Y.env hg h2]
  refine eg (Zcf (eg ?_))
  have aD:∀{h h':Heap},(∀b o,b∉fp->h.get? b=some o->h'.get? b=some o)->∀{zs},AccAt Y.prog Y.w h D zs->AccAt Y.prog Y.w h' D zs:=fun k _ q=>q.keep fun o e=>k D o hD e
  have rj:=I3.pinned (fp:=[D]) (fun b hb=>by have e:b=D:=by simpa using hb
                                             subst e;exact f3) a3.fE
  have pj:∀b∈fp,aH Y (pins++fg [D] s3.heap) H3 b:=fun b hb=>by
    obtain⟨g0,g1,g2,g3,g4,g5⟩:=stat oH b hb
    refine⟨g0,g1,g2,g3,g4,fun p hp=> ?_⟩
    rcases ZaG.mp hp with z |z
    · exact g5 p (Zbb _ z)
    · rcases ZaG.mp z with z |z
      · exact g5 p (Zah _ z)
      · intro q
        have e:p.1=D:=by simpa using (Yw z).1
        exact hD (by rw[<-e,q];exact hb)
  rcases turn i n iz eC H3 w3 with ⟨stop,qn⟩ |⟨go,N,hN,step⟩
  · refine ZaL (T.done Y rfl rfl rfl hc i _ s3 eC H3 (fun _ _=>False) rj pj fw stop) (fun r s4 ⟨hr,I4⟩=> ?_) fun _ _ z=>z
    subst hr
    obtain⟨a4,n4⟩:=a3.through I4
    exact X6 ⟨iz,eC,H3,I4.eD,f3,a4,qn⟩
  · refine ZaL (T.item Y rfl rfl rfl hc i _ s3 eC H3 (fun _ _=>False) rj pj fw go) (fun r s4 ⟨u,hr,h4⟩=> ?_) fun _ _ z=>z
    subst hr
    refine eg (ZaL h4 (fun _ s5 ⟨x,H5,I5,r5,y5,gD,qI⟩=> ?_) fun _ _ z=>z)
    obtain⟨a5,n5⟩:=a3.through I5
    have f5:aH Y pins H5 D:=⟨n5,f3.2⟩
    have ya:∀b∈D::fp,∃o,s5.heap.get? b=some o/\∀v,o.data≠.cell v:=fun b hb=>by
      rcases Zaj.mp hb with e |hb
      · exact a5.fE b (by simp[e])
      · exact T.obj _ _ gD b hb
    have rh:=I5.eD.pinned (fp:=D::fp) (fun b hb=>by
      rcases Zaj.mp hb with e |hb
      · rw[e];exact f5
      · exact stat qI b hb) ya
    refine eg (ZaL (pg _ s5 eC H5 x u _ rh r5 (step x H5 y5)) (fun _ s6 ⟨jJ,H6,I6,q6⟩=> ?_) fun _ _ z=>by rw[hx]at z;exact z)
    refine eg (ZaL (pt _ s6 jJ H6 _ I6 q6) (fun b s7 ⟨H7,I7,q7⟩=> ?_) fun _ _ z=>by rw[hx]at z;exact z)
    have pN:∀{cF:St}{H7:Hp}{s7:Shared},Inv Y (pins++fg (D::fp) s5.heap) cF H7 s7->AccAt Y.prog Y.w s7.heap D iz/\H7 D=none:=fun {cF H7 s7} J=>by
      obtain⟨o,e,_,kp⟩:=a5.obj
      have q:=J.pin (D,_) (Zah _ (Zah _ (Zu Zab e)))
      exact⟨kp _ q.1,q.2.1⟩
    have pM:∀{cF:St}{H7:Hp}{s7:Shared},Inv Y (pins++fg (D::fp) s5.heap) cF H7 s7->tn (i+1) s7.heap/\∀b∈fp,H7 b=none:=fun {cF H7 s7} J=>by
      refine⟨T.keep _ _ _ gD fun b hb o e=> (J.pin (b,o) (Zah _ (Zah _ (Zu (Zaa _ hb) e)))).1,fun b hb=> ?_⟩
      obtain⟨o,e,dd⟩:=T.obj _ _ gD b hb
      exact(J.pin (b,o) (Zah _ (Zah _ (Zu (Zaa _ hb) e)))).2.1
    cases b with
    |false=>
     simp only[Zak,Za0]at q7 |-
     obtain⟨m',hm,w7⟩:=hN _ _ _ q7
     obtain⟨a7,n7⟩:=pN I7
     obtain⟨t7,r7⟩:=pM I7
     exact X6 ⟨rfl,m',hm,i+1,iz,jJ,H7,I7.eD,⟨n7,f3.2⟩,a7,t7,r7,w7⟩
    |true=>
     simp only[Zch]at q7 |-
     obtain⟨a7,n7⟩:=pN I7
     obtain⟨t7,r7⟩:=pM I7
     have Aa:=I7.eD.pinned (fp:=fp) (stat r7) (T.obj _ _ t7)
     have f7:aH Y (pins++fg fp s7.heap) H7 D:=by
       obtain⟨g0,g1,g2,g3,g4,g5⟩:=f3
       refine⟨n7,g1,g2,g3,g4,fun p hp=> ?_⟩
       rcases ZaG.mp hp with z |z
       · exact g5 p (Zbb _ z)
       · rcases ZaG.mp z with z |z
         · exact g5 p (Zah _ z)
         · intro q
           exact hD (by rw[<-q];exact(Yw z).1)
     refine pi _ s7 jJ H7 iz N _ _ Aa f7 a7 q7 fun s8 uK nq H8 I8 f8 a8 q8=> ?_
     obtain⟨m',hm,w8⟩:=hN _ _ _ q8
     refine X6 ⟨rfl,m',hm,i+1,uK,nq,H8,I8.eD,⟨f8.1,f3.2⟩,a8,T.keep _ _ _ t7 fun b hb o e=> (I8.pin (b,o) (Zah _ (Zah _ (Zu hb e)))).1,fun b hb=> ?_,w8⟩
     obtain⟨o,e,dd⟩:=T.obj _ _ t7 b hb
     exact(I8.pin (b,o) (Zah _ (Zah _ (Zu hb e)))).2.1
theorem uw {elt tg iter:Expr}{ifs:List Expr}{gens:List Comprehension}{scope:Scope}{pos:Pos}{d:Nat}{it:Addr}{R:Result->Shared->Prop}{s:Shared}{A:Around}{prog:Program}{w:World}{env:Env}{acc:Value}{fp:List Addr}{tn:Nat->Heap->Prop}{J:It}{K:Zgc}
  (hg:gens[d]? =some ⟨tg,iter,ifs,0⟩) (T:Turn prog w K tg J fp it tn) {i:Nat} (st:tn i s.heap) (h:codeAny (model prog w) A (.compLoop (.SetComp elt gens scope pos) d (.ref it) acc env) R s):
  codeAny (model prog w) A (.compStart (.SetComp elt gens scope pos) d (.ref it) acc env) R s:=by
 refine ZdF ?_
 show wpAny _ _ ((compStart (.SetComp elt gens scope pos) d (.ref it) acc env).onRaise (fun x=>do noteFrame x env;standAt theWindowsPlace)) _ _ s
 refine wpAny_notedAt ?_
 have jZ:(clausesOf (.SetComp elt gens scope pos))[d]? =some ⟨tg,iter,ifs,0⟩:=hg
 unfold compStart
 rw[jZ]
 show wpAny _ _ (ask >>=_) _ _ s
 refine eg (Zcc (wpAny_ite ?_))
 split
 ·first
   |exact eg (X6 (X6 (And.intro rfl h)))
   |exact X6 (And.intro rfl h)
 ·refine eg (Zck ?_)
  show wpAny _ _ (standAt iter.pos >>=_) _ _ s
  exact eg (Zcf (eg (T.self A i s _ _ st (X6 (And.intro rfl h)))))
end
section
variable {X:Cx}{pins:List (Addr×Obj)}{σ:St}{H H':Hp}{s s':Shared}
theorem uB {N':List Str}{scope:Scope}{C D:Addr}{fp:List Addr}{aj:St}{ys:List V}{pl:List (Addr×Obj)}{h':Heap}(I:Inv X pins σ H s) (hf:∀b∈fp,aH X pins H b) (hC:s.heap.objs.size<=C) (hD:s.heap.objs.size<=D) (fJ:D≠C)
  (J:Inv (aG X N' scope C s H fp) pl aj H' s') (n:H' D=none) (a:AccAt X.prog X.w s'.heap D ys) (sb:Heap.SameBut C s'.heap h'):Inv X pins σ H' {s' with heap:=h'} :=by
 have dS:∀b o,s.heap.get? b=some o->b≠C:=fun b o e=>Zan (Zar (Zad e) hC)
 have Bw:∀b o,s.heap.get? b=some o->b≠D:=fun b o e=>Zan (Zar (Zad e) hD)
 have tf:∀b o,H b=some o->b≠D:=fun b o e=>Zan (Zar (I.ak.lt e) hD)
 have fC:H' C=none:=J.free
 have u:Un (aY X.stack) fp H H' s.heap s'.heap:=J.base
 refine I.zt (s':= {s' with heap:=h'}) (ch:=fp) J.os ⟨fun b o e nb hb hx=> (sb.2 b (dS b o e)).trans (u.keep b o e nb hb hx),fun b o e nb hb hx=> ?_,fun b o e nb hx=>u.free b o e nb hx,fun b o e hx=> ?_,
  u.fQ,u.fL,u.fv⟩ (fun b v e=> ?_) J.bare fun b hb=> ?_
 ·obtain⟨sl,q⟩:=u.slot b o e nb hb hx
  exact⟨sl,(sb.2 b (dS b o e)).trans q⟩
 ·obtain⟨o',q⟩:=u.there b o e hx
  exact⟨o',(sb.2 b (dS b o e)).trans q⟩
 ·refine(J.ak b v e).cg (fun c w hc q=> (sb.2 c ?_).trans q) (fun c q=>q) fun c xs q=>q
  rcases hc with z |z
  ·rw[z];exact Ze e fC
  ·exact Ze z fC
 ·obtain⟨f0,f1,f2,f3,f4,f5⟩:=hf b hb
  exact⟨f3,f1,f4,f5⟩
theorem uz {elt tg iter:Expr}{ifs:List Expr}{rest:List Comprehension}{scope:Scope}{pos:Pos}{N':List Str}{ts:Nat}{ba:List Nat}{it:Addr}{fp:List Addr}{tn:Nat->Heap->Prop}{J:It}{g:TG}{tt:TT}{ti:TC}{Q:List V->Hp->Prop}{E:Value->Shared->Prop}{RR:Value->Addr->Result->Shared->Prop}
  (S:uJ X N' ts ba scope) (hc:X.calm=true) (I:Inv X pins σ H s) (T:Turn X.prog X.w X.K tg J fp it tn) (st:tn 0 s.heap) (hf:∀b∈fp,aH X pins H b)
  (h2:∀g',(Comprehension.mk tg iter ifs 0::rest)[0+1]? =some g'->g'.is_async=0)
  (pg:∀C,PG (aG X N' scope C s H fp) tg g) (pt:∀C,jF (aG X N' scope C s H fp) ifs tt)
  (pi:∀C D,gC (aG X N' scope C s H fp) D (inner elt (⟨tg,iter,ifs,0⟩::rest) scope pos 0 (.ref D) (aG X N' scope C s H fp).env) ti)
  (h:fT g tt ti J [] (hZ ts ba σ) H fun ys _ H2=>Q ys H2)
  (yJ:∀C D s' aj H' ys fl,s.heap.objs.size<=C->s.heap.objs.size<=D->D≠C->Inv (aG X N' scope C s H fp) [] aj H' s'->H' D=none->AccAt X.prog X.w s'.heap D ys->Q ys H'->RR (.ref D) C (.ok fl) s'):
  wpAny (model X.prog X.w) X.A (newSet (.type "set")) (fun acc nD=>wpAny (model X.prog X.w) X.A (newFunctionEnv scope X.env.globals (dN scope X.env) [] X.env.qual none .none (some X.env)) (fun qS uY=>
   codeAny (model X.prog X.w) X.A (.compStart (.SetComp elt (⟨tg,iter,ifs,0⟩::rest) scope pos) 0 (.ref it) acc {qS with scope:=relabel scope X.env}) (RR acc qS.locals) uY) E nD) E s:=by
 refine HC.KJ (PySem.wpAny_newFunctionEnv S.fE (by intro y hy;simp at hy) (fun gG mf jV=> ?_) S.kind)
 dsimp only at mf jV |-
 generalize jA:s.heap.push (HS.cV (!(X.w.params.followText "set-order")))=h0 at mf jV |-
 have hC:h0.objs.size=s.heap.objs.size+1:=by rw[<-jA,Zbh]
 have fJ:s.heap.objs.size≠h0.objs.size:=by rw[hC];exact Zan (Zcw _)
 have mG:s.heap.objs.size<=h0.objs.size:=by rw[hC];exact Nat.le_succ _
 have dS:∀b o,s.heap.get? b=some o->b≠h0.objs.size:=fun b o e=>Zan (Zar (Zad e) mG)
 have old:∀b o,s.heap.get? b=some o->gG.get? b=some o:=fun b o e=>jV.extBut b o (dS b o e) (X7 _ (jA▸X7 _ e))
 have qx:gG.get? s.heap.objs.size=some (HS.cV (!(X.w.params.followText "set-order"))):=jV.extBut _ _ fJ (X7 _ (jA▸Zaf _ rfl))
 have ho:∀b∈fp,∃o,s.heap.get? b=some o:=fun b hb=>let ⟨o,e,_⟩:=T.obj _ _ st b hb;⟨o,e⟩
 have I1:Inv (aG X N' scope h0.objs.size s H fp) [] (hZ ts ba σ) H {s with heap:=gG,toks:=s.toks+([]:List (Str×Value)).length} :=Ey S I hf ho mG mf old
 have fresh:=I.ak.fresh (a:=s.heap.objs.size) (Zal _)
 have yW:∀b∈fp,aH (aG X N' scope h0.objs.size s H fp) [] H b:=fun b hb=>by
  obtain⟨f0,f1,f2,f3,f4,f5⟩:=hf b hb
  refine⟨f0,(I1.ok.kc b hb).1,I1.ok.j9 b hb,.inl hb,(I1.ok.kc b hb).2,fun p hp=>absurd (show p∈([]:List (Addr×Obj)) from hp) (by simp)⟩
 have fD:aH (aG X N' scope h0.objs.size s H fp) [] H s.heap.objs.size:=by
  refine⟨fresh,fJ,fun z=> ?_,.inr (Zal _),fun x c e z=> ?_,fun p hp=>absurd (show p∈([]:List (Addr×Obj)) from hp) (by simp)⟩
  ·obtain⟨_,o,bE,_⟩:=I.stack.mem z
   exact absurd (Zad bE) (Zba _)
  ·obtain⟨e1,e2⟩:=Yn e
   obtain⟨c',bC⟩:=I.ok.has x (S.free _ e2 rfl)
   obtain⟨v,q⟩:=I.cell x c' bC
   rw[bC]at e1
   have e3:c=c':=e1
   have l:=q.lt
   rw[<-e3,z]at l
   exact absurd l (Zba _)
 have aD:AccAt X.prog X.w gG s.heap.objs.size []:=⟨[],rfl,Zaz _,(by obtain⟨o,es,ep,t,P⟩:=HC.CV (knd:=tupleKind (intKind X.prog X.w)) rfl qx;exact⟨o,es,ep,t,P.core,(fun e he=>by obtain⟨k,hk,_⟩:=P.b.el e he;cases hk),(fun p hp=>by cases hp),P.b.sz⟩)⟩
 have yP:s.heap.objs.size∉fp:=fun z=>by obtain⟨o,e⟩:=ho _ z;exact absurd (Zad e) (Zba _)
 have cG:tn 0 gG:=T.keep _ _ _ st fun b _ o e=>old b o e
 have run:=uw (elt:=elt) (gens:=⟨tg,iter,ifs,0⟩::rest) (scope:=scope) (pos:=pos) (d:=0) rfl T cG
  (uy (Y:=aG X N' scope h0.objs.size s H fp) (D:=s.heap.objs.size) (Q:=fun ys _ H2=>Q ys H2) (elt:=elt) (gens:=⟨tg,iter,ifs,0⟩::rest) (scope:=scope) (pos:=pos) (d:=0) rfl hc rfl T yW cG yP h2 (pg _) (pt _) (pi _ _) I1 fD aD h)
 refine Zb7 run fun r s' hr=> ?_
 cases r with
 |error e=>exact hr.elim
 |ok fl=>
  obtain⟨aV,aj,H',q1,q2,q3,q4⟩:=hr
  exact yJ _ _ s' aj H' aV fl mG (Zal _) fJ q1 q2.1 q3 q4
end
def AD (wi:TI) (ts:Nat) (ba:List Nat) (g:TG) (tt:TT) (ti:TC):TE:=fun σ H Q=>wi σ H fun J H1=>fT g tt ti J [] (hZ ts ba σ) H1 fun ys _ H2=> ∃as:List (Addr×List Int),ys=enc as/\(∀p∈as,H2 p.1=some (.tup (p.2.map V.int))/\p.2≠[])/\
 ∀(q:Addr) (bQ:List V) (bz:List (List Int)),H2 q=none->bz.Nodup->(∀k,k∈bz↔k∈as.map (·.2))->bz.Pairwise (fun a b=>dc.av b a=false)->Paired (bq H2) bQ bz->Q (.ref q) (upd H2 q (.lst bQ))
section
variable {X:Cx}{elt tg iter:Expr}{ifs:List Expr}{rest:List Comprehension}{scope:Scope}{pos:Pos}{wi:TI}{g:TG}{tt:TT}{ti:TC}
theorem IG {p dr:Pos}(N':List Str) (ts:Nat) (ba:List Nat) (hg:Gl X "sorted") (hm:X.mg "sorted" =none) (hi:PI X tg iter wi) (pg:∀C s H fp,PG (aG X N' scope C s H fp) tg g) (pt:∀C s H fp,jF (aG X N' scope C s H fp) ifs tt)
  (pi:∀C s H fp D,gC (aG X N' scope C s H fp) D (inner elt (⟨tg,iter,ifs,0⟩::rest) scope pos 0 (.ref D) (aG X N' scope C s H fp).env) ti)
  (iK:starEach [.SetComp elt (⟨tg,iter,ifs,0⟩::rest) scope pos] X.env=[(false,eval (.SetComp elt (⟨tg,iter,ifs,0⟩::rest) scope pos) X.env)]:=by rfl)
  (ok:qR X.env.scope scope X.N N' ts ba=true:=by rfl) (hc:X.calm=true:=by rfl) (h2:∀g',(Comprehension.mk tg iter ifs 0::rest)[0+1]? =some g'->g'.is_async=0:=by(intro g' h;cases h<;>rfl))
  (hs:∀x,foldedSetIterable iter X.env x=pure x:=by intro _;rfl):
  PE X (.Call (.Name "sorted" p) [.SetComp elt (⟨tg,iter,ifs,0⟩::rest) scope pos] [] dr) (AD wi ts ba g tt ti):=by
 intro pins s σ H Q I h
 refine Za2 (ZU I hg hm boot_sorted ?_)
 refine ZbL ?_ iK rfl
 rw[iK]
 show wpAny _ _ (spliced ((false,eval (.SetComp elt (⟨tg,iter,ifs,0⟩::rest) scope pos) X.env)::backTo dr (starEach [] X.env))) _ _ s
 refine Zcz ?_
 have S:=WK ok
 rw[arm_eval_SetComp]
 refine(show wpAny _ X.A (comprehension (.SetComp elt (⟨tg,iter,ifs,0⟩::rest) scope pos) scope X.env _ (newSet (.type "set")) false (eval iter X.env)) _ _ s from ?_)
 refine PySem.wpAny_comprehension_free (use:=none) rfl hs (Z7 fun y hy e=>I.ok.has _ (S.free y hy e)) S.kind S.names (au (hi pins s σ H _ I h) fun v s1 h1=>au h1 fun fY s2 fK=> ?_)
 obtain⟨it,fp,tn,J,H2,e,I2,T,cA,f2,q2⟩:=fK
 subst e
 refine uz (RR:=fun acc C=>compPost (model X.prog X.w) X.A X.xe none _ acc C) S hc I2 T cA f2 h2 (fun C=>pg C _ _ _) (fun C=>pt C _ _ _) (fun C D=>pi C _ _ _ D) q2 ?_
 intro C D s' aj H' ys fl hC hD fJ J' n a q
 obtain⟨m,hn,_⟩:=J'.loc
 refine⟨m,hn,fun h' sb=> ?_⟩
 have I3:Inv X pins σ H' {s' with heap:=h'} :=uB I2 f2 hC hD fJ J' n a sb
 obtain⟨as,ey,hl,o,es,ep,t,CO⟩:=a.keep fun o e=> (sb.2 D fJ).trans e
 obtain⟨ik,C4,aM,q⟩:=q
 rw[ey]at C4
 have:=UW C4
 subst this
 refine ZcH ?_
 have hS:=CO.set (ok:=FQ H') fun p hp=>DP I3 (aM p hp).1
 obtain⟨kn,km,kl⟩:=lX _ (as.map (·.2)) rfl
 rw[Zac]at kl
 refine JP I3 hc hS kn (fun k hk=> ?_) .o fun q' bQ bz hq pm so jg=> ?_
 ·obtain⟨p,hp,rfl⟩:=ZaC.mp ((km k).mp hk)
  exact(aM p hp).2
 ·exact q q' bQ bz hq (pm.nodup_iff.mpr kn) (fun k=>pm.mem_iff.trans (km k)) so jg
end
end L2.ST
namespace U
open PySem L2 PyProof.Rows
def top (i:Nat):Stmt:=PySem.Challenge.pw_unlikesteps_k82_kinds_of_full_lays.main.body.getD i (.Pass ⟨0,0,0,0⟩)
structure Gs (mg:Str->Option Value):Prop where
 isinstance:mg "isinstance" =none
 int:mg "int" =none
 bool:mg "bool" =none
 tuple:mg "tuple" =none
 list:mg "list" =none
 len:mg "len" =none
 all:mg "all" =none
 set:mg "set" =none
 range:mg "range" =none
 max:mg "max" =none
 min:mg "min" =none
 enumerate:mg "enumerate" =none
 zip:mg "zip" =none
 sorted:mg "sorted" =none
 dict:mg "dict" =none
 longest:∃t,mg "LONGEST_SIDE" =some (.int 12 t)
 K2:∃t,mg "MOST_WIDE" =some (.int 6 t)
 K4:∃t,mg "MOST_HIGH" =some (.int 7 t)
 Bz:∃t,mg "MOST_LINES" =some (.int 5 t)
section
variable {P:Program}{w:World}{K:Zgc}{mg:Str->Option Value}{base:Heap}
abbrev vV:Stmt:=top 19
def u5 (K:Zgc):Sp:=fun vs H Q _=> ∃x,vs=[x]/\eA K H x/\Q (.bl (whole x)) H
theorem Hu:aQ ["thing"] ["thing"] (aw vV):=Zr (by decide+kernel)
theorem RA {f:Addr}{fd:FuncData}(F:aC K "is_whole" "is_whole" vV f fd) (G:Gs mg):aA P w K mg base az 1 f fd ["thing"] (u5 K):=by
 refine F.ok Hu (fun vs H Q E h=> ?_) (fun aq A outer s H vs Q E hr h=> ?_)
 ·obtain⟨x,rfl,_⟩:=h
  rfl
 ·obtain⟨x,rfl,⟨T,t⟩,q⟩:=h
  refine⟨_,Zh (Zm (Yk (Zk (Zv (c:= "int")) rfl G.isinstance Za4 (Za (pv 0) (Za (ZB (v:=.ty "int") rfl G.int boot_int rfl) Zb)))
   (Yi (PV (Zk (Zv (c:= "bool")) rfl G.isinstance Za4 (Za (pv 0) (Za (ZB (v:=.ty "bool") rfl G.bool boot_bool rfl) Zb))))))),?_⟩
  refine⟨x,rfl,x,_,_,rfl,t,Rg t,_,rfl,?_⟩
  rw[Vo]at q
  cases e:xC x with
  |false=>rw[e]at q;exact aP q
  |true=>rw[e]at q;exact bg ⟨x,rfl,x,_,_,rfl,t,RT t,_,rfl,q⟩
abbrev vU:Stmt:=top 20
def kG (K:Zgc):Sp:=fun vs H Q _=> ∃x a b,vs=[x,.int a,.int b]/\eA K H x/\Q (.bl (bH x a b)) H
theorem Ht:aQ ["thing", "least", "most"] ["thing", "least", "most"] (aw vU):=Zr (by decide+kernel)
theorem Sw {f:Addr}{fd:FuncData}(F:aC K "is_whole_within" "is_whole_within" vU f fd) (D1:Def P w K mg base 1 "is_whole" ["thing"] (u5 K)):aA P w K mg base az 2 f fd ["thing", "least", "most"] (kG K):=by
 refine F.ok Ht (fun vs H Q E h=> ?_) (fun aq A outer s H vs Q E hr h=> ?_)
 ·obtain⟨x,a,b,rfl,_⟩:=h
  rfl
 ·obtain⟨x,a,b,rfl,t,q⟩:=h
  refine⟨_,Zh (Zm (Yk (Zf D1 hr (Za (pv 0) Zb)) (Yi (RC DS DS (pv 1) (pv 0) (pv 2))))),?_⟩
  refine⟨x,rfl,x,rfl,t,_,rfl,?_⟩
  cases x with
  |int i=>
   refine bg ⟨_,rfl,_,rfl,_,_,rfl,rfl,_,rfl,?_⟩
   have e:bH (.int i) a b=(decide (a<=i)&&decide (i<=b)):=rfl
   rw[e]at q
   cases e1:decide (a<=i) with
   |false=>rw[e1]at q;exact aP q
   |true=>rw[e1]at q;exact bg ⟨_,rfl,_,_,rfl,rfl,q⟩
  |_=>exact aP q
abbrev sD:Stmt:=top 22
def pz (K:Zgc):Sp:=fun vs H Q _=> ∃x n,vs=[x,.int n]/\eA K H x/\Q (.bl (match cT H x with |some xs=>decide ((xs.length:Int)=n) |none=>false)) H
theorem AO:aQ ["thing", "many"] ["thing", "many"] (aw sD):=Zr (by decide+kernel)
theorem Rz {f:Addr}{fd:FuncData}(F:aC K "is_tuple_of" "is_tuple_of" sD f fd) (G:Gs mg):aA P w K mg base az 1 f fd ["thing", "many"] (pz K):=by
 refine F.ok AO (fun vs H Q E h=> ?_) (fun aq A outer s H vs Q E hr h=> ?_)
 ·obtain⟨x,n,rfl,_⟩:=h
  rfl
 ·obtain⟨x,n,rfl,⟨T,t⟩,q⟩:=h
  refine⟨_,Zh (Zm (Yk (Zk (Zv (c:= "tuple")) rfl G.isinstance Za4 (Za (pv 0) (Za (ZB (v:=.ty "tuple") rfl G.tuple ZcN rfl) Zb)))
   (Yi (Yq YG (Zk Zx rfl G.len Zc6 (Za (pv 0) Zb)) (pv 1) (cC _))))),?_⟩
  refine⟨x,rfl,x,_,_,rfl,t,To t,_,rfl,?_⟩
  cases e:cT H x with
  |none=>rw[e]at q;exact aP q
  |some xs=>
   rw[e]at q
   obtain⟨a,rfl,ha⟩:=Zq e
   refine bg ⟨_,rfl,a,xs,rfl,.inr (ag.of ha),_,rfl,rfl,?_⟩
   have z:decide (V.int (xs.length:Int)=V.int n)=decide ((xs.length:Int)=n):=by simp
   rw[z]
   exact q
abbrev wH:Stmt:=top 23
def pW:Option (List V)->Bool
 |some [a,b]=>bH a 1 12&&bH b 1 12
 |_=>false
def oR (K:Zgc) (H:Hp) (x:V):Prop:=eA K H x/\∀xs,cT H x=some xs->∀y∈xs,eA K H y
def vE (K:Zgc):Sp:=fun vs H Q _=> ∃x,vs=[x]/\oR K H x/\∀H',af H H'->Q (.bl (pW (cT H x))) H'
theorem HJ:aQ ["thing"] ["thing"] (aw wH):=Zr (by decide+kernel)
theorem Rv {f:Addr}{fd:FuncData}(F:aC K "is_board" "is_board" wH f fd) (G:Gs mg) (D1:Def P w K mg base 1 "is_tuple_of" ["thing", "many"] (pz K)) (D2:Def P w K mg base 2 "is_whole_within" ["thing", "least", "most"] (kG K)):
  aA P w K mg base az 3 f fd ["thing"] (vE K):=by
 obtain⟨tk,hL⟩:=G.longest
 refine F.ok HJ (fun vs H Q E h=> ?_) (fun aq A outer s H vs Q E hr h=> ?_)
 ·obtain⟨x,rfl,_⟩:=h
  rfl
 ·obtain⟨x,rfl,⟨t,hi⟩,q⟩:=h
  refine⟨_,Zh (Zm (Yk (Zf D1 (hr.mono .d) (Za (pv 0) (Za Zg Zb)))
   (Yi (Zk Yo rfl G.all Zfy (Za (ZA ["side"] 1 [] (Wj (pv 0)) (fun C s H fp=>pb 0) (fun C s H fp=>ZC)
    (fun C s H fp D=>bL rfl (Zf D2 (hr.mono .d) (Za (pv 0) (Za Zg (Za (Z6 (v:=.int 12) rfl hL ⟨_,rfl⟩) Zb)))))) Zb))))),?_⟩
  refine⟨x,rfl,x,2,rfl,t,_,rfl,?_⟩
  cases e:cT H x with
  |none=>rw[e]at q;exact aP (q H (af.refl H))
  |some xs=>
   rw[e]at q
   obtain⟨a,rfl,ha⟩:=Zq e
   show if decide ((xs.length:Int)=2)=true then _ else _
   by_cases h2:xs.length=2
   ·rw[Zat (show(xs.length:Int)=2 by omega)]
    refine bg ⟨_,rfl,a,rfl,⟨xs,ag.of ha⟩,?_⟩
    refine YK (xs:=xs) (fun i ys σ H2=>ys=(xs.take i).map (fun y=>V.bl (bH y 1 12))/\H2=H/\∃v,σ=[v]) ⟨rfl,rfl,none,rfl⟩ (fun i ys σ H2 _ ⟨_,e2,_⟩=>by rw[e2];exact ag.of ha) ?_ ?_
    ·rintro i y ys σ H2 hy ⟨rfl,rfl,v,rfl⟩
     have my:y∈xs:=Zap hy
     refine⟨y,rfl,y,1,12,rfl,hi xs e y my,?_,?_⟩
     ·rw[Zac,Zau,ZaI];omega
     ·refine⟨?_,rfl,_,rfl⟩
      rw[ZaD,hy,Zax]
      rfl
    ·rintro ys σ H2 ⟨rfl,rfl,v,rfl⟩ p hp
     rw[ZaK]
     refine⟨p,xs.map (fun y=>bH y 1 12),rfl,?_,?_⟩
     ·rw[Zb0];exact ai.of Zc
     ·have e3:pW (some xs)=(xs.map (fun y=>bH y 1 12)).all id:=by
       match xs,h2 with
       | [a,b],_=>simp[pW]
      rw[<-e3]
      exact q _ fun b o hb=>by rw[Zi (Ze hb hp)];exact hb
   ·rw[Zaq (show ¬(xs.length:Int)=2 by omega)]
    have e3:pW (some xs)=false:=by
     match xs,h2 with
     | [],_=>rfl
     | [a],_=>rfl
     | [a,b],h=>exact absurd rfl h
     |a::b::c::r,_=>rfl
    rw[e3]at q
    exact aP (q H (af.refl H))
end
section
theorem YN (val:Nat->Int):∀n,((PyProof.Rows.firstMet val n).length=n↔((List.range n).map val).Nodup)
 |0=>by simp[PyProof.Rows.firstMet_zero]
 |n+1=>by
  have ih:=YN val n
  have le:=PyProof.Rows.firstMet_length_le val n
  rw[PyProof.Rows.firstMet_succ,PyProof.Rows.step_length,PyProof.Rows.firstMet_any,Zcr,Zax]
  have e:(((List.range n).map val).any (· ==val n))=true↔val n∈(List.range n).map val:=by
   rw[List.any_eq_true]
   constructor
   ·rintro⟨x,hx,q⟩
    have:x=val n:=by simpa using q
    rw[<-this];exact hx
   ·intro h;exact⟨_,h,by simp⟩
  have nd:((List.range n).map val++List.map val [n]).Nodup↔((List.range n).map val).Nodup/\¬val n∈(List.range n).map val:=by
   rw[Zcp]
   constructor
   ·rintro⟨h1,_,h3⟩
    exact⟨h1,fun m=>h3 _ m (val n) (by simp) rfl⟩
   ·rintro⟨h1,h2⟩
    refine⟨h1,by simp,fun a ha b hb q=>h2 ?_⟩
    have bY:b=val n:=by simpa using hb
    rw[<-bY,<-q];exact ha
  rw[nd,<-ih]
  by_cases m:val n∈(List.range n).map val
  ·rw[Zay (e.mpr m)]
   constructor
   ·intro h;omega
   ·rintro⟨_,h⟩;exact absurd m h
  ·rw[Zav (fun z=>m (e.mp z))]
   constructor
   ·intro h;exact⟨.o,m⟩
   ·rintro⟨h,_⟩;omega
theorem T4 (ns:List Int):nG ns=ns.length↔ns.Nodup:=by
 unfold nG
 rw[YN]
 have e:(List.range ns.length).map (fun i=>ns.getD i 0)=ns:=by
  refine ZcU (by simp) fun i h1 h2=> ?_
  rw[List.getElem_map,List.getElem_range,ZaM,Zai h2,Zcv]
 rw[e]
def rowsOf (xs:List V):List V:=xs.filter fun x=> !decide (x=.ah)
def eO (wd hg:Int):Option (List V)->Bool
 |some xs=>decide ((xs.length:Int)=wd)&&((rowsOf xs).all fun r=>bH r 0 (hg - 1))&&decide (rowsOf xs).Nodup
 |none=>false
def dP (H:Hp) (x:V) (wd hg:Int):Prop:=cT H x=some [.int wd,.int hg]/\1<=wd/\wd<=12/\1<=hg/\hg<=12
theorem dP.same {H H':Hp}{x:V}{wd hg:Int}(b:dP H x wd hg) (s:af H H'):dP H' x wd hg:=⟨s.cT b.1,b.2⟩
theorem dP.is {H:Hp}{x:V}{wd hg:Int}(b:dP H x wd hg):pW (cT H x)=true:=by
 obtain⟨h,h1,h2,h3,h4⟩:=b
 rw[h]
 show(decide (1<=wd)&&decide (wd<=12)&&(decide (1<=hg)&&decide (hg<=12)))=true
 simp[h1,h2,h3,h4]
theorem dP.pl {K:Zgc}{H:Hp}{x:V}{wd hg:Int}(b:dP H x wd hg):oR K H x:=by
 obtain⟨a,rfl,ha⟩:=Zq b.1
 refine⟨⟨_,.tup ha⟩,fun xs e y hy=> ?_⟩
 rw[b.1]at e
 cases e
 rcases Zaj.mp hy with z |hy
 ·rw[z];exact⟨_,.int wd⟩
 ·rw[Zao.mp hy];exact⟨_,.int hg⟩
theorem Vn {xs:List V}{lo hi:Int}(h:(xs.all fun r=>bH r lo hi)=true):∃ns:List Int,xs=ns.map V.int:=by
 induction xs with
 |nil=>exact⟨[],rfl⟩
 |cons x xs ih=>
  rw[List.all_cons,Zaw]at h
  obtain⟨ns,e⟩:=ih h.2
  cases x with
  |int i=>exact⟨i::ns,by rw[e];rfl⟩
  |_=>cases h.1
theorem Su (ns:List Int):(ns.map V.int).Nodup↔ns.Nodup:=by
 induction ns with
 |nil=>simp
 |cons n ns ih=>rw[ZaR,Zbk,Zbk,ih];simp
end
section
variable {P:Program}{w:World}{K:Zgc}{mg:Str->Option Value}{base:Heap}
abbrev wk:Stmt:=top 24
def pB (K:Zgc):Sp:=fun vs H Q _=> ∃x wd hg,vs=[x]/\dP H x wd hg/\∀H',af H H'->Q .ah H'
theorem HA:aQ ["board"] ["board"] (aw wk):=Zr (by decide+kernel)
theorem UN {f:Addr}{fd:FuncData}(F:aC K "need_board" "need_board" wk f fd) (D1:Def P w K mg base 3 "is_board" ["thing"] (vE K)):aA P w K mg base az 4 f fd ["board"] (pB K):=by
 refine F.ok HA (fun vs H Q E h=> ?_) (fun aq A outer s H vs Q E hr h=> ?_)
 ·obtain⟨x,wd,hg,rfl,_⟩:=h
  rfl
 ·obtain⟨x,wd,hg,rfl,b,q⟩:=h
  refine⟨_,Zh (ZS (Z9 (ZT (Zf D1 hr (Za (pv 0) Zb)))) Zs Zw),?_⟩
  refine⟨x,rfl,x,rfl,b.pl,fun H' sm=> ⟨_,rfl,?_⟩⟩
  rw[b.is]
  exact aP (q H' sm)
abbrev wx:Stmt:=top 26
def se (K:Zgc):Sp:=fun vs H Q _=> ∃x y wd hg,vs=[x,y]/\dP H x wd hg/\oR K H y/\∀H',af H H'->Q (.bl (eO wd hg (cT H y))) H'
theorem sr:aQ ["board", "thing", "wide", "high", "rows"] ["board", "thing"] (aw wx):=Zr (by decide+kernel)
theorem PJ {f:Addr}{fd:FuncData}(F:aC K "is_lay" "is_lay" wx f fd) (G:Gs mg) (D1:Def P w K mg base 4 "need_board" ["board"] (pB K)) (D2:Def P w K mg base 1 "is_tuple_of" ["thing", "many"] (pz K))
  (D3:Def P w K mg base 2 "is_whole_within" ["thing", "least", "most"] (kG K)):aA P w K mg base az 5 f fd ["board", "thing"] (se K):=by
 refine F.ok sr (fun vs H Q E h=> ?_) (fun aq A outer s H vs Q E hr h=> ?_)
 ·obtain⟨x,y,wd,hg,rfl,_⟩:=h
  rfl
 ·obtain⟨x,y,wd,hg,rfl,b,⟨ty,hy⟩,q⟩:=h
  refine⟨_,Zd (ZL (Zf D1 hr (Za (pv 0) Zb)))
   (Zd (YB (pv 0) (ZO rfl (Zj (Zp (i:=2) sr.nd rfl (Or.inl rfl)) (Zj (Zp (i:=3) sr.nd rfl (Or.inr rfl)) ZF))))
   (Zd (ZS (Z9 (ZT (Zf D2 (hr.mono .d) (Za (pv 1) (Za (pv 2) Zb))))) (Zh (Zm Wl)) Zw)
   (Zd (Jc ["row"] 1 [] (i:=4) sr.nd rfl (Or.inl rfl) (Wj (pv 1)) (fun C s H fp=>pb 0) (fun C s H fp=>Z5 (Yg (YV (pv 0)))) (fun C s H fp D=>bL rfl (pv 0)))
   (Zh (Zm (Yk (Zk Yo rfl G.all Zfy (Za (ZA ["row", "high"] 1 [3] (ZD (pv 4)) (fun C s H fp=>pb 0) (fun C s H fp=>ZC)
     (fun C s H fp D=>bL rfl (Zf D3 (hr.mono .d) (Za (pv 0) (Za Zg (Za (Zn ZW (pv 1) Zg) Zb)))))) Zb))
    (Yi (Yq YG (Zk WY rfl G.len Zc6 (Za (Yv WX rfl G.set boot_set (Za (pv 4) Zb)) Zb)) (Zk Zx rfl G.len Zc6 (Za (pv 4) Zb)) (cC _))))))))),?_⟩
  refine⟨x,rfl,x,wd,hg,rfl,b,fun H1 s1=> ?_⟩
  have b1:=b.same s1
  obtain⟨a,rfl,ha⟩:=Zq b1.1
  refine⟨_,rfl,a,_,rfl,ag.of ha,rfl,_,_,rfl,_,_,rfl,rfl,?_⟩
  refine⟨y,rfl,_,rfl,y,wd,rfl,s1.xb ty,_,rfl,?_⟩
  cases e:cT H y with
  |none=>
   have e1:cT H1 y=none:=by
    obtain⟨T,t⟩:=ty
    cases t with
    |tup e2=>rw[ZJ e2]at e;cases e
    |lst e2=>rw[Ya,s1 _ _ e2];rfl
    |cD e2=>rw[Ya,s1 _ _ e2];rfl
    |dK e2=>rw[Ya,s1 _ _ e2];rfl
    |dT e2=>rw[Ya,s1 _ _ e2];rfl
    |_=>rfl
   rw[e1]
   rw[e]at q
   exact bg (q H1 s1)
  |some xs=>
   have e1:=s1.cT e
   rw[e1]
   rw[e]at q
   obtain⟨l,rfl,hl⟩:=Zq e1
   by_cases hw:(xs.length:Int)=wd
   ·refine(show if (!decide ((xs.length:Int)=wd))=true then _ else _ from ?_)
    rw[Zat hw]
    refine aP ?_
    have XA:=b.2.2.1
    have hlen:xs.length<=12:=.o
    refine⟨_,rfl,l,rfl,⟨xs,ag.of hl⟩,?_⟩
    refine YK (xs:=xs) (fun i ys σ H2=>ys=rowsOf (xs.take i)/\H2=H1/\∃v,σ=[v]) ⟨rfl,rfl,none,rfl⟩ (fun i ys σ H2 _ ⟨_,e2,_⟩=>by rw[e2];exact ag.of hl) ?_ ?_
    ·rintro i r ys σ H2 cw ⟨rfl,rfl,v,rfl⟩
     have et:rowsOf (xs.take (i+1))=rowsOf (xs.take i)++(if (!decide (r=V.ah))=true then [r] else []):=by
      unfold rowsOf
      rw[ZaD,cw,ZbC]
      cases hh:(!decide (r=V.ah)) with
      |true=>simp[hh]
      |false=>simp[hh]
     refine⟨r,rfl,_,rfl,?_⟩
     cases hh:(!decide (r=V.ah)) with
     |true=>
      rw[hh]at et
      refine bg ?_
      refine⟨r,rfl,?_,?_⟩
      ·have:=Zb9 (fun x=> !decide (x=V.ah)) (xs.take i)
       unfold rowsOf
       rw[Zau]
       rw[ZaI]at this
       omega
      ·exact⟨by rw[et,Zay rfl],rfl,_,rfl⟩
     |false=>
      rw[hh]at et
      exact aP ⟨by rw[et,Zav Zag,ZbN],rfl,_,rfl⟩
    ·rintro ys σ H2 ⟨rfl,rfl,v,rfl⟩ p hp
     rw[ZaK]
     have XB:(rowsOf xs).length<=12:=Zbf (Zb9 _ _) hlen
     have s2:af H2 (upd H2 p (.lst (rowsOf xs))):=fun b o hb=>by rw[Zi (Ze hb hp)];exact hb
     refine⟨_,rfl,p,rfl,⟨rowsOf xs,ai.of Zc⟩,?_⟩
     generalize uh:upd H2 p (HO.lst (rowsOf xs))=H3 at s2
     have qh:H3 p=some (.lst (rowsOf xs)):=by rw[<-uh];exact Zc
     refine ZG (xs:=rowsOf xs) (fun i ys σ H4=>ys=((rowsOf xs).take i).map (fun r=>V.bl (bH r 0 (hg - 1)))/\H4=H3/\∃v,σ=[v,some (.int hg)]) ⟨rfl,rfl,none,rfl⟩ (fun i ys σ H4 _ ⟨_,e2,_⟩=>by rw[e2];exact ai.of qh) ?_ ?_
     ·rintro i r ys σ H4 cw ⟨rfl,rfl,v,rfl⟩
      have mr:r∈xs:=(ZaW.mp (Zap cw)).1
      refine⟨r,rfl,_,rfl,_,_,rfl,rfl,r,0,hg - 1,rfl,(s1.trans s2).xb (hy xs e r mr),?_,?_⟩
      ·rw[Zac,Zau,ZaI];omega
      ·refine⟨?_,rfl,_,rfl⟩
       rw[ZaD,cw,Zax]
       rfl
     ·rintro ys σ H4 ⟨rfl,rfl,v,rfl⟩ p' qi
      rw[ZaK]
      have s3:∀o,af H4 (upd H4 p' o):=fun o b u hb=>by rw[Zi (Ze hb qi)];exact hb
      refine⟨p',(rowsOf xs).map (fun r=>bH r 0 (hg - 1)),rfl,?_,?_⟩
      ·rw[Zb0];exact ai.of Zc
      ·have OA:((rowsOf xs).map (fun r=>bH r 0 (hg - 1))).all id=(rowsOf xs).all fun r=>bH r 0 (hg - 1):=by rw[List.all_map];rfl
       rw[OA]
       have Ov:eO wd hg (some xs)=(((rowsOf xs).all fun r=>bH r 0 (hg - 1))&&decide (rowsOf xs).Nodup):=by
        show(decide ((xs.length:Int)=wd)&&_&&_)=_
        rw[Zat hw,Bool.true_and]
       rw[Ov]at q
       refine⟨_,rfl,?_⟩
       cases aM:((rowsOf xs).all fun r=>bH r 0 (hg - 1)) with
       |false=>
        rw[aM]at q
        exact aP (q _ (s1.trans (s2.trans (s3 _))))
       |true=>
        rw[aM,Bool.true_and]at q
        obtain⟨ns,en⟩:=Vn aM
        have dm:(upd H4 p' (.lst (((rowsOf xs).map (fun r=>V.bl (bH r 0 (hg - 1))))))) p=some (.lst (rowsOf xs)):=s3 _ _ _ qh
        refine bg ?_
        have XF:ns.length=(rowsOf xs).length:=by rw[en,Zac]
        refine⟨_,rfl,p,ns,rfl,by rw[<-en];exact ai.of dm,.o,fun q2 S cJ=> ⟨q2,S,nG ns,rfl,Zc,_,rfl,p,rowsOf xs,rfl,.inl (ai.of ?_),rfl,?_⟩⟩
        ·rw[Zi (Ze dm cJ)];exact dm
        ·have ed:decide (V.int (nG ns:Int)=V.int ((rowsOf xs).length:Int))=decide (rowsOf xs).Nodup:=by
          rw[decide_eq_decide]
          rw[en,Su,<-T4,Zac]
          constructor
          ·intro h;injection h with h;omega
          ·intro h;rw[h]
         rw[ed]
         exact q _ (s1.trans (s2.trans ((s3 _).trans fun b o hb=>by rw[Zi (Ze hb cJ)];exact hb)))
   ·refine(show if (!decide ((xs.length:Int)=wd))=true then _ else _ from ?_)
    rw[Zaq hw]
    have e3:eO wd hg (some xs)=false:=by
     show(decide ((xs.length:Int)=wd)&&_&&_)=false
     rw[Zaq hw,Bool.false_and,Bool.false_and]
    rw[e3]at q
    exact bg (q H1 s1)
theorem ij {x y:V} :eW [x,y] 0=some x:=rfl
theorem cZ {x y:V} :eW [x,y] 1=some y:=rfl
structure eY (wd hg:Int) (xs:List V):Prop where
 len:(xs.length:Int)=wd
 row:∀r∈rowsOf xs,bH r 0 (hg - 1)=true
 nd:(rowsOf xs).Nodup
theorem eY.is {wd hg:Int}{xs:List V}(h:eY wd hg xs):eO wd hg (some xs)=true:=by
 show(decide ((xs.length:Int)=wd)&&((rowsOf xs).all fun r=>bH r 0 (hg - 1))&&decide (rowsOf xs).Nodup)=true
 rw[Zat h.len,Zat h.nd,ZaF.mpr h.row]
 rfl
end
section
def gU:V->Option Int
 | .int r=>some r
 |_=>none
def rowAt (xs:List V) (i:Nat):Option Int:=xs[i]?.bind gU
abbrev aJ:=Int×Int×Int×Int
def rV (xs:List V) (o l:Nat):Option aJ:=(rowAt xs l).bind fun a=> (rowAt xs o).map fun b=> ((o:Int) - l,b - a,(l:Int),(o:Int))
def rT (xs:List V) (o j:Nat):List aJ:=(List.range j).filterMap (rV xs o)
def g8 (xs:List V) (n:Nat):List aJ:=(List.range n).flatMap fun o=>rT xs o o
def oQ (H:Hp) (v:V) (q:aJ):Prop:=∃t t':Addr,v=.ref t/\H t=some (.tup [.ref t',.int q.2.2.1,.int q.2.2.2])/\H t'=some (.tup [.int q.1,.int q.2.1])
def lE (xs:List V):Prop:=∀x∈xs,x=.ah∨∃i,x=.int i
theorem eY.ok {wd hg:Int}{xs:List V}(h:eY wd hg xs):lE xs:=fun x hx=>by
 by_cases e:x=.ah
 ·exact .inl e
 ·have m:x∈rowsOf xs:=ZaW.mpr ⟨hx,by simp[e]⟩
  have q:=h.row x m
  cases x with
  |int i=>exact .inr ⟨i,rfl⟩
  |_=>cases q
end
section
variable {P:Program}{w:World}{K:Zgc}{mg:Str->Option Value}{base:Heap}
theorem Paired.at {α β:Type}{F:α->β->Prop} :∀{kS:List α}{kQ:List β}{i:Nat}{a:α},Paired F kS kQ->kS[i]? =some a->∃b,kQ[i]? =some b/\F a b
 |_,_,_,_,.nil,e=>by simp at e
 |_,_,0,_,.cons r _,e=>by simp at e;subst e;exact⟨_,rfl,r⟩
 |_,_,i+1,a,.cons _ t,e=>by
  obtain⟨u,h1,h2⟩:=Paired.at (i:=i) (a:=a) t (by simpa using e)
  exact⟨u,by simpa using h1,h2⟩
end
section
def Iq (K:Zgc):R2:=fun x y H Q=> ∃a b ys,x=.ref a/\y=.ref b/\ag K H a []/\ag K H b ys/\Q (.ref b) H
def nP (K:Zgc):R2:=fun x y H Q=>Iq K x y H Q∨wY K x y H Q
theorem nR {X:Cx} :bo X (binaryOp .Add) (nP X.K):=Fm.or EG
def aI (xs:List V):List (Int×Int):=(List.range xs.length).filterMap fun l=> (rowAt xs l).map fun r=> ((l:Int),r)
def iq (H:Hp) (v:V) (q:Int×Int):Prop:=∃t:Addr,v=.ref t/\H t=some (.tup [.int q.1,.int q.2])
def iY (H:Hp) (v:V) (q:aJ):Prop:=∃t:Addr,v=.ref t/\H t=some (.tup [.int q.1,.int q.2.1,.int q.2.2.1,.int q.2.2.2])
theorem iq.same {H H':Hp}{v:V}{q:Int×Int}(h:iq H v q) (s:af H H'):iq H' v q:=by
 obtain⟨t,e,h1⟩:=h
 exact⟨t,e,s _ _ h1⟩
theorem iY.same {H H':Hp}{v:V}{q:aJ}(h:iY H v q) (s:af H H'):iY H' v q:=by
 obtain⟨t,e,h1⟩:=h
 exact⟨t,e,s _ _ h1⟩
def pairsOf (ps:List (Int×Int)) (a:Int×Int) (j:Nat):List aJ:=((ps.take j).filter fun b=>decide (a.1<b.1)).map fun b=> (a.1,a.2,b.1,b.2)
def jh (ps:List (Int×Int)) (i:Nat):List aJ:=(ps.take i).flatMap fun a=>pairsOf ps a ps.length
def df (ps:List (Int×Int)):List aJ:=jh ps ps.length
theorem UM {ps:List (Int×Int)}{a b:Int×Int}{j:Nat}(h:ps[j]? =some b):pairsOf ps a (j+1)=pairsOf ps a j++(if decide (a.1<b.1)=true then [(a.1,a.2,b.1,b.2)] else []):=by
 unfold pairsOf
 rw[ZaD,h,ZbC,Zax]
 cases hh:decide (a.1<b.1)<;>simp_all
theorem UL {ps:List (Int×Int)}{a:Int×Int}{i:Nat}(h:ps[i]? =some a):jh ps (i+1)=jh ps i++pairsOf ps a ps.length:=by
 unfold jh
 rw[ZaD,h,ZcR]
 simp
end
section
variable {P:Program}{w:World}{K:Zgc}{mg:Str->Option Value}{base:Heap}
abbrev nM:Stmt:=top 27
def ck (H:Hp) (x y:V) (wd hg:Int) (xs:List V):Prop:=dP H x wd hg/\cT H y=some xs/\eY wd hg xs
theorem ck.same {H H':Hp}{x y:V}{wd hg:Int}{xs:List V}(h:ck H x y wd hg xs) (s:af H H'):ck H' x y wd hg xs:=⟨h.1.same s,s.cT h.2.1,h.2.2⟩
theorem ck.pl {H:Hp}{x y:V}{wd hg:Int}{xs:List V}(h:ck H x y wd hg xs):oR K H y:=by
 obtain⟨a,rfl,ha⟩:=Zq h.2.1
 refine⟨⟨_,.tup ha⟩,fun zs e z hz=> ?_⟩
 rw[h.2.1]at e
 cases e
 rcases h.2.2.ok z hz with rfl |⟨i,rfl⟩
 ·exact⟨_,.ah⟩
 ·exact⟨_,.int i⟩
def kH:Sp:=fun vs H Q _=> ∃x y wd hg xs,vs=[x,y]/\ck H x y wd hg xs/\∀H',af H H'->Q .ah H'
theorem vP:aQ ["board", "lay"] ["board", "lay"] (aw nM):=Zr (by decide+kernel)
theorem xl {f:Addr}{fd:FuncData}(F:aC K "need_lay" "need_lay" nM f fd) (D1:Def P w K mg base 5 "is_lay" ["board", "thing"] (se K)):aA P w K mg base az 6 f fd ["board", "lay"] kH:=by
 refine F.ok vP (fun vs H Q E h=> ?_) (fun aq A outer s H vs Q E hr h=> ?_)
 ·obtain⟨x,y,wd,hg,xs,rfl,_⟩:=h
  rfl
 ·obtain⟨x,y,wd,hg,xs,rfl,l,q⟩:=h
  refine⟨_,Zh (ZS (Z9 (ZT (Zf D1 hr (Za (pv 0) (Za (pv 1) Zb))))) Zs Zw),?_⟩
  refine⟨x,rfl,y,rfl,x,y,wd,hg,rfl,l.1,l.pl,fun H' sm=> ⟨_,rfl,?_⟩⟩
  rw[l.2.1,l.2.2.is]
  exact aP (q H' sm)
def lM:Sp:=fun vs H Q _=> ∃x y wd hg xs,vs=[x,y]/\ck H x y wd hg xs/\∀(l:Addr) (H':Hp) (ps:List V),af H H'->H l=none->H' l=some (.lst ps)->Paired (iq H') ps (aI xs)->Q (.ref l) H'
abbrev we:Stmt:=top 33
def ve:Sp:=fun vs H Q _=> ∃x y wd hg xs,vs=[x,y]/\ck H x y wd hg xs/\∀(l:Addr) (H':Hp) (ps:List V),af H H'->H l=none->H' l=some (.lst ps)->Paired (iY H') ps (df (aI xs))->Q (.ref l) H'
theorem AR:aQ ["board", "lay", "found"] ["board", "lay"] (aw we):=Zr (by decide+kernel)
theorem Rx {f:Addr}{fd:FuncData}(F:aC K "point_pairs" "point_pairs" we f fd) (D1:Def P w K mg base 7 "points" ["board", "lay"] lM):aA P w K mg base az 8 f fd ["board", "lay"] ve:=by
 refine F.ok AR (fun vs H Q E h=> ?_) (fun aq A outer s H vs Q E hr h=> ?_)
 ·obtain⟨x,y,wd,hg,xs,rfl,_⟩:=h
  rfl
 ·obtain⟨x,y,wd,hg,xs,rfl,l,q⟩:=h
  refine⟨_,Zd (Zo (i:=2) AR.nd rfl (Or.inr rfl) (Zf D1 hr (Za (pv 0) (Za (pv 1) Zb))))
   (Zh (Zm (ZA ["line", "row", "other", "there", "found"] 4 [2] (ZD (pv 2))
    (fun C s H fp=>show PG (aG _ _ _ C s H fp) _ (gJ K 2 (bR (bF 0) (bR (bF 1) gK))) from ZO rfl (Zj (pb 0) (Zj (pb 1) ZF))) (fun C s H fp=>ZC)
    (fun C s H fp D=>Fp rfl rfl rfl (show PI (aG _ _ _ C s H fp) _ _ (xD K (pd 4)) from ZD (pv 4))
     (show PG (aG _ _ _ C s H fp) _ (gJ K 2 (bR (bF 2) (bR (bF 3) gK))) from ZO rfl (Zj (pb 2) (Zj (pb 3) ZF)))
     (Z5 (ZI DT (pv 0) (pv 2) (cC _))) (bL rfl (Zt (Za (pv 0) (Za (pv 1) (Za (pv 2) (Za (pv 3) Zb)))))) (by intro _;rfl) (by intro g' h;cases h))))),?_⟩
  refine⟨x,rfl,y,rfl,x,y,wd,hg,xs,rfl,l,fun fa H1 ps s1 gm hf pr=> ?_⟩
  generalize B5:aI xs=qs at pr q
  have tT:ps.length=qs.length:=ZaA pr
  have XD:qs.length<=12:=by
   rw[<-B5]
   unfold aI
   have:=ZcO (fun l:Nat=> (rowAt xs l).map fun r=> ((l:Int),r)) (List.range xs.length)
   rw[Zbz]at this
   have h1:=l.2.2.len
   have h2:=l.1.2.2.1
   omega
  refine⟨_,rfl,fa,rfl,⟨ps,ai.of hf⟩,?_⟩
  refine ZG (xs:=ps) (fun i ys σ H2=> ∃v0 v1 v2 v3,σ=[v0,v1,v2,v3,some (.ref fa)]/\af H1 H2/\Paired (iY H2) ys (jh qs i)/\ys.length<=i*12) ⟨_,_,_,_,rfl,af.refl _,.nil,Zaz _⟩ (fun i ys σ H2 _ ⟨_,_,_,_,_,s2,_⟩=>ai.of (s2 _ _ hf)) ?_ ?_
  ·rintro i v ys σ H2 hv ⟨v0,v1,v2,v3,rfl,s2,bS,fk⟩
   obtain⟨a,Mt,t,rfl,ht⟩:=Paired.at pr hv
   have hi:i<ps.length:=(X8.mp hv).1
   refine⟨t,_,rfl,ag.of (s2 _ _ ht),rfl,_,_,rfl,_,_,rfl,rfl,?_⟩
   refine⟨_,rfl,fa,rfl,⟨ps,ai.of (s2 _ _ hf)⟩,?_⟩
   refine ZG (xs:=ps) (fun j ys σ H3=> ∃v2 v3,σ=[some (.int a.1),some (.int a.2),v2,v3,some (.ref fa)]/\af H1 H3/\Paired (iY H3) ys (jh qs i++pairsOf qs a j)/\ys.length<=i*12+j) ⟨_,_,rfl,s2,by simpa[pairsOf] using bS,fk⟩ (fun i ys σ H2 _ ⟨_,_,_,s2,_⟩=>ai.of (s2 _ _ hf)) ?_ ?_
   ·rintro j v ys σ H3 iI ⟨v2,v3,rfl,s3,br,qo⟩
    obtain⟨b,Ms,t',rfl,jk⟩:=Paired.at pr iI
    have hj:j<ps.length:=(X8.mp iI).1
    have es:=UM (a:=a) Ms
    refine⟨t',_,rfl,ag.of (s3 _ _ jk),rfl,_,_,rfl,_,_,rfl,rfl,?_⟩
    refine⟨_,rfl,_,rfl,_,_,rfl,rfl,_,rfl,?_⟩
    cases hh:decide (a.1<b.1) with
    |true=>
     rw[hh]at es
     refine bg ?_
     refine⟨_,rfl,_,rfl,_,rfl,_,rfl,AI,fun t4 kZ=> ⟨by rw[Zau];omega,?_⟩⟩
     have s4:af H3 (upd H3 t4 (.tup [.int a.1,.int a.2,.int b.1,.int b.2])):=fun c o hc=>by rw[Zi (Ze hc kZ)];exact hc
     refine⟨_,_,rfl,s3.trans s4,?_,by rw[Zam];simp;omega⟩
     rw[es,Zay rfl,<-ZbV]
     exact ZbK (Paired.aS br fun v q' hq=>hq.same s4) ⟨t4,rfl,Zc⟩
    |false=>
     rw[hh]at es
     refine aP ⟨_,_,rfl,s3,?_,.o⟩
     rw[es,Zav Zag,ZbN]
     exact br
   ·rintro ys σ H3 ⟨v2,v3,rfl,s3,br,qo⟩
    refine⟨_,_,_,_,rfl,s3,?_,.o⟩
    rw[UL Mt,<-tT]
    exact br
  ·rintro ys σ H2 ⟨v0,v1,v2,v3,rfl,s2,bS,fk⟩ p hp
   have s4:af H2 (upd H2 p (.lst ys)):=fun c o hc=>by rw[Zi (Ze hc hp)];exact hc
   refine q p _ ys (s1.trans (s2.trans s4)) ((s1.trans s2).free hp) Zc ?_
   rw[tT]at bS
   exact Paired.aS bS fun v q' hq=>hq.same s4
end
section
def dC (xs:List V) (n:Nat):List (Int×Int):=(List.range n).filterMap fun l=> (rowAt xs l).map fun r=> ((l:Int),r)
theorem jO (xs:List V) (n:Nat):dC xs (n+1)=dC xs n++((rowAt xs n).map fun r=> ((n:Int),r)).toList:=by
 unfold dC
 rw[Zcr,List.filterMap_append]
 cases h:rowAt xs n<;>simp[h]
end
section
variable {P:Program}{w:World}{K:Zgc}{mg:Str->Option Value}{base:Heap}
abbrev nK:Stmt:=top 29
theorem vM:aQ ["board", "lay"] ["board", "lay"] (aw nK):=Zr (by decide+kernel)
theorem xk {f:Addr}{fd:FuncData}(F:aC K "points" "points" nK f fd) (G:Gs mg) (D1:Def P w K mg base 6 "need_lay" ["board", "lay"] kH):aA P w K mg base az 7 f fd ["board", "lay"] lM:=by
 refine F.ok vM (fun vs H Q E h=> ?_) (fun aq A outer s H vs Q E hr h=> ?_)
 ·obtain⟨x,y,wd,hg,xs,rfl,_⟩:=h
  rfl
 ·obtain⟨x,y,wd,hg,xs,rfl,l,q⟩:=h
  refine⟨_,Zd (ZL (Zf D1 hr (Za (pv 0) (Za (pv 1) Zb))))
   (Zh (Zm (ZA ["line", "row"] 2 [] (UJ rfl G.enumerate (Za (pv 1) Zb))
    (fun C s H fp=>show PG (aG _ _ _ C s H fp) _ (gJ K 2 (bR (bF 0) (bR (bF 1) gK))) from ZO rfl (Zj (pb 0) (Zj (pb 1) ZF)))
    (fun C s H fp=>Z5 (Yg (YV (pv 1)))) (fun C s H fp D=>bL rfl (Zt (Za (pv 0) (Za (pv 1) Zb))))))),?_⟩
  refine⟨x,rfl,y,rfl,x,y,wd,hg,xs,rfl,l,fun H1 s1=> ?_⟩
  obtain⟨a,rfl,ha⟩:=Zq (l.same s1).2.1
  have hlen:xs.length<=12:=by
   have h1:=l.2.2.len
   have h2:=l.1.2.2.1
   omega
  refine⟨_,rfl,a,rfl,⟨xs,ag.of ha⟩,?_⟩
  refine JC (xs:=xs) (fun i ys σ H2=> ∃v0 v1,σ=[v0,v1]/\af H1 H2/\Paired (iq H2) ys (dC xs i)/\ys.length<=i) ⟨_,_,rfl,af.refl _,.nil,Zaz _⟩ (fun i ys σ H2 _ ⟨_,_,_,s2,_⟩=>ag.of (s2 _ _ ha)) ?_ ?_
  ·rintro i v T ys σ H2 hv hT ⟨v0,v1,rfl,s2,bS,fk⟩
   have hi:i<xs.length:=(X8.mp hv).1
   have sT:af H2 (upd H2 T (.par [.int (i:Int),v])):=fun c o hc=>by rw[Zi (Ze hc hT)];exact hc
   have er:rowAt xs i=gU v:=by unfold rowAt;rw[hv];rfl
   refine⟨T,_,rfl,ag.kL Zc,rfl,_,_,rfl,_,_,rfl,rfl,?_⟩
   refine⟨_,rfl,_,rfl,?_⟩
   generalize uh:upd H2 T (HO.par [V.int (i:Int),v])=H3 at sT
   rcases l.2.2.ok v (Zap hv) with rfl |⟨r,rfl⟩
   ·refine aP ⟨_,_,rfl,s2.trans sT,?_,.o⟩
    rw[jO,er]
    exact(by simpa[gU] using Paired.aS bS fun v q' hq=>hq.same sT)
   ·refine bg ?_
    refine⟨_,rfl,_,rfl,bf,fun t ht=> ⟨by rw[Zau];omega,?_⟩⟩
    have s4:af H3 (upd H3 t (.tup [.int (i:Int),.int r])):=fun c o hc=>by rw[Zi (Ze hc ht)];exact hc
    refine⟨_,_,rfl,s2.trans (sT.trans s4),?_,by rw[Zam];simp;omega⟩
    rw[jO,er]
    exact ZbK (Paired.aS bS fun v q' hq=>hq.same (sT.trans s4)) ⟨t,rfl,Zc⟩
  ·rintro ys σ H2 ⟨v0,v1,rfl,s2,bS,fk⟩ p hp
   have s4:af H2 (upd H2 p (.lst ys)):=fun c o hc=>by rw[Zi (Ze hc hp)];exact hc
   exact q p _ ys (s1.trans (s2.trans s4)) ((s1.trans s2).free hp) Zc (Paired.aS bS fun v q' hq=>hq.same s4)
end
end U
namespace U
open PySem L2 PyProof.Rows PyProof.Rows.dc
section
def eE (p:aJ):aJ:=(p.2.2.1 - p.1,p.2.2.2 - p.2.1,p.1,p.2.2.1)
def mY (ks:List aJ):Prop:=(ks.map bh).Pairwise fun a b=>av b a=false
theorem oQ.same {H H':Hp}{v:V}{q:aJ}(h:oQ H v q) (s:af H H'):oQ H' v q:=by
 obtain⟨t,t',e,h1,h2⟩:=h
 exact⟨t,t',e,s _ _ h1,s _ _ h2⟩
theorem pJ (xs:List V):(aI xs).length<=xs.length:=by
 unfold aI
 have:=ZcO (fun l:Nat=> (rowAt xs l).map fun r=> ((l:Int),r)) (List.range xs.length)
 rw[Zbz]at this
 exact this
theorem FE {α β:Type}(f:α->List β) (n:Nat):∀l:List α,(∀a∈l,(f a).length<=n)->(l.flatMap f).length<=l.length*n
 | [],_=>by simp
 |a::l,h=>by
  have h1:=h a Zab
  have h2:=FE f n l fun b hb=>h b (Zaa _ hb)
  rw[Zbm,Zam,ZaJ,Nat.succ_mul]
  omega
theorem Ud (ps:List (Int×Int)):(df ps).length<=ps.length*ps.length:=by
 unfold df jh
 rw[ZaK]
 refine FE _ _ _ fun a _=> ?_
 unfold pairsOf
 rw[Zac]
 refine Zbf (Zb9 ..) ?_
 rw[ZaI]
 exact Nat.min_le_right ..
theorem Ln {H:Hp}{x y:V}{wd hg:Int}{xs:List V}(l:ck H x y wd hg xs):xs.length<=12:=by
 have h1:=l.2.2.len
 have h2:=l.1.2.2.1
 omega
theorem IL {H:Hp}{x y:V}{wd hg:Int}{xs:List V}(l:ck H x y wd hg xs):(df (aI xs)).length<=144:=by
 have h1:=Ud (aI xs)
 have h2:=pJ xs
 have h3:=Ln l
 have h4:(aI xs).length<=12:=.o
 have h5:=Nat.mul_le_mul h4 h4
 omega
end
section
variable {P:Program}{w:World}{K:Zgc}{mg:Str->Option Value}{base:Heap}
abbrev wb:Stmt:=top 34
theorem IK {H:Hp}{x y:V}{wd hg:Int}{xs:List V}(l:ck H x y wd hg xs) (w7:wd<=7):(df (aI xs)).length<=49:=by
 have h1:=Ud (aI xs)
 have h2:=pJ xs
 have h3:=l.2.2.len
 have h4:(aI xs).length<=7:=.o
 have h5:=Nat.mul_le_mul h4 h4
 omega
def vd:Sp:=fun vs H Q _=> ∃x y wd hg xs,vs=[x,y]/\ck H x y wd hg xs/\wd<=7/\∀(l:Addr) (H':Hp) (rs:List V) (ks:List aJ),af H H'->H l=none->H' l=some (.lst rs)->Paired (oQ H') rs ks->ks.Perm ((df (aI xs)).map eE)->mY ks->Q (.ref l) H'
theorem Hz:aQ ["board", "lay"] ["board", "lay"] (aw wb):=Zr (by decide+kernel)
theorem Ry {f:Addr}{fd:FuncData}(F:aC K "steps" "steps" wb f fd) (G:Gs mg) (D1:Def P w K mg base 8 "point_pairs" ["board", "lay"] ve):aA P w K mg base az 9 f fd ["board", "lay"] vd:=by
 refine F.ok Hz (fun vs H Q E h=> ?_) (fun aq A outer s H vs Q E hr h=> ?_)
 ·obtain⟨x,y,wd,hg,xs,rfl,_⟩:=h
  rfl
 ·obtain⟨x,y,wd,hg,xs,rfl,l,w7,q⟩:=h
  have hu:=hr.units
  refine⟨_,Zh (Zm (Zk (WW (Nat.lt_of_le_of_lt (Nat.add_le_add_left (by decide:2<=64) _) hu)) rfl G.sorted PyProof.Rows.Boot.«sorted» (Za (ZA ["line", "row", "other", "there"] 4 [] (ZD (Zf D1 hr (Za (pv 0) (Za (pv 1) Zb))))
    (fun C s H fp=>show PG (aG _ _ _ C s H fp) _ (gJ K 4 (bR (bF 0) (bR (bF 1) (bR (bF 2) (bR (bF 3) gK))))) from ZO rfl (Zj (pb 0) (Zj (pb 1) (Zj (pb 2) (Zj (pb 3) ZF))))) (fun C s H fp=>ZC)
    (fun C s H fp D=>bL rfl (Zt (Za (Zt (Za (Zn ZW (pv 2) (pv 0)) (Za (Zn ZW (pv 3) (pv 1)) Zb))) (Za (pv 0) (Za (pv 2) Zb)))))) Zb))),?_⟩
  refine⟨x,rfl,y,rfl,x,y,wd,hg,xs,rfl,l,fun fa H1 ps s1 gm hf pr=> ?_⟩
  have hlen:=IK l w7
  generalize B5:df (aI xs)=qs at pr q hlen
  have tT:ps.length=qs.length:=ZaA pr
  refine⟨fa,rfl,⟨ps,ai.of hf⟩,?_⟩
  refine ZG (xs:=ps) (fun i ys σ H2=> ∃v0 v1 v2 v3,σ=[v0,v1,v2,v3]/\af H1 H2/\Paired (oQ H2) ys ((qs.take i).map eE)/\ys.length<=i) ⟨_,_,_,_,rfl,af.refl _,.nil,Zaz _⟩ (fun i ys σ H2 _ ⟨_,_,_,_,_,s2,_⟩=>ai.of (s2 _ _ hf)) ?_ ?_
  ·rintro i v ys σ H2 hv ⟨v0,v1,v2,v3,rfl,s2,bS,fk⟩
   obtain⟨⟨a,b,c,d⟩,hq,tt,rfl,Ml⟩:=ZV pr hv
   have hi:i<ps.length:=(X8.mp hv).1
   refine⟨tt,_,rfl,ag.of (s2 _ _ Ml),rfl,_,_,rfl,_,_,rfl,_,_,rfl,_,_,rfl,rfl,?_⟩
   refine⟨_,rfl,_,rfl,c,a,rfl,rfl,_,rfl,_,rfl,d,b,rfl,rfl,bf,fun t' jk=> ?_⟩
   refine⟨_,rfl,_,rfl,uZ,fun t ht=> ⟨by rw[Zau];omega,?_⟩⟩
   generalize yO:upd H2 t' (HO.tup [V.int (c - a),V.int (d - b)])=H4 at ht
   have s4:af H2 H4:=fun e o hc=>by rw[<-yO,Zi (Ze hc jk)];exact hc
   have kZ:H4 t'=some (.tup [V.int (c - a),V.int (d - b)]):=by rw[<-yO];exact Zc
   generalize qE:upd H4 t (HO.tup [V.ref t',V.int a,V.int c])=H5
   have s5:af H4 H5:=fun e o hc=>by rw[<-qE,Zi (Ze hc ht)];exact hc
   have xO:H5 t=some (.tup [V.ref t',V.int a,V.int c]):=by rw[<-qE];exact Zc
   refine⟨_,_,_,_,rfl,s2.trans (s4.trans s5),?_,by rw[Zam];simp;omega⟩
   rw[ZaD,hq,Zax]
   exact ZbK (Paired.aS bS fun v q' hq=>hq.same (s4.trans s5)) ⟨t,t',rfl,xO,s5 _ _ kZ⟩
  ·rintro ys σ H2 ⟨v0,v1,v2,v3,rfl,s2,bS,fk⟩ p hp
   have s4:af H2 (upd H2 p (.lst ys)):=fun c o hc=>by rw[Zi (Ze hc hp)];exact hc
   rw[tT,ZaK]at bS
   refine⟨p,ys,qs.map eE,rfl,ai.of Zc,Paired.aS bS fun v q' hq=>hq.same s4,.o,fun r bQ bz BX Mx Mv br=> ?_⟩
   have s5:af (upd H2 p (.lst ys)) (upd (upd H2 p (.lst ys)) r (.lst bQ)):=fun c o hc=>by rw[Zi (Ze hc BX)];exact hc
   exact q r _ bQ bz (s1.trans (s2.trans (s4.trans s5))) ((s1.trans (s2.trans s4)).free BX) Zc (Paired.aS br fun v q' hq=>oQ.same hq s5) Mx Mv
end
section
theorem YW (a b:Int) (l m:List Int):av (a::l) (b::m)=true↔a<b∨(a=b/\av l m=true):=by
 have z:av (a::l) (b::m)=if a=b then av l m else decide (a<b):=rfl
 rw[z]
 by_cases e:a=b
 ·rw[Zay e]
  constructor
  ·exact fun h=> .inr ⟨e,h⟩
  ·rintro(h |h)
   ·omega
   ·exact h.2
 ·rw[Zav e,Zbw]
  constructor
  ·exact fun h=> .inl h
  ·rintro(h |h)
   ·exact h
   ·exact absurd h.1 e
theorem Jh:av [] []=true↔False:=by simp[av]
def dn (a b:aJ):Prop:=a.1=b.1/\a.2.1=b.2.1
instance (a b:aJ):Decidable (dn a b):=inferInstanceAs (Decidable (_/\_))
def four (a b:aJ):aJ:=(a.2.2.1,a.2.2.2,b.2.2.1,b.2.2.2)
def gZ (a b:aJ):Bool:=av [a.2.2.1,a.2.2.2] [b.2.2.1,b.2.2.2]
def lG (S:List aJ):Option aJ->Prop
 |none=> ∀a∈S,∀b∈S,dn a b->gZ a b=false
 |some k=> (∃a∈S,∃b∈S,dn a b/\gZ a b=true/\k=four a b)/\∀a∈S,∀b∈S,dn a b->gZ a b=true->av (bh (four a b)) (bh k)=false
def lD (ks:List aJ):List (aJ×aJ):=ks.zip (ks.drop 1)
def iG (ks:List aJ):List aJ:=((lD ks).filter fun p=>decide (dn p.1 p.2)).map fun p=>four p.1 p.2
theorem nf {b:Bool} :b=false↔¬b=true:=by cases b<;>simp
theorem mid {h d b:aJ}(h1:av (bh d) (bh h)=false) (h2:av (bh b) (bh d)=false) (s:dn h b):dn h d/\av (bh (four h b)) (bh (four h d))=false:=by
 unfold bh at *
 unfold dn at *
 unfold four
 rw[nf]at *
 simp only[YW,Jh,and_false,Zb4,false_or]at *
 omega
theorem Ei {a b:aJ}(s:dn a b):av (bh a) (bh b)=true↔gZ a b=true:=by
 unfold bh gZ dn at *
 simp only[YW,Jh,and_false,Zb4]at *
 omega
theorem DH {ks:List aJ}(hr:mY ks):∀a∈ks,∀b∈ks,dn a b->gZ a b=true->∃p∈lD ks,dn p.1 p.2/\av (bh (four a b)) (bh (four p.1 p.2))=false:=by
 induction ks with
 |nil=>intro a ha;cases ha
 |cons h r ih=>
  have cw:mY r:=(Zbp.mp hr).2
  have hh:∀d∈r,av (bh d) (bh h)=false:=fun d hd=> (Zbp.mp hr).1 _ (Zb3 hd)
  intro a ha b hb s l
  have kl:=(Ei s).mpr l
  rcases Zaj.mp ha with rfl |yE
  ·have bY:b∈r:=by
    rcases Zaj.mp hb with rfl |hb
    ·have:=Z8 _ _ kl
     rw[kl]at this;cases this
    ·exact hb
   cases r with
   |nil=>cases bY
   |cons d r'=>
    have dI:av (bh b) (bh d)=false:=by
     rcases Zaj.mp bY with rfl |jt
     ·cases hx:av (bh b) (bh b) with
      |false=>rfl
      |true=>
       have:=Z8 _ _ hx
       rw[hx]at this;cases this
     ·exact(Zbp.mp cw).1 _ (Zb3 jt)
    obtain⟨m1,m2⟩:=mid (hh d Zab) dI s
    exact⟨(a,d),Zab,m1,m2⟩
  ·have bY:b∈r:=by
    rcases Zaj.mp hb with rfl |hb
    ·have:=hh a yE
     rw[kl]at this;cases this
    ·exact hb
   obtain⟨p,hp,q1,q2⟩:=ih cw a yE b bY s l
   refine⟨p,?_,q1,q2⟩
   cases r with
   |nil=>cases yE
   |cons d r'=>exact Zaa _ hp
theorem Qf {ks:List aJ}(hr:mY ks) (hn:ks.Nodup):∀p∈lD ks,dn p.1 p.2->p.1∈ks/\p.2∈ks/\gZ p.1 p.2=true:=by
 induction ks with
 |nil=>intro p hp;cases hp
 |cons h r ih=>
  have cw:mY r:=(Zbp.mp hr).2
  have hh:∀d∈r,av (bh d) (bh h)=false:=fun d hd=> (Zbp.mp hr).1 _ (Zb3 hd)
  have qm:=(Zbk.mp hn)
  intro p hp s
  cases r with
  |nil=>cases hp
  |cons d r'=>
   rcases Zaj.mp (show p∈(h,d)::lD (d::r') from hp) with rfl |hp
   ·refine⟨Zab,Zaa _ Zab,(Ei s).mp ?_⟩
    cases hx:av (bh h) (bh d) with
    |true=>rfl
    |false=>
     have e:=RP (Jj _ _ hx (hh d Zab))
     rw[e]at qm
     exact absurd Zab qm.1
   ·obtain⟨q1,q2,q3⟩:=ih cw qm.2 p hp s
    exact⟨Zaa _ q1,Zaa _ q2,q3⟩
theorem JF {ks:List aJ}{k:aJ} :k∈iG ks↔∃p∈lD ks,dn p.1 p.2/\four p.1 p.2=k:=by
 unfold iG
 rw[ZaC]
 constructor
 ·rintro⟨p,hp,e⟩
  rw[ZaW,Zbw]at hp
  exact⟨p,hp.1,hp.2,e⟩
 ·rintro⟨p,hp,s,e⟩
  exact⟨p,ZaW.mpr ⟨hp,Zat s⟩,e⟩
theorem Tz {ks:List aJ}(hr:mY ks) (h:iG ks=[]):lG ks none:=fun a ha b hb s=>by
 cases hl:gZ a b with
 |false=>rfl
 |true=>
  obtain⟨p,hp,q,_⟩:=DH hr a ha b hb s hl
  have:four p.1 p.2∈iG ks:=JF.mpr ⟨p,hp,q,rfl⟩
  rw[h]at this;cases this
theorem TB {ks:List aJ}(hr:mY ks) (hn:ks.Nodup) {k:aJ}(hk:k∈iG ks) (hm:∀k'∈iG ks,av (bh k') (bh k)=false):lG ks (some k):=by
 obtain⟨p,hp,s,e⟩:=JF.mp hk
 obtain⟨m1,m2,m3⟩:=Qf hr hn p hp s
 refine⟨⟨p.1,m1,p.2,m2,s,m3,e.symm⟩,fun a ha b hb s' l=> ?_⟩
 obtain⟨p',qi,q1,q2⟩:=DH hr a ha b hb s' l
 exact Yy _ _ _ (hm _ (JF.mpr ⟨p',qi,q1,rfl⟩)) q2
def z4 (xs:List V) (q:aJ):Prop:=∃l o:Nat,l<o/\o<xs.length/\rV xs o l=some q
theorem Yb {xs:List V}{p:Int×Int} :p∈aI xs↔∃l:Nat,l<xs.length/\rowAt xs l=some p.2/\p.1=(l:Int):=by
 unfold aI
 rw[Zbn]
 constructor
 ·rintro⟨l,hl,e⟩
  rw[ZaB]at e
  obtain⟨r,hr,rfl⟩:=e
  exact⟨l,ZaU.mp hl,hr,rfl⟩
 ·rintro⟨l,hl,hr,e⟩
  refine⟨l,ZaU.mpr hl,?_⟩
  rw[hr,Zdb,<-e]
theorem Rm {xs:List V}{q:aJ} :q∈g8 xs xs.length↔z4 xs q:=by
 unfold g8 rT z4
 simp only[List.mem_flatMap,Zbn,ZaU]
 constructor
 ·rintro⟨o,ho,l,hl,e⟩
  exact⟨l,o,hl,ho,e⟩
 ·rintro⟨l,o,hl,ho,e⟩
  exact⟨o,ho,l,hl,e⟩
theorem Yc {xs:List V}{o l:Nat}{q:aJ} :rV xs o l=some q↔∃a b,rowAt xs l=some a/\rowAt xs o=some b/\q=((o:Int) - l,b - a,(l:Int),(o:Int)):=by
 unfold rV
 cases h1:rowAt xs l with
 |none=>simp
 |some a=>
  cases h2:rowAt xs o with
  |none=>simp
  |some b=>
   simp only[Option.bind_some,Zdb,Option.some.injEq]
   constructor
   ·rintro rfl
    exact⟨a,b,rfl,rfl,rfl⟩
   ·rintro⟨_,_,rfl,rfl,rfl⟩
    rfl
theorem R4 {xs:List V}{q:aJ} :q∈(df (aI xs)).map eE↔z4 xs q:=by
 unfold df jh
 rw[ZaK]
 simp only[ZaC,List.mem_flatMap,pairsOf,ZaK,ZaW,Zbw]
 constructor
 ·rintro⟨_,⟨a,ha,b,⟨hb,ar⟩,rfl⟩,rfl⟩
  obtain⟨l,hl,hr,e⟩:=Yb.mp ha
  obtain⟨o,ho,cw,e'⟩:=Yb.mp hb
  refine⟨l,o,.o,ho,Yc.mpr ⟨a.2,b.2,hr,cw,?_⟩⟩
  unfold eE
  rw[e,e']
 ·rintro⟨l,o,hl,ho,e⟩
  obtain⟨a,b,h1,h2,rfl⟩:=Yc.mp e
  exact⟨((l:Int),a,(o:Int),b),⟨((l:Int),a),Yb.mpr ⟨l,.o,h1,rfl⟩,((o:Int),b),⟨Yb.mpr ⟨o,ho,h2,rfl⟩,by show(l:Int)< (o:Int);omega⟩,rfl⟩,rfl⟩
theorem Uh (xs:List V) (n:Nat):(g8 xs n).Nodup:=by
 unfold g8
 rw[ZaQ,List.pairwise_flatMap]
 refine⟨fun o _=> ?_,?_⟩
 ·unfold rT
  rw[ZcQ]
  refine ZbI ?_ (ZaQ.mp ZcW)
  intro l l' aW q hq q' cW e
  obtain⟨_,_,_,_,rfl⟩:=Yc.mp hq
  obtain⟨_,_,_,_,rfl⟩:=Yc.mp cW
  simp only[Prod.mk.injEq]at e
  omega
 ·refine ZbI ?_ (ZaQ.mp ZcW)
  intro o o' aW q hq q' cW e
  unfold rT at hq cW
  rw[Zbn]at hq cW
  obtain⟨l,_,hq⟩:=hq
  obtain⟨l',_,cW⟩:=cW
  obtain⟨_,_,_,_,rfl⟩:=Yc.mp hq
  obtain⟨_,_,_,_,rfl⟩:=Yc.mp cW
  simp only[Prod.mk.injEq]at e
  omega
theorem Eb (xs:List V):(aI xs).Pairwise fun a b=>a.1≠b.1:=by
 unfold aI
 rw[ZcQ]
 refine ZbI ?_ (ZaQ.mp ZcW)
 intro l l' aW q hq q' cW
 rw[ZaB]at hq cW
 obtain⟨_,_,rfl⟩:=hq
 obtain⟨_,_,rfl⟩:=cW
 show(l:Int)≠(l':Int)
 omega
theorem Wq (xs:List V):((df (aI xs)).map eE).Nodup:=by
 unfold df jh
 rw[ZaK,ZaQ,Zbx,List.pairwise_flatMap]
 refine⟨fun a _=> ?_,?_⟩
 ·unfold pairsOf
  rw[ZaK,Zbx]
  refine ZbI ?_ ((Eb xs).filter _)
  intro b b' aW e
  unfold eE at e
  simp only[Prod.mk.injEq]at e
  exact aW e.2.2.2
 ·refine ZbI ?_ (Eb xs)
  intro a a' aW q hq q' cW e
  unfold pairsOf at hq cW
  rw[ZaC]at hq cW
  obtain⟨b,_,rfl⟩:=hq
  obtain⟨b',_,rfl⟩:=cW
  unfold eE at e
  simp only[Prod.mk.injEq]at e
  exact aW e.2.2.1
theorem Yh (xs:List V):((df (aI xs)).map eE).Perm (g8 xs xs.length):=
 (Zcu (Wq xs) (Uh xs _)).mpr fun q=>R4.trans Rm.symm
theorem Pd (vs:List V):fo vs (some 1) none=vs.drop 1:=by
 unfold fo HT.aK
 cases vs with
 |nil=>rfl
 |cons a r=>simp
def nX (ks:List aJ) (i:Nat):List aJ:=(((lD ks).take i).filter fun p=>decide (dn p.1 p.2)).map fun p=>four p.1 p.2
theorem UQ {ks:List aJ}{i:Nat}{a b:aJ}(h1:ks[i]? =some a) (h2:(ks.drop 1)[i]? =some b):nX ks (i+1)=nX ks i++(if decide (dn a b)=true then [four a b] else []):=by
 have e:(lD ks)[i]? =some (a,b):=List.getElem?_zip_eq_some.mpr ⟨h1,h2⟩
 unfold nX
 rw[ZaD,e,ZbC,Zax]
 by_cases h:dn a b<;>simp[h]
def VD (H:Hp) (v:V):Option aJ->Prop
 |none=>v=.ah
 |some k=>iY H v k
end
section
variable {P:Program}{w:World}{K:Zgc}{mg:Str->Option Value}{base:Heap}
abbrev wD:Stmt:=top 35
def vB:Sp:=fun vs H Q _=> ∃x y wd hg xs,vs=[x,y]/\ck H x y wd hg xs/\wd<=7/\∀(H':Hp) (v:V) (r:Option aJ),af H H'->lG (g8 xs xs.length) r->VD H' v r->Q v H'
theorem vR:aQ ["board", "lay", "told", "likes"] ["board", "lay"] (aw wD):=Zr (by decide+kernel)
theorem Rw {f:Addr}{fd:FuncData}(F:aC K "first_like" "first_like" wD f fd) (G:Gs mg) (D1:Def P w K mg base 9 "steps" ["board", "lay"] vd):aA P w K mg base az 10 f fd ["board", "lay"] vB:=by
 refine F.ok vR (fun vs H Q E h=> ?_) (fun aq A outer s H vs Q E hr h=> ?_)
 ·obtain⟨x,y,wd,hg,xs,rfl,_⟩:=h
  rfl
 ·obtain⟨x,y,wd,hg,xs,rfl,l,w7,q⟩:=h
  have hu:=qY hr
  refine⟨_,Zd (Zo (i:=2) vR.nd rfl (Or.inl rfl) (Zf D1 hr (Za (pv 0) (Za (pv 1) Zb))))
   (Zd (Jc ["step", "line", "other", "beside", "here", "there"] 6 [] (i:=3) vR.nd rfl (Or.inl rfl) (EK rfl G.zip (Za (pv 2) (Za (Jd ET (pv 2) (J4 Zg) J5) Zb)))
    (fun C s H fp=>show PG (aG _ _ _ C s H fp) _ (gJ K 2 (bR (gJ K 3 (bR (bF 0) (bR (bF 1) (bR (bF 2) gK)))) (bR (gJ K 3 (bR (bF 3) (bR (bF 4) (bR (bF 5) gK)))) gK))) from
     ZO rfl (Zj (ZO rfl (Zj (pb 0) (Zj (pb 1) (Zj (pb 2) ZF)))) (Zj (ZO rfl (Zj (pb 3) (Zj (pb 4) (Zj (pb 5) ZF)))) ZF)))
    (fun C s H fp=>Z5 (ZI (show bo (aG _ _ _ C s H fp) (compareOp .Eq) (fun x y H Q=> ∃(a b:Addr) (ns ms:List Int),x=.ref a/\y=.ref b/\ag K H a (ns.map V.int)/\ag K H b (ms.map V.int)/\Q (.bl (decide (ns=ms))) H) from Ru hr.Gh) (pv 0) (pv 3) (cC _)))
    (fun C s H fp D=>bL rfl (Zt (Za (pv 1) (Za (pv 2) (Za (pv 4) (Za (pv 5) Zb)))))))
   (Zh (Zm (QI rfl hu rfl G.min (pv 3))))),?_⟩
  refine⟨x,rfl,y,rfl,x,y,wd,hg,xs,rfl,l,w7,fun fa H1 ps ks s1 gm hf pr perm rise=> ?_⟩
  have MR:ps.length=ks.length:=ZaA pr
  have hlen:ks.length<=144:=by
   rw[perm.length_eq,Zac]
   exact IL l
  refine⟨_,rfl,_,rfl,_,rfl,fa,ps,rfl,ai.of hf,fun c hc=> ?_⟩
  generalize jA:upd H1 c (HO.lst (fo ps (some 1) none))=H2
  have s2:af H1 H2:=fun b o hb=>by rw[<-jA,Zi (Ze hb hc)];exact hb
  have gq:H2 c=some (.lst (ps.drop 1)):=by rw[<-jA,Pd];exact Zc
  have Cs:=s2 _ _ hf
  refine⟨fa,c,rfl,⟨_,_,ai.of Cs,ai.of gq⟩,?_⟩
  refine Uj (xs:=ps) (zs:=ps.drop 1) (fun i ys σ H3=> ∃v0 v1 v2 v3 v4 v5,σ=[v0,v1,v2,v3,v4,v5]/\af H2 H3/\Paired (iY H3) ys (nX ks i)/\ys.length<=i) ⟨_,_,_,_,_,_,rfl,af.refl _,.nil,Zaz _⟩
   (fun i ys σ H3 _ ⟨_,_,_,_,_,_,_,s3,_⟩=> ⟨ai.of (s3 _ _ Cs),ai.of (s3 _ _ gq)⟩) ?_ ?_
  ·rintro i va vb T ys σ H3 BR L9 hT ⟨v0,v1,v2,v3,v4,v5,rfl,s3,br,qo⟩
   have hi:i<ps.length:=(X8.mp BR).1
   obtain⟨a,g9,ta,GA,rfl,xK,Mi⟩:=ZV pr BR
   have L8:ps[1+i]? =some vb:=by rw[<-List.getElem?_drop];exact L9
   obtain⟨b,mq,tb,nB,rfl,jT,Mg⟩:=ZV pr L8
   have yl:(ks.drop 1)[i]? =some b:=by rw[List.getElem?_drop];exact mq
   have es:=UQ g9 yl
   have sT:af H3 (upd H3 T (.par [.ref ta,.ref tb])):=fun e o hc=>by rw[Zi (Ze hc hT)];exact hc
   have sA:af H1 (upd H3 T (.par [.ref ta,.ref tb])):=s2.trans (s3.trans sT)
   refine⟨T,_,rfl,ag.kL Zc,rfl,_,_,rfl,ta,_,rfl,ag.of (sA _ _ xK),rfl,_,_,rfl,_,_,rfl,_,_,rfl,rfl,_,_,rfl,tb,_,rfl,ag.of (sA _ _ jT),rfl,_,_,rfl,_,_,rfl,_,_,rfl,rfl,rfl,?_⟩
   generalize yO:upd H3 T (HO.par [V.ref ta,V.ref tb])=H4 at sT sA
   refine⟨_,rfl,_,rfl,GA,nB,[a.1,a.2.1],[b.1,b.2.1],rfl,rfl,ag.of (sA _ _ Mi),ag.of (sA _ _ Mg),_,rfl,?_⟩
   by_cases hs:dn a b
   ·rw[Zat hs,Zay rfl]at es
    have ed:decide ([a.1,a.2.1]=[b.1,b.2.1])=true:=Zat (by rw[hs.1,hs.2])
    rw[ed]
    refine bg ?_
    refine⟨_,rfl,_,rfl,_,rfl,_,rfl,AI,fun t4 kZ=> ⟨by rw[Zau];omega,?_⟩⟩
    generalize qE:upd H4 t4 (HO.tup [V.int a.2.2.1,V.int a.2.2.2,V.int b.2.2.1,V.int b.2.2.2])=H5
    have s5:af H4 H5:=fun e o hc=>by rw[<-qE,Zi (Ze hc kZ)];exact hc
    refine⟨_,_,_,_,_,_,rfl,s3.trans (sT.trans s5),?_,by rw[Zam];simp;omega⟩
    rw[es]
    exact ZbK (Paired.aS br fun v q' hq=>hq.same (sT.trans s5)) ⟨t4,rfl,by rw[<-qE];exact Zc⟩
   ·rw[Zaq hs,Zav Zag,ZbN]at es
    have ed:decide ([a.1,a.2.1]=[b.1,b.2.1])=false:=Zaq (fun e=>hs (by simp only[List.cons.injEq,and_true]at e;exact e))
    rw[ed]
    refine aP ⟨_,_,_,_,_,_,rfl,s3.trans sT,?_,.o⟩
    rw[es]
    exact Paired.aS br fun v q' hq=>hq.same sT
  ·rintro ys σ H3 ⟨v0,v1,v2,v3,v4,v5,rfl,s3,br,qo⟩ p hp
   have s4:af H3 (upd H3 p (.lst ys)):=fun e o hc=>by rw[Zi (Ze hc hp)];exact hc
   have et:nX ks (min ps.length (ps.drop 1).length)=iG ks:=by
    unfold nX iG
    rw[Zc3]
    unfold lD
    rw[List.length_zip,Zcb,Zcb,MR]
    exact Zal _
   rw[et]at br
   have gW:Paired (iY (upd H3 p (.lst ys))) ys (iG ks):=Paired.aS br fun v q' hq=>hq.same s4
   have sA:af H (upd H3 p (.lst ys)):=s1.trans (s2.trans (s3.trans s4))
   have bK:∀z,z∈ks↔z∈g8 xs xs.length:=fun z=> (perm.trans (Yh xs)).mem_iff
   have jn:ks.Nodup:=(perm.trans (Yh xs)).nodup_iff.mpr (Uh xs _)
   have conv:∀r,lG ks r->lG (g8 xs xs.length) r:=fun r hr=>by
    cases r with
    |none=>exact fun a ha b hb s=>hr a ((bK a).mpr ha) b ((bK b).mpr hb) s
    |some k=>
     obtain⟨⟨a,ha,b,hb,w⟩,h2⟩:=hr
     exact⟨⟨a,(bK a).mp ha,b,(bK b).mp hb,w⟩,fun a ha b hb s l=>h2 a ((bK a).mpr ha) b ((bK b).mpr hb) s l⟩
   refine⟨_,rfl,p,ys,(iG ks).map bh,rfl,ai.of Zc,?_,fun e=> ?_,fun v k hv hk oh MM=> ?_⟩
   ·have:∀{ys:List V}{ls:List aJ},Paired (iY (upd H3 p (.lst ys))) ys ls->Paired (bq (upd H3 p (.lst ys))) ys (ls.map bh):=by
     intro ys ls h
     generalize (upd H3 p (.lst ys))=H9 at h
     induction h with
     |nil=>exact .nil
     |cons h1 _ ih=>exact .cons h1 ih
    exact this gW
   ·subst e
    have el:iG ks=[]:=by
     have:=ZaA gW
     exact List.length_eq_zero_iff.mp this.symm
    exact q _ .ah none sA (conv _ (Tz rise el)) rfl
   ·obtain⟨k4,yn,rfl⟩:=ZaC.mp hk
    exact q _ v (some k4) sA (conv _ (TB rise jn yn fun k' ay=>MM _ (Zb3 ay))) oh
abbrev vX:Stmt:=top 36
def rZ:Sp:=fun vs H Q _=> ∃x y wd hg xs,vs=[x,y]/\ck H x y wd hg xs/\wd<=7/\∀(H':Hp) (r:Option aJ),af H H'->lG (g8 xs xs.length) r->Q (.bl r.isNone) H'
theorem Hw:aQ ["board", "lay"] ["board", "lay"] (aw vX):=Zr (by decide+kernel)
theorem PN {f:Addr}{fd:FuncData}(F:aC K "is_unlike" "is_unlike" vX f fd) (D1:Def P w K mg base 10 "first_like" ["board", "lay"] vB):aA P w K mg base az 11 f fd ["board", "lay"] rZ:=by
 refine F.ok Hw (fun vs H Q E h=> ?_) (fun aq A outer s H vs Q E hr h=> ?_)
 ·obtain⟨x,y,wd,hg,xs,rfl,_⟩:=h
  rfl
 ·obtain⟨x,y,wd,hg,xs,rfl,l,w7,q⟩:=h
  refine⟨_,Zh (Zm (PR (Jy (Zf D1 hr (Za (pv 0) (Za (pv 1) Zb)))))),?_⟩
  refine⟨x,rfl,y,rfl,x,y,wd,hg,xs,rfl,l,w7,fun H1 v r s1 hf ho=> ?_⟩
  have:=q H1 r s1 hf
  cases r with
  |none=>
   have e:v=.ah:=ho
   subst e
   exact this
  |some k=>
   obtain⟨t,rfl,_⟩:=(show iY H1 v k from ho)
   exact this
end
end U
namespace U
open PySem L2 PyProof.Rows
section
variable {P:Program}{w:World}{K:Zgc}{mg:Str->Option Value}{base:Heap}
theorem iA {D:Ends}{σ:L2.St}{H:Hp}(h:D.nx σ H):uW D σ H:=h
theorem aE {t u:TS}{D:Ends}{σ:L2.St}{H:Hp}(h:t {D with nx:=u D} σ H):gQ t u D σ H:=h
theorem bp {te:TE}{g:TG}{D:Ends}{σ:L2.St}{H:Hp}(h:te σ H fun v H1=>g v σ H1 D.nx):pf te g D σ H:=h
theorem aO {i:Nat}{v:V}{σ:L2.St}{H:Hp}{Q:L2.St->Hp->Prop}(h:Q (σ.set i (some v)) H):bF i v σ H Q:=h
end
end U
namespace U
open PySem L2 PyProof.Rows PyProof.Rows.dc
section
theorem PX (xs:List V):(aI xs).Pairwise fun a b=>a.1<b.1:=by
 unfold aI
 refine ZcQ.mpr (ZbI ?_ (List.pairwise_lt_range (n:=xs.length)))
 intro a b jw p hp q hq
 obtain⟨r,hr,rfl⟩:=ZaB.mp hp
 obtain⟨r',cw,rfl⟩:=ZaB.mp hq
 show(a:Int)< (b:Int)
 omega
def lR (ps:List (Int×Int)):List aJ:=ps.flatMap fun a=> (ps.filter fun b=>decide (a.1<b.1)).map fun b=> (a.1,a.2,b.1,b.2)
theorem Ue (ps:List (Int×Int)):df ps=lR ps:=by
 unfold df jh lR pairsOf
 rw[ZaK]
theorem WT {α β:Type}{f:α->β}{l:List α}(h:l.Nodup):(l.map f).Nodup↔∀a∈l,∀b∈l,f a=f b->a=b:=by
 rw[ZaQ,Zbx]
 constructor
 ·intro pw a ha b hb e
  obtain⟨i,hi,rfl⟩:=ZbF ha
  obtain⟨j,hj,rfl⟩:=ZbF hb
  have p:=Zb5.mp pw
  rcases Nat.lt_trichotomy i j with q |q |q
  ·exact absurd e (p i j hi hj q)
  ·subst q;rfl
  ·exact absurd e.symm (p j i hj hi q)
 ·intro inj
  refine List.Pairwise.imp_of_mem ?_ (ZaQ.mp h)
  intro a b ha hb ne e
  exact ne (inj a ha b hb e)
theorem Vf (xs:List V):(df (aI xs)).Nodup:=by
 have:=Wq xs
 rw[ZaQ,Zbx]at this
 exact ZaQ.mpr (ZbI (fun h e=>h (by rw[e])) this)
theorem J6 {xs:List V}{p:aJ} :p∈df (aI xs)↔∃l o:Nat,l<o/\o<xs.length/\∃a b,rowAt xs l=some a/\rowAt xs o=some b/\p=((l:Int),a,(o:Int),b):=by
 rw[Ue]
 unfold lR
 rw[List.mem_flatMap]
 constructor
 ·rintro⟨a,ha,hq⟩
  obtain⟨b,hb,rfl⟩:=ZaC.mp hq
  obtain⟨cX,jt⟩:=ZaW.mp hb
  obtain⟨l,hl,hr,e⟩:=Yb.mp ha
  obtain⟨o,ho,cw,e'⟩:=Yb.mp cX
  have:=ZbU jt
  refine⟨l,o,.o,ho,a.2,b.2,hr,cw,by rw[e,e']⟩
 ·rintro⟨l,o,h1,h2,a,b,h3,h4,rfl⟩
  exact⟨((l:Int),a),Yb.mpr ⟨l,.o,h3,rfl⟩,ZaC.mpr ⟨((o:Int),b),ZaW.mpr ⟨Yb.mpr ⟨o,h2,h4,rfl⟩,Zat (by show(l:Int)<o;omega)⟩,rfl⟩⟩
def oO (xs:List V):Prop:=∀p∈df (aI xs),∀q∈df (aI xs),dn (eE p) (eE q)->p=q
theorem QD {a b:aJ}(h:a.2.2.1≠b.2.2.1∨a.2.2.2≠b.2.2.2):gZ a b=true∨gZ b a=true:=by
 unfold gZ
 simp only[YW,Jh,and_false,Zb4]
 omega
theorem QS {xs:List V}{r:Option aJ}(f:lG (g8 xs xs.length) r):r.isNone=true↔oO xs:=by
 have mem:∀{p:aJ},p∈df (aI xs)->eE p∈g8 xs xs.length:=fun hp=> (Yh xs).mem_iff.mp (Zb3 hp)
 cases r with
 |none=>
  refine⟨fun _ p hp q hq s=> ?_,fun _=>rfl⟩
  refine Zby fun ne=> ?_
  obtain⟨l,o,_,_,a,b,g1,g2,rfl⟩:=J6.mp hp
  obtain⟨l',o',_,_,a',b',g3,g4,rfl⟩:=J6.mp hq
  have d:(l:Int)≠(l':Int)∨(o:Int)≠(o':Int):=by
   refine Zby fun c=>ne ?_
   have e1:l=l':=.o
   have e2:o=o':=.o
   subst e1 e2
   rw[g1]at g3
   rw[g2]at g4
   cases g3
   cases g4
   rfl
  rcases QD (a:=eE ((l:Int),a,(o:Int),b)) (b:=eE ((l':Int),a',(o':Int),b')) d with z |z
  ·have:=f _ (mem hp) _ (mem hq) s
   rw[z]at this
   cases this
  ·have:=f _ (mem hq) _ (mem hp) ⟨s.1.symm,s.2.symm⟩
   rw[z]at this
   cases this
 |some k=>
  refine⟨fun h=> (by cases h),fun h=> ?_⟩
  obtain⟨⟨a,ha,b,hb,s,l,_⟩,_⟩:=f
  obtain⟨p,hp,rfl⟩:=ZaC.mp ((Yh xs).mem_iff.mpr ha)
  obtain⟨q,hq,rfl⟩:=ZaC.mp ((Yh xs).mem_iff.mpr hb)
  rw[h p hp q hq s]at l
  unfold gZ at l
  simp only[YW,Jh,and_false,Zb4]at l
  omega
def kE (xs ys:List V):Prop:=ys.length=xs.length/\∀(i:Nat) (v:V),ys[i]? =some v->v=.ah∨xs[i]? =some v
theorem Uu {xs ys:List V}(h:kE xs ys) {i:Nat}{r:Int}(e:rowAt ys i=some r):rowAt xs i=some r:=by
 unfold rowAt at e |-
 cases ey:ys[i]? with
 |none=>rw[ey]at e;cases e
 |some v=>
  rw[ey]at e
  rcases h.2 i v ey with rfl |q
  ·cases e
  ·rw[q];exact e
theorem Ta {xs ys:List V}(h:kE xs ys) (u:oO xs):oO ys:=by
 have sub:∀{p:aJ},p∈df (aI ys)->p∈df (aI xs):=fun {p} hp=>by
  obtain⟨l,o,h1,h2,a,b,g1,g2,rfl⟩:=J6.mp hp
  exact J6.mpr ⟨l,o,h1,by rw[<-h.1];exact h2,a,b,Uu h g1,Uu h g2,rfl⟩
 exact fun p hp q hq s=>u p (sub hp) q (sub hq) s
theorem Ft:∀{xs ys:List V},kE xs ys->(rowsOf ys).Sublist (rowsOf xs)
 | [],[],_=> .refl _
 | [],_::_,h=>by simp[kE]at h
 |_::_,[],h=>by simp[kE]at h
 |x::xs,y::ys,h=>by
  have ht:kE xs ys:=⟨by have:=h.1;simpa using this,fun i v e=>by have:=h.2 (i+1) v (by simpa using e);simpa using this⟩
  have ih:=Ft ht
  unfold rowsOf at ih |-
  rcases h.2 0 y rfl with rfl |q
  ·rw[Zbs (by simp)]
   exact ih.trans ((List.sublist_cons_self x xs).filter _)
  ·have:x=y:=by simpa using q
   subst this
   by_cases z:(!decide (x=V.ah))=true
   ·rw[Zci (p:=fun x=> !decide (x=V.ah)) z,Zci (p:=fun x=> !decide (x=V.ah)) z]
    exact ih.cons₂ x
   ·rw[Zbs (p:=fun x=> !decide (x=V.ah)) z,Zbs (p:=fun x=> !decide (x=V.ah)) z]
    exact ih
end
end U
namespace U.S
open PySem L2 PyProof.Rows
section
def sk (a b:Int×Int):List Int:=[b.1 - a.1,b.2 - a.2]
def pk:List (Int×Int)->List (List Int)
 | []=> []
 |a::r=>r.map (sk a)++pk r
def bW (xs:List V):Bool:=decide (pk (aI xs)).Nodup
def sg (p:aJ):List Int:=[p.2.2.1 - p.1,p.2.2.2 - p.2.1]
theorem DV:∀{ps:List (Int×Int)},(ps.Pairwise fun a b=>a.1<b.1)->(lR ps).map sg=pk ps
 | [],_=>rfl
 |a::l,h=>by
  obtain⟨h1,h2⟩:=Zbp.mp h
  have ih:=DV h2
  have e:lR (a::l)=(l.map fun b=> (a.1,a.2,b.1,b.2))++lR l:=by
   unfold lR
   rw[Zbm]
   congr 1
   ·rw[Zbs (by simp),List.filter_eq_self.mpr fun b hb=>Zat (h1 b hb)]
   ·rw[List.flatMap_def,List.flatMap_def]
    congr 1
    refine List.map_congr_left fun c hc=> ?_
    rw[Zbs (by have:=h1 c hc;simp;omega)]
  rw[e,Zax,ih,Zb0]
  rfl
theorem ES (p q:aJ):dn (eE p) (eE q)↔sg p=sg q:=by
 unfold dn eE sg
 simp
theorem Yf (xs:List V):bW xs=true↔oO xs:=by
 unfold bW
 rw[decide_eq_true_iff,<-DV (PX xs),<-Ue,WT (Vf xs)]
 unfold oO
 constructor
 ·intro h p hp q hq s
  exact h p hp q hq ((ES p q).mp s)
 ·intro h p hp q hq s
  exact h p hp q hq ((ES p q).mpr s)
theorem Es {xs:List V}{r:Option aJ}(f:lG (g8 xs xs.length) r):r.isNone=bW xs:=by
 have h1:=QS f
 have h2:=Yf xs
 cases hr:r.isNone<;>cases hu:bW xs<;>simp_all
def iS (hg:Nat) (xs:List V) (l:Nat):List Int:=((List.range hg).map fun(k:Nat)=> (k:Int)).filter fun r=> !bD (.int r) xs&&bW (xs.set l (.int r))
theorem de {H:Hp}{p:Addr}{o:HO}(h:H p=none):af H (upd H p o):=fun b u hb=>by rw[Zi (Ze hb h)];exact hb
theorem Fs {v:V}(hv:v≠.ah):∀{xs:List V}{i:Nat},xs[i]? =some V.ah->(rowsOf (xs.set i v)).Perm (v::rowsOf xs)
 | [],_,h=>by simp at h
 |x::xs,0,h=>by
  have:x=.ah:=by simpa using h
  subst this
  rw[List.set_cons_zero]
  unfold rowsOf
  rw[Zci (by simpa using hv),Zbs (by simp)]
 |x::xs,i+1,h=>by
  have ih:=Fs hv (xs:=xs) (i:=i) (by simpa using h)
  rw[List.set_cons_succ]
  unfold rowsOf at ih |-
  by_cases z:(!decide (x=V.ah))=true
  ·rw[Zci (p:=fun x=> !decide (x=V.ah)) z,Zci (p:=fun x=> !decide (x=V.ah)) z]
   exact(ih.cons x).trans (List.Perm.swap v x _)
  ·rw[Zbs (p:=fun x=> !decide (x=V.ah)) z,Zbs (p:=fun x=> !decide (x=V.ah)) z]
   exact ih
theorem JI {r:Int}{xs:List V}(h:V.int r∈xs):bD (.int r) xs=true:=by
 unfold bD
 exact List.any_eq_true.mpr ⟨_,h,by simp[dX]⟩
theorem EB {wd hg:Int}{xs:List V}{i:Nat}{r:Int}(h:eY wd hg xs) (hi:xs[i]? =some V.ah) (h0:0<=r) (h1:r<hg) (hn:bD (.int r) xs=false):eY wd hg (xs.set i (.int r)):=by
 have pm:=Fs (v:=.int r) (by intro z;cases z) hi
 refine⟨by rw[List.length_set];exact h.len,fun x hx=> ?_,pm.nodup_iff.mpr (Zbk.mpr ⟨fun m=> ?_,h.nd⟩)⟩
 ·rcases Zaj.mp (pm.mem_iff.mp hx) with rfl |hx
  ·show(decide (0<=r)&&decide (r<=hg - 1))=true
   rw[Zat h0,Zat .o]
   rfl
  ·exact h.row x hx
 ·have:=JI (ZaW.mp m).1
  rw[hn]at this
  cases this
theorem RW {wd hg:Int}{xs:List V}(h:eY wd hg xs):xs.all eV=true:=ZaF.mpr fun v hv=>by
 rcases h.ok v hv with rfl |⟨i,rfl⟩<;>rfl
theorem zE {K:Zgc}{H:Hp}{a b:Addr}{xs ys:List V}{Q:VK}(h1:H a=some (.tup xs)) (h2:H b=some (.tup ys)) (hl:xs.length+ys.length<=1000) (q:∀t H',af H H'->H' t=some (.tup (xs++ys))->Q (.ref t) H'):nP K (.ref a) (.ref b) H Q:=by
 cases xs with
 |nil=>exact .inl ⟨a,b,ys,rfl,rfl,ag.of h1,ag.of h2,q b H (af.refl _) h2⟩
 |cons x xs=>
  refine .inr ⟨a,b,_,_,rfl,rfl,ag.of h1,ag.of h2,by simp,by rw[Zau];omega,fun e=> ?_,fun _ p hp=>q p _ (de hp) Zc⟩
  subst e
  exact q a H (af.refl _) (by rw[ZbN];exact h1)
theorem Qm {xs:List V}{i:Nat}(h:i<xs.length):fo xs none (some (i:Int))=xs.take i:=by
 unfold fo
 rw[HT.A0,HT.sH,Nat.min_eq_left .o]
 simp
theorem Fx {xs:List V}{i:Nat}(h:i<xs.length):fo xs (some ((i:Int)+1)) none=xs.drop (i+1):=by
 unfold fo
 rw[show(i:Int)+1=((i+1:Nat):Int) from rfl,HT.A0,HT.sH,Nat.min_eq_left .o]
 exact Zc3 (by simp)
end
section
variable {P:Program}{w:World}{K:Zgc}{mg:Str->Option Value}{base:Heap}
abbrev vW:Stmt:=top 28
def rY:Sp:=fun vs H Q _=> ∃(l:Addr) (xs:List V) (i:Nat) (v:V),vs=[.ref l,.int i,v]/\H l=some (.tup xs)/\i<xs.length/\xs.length<=12/\∀t H',af H H'->H' t=some (.tup (xs.set i v))->Q (.ref t) H'
theorem Hv:aQ ["lay", "line", "row"] ["lay", "line", "row"] (aw vW):=Zr (by decide+kernel)
theorem IP {f:Addr}{fd:FuncData}(F:aC K "with_point" "with_point" vW f fd):aA P w K mg base az 1 f fd ["lay", "line", "row"] rY:=by
 refine F.ok Hv (fun vs H Q E h=> ?_) (fun aq A outer s H vs Q E hr h=> ?_)
 ·obtain⟨l,xs,i,v,rfl,_⟩:=h
  rfl
 ·obtain⟨l,xs,i,v,rfl,hl,hi,XM,q⟩:=h
  refine⟨_,Zh (Zm (Zn nR (Zn nR (Jd Eo (pv 0) J5 (J4 (pv 1))) (Zt (Za (pv 2) Zb))) (Jd Eo (pv 0) (J4 (Zn YJ (pv 1) Zg)) J5))),?_⟩
  refine⟨_,rfl,_,rfl,_,rfl,l,xs,rfl,ag.of hl,?_,fun p hp=> ?_⟩
  ·rintro⟨_,z⟩
   rw[HT.sH]at z
   omega
  obtain⟨H1,zz,s1,e1⟩:=aR (o:=.tup (fo xs none (some (i:Int)))) hp
  rw[zz]
  rw[Qm hi]at e1
  refine⟨_,rfl,gR,fun p2 gk=> ?_⟩
  obtain⟨H2,zz,s2,e2⟩:=aR (o:=.tup [v]) gk
  rw[zz]
  refine zE (s2 _ _ e1) e2 (by rw[ZaI];simp;omega) fun t3 H3 s3 e3=> ?_
  refine⟨_,rfl,_,rfl,_,_,rfl,rfl,_,rfl,l,xs,rfl,ag.of ((s1.trans (s2.trans s3)) _ _ hl),?_,fun p4 MA=> ?_⟩
  ·rintro⟨z,_⟩
   rw[show(i:Int)+1=((i+1:Nat):Int) from rfl,HT.sH]at z
   omega
  obtain⟨H4,zz,s4,e4⟩:=aR (o:=.tup (fo xs (some ((i:Int)+1)) none)) MA
  rw[zz]
  rw[Fx hi]at e4
  refine zE (s4 _ _ e3) e4 (by rw[Zam,ZaI,Zcb];simp;omega) fun t5 H5 s5 e5=> ?_
  refine q t5 H5 (s1.trans (s2.trans (s3.trans (s4.trans s5)))) ?_
  rw[e5,ZbV,List.set_eq_take_append_cons_drop,Zay hi]
  rfl
def uj (xs:List V) (l:Nat) (i:Nat):List Int:=((List.range i).map fun(k:Nat)=> (k:Int)).filter fun r=> !bD (.int r) xs&&bW (xs.set l (.int r))
theorem Vm (xs:List V) (l i:Nat):uj xs l (i+1)=uj xs l i++(if (!bD (.int (i:Int)) xs&&bW (xs.set l (.int (i:Int))))=true then [(i:Int)] else []):=by
 unfold uj
 rw[Zcr,Zax,ZbC]
 cases h:(!bD (.int (i:Int)) xs&&bW (xs.set l (.int (i:Int))))<;>simp_all
abbrev wF:Stmt:=top 41
def vC:Sp:=fun vs H Q _=> ∃(b l:Addr) (i:Nat) (wd hg:Int) (xs:List V),vs=[.ref b,.ref l,.int i]/\dP H (.ref b) wd hg/\H l=some (.tup xs)/\eY wd hg xs/\wd<=7/\xs[i]? =some .ah/\∀(q:Addr) (H':Hp),af H H'->H q=none->H' q=some (.lst ((iS hg.toNat xs i).map V.int))->Q (.ref q) H'
theorem HH:aQ ["board", "lay", "line"] ["board", "lay", "line"] (aw wF):=Zr (by decide+kernel)
theorem Km {f:Addr}{fd:FuncData}(F:aC K "free_rows" "free_rows" wF f fd) (G:Gs mg) (Ad:Def P w K mg base 11 "is_unlike" ["board", "lay"] rZ) (Ac:Def P w K mg base 1 "with_point" ["lay", "line", "row"] rY):aA P w K mg base az 12 f fd ["board", "lay", "line"] vC:=by
 refine F.ok HH (fun vs H Q E h=> ?_) (fun aq A outer s H vs Q E hr h=> ?_)
 ·obtain⟨b,l,i,wd,hg,xs,rfl,_⟩:=h
  rfl
 ·obtain⟨b,l,i,wd,hg,xs,rfl,bd,hl,ly,w7,hi,q⟩:=h
  refine⟨_,Zh (Zm (ZA ["row", "board", "lay", "line"] 1 [0,1,2] (ZY rfl G.range (Za (Zy ZH (pv 0) Zg (fun _ _=>rfl)) Zb)) (fun C s H fp=>pb 0)
   (fun C s H fp=>Z5 (PW.pt (PY (ZI (show bo (aG _ _ _ C s H fp) (compareOp .NotIn) (sP K true) from Jg) (pv 0) (pv 2) rfl) (QN (ZT (Zf Ad hr (Za (pv 1) (Za (Zf Ac (hr.mono .d) (Za (pv 2) (Za (pv 3) (Za (pv 0) Zb)))) Zb))))))))
   (fun C s H fp D=>bL rfl (pv 0)))),?_⟩
  obtain⟨b',eb,hb⟩:=Zq bd.1
  cases eb
  have aX:i<xs.length:=(X8.mp hi).1
  have kT:xs.length<=12:=by
   have h1:=ly.len
   have h2:=bd.2.2.1
   omega
  have g1:=bd.2.2.2.1
  have g2:=bd.2.2.2.2
  refine⟨_,rfl,b,_,1,.int hg,rfl,rfl,ag.of hb,rfl,_,rfl,.o,.o,?_⟩
  refine YD (fun k ys σ H1=> ∃v,σ=[v,some (.ref b),some (.ref l),some (.int i)]/\af H H1/\ys=(uj xs i k).map V.int/\ys.length<=k) ⟨_,rfl,af.refl _,rfl,Zaz _⟩ ?_ ?_
  ·rintro k ys σ H1 hk ⟨v,rfl,s1,rfl,hlen⟩
   have es:=Vm xs i k
   rw[Int.zero_add]
   refine aO ?_
   dsimp only[List.set]
   refine⟨_,rfl,_,rfl,l,xs,rfl,.inr (ag.of (s1 _ _ hl)),rfl,RW ly,_,rfl,?_⟩
   cases hn:bD (.int (k:Int)) xs with
   |true=>
    rw[hn]at es
    refine aP ?_
    refine aP ⟨_,rfl,s1,?_,.o⟩
    rw[es]
    simp
   |false=>
    rw[hn]at es
    refine bg ?_
    refine⟨_,rfl,_,rfl,_,rfl,_,rfl,l,xs,i,.int (k:Int),rfl,s1 _ _ hl,aX,kT,fun t H2 s2 e2=> ?_⟩
    refine⟨.ref b,.ref t,wd,hg,_,rfl,⟨bd.same (s1.trans s2),ZJ e2,EB ly hi .o .o hn⟩,w7,fun H3 r s3 fi=> ⟨_,rfl,?_⟩⟩
    rw[Es fi]
    have nN:=s1.trans (s2.trans s3)
    cases hu:bW (xs.set i (.int (k:Int))) with
    |true=>
     rw[hu]at es
     refine bg ⟨_,rfl,by rw[Zau];omega,⟨_,rfl,nN,?_,by rw[Zam];simp at hlen |-;omega⟩⟩
     rw[es]
     simp
    |false=>
     rw[hu]at es
     refine aP ⟨_,rfl,nN,?_,.o⟩
     rw[es]
     simp
  ·rintro ys σ H1 ⟨v,rfl,s1,rfl,hlen⟩ p hp
   exact q p _ (s1.trans (de hp)) (s1.free hp) Zc
end
section
theorem Ut {α β:Type}(f:α->List β) (n:Nat):∀l:List α,(∀a∈l,(f a).length<=n)->(l.flatMap f).length<=l.length*n
 | [],_=>by simp
 |a::l,h=>by
  have h1:=h a Zab
  have h2:=Ut f n l fun b hb=>h b (Zaa _ hb)
  rw[Zbm,Zam,ZaJ,Nat.succ_mul]
  omega
theorem Td (hg:Nat) (xs:List V) (l:Nat):(iS hg xs l).length<=hg:=by
 unfold iS
 refine Zbf (Zb9 _ _) ?_
 rw[Zac,Zbz]
 exact Zal _
end
section
variable {P:Program}{w:World}{K:Zgc}{mg:Str->Option Value}{base:Heap}
abbrev wq:Stmt:=top 25
def vk:Sp:=fun vs H Q _=> ∃(b:Addr) (wd hg W T:Int),vs=[.ref b,.int W,.int T]/\H b=some (.tup [.int wd,.int hg])/\wd<=W/\hg<=T/\Q .ah H
theorem HE:aQ ["board", "wide", "high"] ["board", "wide", "high"] (aw wq):=Zr (by decide+kernel)
theorem Ke {f:Addr}{fd:FuncData}(F:aC K "need_at_most" "need_at_most" wq f fd):aA P w K mg base az 1 f fd ["board", "wide", "high"] vk:=by
 refine F.ok HE (fun vs H Q E h=> ?_) (fun aq A outer s H vs Q E hr h=> ?_)
 ·obtain⟨b,wd,hg,W,T,rfl,_⟩:=h
  rfl
 ·obtain⟨b,wd,hg,W,T,rfl,hb,h1,h2,q⟩:=h
  refine⟨_,Zh (ZS (PW.pt (JQ (ZI DR (Zy ZH (pv 0) Zg (fun _ _=>rfl)) (pv 1) (cC _)) (YI (ZI DR (Zy ZH (pv 0) Zg (fun _ _=>rfl)) (pv 2) (cC _))))) Zs Zw),?_⟩
  refine⟨_,rfl,b,_,0,.int wd,rfl,rfl,ag.of hb,rfl,_,rfl,_,_,rfl,rfl,_,rfl,?_⟩
  rw[Zaq .o]
  refine aP ?_
  refine⟨_,rfl,b,_,1,.int hg,rfl,rfl,ag.of hb,rfl,_,rfl,_,_,rfl,rfl,_,rfl,?_⟩
  rw[Zaq .o]
  exact aP q
end
section
theorem wX (n:Nat) (v:V):(List.replicate n [v]).flatten=List.replicate n v:=by
 induction n with
 |zero=>rfl
 |succ n ih=>rw[ZbE,ZcJ,ih,ZbE];rfl
def bu (H:Hp) (v:V) (xs:List V):Prop:=∃t:Addr,v=.ref t/\H t=some (.tup xs)
theorem bu.same {H H':Hp}{v:V}{xs:List V}(h:bu H v xs) (s:af H H'):bu H' v xs:=let ⟨t,e,h1⟩:=h;⟨t,e,s _ _ h1⟩
def nQ (ps:List (Int×Int)) (i:Nat):List (List Int):=(List.range i).flatMap fun k=>match ps[k]? with
 |some a=> (ps.drop (k+1)).map (sk a)
 |none=> []
theorem SD {ps:List (Int×Int)}{i:Nat}{a:Int×Int}(h:ps[i]? =some a):nQ ps (i+1)=nQ ps i++(ps.drop (i+1)).map (sk a):=by
 unfold nQ
 rw[Zcr,ZcR]
 simp[h]
theorem DW:∀ps:List (Int×Int),nQ ps ps.length=pk ps
 | []=>rfl
 |a::r=>by
  have ih:=DW r
  unfold nQ at ih |-
  rw[ZaJ,List.range_succ_eq_map,Zbm,List.flatMap_map]
  unfold pk
  rw[<-ih]
  rfl
theorem QP {xs:List V}{i:Nat}{r:Int}(h:rowAt xs i=some r):eW xs (i:Int)=some (.int r):=by
 refine YE ?_
 unfold rowAt at h
 cases e:xs[i]? with
 |none=>rw[e]at h;cases h
 |some v=>
  rw[e]at h
  cases v with
  |int y=>have:y=r:=ZaV h;rw[this]
  |_=>cases h
theorem Qe {xs:List V}{q:Int×Int}(h:q∈aI xs):eW xs q.1=some (.int q.2):=by
 obtain⟨l,hl,hr,e⟩:=Yb.mp h
 rw[e]
 exact QP hr
theorem U6 {H:Hp}{L:Addr}{zs:List V}{o:HO}(e:H L=some (.lst zs)) {v:V}{k:List Int}(h:bq H v k):bq (upd H L o) v k:=by
 obtain⟨t,rfl,ht⟩:=h
 refine⟨t,rfl,?_⟩
 rw[Zi (fun z=> ?_)]
 ·exact ht
 ·subst z
  rw[e]at ht
  cases ht
theorem lO {H H1:Hp}{L:Addr}{o:HO}(s:af H H1) (n:H L=none):af H (upd H1 L o):=fun b u h=>by
 rw[Zi (Ze h n)]
 exact s b u h
theorem Y5 {α β:Type}{F:α->β->Prop} :∀{a c:List α}{b d:List β},Paired F a b->Paired F c d->Paired F (a++c) (b++d)
 |_,_,_,_,.nil,h=>h
 |_,_,_,_,.cons x y,h=> .cons x (Y5 y h)
theorem RL (xs:List V):(aI xs).length<=xs.length:=by
 unfold aI
 refine Zbf (ZcO _ _) ?_
 rw[Zbz]
 exact Zal _
end
section
variable {P:Program}{w:World}{K:Zgc}{mg:Str->Option Value}{base:Heap}
abbrev wz:Stmt:=top 61
def vt:Sp:=fun vs H Q _=> ∃(a:Addr) (xs:List V),vs=[.ref a]/\H a=some (.tup xs)/\lE xs/\xs.length<=12/\∀(q:Addr) (H':Hp) (ts:List V),af H H'->H q=none->H' q=some (.lst ts)->Paired (bq H') ts (pk (aI xs))->ts.length<=144->Q (.ref q) H'
abbrev KS:List Str:=["_law_lay", "_law_some", "_law_found", "_law_at", "_law_line"]
theorem pF:aQ KS ["_law_lay"] (aw wz):=Zr (by decide+kernel)
theorem Kj {f:Addr}{fd:FuncData}(F:aC K "_law_steps" "_law_steps" wz f fd) (G:Gs mg):aA P w K mg base az 1 f fd ["_law_lay"] vt:=by
 refine F.ok pF (fun vs H Q E h=> ?_) (fun aq A outer s H vs Q E hr h=> ?_)
 ·obtain⟨a,xs,rfl,_⟩:=h
  rfl
 ·obtain⟨a,xs,rfl,ha,ok,kT,q⟩:=h
  refine⟨_,Zd (Jc ["_law_line", "_law_lay"] 1 [0] (i:=1) pF.nd rfl (Or.inl rfl) (ZY rfl G.range (Za (Zk Zx rfl G.len Zc6 (Za (pv 0) Zb)) Zb)) (fun C s H fp=>pb 0)
    (fun C s H fp=>Z5 (Yg (YV (Zy (show nk (aG _ _ _ C s H fp) (pI K) from ZH) (pv 1) (pv 0) (fun _ _=>rfl))))) (fun C s H fp D=>bL rfl (pv 0)))
   (Zd (Zo (i:=2) pF.nd rfl (Or.inl rfl) (ZE Zb))
   (Zd (Z3 Zbv rfl (RG rfl G.enumerate (Za (pv 1) Zb)) (ZO rfl (Zj (Zp (i:=3) pF.nd rfl (Or.inl rfl)) (Zj (Zp (i:=4) pF.nd rfl (Or.inr rfl)) ZF)))
    (Zh (ZL (JR Zbt PySem.F.slot_list_extend PySem.F.type_list_extend JD (pv 2) (Za
     (ZA ["_law_other", "_law_lay", "_law_line"] 1 [0,4] (ZD (Jd ET (pv 1) (J4 (Zn YJ (pv 3) Zg)) J5)) (fun C s H fp=>pb 0) (fun C s H fp=>ZC)
      (fun C s H fp D=>bL rfl (Zt (Za (Zn ZW (pv 0) (pv 2)) (Za (Zn ZW (Zy (show nk (aG _ _ _ C s H fp) (pI K) from ZH) (pv 1) (pv 0) (fun _ _=>rfl)) (Zy (show nk (aG _ _ _ C s H fp) (pI K) from ZH) (pv 1) (pv 2) (fun _ _=>rfl))) Zb))))) Zb)))))
   (Zh (Zm (pv 2))))),?_⟩
  have Lf:=RL xs
  refine aE ⟨_,rfl,a,xs,rfl,.inr (ag.of ha),_,rfl,.o,.o,?_⟩
  refine YD (fun k ys σ H1=> ∃v,σ=[v,some (.ref a)]/\af H H1/\ys=((dC xs k).map (·.1)).map V.int/\ys.length<=k) ⟨_,rfl,af.refl _,rfl,Zaz _⟩ ?_ ?_
  ·rintro k ys σ H1 hk ⟨v,rfl,s1,rfl,hlen⟩
   have ay:k<xs.length:=.o
   rw[Int.zero_add]
   refine aO ?_
   dsimp only[List.set]
   obtain⟨v,hv⟩:∃v,xs[k]? =some v:=⟨_,Zai ay⟩
   have oE:eW xs (k:Int)=some v:=YE hv
   refine⟨_,rfl,_,rfl,a,xs,(k:Int),v,rfl,rfl,ag.of (s1 _ _ ha),oE,_,rfl,?_⟩
   have er:rowAt xs k=gU v:=by unfold rowAt;rw[hv];rfl
   have es:=jO xs k
   rw[er]at es
   rcases ok v (Zap hv) with rfl |⟨r,rfl⟩
   ·refine aP ⟨_,rfl,s1,?_,.o⟩
    rw[es]
    simp[gU]
   ·refine bg ⟨_,rfl,by rw[Zau];omega,⟨_,rfl,s1,?_,by rw[Zam];simp at hlen |-;omega⟩⟩
    rw[es]
    simp[gU]
  ·rintro ys σ H1 ⟨v,rfl,s1,rfl,hlen⟩ m hm
   have e0:dC xs (Int.toNat (xs.length:Int))=aI xs:=by rw[Za7];rfl
   obtain⟨H2,zz,sm,em⟩:=aR (o:=.lst (((dC xs (Int.toNat (xs.length:Int))).map (·.1)).map V.int)) hm
   rw[zz]
   rw[e0]at em
   have bK:∀q'∈aI xs,eW xs q'.1=some (.int q'.2):=fun q' h=>Qe h
   generalize aI xs=ps at em Lf q bK
   have nm:H m=none:=s1.free hm
   have jN:=s1.trans sm
   dsimp only[List.set]
   refine aE (bp ⟨AJ,fun L hL=>aO ?_⟩)
   dsimp only[List.set]
   have nL:H L=none:=jN.free hL
   have MO:m≠L:=Ze em hL
   obtain⟨H3,zz,sL,eL⟩:=aR (o:=.lst []) hL
   rw[zz]
   have HX:=jN.trans sL
   refine aE ⟨_,rfl,m,rfl,⟨_,ai.of (sL _ _ em)⟩,?_⟩
   refine Tb (xs:=(ps.map (·.1)).map V.int) (fun i σ H4=> ∃zs v3 v4,σ=[some (.ref a),some (.ref m),some (.ref L),v3,v4]/\af H H4/\H4 m=some (.lst ((ps.map (·.1)).map V.int))/\H4 L=some (.lst zs)/\Paired (bq H4) zs (nQ ps i)/\zs.length<=i*12) ⟨_,_,_,rfl,HX,sL _ _ em,eL,.nil,Zaz _⟩ (fun i σ H4 _ ⟨_,_,_,_,_,e,_⟩=>ai.of e) ?_ ?_
   ·rintro i v T σ H4 hv hT ⟨zs,v3,v4,rfl,s4,ze,uo,gW,mn⟩
    rw[ZaH,ZaH]at hv
    obtain⟨z,hz,rfl⟩:=ZaB.mp hv
    obtain⟨p0,xW,rfl⟩:=ZaB.mp hz
    have hi:i<ps.length:=(X8.mp xW).1
    have sT:=de (o:=.par [.int (i:Int),.int p0.1]) hT
    refine⟨T,_,rfl,ag.kL Zc,rfl,_,_,rfl,_,_,rfl,rfl,?_⟩
    generalize upd H4 T (HO.par [V.int (i:Int),V.int p0.1])=H5 at sT
    have qK:=sT _ _ uo
    have Ou:=sT _ _ ze
    refine⟨_,rfl,.inl ⟨rfl,_,ai.of qK⟩,?_⟩
    refine⟨_,rfl,_,rfl,_,_,rfl,rfl,_,rfl,m,_,rfl,ai.of Ou,fun p6 Mz=> ?_⟩
    have Np:fo ((ps.map (·.1)).map V.int) (some ((i:Int)+1)) none=((ps.drop (i+1)).map (·.1)).map V.int:=by
     rw[Fx (by simpa using hi),<-List.map_drop,<-List.map_drop]
    rw[Np]
    obtain⟨H6,zz,s6,e6⟩:=aR (o:=.lst (((ps.drop (i+1)).map (·.1)).map V.int)) Mz
    rw[zz]
    refine⟨p6,rfl,⟨_,ai.of e6⟩,?_⟩
    have es:=SD xW
    have iJ:∀q'∈ps.drop (i+1),eW xs q'.1=some (.int q'.2):=fun q' h=>bK q' (ZcF h)
    have Lo:(ps.drop (i+1)).length<=12:=by rw[Zcb];omega
    generalize ps.drop (i+1)=rs at e6 es iJ Lo
    have ND:=(s4.trans (sT.trans s6)) _ _ ha
    have h0:=bK p0 (Zap xW)
    refine ZG (xs:=(rs.map (·.1)).map V.int) (fun j ys σ H7=> ∃v,σ=[v,some (.ref a),some (.int p0.1)]/\af H6 H7/\Paired (bq H7) ys ((rs.take j).map (sk p0))/\ys.length<=j) ⟨_,rfl,af.refl _,.nil,Zaz _⟩ (fun i ys σ H2 _ ⟨_,_,s2,_⟩=>ai.of (s2 _ _ e6)) ?_ ?_
    ·rintro j v ys σ H7 iI ⟨v0,rfl,s7,dD,Cf⟩
     rw[ZaH,ZaH]at iI
     obtain⟨z,f9,rfl⟩:=ZaB.mp iI
     obtain⟨p1,oj,rfl⟩:=ZaB.mp f9
     have hj:j<rs.length:=(X8.mp oj).1
     have h1:=iJ p1 (Zap oj)
     have CF:=ag.of (K:=K) (s7 _ _ ND)
     refine aO ?_
     dsimp only[List.set]
     try unfold rP
     refine bg ?_
     refine⟨_,rfl,_,rfl,_,_,rfl,rfl,_,rfl,_,rfl,a,xs,p1.1,_,rfl,rfl,CF,h1,_,rfl,_,rfl,a,xs,p0.1,_,rfl,rfl,CF,h0,_,_,rfl,rfl,bf,fun t8 xM=> ⟨by rw[Zau];omega,?_⟩⟩
     have s8:=de (o:=.tup [.int (p1.1 - p0.1),.int (p1.2 - p0.2)]) xM
     refine⟨_,rfl,s7.trans s8,?_,by rw[Zam];simp;omega⟩
     rw[ZaD,oj,Zax]
     exact ZbK (Paired.aS dD fun v q' hq=>hq.same s8) ⟨t8,rfl,Zc⟩
    ·rintro ys σ H7 ⟨v0,rfl,s7,dD,Cf⟩ p8 My
     rw[Zac,Zac]at dD Cf
     rw[ZaK]at dD
     obtain⟨H8,zz,s8,e8⟩:=aR (o:=.lst ys) My
     rw[zz]
     have sJ:=sT.trans (s6.trans (s7.trans s8))
     have zj:=sJ _ _ uo
     have Ot:=sJ _ _ ze
     refine⟨L,p8,zs,ys,rfl,rfl,zj,e8,by rw[Zau];omega,?_⟩
     refine⟨_,_,_,rfl,lO (s4.trans sJ) nL,?_,Zc,?_,by rw[Zam];omega⟩
     ·rw[Zi MO]
      exact Ot
     ·rw[es]
      exact Y5 (Paired.aS gW fun v q' hq=>U6 zj (hq.same sJ)) (Paired.aS dD fun v q' hq=>U6 zj (hq.same s8))
   ·rintro σ H4 ⟨zs,v3,v4,rfl,s4,ze,uo,gW,mn⟩
    rw[Zac,Zac]at gW mn
    rw[DW]at gW
    exact⟨_,rfl,q L H4 zs s4 nL uo gW .o⟩
abbrev sF:Stmt:=top 62
def vp:Sp:=fun vs H Q _=> ∃(a:Addr) (xs:List V),vs=[.ref a]/\H a=some (.tup xs)/\lE xs/\xs.length<=12/\∀(H':Hp),af H H'->Q (.bl (bW xs)) H'
theorem AV:aQ ["_law_lay", "_law_some"] ["_law_lay"] (aw sF):=Zr (by decide+kernel)
theorem Kg {f:Addr}{fd:FuncData}(F:aC K "_law_unlike" "_law_unlike" sF f fd) (G:Gs mg) (VU:Def P w K mg base 1 "_law_steps" ["_law_lay"] vt):aA P w K mg base az 2 f fd ["_law_lay"] vp:=by
 refine F.ok AV (fun vs H Q E h=> ?_) (fun aq A outer s H vs Q E hr h=> ?_)
 ·obtain⟨a,xs,rfl,_⟩:=h
  rfl
 ·obtain⟨a,xs,rfl,ha,ok,kT,q⟩:=h
  have hu:(bG az P w K mg base ["_law_lay", "_law_some"] "_law_unlike" (aw sF) f aq A outer s H E).dw.A.units+4<cLine:=Nat.lt_of_le_of_lt (Nat.add_le_add_left (by decide:4<=64) _) hr.units
  refine⟨_,Zd (Zo (i:=1) AV.nd rfl (Or.inl rfl) (Zf VU hr (Za (pv 0) Zb)))
   (Zh (Zm (Yq YG (Sy rfl hu rfl G.len rfl G.set (pv 1)) (Zk Zx rfl G.len Zc6 (Za (pv 1) Zb)) (cC _)))),?_⟩
  refine aE (bp ⟨_,rfl,a,xs,rfl,ha,ok,kT,fun t H1 ts s1 nt e1 pr Xx=>aO ?_⟩)
  dsimp only[List.set]
  have lk:=ZaA pr
  refine⟨_,rfl,t,ts,_,rfl,ai.of e1,pr,.o,_,rfl,t,ts,rfl,.inl (ai.of e1),rfl,?_⟩
  have z:decide (V.int (gF (pk (aI xs)):Int)=V.int (ts.length:Int))=bW xs:=by
   unfold bW
   rw[decide_eq_decide,lk,<-Rj]
   constructor
   ·intro h
    injection h with h
    omega
   ·intro h
    rw[h]
  rw[z]
  exact q H1 s1
end
section
theorem R3 {hg:Nat}{xs:List V}{l:Nat}{r:Int} :r∈iS hg xs l↔(0<=r/\r<hg)/\bD (.int r) xs=false/\bW (xs.set l (.int r))=true:=by
 unfold iS
 rw[ZaW,ZaC,Zaw,Bool.not_eq_true']
 constructor
 ·rintro⟨⟨k,hk,rfl⟩,h⟩
  rw[ZaU]at hk
  exact⟨.o,h⟩
 ·rintro⟨h,h'⟩
  exact⟨⟨r.toNat,ZaU.mpr .o,.o⟩,h'⟩
end
end U.S
namespace U.T
open PySem L2 PyProof.Rows
section
theorem Zl {H:Hp}{p:Addr}{o:HO}(h:H p=none):af H (upd H p o):=fun b u hb=>by rw[Zi (Ze hb h)];exact hb
theorem Tr {H H1:Hp}{a:Addr}{o:HO}(s:af H H1) (n:H a=none):af H (upd H1 a o):=fun b u e=>by
 rw[Zi fun z=>by rw[z,n]at e;cases e]
 exact s _ _ e
theorem iA {D:Ends}{σ:L2.St}{H:Hp}(h:D.nx σ H):uW D σ H:=h
theorem aE {t u:TS}{D:Ends}{σ:L2.St}{H:Hp}(h:t {D with nx:=u D} σ H):gQ t u D σ H:=h
theorem bp {te:TE}{g:TG}{D:Ends}{σ:L2.St}{H:Hp}(h:te σ H fun v H1=>g v σ H1 D.nx):pf te g D σ H:=h
theorem aO {i:Nat}{v:V}{σ:L2.St}{H:Hp}{Q:L2.St->Hp->Prop}(h:Q (σ.set i (some v)) H):bF i v σ H Q:=h
end
section
variable {P:Program}{w:World}{K:Zgc}{mg:Str->Option Value}{base:Heap}
abbrev wG:Stmt:=top 57
def vD (K:Zgc):Sp:=fun vs H Q _=> ∃(a:Addr) (ns:List Int) (k:Nat),vs=[.ref a,.int k]/\ai K H a (ns.map V.int)/\∀n:Int,Q (.int n) H
theorem HI:aQ ["_law_script", "_law_k"] ["_law_script", "_law_k"] (aw wG):=Zr (by decide+kernel)
theorem Kn {f:Addr}{fd:FuncData}(F:aC K "_law_cell_at" "_law_cell_at" wG f fd) (G:Gs mg):aA P w K mg base az 1 f fd ["_law_script", "_law_k"] (vD K):=by
 refine F.ok HI (fun vs H Q E h=> ?_) (fun aq A outer s H vs Q E hr h=> ?_)
 ·obtain⟨a,ns,k,rfl,_⟩:=h
  rfl
 ·obtain⟨a,ns,k,rfl,hs,q⟩:=h
  refine⟨_,Zd (ZS (ZI DT (pv 1) (Zk Zx rfl G.len Zc6 (Za (pv 0) Zb)) (cC _)) (Zh (Zm (Zy ZN (pv 0) (pv 1) (fun _ _=>rfl)))) Zw) (Zh (Zm Zg)),?_⟩
  refine⟨_,rfl,_,rfl,a,ns.map V.int,rfl,.inl hs,_,_,rfl,rfl,_,rfl,?_⟩
  by_cases hk:k<ns.length
  ·rw[Zat (by rw[Zac];omega)]
   refine bg ⟨_,rfl,_,rfl,a,ns.map V.int,k,V.int ns[k],rfl,rfl,hs,YE ?_,q _⟩
   rw[ZaH,Zai hk]
   rfl
  ·rw[Zaq (by rw[Zac];omega)]
   exact aP (q 0)
def kq (H:Hp) (p:Addr):Prop:=∃u v:Int,H p=some (.lst [.int u,.int v])/\0<=u/\0<=v/\v<2147483647
abbrev wc:Stmt:=top 58
def r8 (K:Zgc):Sp:=fun vs H Q _=> ∃(a:Addr) (ns:List Int) (k:Nat),vs=[.ref a,.int k]/\ai K H a (ns.map V.int)/\∀p H',H p=none->af H H'->kq H' p->Q (.ref p) H'
theorem AQ:aQ ["_law_script", "_law_k", "_law_cell"] ["_law_script", "_law_k"] (aw wc):=Zr (by decide+kernel)
theorem IZ {f:Addr}{fd:FuncData}(F:aC K "_law_state" "_law_state" wc f fd) (G:Gs mg) (D1:Def P w K mg base 1 "_law_cell_at" ["_law_script", "_law_k"] (vD K)):aA P w K mg base az 2 f fd ["_law_script", "_law_k"] (r8 K):=by
 refine F.ok AQ (fun vs H Q E h=> ?_) (fun aq A outer s H vs Q E hr h=> ?_)
 ·obtain⟨a,ns,k,rfl,_⟩:=h
  rfl
 ·obtain⟨a,ns,k,rfl,hs,q⟩:=h
  refine⟨_,Zd (Zo (i:=2) AQ.nd rfl (Or.inl rfl) (Zf D1 hr (Za (pv 0) (Za (pv 1) Zb))))
   (Zh (Zm (ZE (Za (Zk (Uy rfl) rfl G.max boot_max (Za Zg (Za (Zn ZW (pv 2) (Zn Wo Zg Zg)) Zb))) (Za (Zn Jz (pv 2) Zg) Zb))))),?_⟩
  refine⟨_,rfl,_,rfl,a,ns,k,rfl,hs,fun n=> ?_⟩
  refine⟨_,rfl,_,_,rfl,rfl,⟨.d,.d,.d⟩,_,_,rfl,rfl,_,_,rfl,?_⟩
  refine⟨_,rfl,_,_,rfl,rfl,(by show(0:Int)<2147483647;decide),bf,fun p hp=>q p _ hp (fun b o hb=>by rw[Zi (Ze hb hp)];exact hb) ?_⟩
  refine⟨_,_,Zc,?_,Zdf _ .d,ZcD _ .d⟩
  split<;>omega
abbrev v7:Stmt:=top 59
def pA:Sp:=fun vs H Q _=> ∃(p:Addr) (m:Int),vs=[.ref p,.int m]/\kq H p/\0<m/\m<1073741824/\∀r o,0<=r->r<m->kq (upd H p o) p->Q (.int r) (upd H p o)
theorem sh:aQ ["_law_state_here", "_law_many", "_law_found", "_law_mixed"] ["_law_state_here", "_law_many"] (aw v7):=Zr (by decide+kernel)
theorem IY {f:Addr}{fd:FuncData}(F:aC K "_law_take" "_law_take" v7 f fd):aA P w K mg base az 1 f fd ["_law_state_here", "_law_many"] pA:=by
 refine F.ok sh (fun vs H Q E h=> ?_) (fun aq A outer s H vs Q E hr h=> ?_)
 ·obtain⟨p,m,rfl,_⟩:=h
  rfl
 ·obtain⟨p,m,rfl,⟨u,v,hp,hu,hv,Ma⟩,hm,iO,q⟩:=h
  refine⟨_,Zd (ZS (ZI Qc (Zy ZN (pv 0) Zg (fun _ _=>rfl)) (pv 1) (cC _))
    (Zd (Zo (i:=2) sh.nd rfl (Or.inl rfl) (Zn Jz (Zy ZN (pv 0) Zg (fun _ _=>rfl)) (pv 1)))
    (Zd (YB (Zn EH (Zy ZN (pv 0) Zg (fun _ _=>rfl)) (pv 1)) (zK (pv 0) Zg Wh)) (Zh (Zm (pv 2))))) Zw)
   (Zd (YB (Zn Jz (Zn YJ (Zn Wp (Zy ZN (pv 0) Zg (fun _ _=>rfl)) Zg) Zg) Zg) (zK (pv 0) Zg Wh))
   (Zd (Zo (i:=3) sh.nd rfl (Or.inl rfl) (Zn Jz (Zn YJ (Zn YJ (Zn Wp (Zy ZN (pv 0) Zg (fun _ _=>rfl)) (Zy ZN (pv 0) Zg (fun _ _=>rfl))) (Zn Wp Zg (Zy ZN (pv 0) Zg (fun _ _=>rfl)))) Zg) Zg))
   (Zd (Zo (i:=3) sh.nd rfl (Or.inl rfl) (Zn Jz (Zn YJ (Zn Wp (pv 3) (pv 3)) (Zn Wp Zg (pv 3))) Zg))
   (Zh (Zm (Zn Jz (Zn EH (pv 3) Zg) (pv 1))))))),?_⟩
  have s0:=ai.of (K:=K) hp
  refine⟨_,rfl,p,_,_,_,rfl,rfl,s0,ij,_,rfl,_,_,rfl,rfl,_,rfl,?_⟩
  by_cases h0:m<=u
  ·rw[Zat h0]
   refine bg ?_
   refine⟨_,rfl,p,_,_,_,rfl,rfl,s0,ij,_,rfl,_,_,rfl,rfl,hm,?_⟩
   refine⟨_,rfl,p,_,_,_,rfl,rfl,s0,ij,_,rfl,_,_,rfl,rfl,⟨hm,.o⟩,?_⟩
   refine⟨_,rfl,p,_,0,0,rfl,rfl,hp,rfl,?_⟩
   refine⟨_,rfl,q _ _ (Zdf _ .o) (ZcD _ hm) ?_⟩
   exact⟨u/m,v,Zc,Int.ediv_nonneg hu .o,hv,Ma⟩
  ·rw[Zaq h0]
   refine aP ?_
   refine⟨_,rfl,p,_,_,_,rfl,rfl,s0,cZ,_,_,rfl,rfl,.inr ⟨.d,.d⟩,_,_,rfl,rfl,_,_,rfl,rfl,(by show(0:Int)<2147483647;decide),?_⟩
   refine⟨_,rfl,p,_,1,1,rfl,rfl,hp,rfl,?_⟩
   have b1:0<=((v*48271+29)%2147483647):=Zdf _ .d
   have b2:((v*48271+29)%2147483647)<2147483647:=ZcD _ .d
   have s1:ai K (upd H p (.lst (([V.int u,V.int v]:List V).set 1 (V.int ((v*48271+29)%2147483647))))) p [.int u,.int ((v*48271+29)%2147483647)]:=ai.of Zc
   have lo:∀{t:Int},0<=t-> -(2^64)<t:=fun h=>Int.lt_of_lt_of_le .d h
   have hi:∀{t:Int},t<2147483647->t<2^64:=fun h=>Int.lt_trans h .d
   refine⟨_,rfl,p,_,_,_,rfl,rfl,s1,cZ,_,rfl,p,_,_,_,rfl,rfl,s1,cZ,_,_,rfl,rfl,.inl ⟨lo b1,hi b2⟩,?_⟩
   refine⟨_,rfl,p,_,_,_,rfl,rfl,s1,cZ,_,_,rfl,rfl,.inl ⟨.d,.d⟩,_,_,rfl,rfl,_,_,rfl,rfl,_,_,rfl,rfl,(by show(0:Int)<2147483629;decide),?_⟩
   have c1:0<=((((v*48271+29)%2147483647)*((v*48271+29)%2147483647)+39373*((v*48271+29)%2147483647)+7)%2147483629):=Zdf _ .d
   have c2:((((v*48271+29)%2147483647)*((v*48271+29)%2147483647)+39373*((v*48271+29)%2147483647)+7)%2147483629)<2147483647:=Int.lt_trans (ZcD _ .d) .d
   refine⟨_,rfl,_,rfl,_,_,rfl,rfl,.inl ⟨lo c1,hi c2⟩,_,rfl,_,_,rfl,rfl,.inl ⟨.d,.d⟩,_,_,rfl,rfl,_,_,rfl,rfl,(by show(0:Int)<2147483587;decide),?_⟩
   refine⟨_,rfl,_,_,rfl,rfl,⟨.d,.d⟩,_,rfl,_,_,rfl,rfl,hm,?_⟩
   refine q _ _ (Zdf _ .o) (ZcD _ hm) ?_
   exact⟨u,_,Zc,hu,b1,b2⟩
end
section
variable {P:Program}{w:World}{K:Zgc}{mg:Str->Option Value}{base:Heap}{cB cL:Addr}
abbrev nM:Stmt:=top 27
def kH (K:Zgc):Sp:=fun vs H Q _=> ∃x y wd hg,vs=[x,y]/\dP H x wd hg/\oR K H y/\eO wd hg (cT H y)=true/\∀H',af H H'->Q .ah H'
theorem vP:aQ ["board", "lay"] ["board", "lay"] (aw nM):=Zr (by decide+kernel)
theorem xl {f:Addr}{fd:FuncData}(F:aC K "need_lay" "need_lay" nM f fd) (D1:Def P w K mg base 5 "is_lay" ["board", "thing"] (se K)):aA P w K mg base az 6 f fd ["board", "lay"] (kH K):=by
 refine F.ok vP (fun vs H Q E h=> ?_) (fun aq A outer s H vs Q E hr h=> ?_)
 ·obtain⟨x,y,wd,hg,rfl,_⟩:=h
  rfl
 ·obtain⟨x,y,wd,hg,rfl,b,p,fu,q⟩:=h
  refine⟨_,Zh (ZS (Z9 (ZT (Zf D1 hr (Za (pv 0) (Za (pv 1) Zb))))) Zs Zw),?_⟩
  refine⟨_,rfl,_,rfl,x,y,wd,hg,rfl,b,p,fun H1 s1=> ⟨_,rfl,?_⟩⟩
  rw[fu]
  exact aP (q H1 s1)
end
section
theorem kq.same {H H':Hp}{p:Addr}(h:kq H p) (s:af H H'):kq H' p:=by
 obtain⟨u,v,e,r⟩:=h
 exact⟨u,v,s _ _ e,r⟩
end
section
variable {P:Program}{w:World}{K:Zgc}{mg:Str->Option Value}{base:Heap}
abbrev pH:Stmt:=top 64
def gE (R:Hp->V->V->Prop):Sp:=fun vs H Q _=> ∃x y,vs=[x,y]/\R H x y/\∀H',af H H'->Q (.bl true) H'
def R0 (_:Hp) (x y:V):Prop:=∃i:Int,x=.int i/\y=.int i
theorem R0.same {H H':Hp}{x y:V}(r:R0 H x y) (_:af H H'):R0 H' x y:=r
theorem vL:aQ ["_law_found", "_law_due"] ["_law_found", "_law_due"] (aw pH):=Zr (by decide+kernel)
theorem Ka {f:Addr}{fd:FuncData}(F:aC K "_law_same" "_law_same" pH f fd) (G:Gs mg):aA P w K mg base az 1 f fd ["_law_found", "_law_due"] (gE R0):=by
 refine F.ok vL (fun vs H Q E h=> ?_) (fun aq A outer s H vs Q E hr h=> ?_)
 ·obtain⟨x,y,rfl,_⟩:=h
  rfl
 ·obtain⟨x,y,rfl,⟨i,rfl,rfl⟩,q⟩:=h
  refine⟨_,Zd (ZS (ZT (Zk (UZ (a:= "list") (b:= "tuple")) rfl G.isinstance Za4 (Za (pv 1) (Za (Zt (Za (ZB (v:=.ty "list") rfl G.list Zes rfl) (Za (ZB (v:=.ty "tuple") rfl G.tuple ZcN rfl) Zb))) Zb)))) Zs Zw)
   (Zd (ZS (PW.pt (JQ (Yg (Jy (pv 1))) (YI (Yg (Jy (pv 0)))))) Zs Zw)
   (Zh (Zm (Yk (Yq YG (Zk (Zv (c:= "bool")) rfl G.isinstance Za4 (Za (pv 0) (Za (ZB (v:=.ty "bool") rfl G.bool boot_bool rfl) Zb)))
     (Zk (Zv (c:= "bool")) rfl G.isinstance Za4 (Za (pv 1) (Za (ZB (v:=.ty "bool") rfl G.bool boot_bool rfl) Zb))) (cC _))
    (Yi (Yq YG (pv 0) (pv 1) (cC _))))))),?_⟩
  refine⟨_,rfl,bf,fun t ht=> ?_⟩
  have s1:=Zl (o:=.tup [V.ty "list",V.ty "tuple"]) ht
  refine⟨_,t,_,_,rfl,ag.of Zc,.inl ⟨i,rfl,rfl⟩,(show _=some false from rfl),_,rfl,aP ?_⟩
  refine⟨_,rfl,_,rfl,aP ⟨_,rfl,_,rfl,aP ?_⟩⟩
  refine⟨_,rfl,_,_,_,rfl,.int i,(show _=some false from rfl),_,rfl,_,_,_,rfl,.int i,(show _=some false from rfl),rfl,_,rfl,?_⟩
  refine bg ⟨_,rfl,_,rfl,rfl,?_⟩
  have e:decide (V.int i=V.int i)=true:=Zat rfl
  rw[e]
  exact q _ s1
def kr (R:Hp->V->V->Prop) (H:Hp) (x y:V):Prop:=∃(a b:Addr) (xs ys:List V),x=.ref a/\y=.ref b/\H a=some (.tup xs)/\H b=some (.tup ys)/\Paired (R H) xs ys/\xs.length<=100
theorem I9 {R:Hp->V->V->Prop}{k:Nat}(hR:∀{H H':Hp}{x y:V},R H x y->af H H'->R H' x y) {f:Addr}{fd:FuncData}(F:aC K "_law_same" "_law_same" pH f fd) (G:Gs mg) (D:Def P w K mg base k "_law_same" ["_law_found", "_law_due"] (gE R)):
  aA P w K mg base az (k+1) f fd ["_law_found", "_law_due"] (gE (kr R)):=by
 refine F.ok vL (fun vs H Q E h=> ?_) (fun aq A outer s H vs Q E hr h=> ?_)
 ·obtain⟨x,y,rfl,_⟩:=h
  rfl
 ·obtain⟨x,y,rfl,⟨a,b,xs,ys,rfl,rfl,ha,hb,pr,hl⟩,q⟩:=h
  refine⟨_,Zd (ZS (ZT (Zk (Y4 (a:= "list") (b:= "tuple")) rfl G.isinstance Za4 (Za (pv 1) (Za (Zt (Za (ZB (v:=.ty "list") rfl G.list Zes rfl) (Za (ZB (v:=.ty "tuple") rfl G.tuple ZcN rfl) Zb))) Zb))))
    (Zd (ZS (PW.pt (JQ (ZI Uf (Zk (Zv (c:= "list")) rfl G.isinstance Za4 (Za (pv 0) (Za (ZB (v:=.ty "list") rfl G.list Zes rfl) Zb))) (Zk (Zv (c:= "list")) rfl G.isinstance Za4 (Za (pv 1) (Za (ZB (v:=.ty "list") rfl G.list Zes rfl) Zb))) (cC _))
      (YI (ZI Uf (Zk (Zv (c:= "tuple")) rfl G.isinstance Za4 (Za (pv 0) (Za (ZB (v:=.ty "tuple") rfl G.tuple ZcN rfl) Zb))) (Zk (Zv (c:= "tuple")) rfl G.isinstance Za4 (Za (pv 1) (Za (ZB (v:=.ty "tuple") rfl G.tuple ZcN rfl) Zb))) (cC _))))) Zs Zw)
    (Zh (Zm (Yk (Yq YG (Zk Zx rfl G.len Zc6 (Za (pv 0) Zb)) (Zk Zx rfl G.len Zc6 (Za (pv 1) Zb)) (cC _))
     (Yi (Zk Yo rfl G.all Zfy (Za (ZA ["_law_one", "_law_other"] 2 [] (EL rfl G.zip (Za (pv 0) (Za (pv 1) Zb)))
      (fun C s H fp=>show PG (aG _ _ _ C s H fp) _ (gJ K 2 (bR (bF 0) (bR (bF 1) gK))) from ZO rfl (Zj (pb 0) (Zj (pb 1) ZF))) (fun C s H fp=>ZC)
      (fun C s H fp D'=>bL rfl (Zf D hr (Za (pv 0) (Za (pv 1) Zb))))) Zb))))))) Zw) Zs,?_⟩
  refine⟨_,rfl,bf,fun t ht=> ?_⟩
  obtain⟨H1,zz,s1,e1⟩:=aR (o:=.tup [V.ty "list",V.ty "tuple"]) ht
  rw[zz]
  have gH:=s1 _ _ ha
  have cX:=s1 _ _ hb
  refine⟨_,t,_,_,rfl,ag.of e1,.inr (.inr (.inr ⟨b,ys,rfl,cX,rfl⟩)),(show _=some true from rfl),_,rfl,bg ?_⟩
  refine⟨_,rfl,_,_,_,rfl,.tup gH,(show _=some false from rfl),_,rfl,_,_,_,rfl,.tup cX,(show _=some false from rfl),rfl,_,rfl,aP ?_⟩
  refine⟨_,rfl,_,_,_,rfl,.tup gH,(show _=some true from rfl),_,rfl,_,_,_,rfl,.tup cX,(show _=some true from rfl),rfl,_,rfl,aP ?_⟩
  have hlen:xs.length=ys.length:=ZaA pr
  refine⟨_,rfl,a,xs,rfl,.inr (ag.of gH),_,rfl,b,ys,rfl,.inr (ag.of cX),rfl,_,rfl,?_⟩
  have el:decide (V.int (xs.length:Int)=V.int (ys.length:Int))=true:=Zat (by rw[hlen])
  rw[el]
  refine bg ⟨_,rfl,_,rfl,a,b,rfl,⟨xs,ys,ag.of gH,ag.of cX⟩,?_⟩
  refine Ui (xs:=xs) (zs:=ys) hlen (fun i zs σ H2=> ∃v0 v1,σ=[v0,v1]/\af H1 H2/\zs=List.replicate i (V.bl true)) ⟨_,_,rfl,af.refl _,rfl⟩ (fun i zs σ H2 _ ⟨_,_,_,s2,_⟩=> ⟨ag.of (s2 _ _ gH),ag.of (s2 _ _ cX)⟩) ?_ ?_
  ·rintro i x y T zs σ H2 hx hy hT ⟨v0,v1,rfl,s2,rfl⟩
   obtain⟨y',ma,r⟩:=ZV pr hx
   rw[hy]at ma
   cases ma
   have sT:=Zl (o:=.par [x,y]) hT
   have hi:i<xs.length:=(X8.mp hx).1
   refine⟨T,_,rfl,ag.kL Zc,rfl,_,_,rfl,_,_,rfl,rfl,?_⟩
   refine⟨x,rfl,y,rfl,x,y,rfl,hR r (s1.trans (s2.trans sT)),fun H3 s3=> ⟨by rw[Zbc,Zau];omega,_,_,rfl,s2.trans (sT.trans s3),?_⟩⟩
   rw[ZcG]
  ·rintro zs σ H2 ⟨v0,v1,rfl,s2,rfl⟩ p hp
   refine⟨p,List.replicate xs.length true,rfl,?_,?_⟩
   ·rw[List.map_replicate]
    exact ai.of Zc
   ·have e:(List.replicate xs.length true).all id=true:=by simp
    rw[e]
    exact q _ (s1.trans (s2.trans (Zl hp)))
end
section
def Bt:List Str:=["NoBoard", "NoLay", "NoNumber", "NoPoints", "NoPoint", "NoPaper", "NoUnlike", "NoPrime", "NoRoot", "NoTurn", "TooFew", "TooMany", "NoText", "NoLine", "NoDeed"]
def oZ:List Str:=["board", "lay", "number", "points", "point", "paper", "unlike", "prime"]
def oY:List Str:=["root", "turn", "few", "many", "text", "line", "deed"]
def wordOf (i:Nat):Str:=(oZ++oY).getD i ""
structure oT (K:Zgc) (mg:Str->Option Value) (cS C:Addr) (iC:Nat):Prop where
 z:lI K C
 ms:mg "StepError" =some (.ref cS)
 xs:PySem.W.exmOne K (.ref C) (.ref cS)=some true
 m:∀i,i<15->∃c,mg (Bt.getD i "")=some (.ref c)/\PySem.W.kitOne K (.ref C) (.ref c)=some (decide (i=iC))
 mv:mg "ValueError" =none
 xv:PySem.W.kitOne K (.ref C) (.type "ValueError")=some true
 lt:iC<15
def bM (iC n:Nat):List V:=(List.range n).map fun i=>V.bl (decide (i=iC))
theorem Ww (iC n:Nat):(bM iC n).all eV=true:=by
 unfold bM
 rw[List.all_map,ZaF]
 exact fun _ _=>rfl
theorem Vb:∀iC,iC<15->(bM iC 15).countP (fun y=>dX y (.bl true))=1:=by decide+kernel
theorem RY {iC:Nat}(h:iC<15):(bM iC 15)[iC]? =some (.bl true):=by
 unfold bM
 rw[ZaH,List.getElem?_range h]
 show some (V.bl (decide (iC=iC)))=_
 rw[Zat rfl]
theorem RZ {iC m:Nat}{y:V}(h:m<iC) (e:(bM iC 15)[m]? =some y):dX y (.bl true)=false:=by
 unfold bM at e
 rw[ZaH]at e
 obtain⟨k,hk,rfl⟩:=ZaB.mp e
 have:k=m:=by
  have:=X8.mp hk
  simpa using this.2.symm
 subst this
 show(decide (k=iC)==true)=false
 rw[Zaq .o]
 rfl
def G1 (K:Zgc) (i:Nat) (u:Value):TE:=fun σ H Q=> ∃e C b,σ[i]? =some (some (.ref e))/\H e=some (jC e C)/\lI K C/\PySem.W.kitOne K (.ref C) u=some b/\Q (.bl b) H
theorem Yj {X:Cx}{i:Nat}{y n:Str}{c:Addr}{p1 p2 p3 p4:Pos}(hi:X.mg "isinstance" =none) (hx:PE X (.Name y p2) (pd i)) (hm:X.mg n=some (.ref c)) (g1:Gl X "isinstance" :=by rfl) (g2:Gl X n:=by rfl) (hd:(n==("__debug__" :Str))=false:=by decide):
  PE X (.Call (.Name "isinstance" p1) [.Name y p2,.Name n p3] [] p4) (G1 X.K i (.ref c)):=by
 intro pins s σ H Q I h
 obtain⟨e,C,b,h1,h2,h3,h4,h5⟩:=h
 have z:PE X (.Call (.Name "isinstance" p1) [.Name y p2,.Name n p3] [] p4) _:=Zk Js g1 hi Za4 (Za hx (Za (Z6 (v:=.ref c) g2 hm rfl hd) Zb))
 exact z pins s σ H Q I ⟨_,h1,e,C,_,_,_,rfl,h2,h3,fun _ h=>h,h4,h5⟩
end
section
variable {P:Program}{w:World}{K:Zgc}{mg:Str->Option Value}{base:Heap}
abbrev vT:Stmt:=top 60
def rX (P:Program) (w:World) (K:Zgc) (mg:Str->Option Value) (base:Heap) (cS:Addr) (k:Nat):Sp:=fun vs H Q _=> ∃f fd sp C iC,vs=[.ref f]/\oT K mg cS C iC/\(∀s,bw P w H s->PySem.W.FnAt f s)/\aA P w K mg base (cf P w) k f fd [] sp/\
 (∀s,BindsTo s fd ⟨[],[]⟩ [])/\(∀Q' E',(∀e H',af H H'->E' (.ref e) (some C) H')->sp [] H Q' E')/\∀H',af H H'->Q (.str (wordOf iC)) H'
abbrev KQ:List Str:=["_law_call", "_law_error", "e", "_law_marks", "_law_more", "_law_words"]
theorem gT:aQ KQ ["_law_call"] (aw vT):=Zr (by decide+kernel)
theorem IQ {k:Nat}{f:Addr}{fd:FuncData}{cS:Addr}(F:aC K "_law_word" "_law_word" vT f fd) (G:Gs mg):aA P w K mg base az (k+1) f fd ["_law_call"] (rX P w K mg base cS k):=by
 refine F.ok gT (fun vs H Q E h=> ?_) (fun aq A outer s H vs Q E hr h=> ?_)
 ·obtain⟨f,fd,sp,C,iC,rfl,_⟩:=h
  rfl
 ·obtain⟨f,fd,sp,C,iC,rfl,M,gm,Fl,yD,dG,q⟩:=h
  obtain⟨c0,m0,k0⟩:=M.m 0 .d
  obtain⟨c1,m1,k1⟩:=M.m 1 .d
  obtain⟨c2,m2,k2⟩:=M.m 2 .d
  obtain⟨c3,m3,k3⟩:=M.m 3 .d
  obtain⟨c4,m4,k4⟩:=M.m 4 .d
  obtain⟨c5,m5,k5⟩:=M.m 5 .d
  obtain⟨c6,m6,k6⟩:=M.m 6 .d
  obtain⟨c7,m7,k7⟩:=M.m 7 .d
  obtain⟨c8,m8,k8⟩:=M.m 8 .d
  obtain⟨c9,m9,k9⟩:=M.m 9 .d
  obtain⟨c10,Lb,Lz⟩:=M.m 10 .d
  obtain⟨c11,La,Ly⟩:=M.m 11 .d
  obtain⟨c12,K9,Lx⟩:=M.m 12 .d
  obtain⟨c13,K8,Lw⟩:=M.m 13 .d
  obtain⟨c14,K7,Lv⟩:=M.m 14 .d
  have gi:=G.isinstance
  refine⟨_,Zd (Zo (i:=1) gT.nd rfl (Or.inl rfl) Jx)
   (Zd (TX (ic:=0) (ie:=2) rfl rfl rfl gT.nd rfl (Or.inl rfl) rfl rfl M.ms rfl hr (fun e=>Zh (Zo (i:=1) gT.nd rfl (Or.inl rfl) (pv 2))))
   (Zd (Zo (i:=3) gT.nd rfl (Or.inl rfl) (ZE (Za (Yj gi (pv 1) m0) (Za (Yj gi (pv 1) m1) (Za (Yj gi (pv 1) m2) Zb)))))
   (Zd (Zo (i:=4) gT.nd rfl (Or.inl rfl) (ZE (Za (Yj gi (pv 1) m3) (Za (Yj gi (pv 1) m4) (Za (Yj gi (pv 1) m5) Zb)))))
   (Zd (Zo (i:=3) gT.nd rfl (Or.inl rfl) (Zn JA (Zn JA (pv 3) (pv 4)) (ZE (Za (Yj gi (pv 1) m6) (Za (Yj gi (pv 1) m7) Zb)))))
   (Zd (Zo (i:=3) gT.nd rfl (Or.inl rfl) (Zn JA (pv 3) (ZE (Za (Yj gi (pv 1) m8) (Za (Yj gi (pv 1) m9) Zb)))))
   (Zd (Zo (i:=3) gT.nd rfl (Or.inl rfl) (Zn JA (pv 3) (ZE (Za (Yj gi (pv 1) Lb) (Za (Yj gi (pv 1) La) Zb)))))
   (Zd (Zo (i:=3) gT.nd rfl (Or.inl rfl) (Zn JA (pv 3) (ZE (Za (Yj gi (pv 1) K9) (Za (Yj gi (pv 1) K8) Zb)))))
   (Zd (ZL (JR Zbt PySem.F.slot_list_append PySem.F.type_list_append JE (pv 3) (Za (Yj gi (pv 1) K7) Zb)))
   (Zd (ZS (Yg (Jy (pv 1))) Zs Zw)
   (Zd (ZS (PW.pt (JQ (ZI Uf (JR Zbt PySem.F.slot_list_count PySem.F.type_list_count R6 (pv 3) (Za Wl Zb)) Zg (cC _))
     (YI (Z9 (ZT (Zk Js rfl gi Za4 (Za (pv 1) (Za (ZB (v:=.ty "ValueError") rfl M.mv PyProof.Rows.Boot.«ValueError» rfl) Zb)))))))) Zs Zw)
   (Zd (Zo (i:=5) gT.nd rfl (Or.inl rfl) (ZE (zJ (vs:=oZ.map V.str) rfl)))
   (Zd (Zo (i:=5) gT.nd rfl (Or.inl rfl) (Zn JA (pv 5) (ZE (zJ (vs:=oY.map V.str) rfl))))
   (Zh (Zm (Zy ZN (pv 5) (JR Zbt PySem.F.slot_list_index PySem.F.type_list_index Sq (pv 3) (Za Wl Zb)) (fun _ _=>rfl)))))))))))))))),?_⟩
  refine⟨f,fd,sp,rfl,gm,Fl,yD,dG _ _ fun e H1 s1=> ⟨e,C,rfl,rfl,M.xs,fun Nd=> ⟨_,rfl,?_⟩⟩⟩
  have s2:af H1 (upd H1 e (jC e C)):=Zl Nd
  have he:upd H1 e (jC e C) e=some (jC e C):=Zc
  generalize upd H1 e (jC e C)=H2 at s2 he
  have sA:=s1.trans s2
  dsimp only[List.set]
  refine aE (bp ⟨e,C,_,rfl,he,M.z,k0,e,C,_,rfl,he,M.z,k1,e,C,_,rfl,he,M.z,k2,uZ,fun l1 fm=>aO ?_⟩)
  dsimp only
  show gQ _ _ _ [some (.ref f),some (.ref e),none,some (.ref l1),none,none] (upd H2 l1 (.lst (bM iC 3)))
  obtain⟨H3,zz,t1,g1⟩:=aR (o:=.lst (bM iC 3)) fm
  rw[zz]
  have t6:=t1 _ _ he
  refine aE (bp ⟨e,C,_,rfl,t6,M.z,k3,e,C,_,rfl,t6,M.z,k4,e,C,_,rfl,t6,M.z,k5,uZ,fun l2 fk=>aO ?_⟩)
  dsimp only
  show gQ _ _ _ [some (.ref f),some (.ref e),none,some (.ref l1),some (.ref l2),none] (upd H3 l2 (.lst [V.bl (decide (3=iC)),V.bl (decide (4=iC)),V.bl (decide (5=iC))]))
  obtain⟨H4,zz,t2,g2⟩:=aR (o:=.lst [V.bl (decide (3=iC)),V.bl (decide (4=iC)),V.bl (decide (5=iC))]) fk
  rw[zz]
  have Nc:=t2 _ _ t6
  refine aE (bp ⟨_,rfl,_,rfl,l1,l2,bM iC 3,_,rfl,rfl,t2 _ _ g1,g2,(by show 3+3<=sizeLine;decide),fun l3 qo=> ?_⟩)
  show AE _ _ (upd H4 l3 (.lst (bM iC 6))) _
  obtain⟨H5,zz,t3,g3⟩:=aR (o:=.lst (bM iC 6)) qo
  rw[zz]
  have yv:=t3 _ _ Nc
  refine⟨e,C,_,rfl,yv,M.z,k6,e,C,_,rfl,yv,M.z,k7,bf,fun l4 mn=> ?_⟩
  obtain⟨H6,zz,t4,g4⟩:=aR (o:=.lst [V.bl (decide (6=iC)),V.bl (decide (7=iC))]) mn
  rw[zz]
  refine⟨l3,l4,bM iC 6,_,rfl,rfl,t4 _ _ g3,g4,(by show 6+2<=sizeLine;decide),fun l5 yh=>aO ?_⟩
  dsimp only
  show gQ _ _ _ [some (.ref f),some (.ref e),none,some (.ref l5),some (.ref l2),none] (upd H6 l5 (.lst (bM iC 8)))
  obtain⟨H7,zz,t5,g5⟩:=aR (o:=.lst (bM iC 8)) yh
  rw[zz]
  have yu:=t5 _ _ (t4 _ _ yv)
  refine aE (bp ⟨_,rfl,e,C,_,rfl,yu,M.z,k8,e,C,_,rfl,yu,M.z,k9,bf,fun a8 NB=> ?_⟩)
  obtain⟨VH,zz,rM,N5⟩:=aR (o:=.lst [V.bl (decide (8=iC)),V.bl (decide (9=iC))]) NB
  rw[zz]
  refine⟨l5,a8,bM iC 8,_,rfl,rfl,rM _ _ g5,N5,(by show 8+2<=sizeLine;decide),fun b8 Ny=>aO ?_⟩
  dsimp only
  show gQ _ _ _ [some (.ref f),some (.ref e),none,some (.ref b8),some (.ref l2),none] (upd VH b8 (.lst (bM iC 10)))
  obtain⟨X0,zz,uT,NZ⟩:=aR (o:=.lst (bM iC 10)) Ny
  rw[zz]
  have yr:=uT _ _ (rM _ _ yu)
  refine aE (bp ⟨_,rfl,e,C,_,rfl,yr,M.z,Lz,e,C,_,rfl,yr,M.z,Ly,bf,fun a10 NH=> ?_⟩)
  obtain⟨VJ,zz,rO,N7⟩:=aR (o:=.lst [V.bl (decide (10=iC)),V.bl (decide (11=iC))]) NH
  rw[zz]
  refine⟨b8,a10,bM iC 10,_,rfl,rfl,rO _ _ NZ,N7,(by show 10+2<=sizeLine;decide),fun b10 NA=>aO ?_⟩
  dsimp only
  show gQ _ _ _ [some (.ref f),some (.ref e),none,some (.ref b10),some (.ref l2),none] (upd VJ b10 (.lst (bM iC 12)))
  obtain⟨X3,zz,uU,N0⟩:=aR (o:=.lst (bM iC 12)) NA
  rw[zz]
  have yt:=uU _ _ (rO _ _ yr)
  refine aE (bp ⟨_,rfl,e,C,_,rfl,yt,M.z,Lx,e,C,_,rfl,yt,M.z,Lw,bf,fun a12 NG=> ?_⟩)
  obtain⟨VI,zz,rN,N6⟩:=aR (o:=.lst [V.bl (decide (12=iC)),V.bl (decide (13=iC))]) NG
  rw[zz]
  refine⟨b10,a12,bM iC 12,_,rfl,rfl,rN _ _ N0,N6,(by show 12+2<=sizeLine;decide),fun b12 CC=>aO ?_⟩
  dsimp only
  show gQ _ _ _ [some (.ref f),some (.ref e),none,some (.ref b12),some (.ref l2),none] (upd VI b12 (.lst (bM iC 14)))
  obtain⟨oV,zz,Az,yR⟩:=aR (o:=.lst (bM iC 14)) CC
  rw[zz]
  have tZ:=Az _ _ (rN _ _ yt)
  have sB:af H oV:=s1.trans (s2.trans (t1.trans (t2.trans (t3.trans (t4.trans (t5.trans (rM.trans (uT.trans (rO.trans (uU.trans (rN.trans (Az))))))))))))
  refine aE ⟨_,rfl,.inl ⟨rfl,_,ai.of yR⟩,e,C,_,rfl,tZ,M.z,Lv,b12,_,_,rfl,rfl,yR,(by show 14<sizeLine;decide),?_⟩
  show gQ _ _ _ [some (.ref f),some (.ref e),none,some (.ref b12),some (.ref l2),none] (upd oV b12 (.lst (bM iC 15)))
  have KP:H b12=none:=(s1.trans (s2.trans (t1.trans (t2.trans (t3.trans (t4.trans (t5.trans (rM.trans (uT.trans (rO.trans (uU.trans rN))))))))))).free CC
  have sC:af H (upd oV b12 (.lst (bM iC 15))):=Tr sB KP
  have Cu:upd oV b12 (.lst (bM iC 15)) e=some (jC e C):=by rw[Zi (fun z=>by rw[z,yR]at tZ;cases tZ)];exact tZ
  have gc:upd oV b12 (.lst (bM iC 15)) b12=some (.lst (bM iC 15)):=Zc
  generalize upd oV b12 (HO.lst (bM iC 15))=Hc at sC Cu gc
  refine aE ⟨_,rfl,_,rfl,aP ?_⟩
  refine iA ?_
  dsimp only
  refine aE ⟨_,rfl,.inl ⟨rfl,_,ai.of gc⟩,b12,_,_,rfl,rfl,ai.of gc,rfl,Ww _ _,?_⟩
  rw[Vb iC M.lt]
  refine⟨rfl,_,rfl,aP ⟨_,rfl,e,C,_,_,_,rfl,Cu,M.z,fun _ h=>h,M.xv,_,rfl,aP ?_⟩⟩
  refine iA ?_
  dsimp only
  refine aE (bp ⟨Hg,fun d1 Nm=>aO ?_⟩)
  dsimp only
  show gQ _ _ _ [some (.ref f),some (.ref e),none,some (.ref b12),some (.ref l2),some (.ref d1)] _
  obtain⟨Hd,zz,u1,v1⟩:=aR (o:=.lst (oZ.map V.str)) Nm
  rw[zz]
  refine aE (bp ⟨_,rfl,Hi,fun d2 hd2=> ?_⟩)
  obtain⟨He,zz,u2,v2⟩:=aR (o:=.lst (oY.map V.str)) hd2
  rw[zz]
  refine⟨d1,d2,_,_,rfl,rfl,u2 _ _ v1,v2,(by show 8+7<=sizeLine;decide),fun d3 Nl=>aO ?_⟩
  dsimp only
  show uV _ _ [some (.ref f),some (.ref e),none,some (.ref b12),some (.ref l2),some (.ref d3)] _
  obtain⟨Hf,zz,u3,v3⟩:=aR (o:=.lst (oZ.map V.str++oY.map V.str)) Nl
  rw[zz]
  have gf:=u3 _ _ (u2 _ _ (u1 _ _ gc))
  refine⟨_,rfl,_,rfl,.inl ⟨rfl,_,ai.of gf⟩,b12,_,_,iC,rfl,rfl,ai.of gf,rfl,Ww _ _,⟨_,RY M.lt,rfl⟩,fun m y h e=>RZ h e,?_⟩
  refine⟨d3,_,_,_,rfl,rfl,ai.of v3,YE (v:=.str (wordOf iC)) ?_,q _ (sC.trans (u1.trans (u2.trans u3)))⟩
  rw[<-Zax,ZaH]
  unfold wordOf
  have hl:iC< (oZ++oY).length:=M.lt
  rw[Zai hl,ZaM,Zai hl]
  rfl
end
section
def nP (K:Zgc):R2:=fun x y H Q=> (∃a b ys,x=.ref a/\y=.ref b/\ag K H a []/\ag K H b ys/\Q (.ref b) H)∨wY K x y H Q
theorem nR {X:Cx} :bo X (binaryOp .Add) (nP X.K):=Fm.or EG
theorem Du {K:Zgc}{H:Hp}{a b:Addr}{xs ys:List V}{Q:VK}(ha:H a=some (.tup xs)) (hb:H b=some (.tup ys)) (hl:xs.length+ys.length<=sizeLine) (q:∀(c:Addr) H',af H H'->H' c=some (.tup (xs++ys))->Q (.ref c) H'):nP K (.ref a) (.ref b) H Q:=by
 by_cases hx:xs=[]
 ·subst hx
  exact .inl ⟨a,b,ys,rfl,rfl,ag.of ha,ag.of hb,q b H (af.refl _) hb⟩
 ·refine .inr ⟨a,b,xs,ys,rfl,rfl,ag.of ha,ag.of hb,hx,hl,fun hy=> ?_,fun _ c hc=>q c _ (Zl hc) Zc⟩
  subst hy
  exact q a H (af.refl _) (by rw[ZbN];exact ha)
theorem QU {b a c:Int}(h0:a<=b) (h1:b<=c):bH (.int b) a c=true:=by
 show(decide (a<=b)&&decide (b<=c))=true
 rw[Zat h0,Zat h1];rfl
structure ck (K:Zgc) (H:Hp) (x:V) (l:Addr) (xs:List V) (wd hg:Int):Prop where
 bd:dP H x wd hg
 at_:H l=some (.tup xs)
 ly:eO wd hg (some xs)=true
theorem ck.same {K:Zgc}{H H':Hp}{x:V}{l:Addr}{xs:List V}{wd hg:Int}(a:ck K H x l xs wd hg) (s:af H H'):ck K H' x l xs wd hg:=⟨a.bd.same s,s _ _ a.at_,a.ly⟩
theorem Wb {xs:List V}{wd hg:Int}(h:eO wd hg (some xs)=true):(xs.length:Int)=wd:=by
 unfold eO at h
 rw[Zaw,Zaw]at h
 exact ZbU h.1.1
theorem Jk {xs:List V}{wd hg:Int}{v:V}(h:eO wd hg (some xs)=true) (hv:v∈xs):v=.ah∨∃i:Int,v=.int i/\0<=i/\i<hg:=by
 unfold eO at h
 rw[Zaw,Zaw]at h
 by_cases e:v=.ah
 ·exact .inl e
 ·have:=ZaF.mp h.1.2 v (ZaW.mpr ⟨hv,by simp[e]⟩)
  cases v with
  |int i=>
   have z:(decide (0<=i)&&decide (i<=hg - 1))=true:=this
   rw[Zaw]at z
   have z1:=ZbU z.1
   have z2:=ZbU z.2
   exact .inr ⟨i,rfl,z1,.o⟩
  |_=>cases this
theorem ck.pl {K:Zgc}{H:Hp}{x:V}{l:Addr}{xs:List V}{wd hg:Int}(a:ck K H x l xs wd hg):oR K H (.ref l):=by
 refine⟨⟨_,.tup a.at_⟩,fun ys e y hy=> ?_⟩
 rw[ZJ a.at_]at e
 cases e
 rcases Jk a.ly hy with rfl |⟨i,rfl,_⟩
 ·exact⟨_,.ah⟩
 ·exact⟨_,.int i⟩
theorem U7 {t u:TS}{D:Ends}{σ:L2.St}{H:Hp}(R:L2.St->Hp->Prop) (h2:∀aj H',R aj H'->u D aj H') (h1:∀D':Ends,(∀aj H',R aj H'->D'.nx aj H')->t D' σ H):gQ t u D σ H:=h1 _ h2
theorem Qs {n:Nat}{k:Int}(h0:0<=k) (h1:k<n):ji n k=some k.toNat:=by
 unfold ji
 rw[Zay h0,Zay h1]
theorem Gw {t:TE}{σ:L2.St}{H:Hp}{Q:VK}(R:V->Hp->Prop) (h2:∀v H',R v H'->Q v H') (h1:∀Q':VK,(∀v H',R v H'->Q' v H')->t σ H Q'):t σ H Q:=h1 Q h2
end
section
variable {P:Program}{w:World}{K:Zgc}{mg:Str->Option Value}{base:Heap}
def R1 (_:Hp) (x y:V):Prop:=(∃i:Int,x=.int i/\y=.int i)∨(x=.ah/\y=.ah)
end
section
def F8 (Y:Cx) (cl:List (Str×Addr)) (x:Str) (v:V) (H:Hp) (s:Shared):Prop:=∃c u,cl.lookup x=some c/\s.heap.IsCell c (some u)/\RelV v u/\H c=none/\c∉aY Y.stack
def Ll (so si:Scope):Bool:=si.names.all fun z=>z.2 !=.free||so.names.lookup z.1==some .cell||so.names.lookup z.1==some .free
theorem Lk {X:Cx}{scope:Scope}(h:Ll X.env.scope scope=true):∀z∈scope.names,z.2=.free->X.env.kindOf z.1=some .cell∨X.env.kindOf z.1=some .free:=fun z hz e=>by
 have:=ZaF.mp h z hz
 simp only[Bool.or_eq_true,bne_iff_ne,ne_eq,Zcm]at this
 rcases this with (h |h) |h
 ·exact absurd e h
 ·exact .inl h
 ·exact .inr h
end
section
variable {Y:Cx}{pins:List (Addr×Obj)}{σ:L2.St}{H:Hp}{s:Shared}
theorem Q1 {i:Nat}{x:Str}{v:V}{scope:Scope}(I:Inv Y pins σ H s) (hi:Y.N[i]? =some x) (l9:σ[i]? =some (some v)) (hk:Y.env.scope.names.lookup x=some .cell) (gm:Y.fn x=true) (eT:(x,NameKind.free)∈scope.names):F8 Y (dN scope Y.env) x v H s:=by
 obtain⟨m,hn,hl⟩:=I.loc
 obtain⟨u,r,l⟩:=hl i x v hi l9 (.inr (.inl hk))
 obtain⟨c,hc⟩:=WL (env:=Y.env) eT
 have e1:=(Yn hc).1
 rcases l with ⟨ay,_⟩ |⟨_,c',bC,lj⟩
 ·have:Y.env.scope.names.lookup x=some .local:=ay
  rw[hk]at this
  cases this
 ·rw[bC]at e1
  have e2:c=c':=e1
  subst e2
  refine⟨c,u,hc,lj,r,I.fM x c bC,fun hm=> ?_⟩
  rcases Zaj.mp (I.rS c hm) with z |z
  ·exact I.hX x c bC z
  ·obtain⟨_,o,ho,_⟩:=I.ok.dJ.mem z
   exact absurd (Zar (Zad ho) (I.ok.kg x c gm bC)) (Zba _)
theorem Ql {scope:Scope}{env:Env}{z:Str}{c:Addr}(h:(dN scope env).lookup z=some c):(z,NameKind.free)∈scope.names:=(Yn h).2
end
section
variable {X:Cx}{cS c P fR:Addr}{fn:Str}{kf:Nat}{ps:List Str}{sp:Sp}
abbrev lq (X:Cx):Str:=X.env.qual++ "<lambda>"
theorem rL {H H':Hp}{P:Addr}{q:Str}(h:TabAt H P q) (s:af H H'):TabAt H' P q:=by
 obtain⟨ps,h1,h2,h3⟩:=h
 exact⟨ps,s _ _ h1,h2,fun pos cv z=>by obtain⟨d,e,g⟩:=h3 pos cv z;exact⟨d,e,s _ _ g⟩⟩
structure LCtx (X:Cx) (cS c P fR:Addr) (fn:Str) (kf:Nat) (ps:List Str) (sp:Sp):Prop where
 lam:F2 X c P
 hR:∀b',Def X.prog X.w X.K X.mg b' (kf+2) "_law_word" ["_law_call"] (rX X.prog X.w X.K X.mg b' cS (kf+1))
 hU:∀b',eZ X.prog X.w X.K X.mg b' kf fn ps sp
 room:bj (kf+2) X.A
 mR:X.mg "_law_word" =some (.ref fR)
 kR:PySem.W.keepIn X.K (.ref fR)=true
structure LN (X:Cx) (x:Str) (i:Nat):Prop where
 nx:X.N[i]? =some x
 kx:X.env.scope.names.lookup x=some .cell
 fx:X.fn x=true
end
section
theorem Gz {H H':Hp}{P p:Addr}{q:Str}{o:HO}(h:TabAt H P q) (s:bZ p H H') (hp:H p=some o) (h1:∀ps,o≠.cz ps) (h2:∀c,o≠hV c q):TabAt H' P q:=by
 obtain⟨ps,e,t,f⟩:=h
 refine⟨ps,s _ _ e fun z=>by rw[z,hp]at e;cases e;exact h1 _ rfl,t,fun pos cv z=> ?_⟩
 obtain⟨d,e1,e2⟩:=f pos cv z
 exact⟨d,e1,s _ _ e2 fun z=>by rw[z,hp]at e2;cases e2;exact h2 _ rfl⟩
theorem Bc {K:Zgc}{H:Hp}{P:Addr}{ps:Array Value}{v:V}(t:eA K H v) (h:H P=some (.cz ps)):v≠.ref P:=fun z=>by
 obtain⟨T,ty⟩:=t
 subst z
 cases ty with
 |lst e=>rw[h]at e;cases e
 |cD e=>rw[h]at e;cases e
 |tup e=>rw[h]at e;cases e
 |dK e=>rw[h]at e;cases e
 |dT e=>rw[h]at e;cases e
end
section
variable {X:Cx}{cS c P fR:Addr}{fn:Str}{kf:Nat}{ps:List Str}{sp:Sp}
structure zV (params:Arguments) (body:Expr) (scope:Scope) (N:List Str):Prop where
 kind:scope.kind=.function
 co:scope.isCoroutine=false
 gen:scope.isGenerator=false
 fE:∀z∈scope.names,z.2≠.cell
 only:∀z∈scope.names,z.2=.free->z.1∈N
 free:∀x∈N,scope.names.lookup x=some .free
 bind:∀(q:Str) (cl:List (Str×Addr)) (pm:Value) (c:Addr) (ct:Value),bindArgs (PySem.W.kla_fn "<lambda>" q params body scope cl pm (.ref c) ct) ⟨[],[]⟩=pure []
def Ar (X:Cx) (kf:Nat) (C:Addr) (f:Addr) (q:Str) (bd:Expr) (scope:Scope) (cl:List (Str×Addr)) (N:List Str) (ws:List V) (Pre:Hp->Prop):Prop:=
 ∀(fO:Heap) (cc:Addr) (A:Around) (outer:List Env) (s2:Shared) (H2:Hp) (Q2:VK) (E2:XK),bj kf (A.deeper (PySem.W.envX q scope s2.heap.objs.size f (.ref cc) cl))->Pre H2->(∀e H',af H2 H'->E2 (.ref e) (some C) H')->
  ∃t,PE (oK X.prog X.w X.K X.mg fO N q scope f (.ref cc) cl A outer s2 H2 E2) bd t/\t (ws.map some) H2 Q2
theorem SF {pins:List (Addr×Obj)}{σ:L2.St}{H:Hp}{s:Shared}{f C:Addr}{iC:Nat}{q:Str}{params:Arguments}{bd:Expr}{scope:Scope}{cl:List (Str×Addr)}{Q:VK}{N:List Str}{ws:List V}{Pre:Hp->Prop}(L:LCtx X cS c P fR fn kf ps sp)
  (LS:zV params bd scope N) (I:Inv X pins σ H s) (hl:zU H f q params bd scope cl) (hlen:ws.length=N.length) (cM:∀(i:Nat) x v,N[i]? =some x->ws[i]? =some v->F8 X cl x v H s) (bK:∀z c,cl.lookup z=some c->(z,NameKind.free)∈scope.names)
  (MZ:∀a b c,cl.lookup a=some c->cl.lookup b=some c->a=b) (M:oT X.K X.mg cS C iC) (bad:Ar X kf C f q bd scope cl N ws Pre) (pre:Pre H) (hq:∀H',af H H'->Q (.str (wordOf iC)) H'):
  wpAny (model X.prog X.w) X.A (call (.ref fR) [.ref f]) (EP X pins σ Q) X.xe s:=by
 obtain⟨fO,st,e0,bU⟩:=I.rebase
 obtain⟨pm,cc,ct,hf,hc⟩:=hl
 have T:Cells fO scope cl N ws:=⟨hlen,fun u hu=>by
   rcases hu with hu |hu
   ·exact absurd rfl (LS.fE _ (ZbT hu))
   ·exact LS.only _ (ZbT hu) rfl,fun i a v h1 h2=>by
   obtain⟨ax,ux,lx,⟨ox,gx,dx⟩,rx,nx,fx⟩:=cM i a v h1 h2
   exact⟨LS.free a (Zap h1),ax,ux,lx,⟨ox,bU _ _ gx nx fx,dx⟩,rx⟩,fun u c h=>LS.only _ (bK u c h) rfl,MZ⟩
 have FL:aA X.prog X.w X.K X.mg fO (cf X.prog X.w) (kf+1) f (PySem.W.kla_fn "<lambda>" q params bd scope cl pm (.ref cc) ct) []
   (fun vs H2 Q2 E2=> (vs=[]/\H2 f=some (nZ f q params bd scope cl pm cc ct)/\H2 cc=some (hV cc q))/\Pre H2/\∀e H',af H2 H'->E2 (.ref e) (some C) H'):=by
  refine Rh (k:=kf) T LS.kind LS.co LS.gen LS.fE (fun vs H2 Q2 E2 h=>h.1) fun A outer s2 H2 Q2 E2 iL h=> ?_
  exact bad fO cc A outer s2 H2 Q2 E2 iL h.2.1 h.2.2
 obtain⟨XR,Oi,FR,dH,hk,hb⟩:=L.hR fO
 rw[L.mR]at dH
 cases dH
 refine PySem.wpAny_call (Zb7 (FR.run X.A X.stack s H ⟨[.ref f],[]⟩ [.ref f] [.ref f] Q E0 L.room e0 (hb s [.ref f] I.bN rfl) (.cons rfl .nil)
  ⟨f,_,_,C,iC,rfl,M,fun h ak=> ?_,FL,fun s2=> .of_eq (LS.bind q cl pm cc ct),fun Q' E' hE=> ⟨⟨rfl,hf,hc⟩,pre,hE⟩,hq⟩) fun r s' h=> ?_)
 ·have z:h.get? f=some _:=(ak f _ hf).1
  exact⟨_,_,_,_,z⟩
 ·cases r with
  |error e=>exact h.elim
  |ok fl=>
   cases fl with
   |ret u=>exact I.after h
   |next=>exact False.elim h
   |brk=>exact False.elim h
   |cont=>exact False.elim h
def GB (X:Cx) (P:Addr) (iC:Nat) (idx:List Nat) (Pre:List V->Hp->Prop):TE:=fun σ H Q=> ∃ws:List V,ws.length=idx.length/\(∀(k i:Nat) v,idx[k]? =some i->ws[k]? =some v->σ[i]? =some (some v))/\TabAt H P (lq X)/\(∀H',bZ P H H'->Pre ws H')/\∀H',bZ P H H'->TabAt H' P (lq X)->Q (.str (wordOf iC)) H'
theorem IF {params:Arguments}{scope:Scope}{bd:Expr}{p lp pos:Pos}{C:Addr}{iC:Nat}{N:List Str}{idx:List Nat}{Pre:List V->Hp->Prop}(L:LCtx X cS c P fR fn kf ps sp) (LS:zV params bd scope N) (hN:idx.length=N.length) (VE:∀(k:Nat) x i,N[k]? =some x->idx[k]? =some i->LN X x i) (hg:Gl X "_law_word") (yy:defaultsOf params X.env=([],[]))
  (eT:∀z∈scope.names,z.2=.free->X.env.kindOf z.1=some .cell∨X.env.kindOf z.1=some .free) (M:oT X.K X.mg cS C iC) (bad:∀f ws,ws.length=N.length->Ar X kf C f (lq X) bd scope (dN scope X.env) N ws (Pre ws)):
  PE X (.Call (.Name "_law_word" p) [.Lambda params bd scope lp] [] pos) (GB X P iC idx Pre):=by
 intro pins s σ H Q I h
 obtain⟨ws,BP,l9,tab,pre,q⟩:=h
 refine Za2 (YX I hg L.mR ?_ .d)
 have ha:PA X [.Lambda params bd scope lp] _:=Za (PU L.lam yy eT) Zb
 refine PySem.W.callWith_K (h₀:=X.base) I.ok.mod.kU L.kR (au (ha pos pins s σ H (fun vs H1=> ∃f,vs=[.ref f]/\bZ P H H1/\TabAt H1 P (lq X)/\zU H1 f (lq X) params bd scope (dN scope X.env)) I ⟨tab,fun f H1 sx nf t1 l1=> ⟨f,rfl,sx,t1,l1⟩⟩) fun us s1 ⟨vs,H1,I1,r,f,ev,sx,t1,l1⟩=> ⟨I1.bN,?_⟩) rfl rfl
 subst ev
 obtain⟨u,rfl,ru⟩:=ZeN r
 cases ru
 refine SF L LS I1 l1 (by rw[BP,hN]) (fun i x v h1 h2=> ?_) (fun z c h=>Ql h) (fun a b c h1 h2=> ?_) M (bad f ws (by rw[BP,hN])) (pre H1 sx) fun H2 s2=>q H2 (sx.trans s2.x) (rL t1 s2)
 ·have hi:i<idx.length:=by
   have:=(X8.mp h1).1
   omega
  have ei:=Zai hi
  have n:=VE i x _ h1 ei
  exact Q1 I1 n.nx (l9 i _ v ei h2) n.kx n.fx (ZbT (LS.free x (Zap h1)))
 obtain⟨e1,m1⟩:=Yn h1
 obtain⟨e2,m2⟩:=Yn h2
 obtain⟨c1,g1⟩:=I1.ok.has a (eT _ m1 rfl)
 obtain⟨c2,g2⟩:=I1.ok.has b (eT _ m2 rfl)
 rw[g1]at e1
 rw[g2]at e2
 have z1:c1=c2:=by
  have y1:_=c1:=e1
  have y2:_=c2:=e2
  rw[<-y1,<-y2]
 subst z1
 exact I1.ok.inj _ _ _ g1 g2
end
section
def bi (b:Bool):Int:=if b=true then 1 else 0
abbrev tv (q:Bool×Bool×Bool):List V:=[.int (bi q.1),.int (bi q.2.1),.int (bi q.2.2)]
end
section
variable {P:Program}{w:World}{K:Zgc}{mg:Str->Option Value}{base:Heap}{aB aT:Addr}
def tA (n:Int) (l:Bool) (x:Int):Int:=if l=true then n - 1 - x else x
def dQ (wd hg:Int) (q:Bool×Bool×Bool) (x:Int×Int):Int×Int:=if q.1=true then (tA hg q.2.2 x.2,tA wd q.2.1 x.1) else (tA wd q.2.1 x.1,tA hg q.2.2 x.2)
theorem U0 (b:Bool):decide (V.int (bi b)=V.int 1)=b:=by cases b<;>decide
abbrev tW (wd hg:Int) (q:Bool×Bool×Bool):Int:=if q.1=true then hg else wd
abbrev tH (wd hg:Int) (q:Bool×Bool×Bool):Int:=if q.1=true then wd else hg
end
section
theorem Qp {α β:Type}(g:α->Option β) (a:α):[a].filterMap g=(g a).toList:=by
 rw[Zb2]
 cases g a<;>rfl
def dC (xs:List V) (n:Nat):List (Int×Int):=(List.range n).filterMap fun(l:Nat)=> ((xs[l]?).bind gU).map fun r=> ((l:Int),r)
theorem jO (xs:List V) (n:Nat):dC xs (n+1)=dC xs n++(((xs[n]?).bind gU).map fun r=> ((n:Int),r)).toList:=by
 unfold dC
 rw[Zcr,List.filterMap_append,Qp]
abbrev aI (xs:List V):List (Int×Int):=dC xs xs.length
theorem Ea {xs:List V}{n:Nat}{q:Int×Int}(h:q∈dC xs n):∃k:Nat,k<n/\q.1=k/\xs[k]? =some (.int q.2):=by
 unfold dC at h
 obtain⟨k,hk,e⟩:=Zbn.mp h
 refine⟨k,ZaU.mp hk,?_⟩
 cases e1:xs[k]? with
 |none=>rw[e1]at e;cases e
 |some v=>
  rw[e1]at e
  cases v with
  |int r=>cases e;exact⟨rfl,rfl⟩
  |_=>cases e
def oW (qs:List (Int×Int)):Prop:=qs.Pairwise fun a b=>a.1≠b.1/\a.2≠b.2
def uH (wd hg:Int) (qs:List (Int×Int)):Prop:=∀q∈qs,(0<=q.1/\q.1<wd)/\0<=q.2/\q.2<hg
theorem ER {xs:List V}{wd hg:Int}(h:eO wd hg (some xs)=true):uH wd hg (aI xs):=fun q hq=>by
 obtain⟨k,hk,e1,e2⟩:=Ea hq
 have hl:=Wb h
 rcases Jk h (Zap e2) with z |⟨i,z,i0,i1⟩
 ·cases z
 ·cases z
  exact⟨⟨.o,.o⟩,i0,i1⟩
def jf (ps:List (Int×Int)) (k:Int):V:=ps.foldl (fun v p=>if k=p.1 then .int p.2 else v) .ah
theorem RK {ps:List (Int×Int)}{p:Int×Int}{k:Int} :jf (ps++[p]) k=if k=p.1 then .int p.2 else jf ps k:=by
 unfold jf
 rw[List.foldl_append]
 rfl
theorem DZ {k:Int} :∀(ps:List (Int×Int)) (v:V),ps.foldl (fun v p=>if k=p.1 then V.int p.2 else v) v=v∨∃p∈ps,p.1=k/\ps.foldl (fun v p=>if k=p.1 then V.int p.2 else v) v=.int p.2
 | [],v=> .inl rfl
 |p::ps,v=>by
  rw[Zc9]
  rcases DZ ps (if k=p.1 then V.int p.2 else v) with h |⟨q,hq,e1,e2⟩
  ·by_cases z:k=p.1
   ·right
    refine⟨p,Zab,z.symm,?_⟩
    rw[h,Zay z]
   ·left
    rw[h,Zav z]
  ·exact .inr ⟨q,Zaa _ hq,e1,e2⟩
theorem Uc (ps:List (Int×Int)) (k:Int):jf ps k=.ah∨∃p∈ps,p.1=k/\jf ps k=.int p.2:=DZ ps .ah
theorem RJ {ps:List (Int×Int)}{k:Int}(h:∀p∈ps,p.1≠k):jf ps k=.ah:=by
 rcases Uc ps k with z |⟨p,hp,e,_⟩
 ·exact z
 ·exact absurd e (h p hp)
def dW (W:Nat) (ps:List (Int×Int)):List V:=(List.range W).map fun(k:Nat)=>jf ps k
theorem lW (W:Nat) (ps:List (Int×Int)):(dW W ps).length=W:=by unfold dW;rw[Zac,Zbz]
theorem Tq (W:Nat):dW W []=List.replicate W .ah:=by
 unfold dW
 rw[show(fun(k:Nat)=>jf [] (k:Int))=fun _=>V.ah from rfl,List.map_const',Zbz]
theorem Jl {W:Nat}{ps:List (Int×Int)}{k:Nat}(h:k<W):(dW W ps)[k]? =some (jf ps k):=by
 unfold dW
 rw[ZaH,List.getElem?_range h]
 rfl
theorem Sk {W:Nat}{ps:List (Int×Int)}{p:Int×Int}(h0:0<=p.1):(dW W ps).set p.1.toNat (.int p.2)=dW W (ps++[p]):=by
 refine ZcU (by rw[List.length_set,lW,lW]) fun i h1 h2=> ?_
 rw[lW]at h2
 have e1:=X8.mp (Jl (ps:=ps) h2)
 have e2:=X8.mp (Jl (ps:=ps++[p]) h2)
 rw[List.getElem_set]
 obtain⟨_,e1⟩:=e1
 obtain⟨_,e2⟩:=e2
 rw[e1,e2,RK]
 by_cases z:p.1.toNat=i
 ·rw[Zay z,Zay .o]
 ·rw[Zav z,Zav .o]
theorem JG {W:Nat}{ps:List (Int×Int)}{v:V}(h:v∈dW W ps):v=.ah∨∃p∈ps,v=.int p.2:=by
 unfold dW at h
 obtain⟨k,_,rfl⟩:=ZaC.mp h
 rcases Uc ps (k:Int) with z |⟨p,hp,_,e⟩
 ·exact .inl z
 ·exact .inr ⟨p,hp,e⟩
theorem RV {W:Nat}{ps:List (Int×Int)}{r:Int}(h:∀p∈ps,p.2≠r):bD (.int r) (dW W ps)=false:=by
 unfold bD
 rw[List.any_eq_false]
 intro y hy
 rcases JG hy with rfl |⟨p,hp,rfl⟩
 ·show ¬false=true
  exact Zag
 ·show ¬(p.2==r)=true
  rw[Zcm]
  exact h p hp
theorem TK {W:Nat}{ps:List (Int×Int)} :(dW W ps).all eV=true:=by
 rw[ZaF]
 intro y hy
 rcases JG hy with rfl |⟨p,hp,rfl⟩<;>rfl
theorem wX (n:Nat) (v:V):(List.replicate n [v]).flatten=List.replicate n v:=by
 induction n with
 |zero=>rfl
 |succ n ih=>rw[ZbE,ZcJ,ih,ZbE];rfl
theorem lO {H H1:Hp}{L:Addr}{o:HO}(s:af H H1) (n:H L=none):af H (upd H1 L o):=fun b u h=>by
 rw[Zi (Ze h n)]
 exact s b u h
end
section
variable {P:Program}{w:World}{K:Zgc}{mg:Str->Option Value}{base:Heap}{aB aL aT:Addr}
abbrev nK:Stmt:=top 29
def lM (K:Zgc):Sp:=fun vs H Q _=> ∃(x:V) (l:Addr) (xs:List V) (wd hg:Int),vs=[x,.ref l]/\ck K H x l xs wd hg/\∀(L:Addr) (H':Hp) (ps:List V),af H H'->H' L=some (.lst ps)->Paired (iq H') ps (aI xs)->Q (.ref L) H'
theorem vM:aQ ["board", "lay"] ["board", "lay"] (aw nK):=Zr (by decide+kernel)
theorem xk {f:Addr}{fd:FuncData}(F:aC K "points" "points" nK f fd) (G:Gs mg) (D1:Def P w K mg base 6 "need_lay" ["board", "lay"] (kH K)):aA P w K mg base az 7 f fd ["board", "lay"] (lM K):=by
 refine F.ok vM (fun vs H Q E h=> ?_) (fun aq A outer s H vs Q E hr h=> ?_)
 ·obtain⟨x,l,xs,wd,hg,rfl,_⟩:=h
  rfl
 ·obtain⟨x,a,xs,wd,hg,rfl,la,q⟩:=h
  refine⟨_,Zd (ZL (Zf D1 hr (Za (pv 0) (Za (pv 1) Zb))))
   (Zh (Zm (ZA ["line", "row"] 2 [] (UJ rfl G.enumerate (Za (pv 1) Zb))
    (fun C s H fp=>show PG (aG _ _ _ C s H fp) _ (gJ K 2 (bR (bF 0) (bR (bF 1) gK))) from ZO rfl (Zj (pb 0) (Zj (pb 1) ZF)))
    (fun C s H fp=>Z5 (Yg (YV (pv 1)))) (fun C s H fp D=>bL rfl (Zt (Za (pv 0) (Za (pv 1) Zb))))))),?_⟩
  refine aE ⟨_,rfl,_,rfl,x,.ref a,wd,hg,rfl,la.bd,la.pl,by rw[ZJ la.at_];exact la.ly,fun H1 s1=> ?_⟩
  dsimp only
  have ha:=s1 _ _ la.at_
  have hl:=Wb la.ly
  have hlen:xs.length<=12:=by
   have h2:=la.bd.2.2.1
   omega
  refine⟨_,rfl,a,rfl,⟨xs,ag.of ha⟩,?_⟩
  refine JC (xs:=xs) (fun i ys σ H2=> ∃v0 v1,σ=[v0,v1]/\af H1 H2/\Paired (iq H2) ys (dC xs i)/\ys.length<=i) ⟨_,_,rfl,af.refl _,.nil,Zaz _⟩ (fun i ys σ H2 _ ⟨_,_,_,s2,_⟩=>ag.of (s2 _ _ ha)) ?_ ?_
  ·rintro i v T ys σ H2 hv hT ⟨v0,v1,rfl,s2,bS,fk⟩
   have hi:i<xs.length:=(X8.mp hv).1
   have sT:af H2 (upd H2 T (.par [.int (i:Int),v])):=Zl hT
   refine⟨T,_,rfl,ag.kL Zc,rfl,_,_,rfl,_,_,rfl,rfl,?_⟩
   refine⟨_,rfl,_,rfl,?_⟩
   generalize uh:upd H2 T (HO.par [V.int (i:Int),v])=H3 at sT
   rcases Jk la.ly (Zap hv) with rfl |⟨r,rfl,_⟩
   ·refine aP ⟨_,_,rfl,s2.trans sT,?_,.o⟩
    rw[jO,hv]
    exact(by simpa[gU] using Paired.aS bS fun v q' hq=>hq.same sT)
   ·refine bg ?_
    refine⟨_,rfl,_,rfl,bf,fun t ht=> ⟨by rw[Zau];omega,?_⟩⟩
    have s4:af H3 (upd H3 t (.tup [.int (i:Int),.int r])):=Zl ht
    refine⟨_,_,rfl,s2.trans (sT.trans s4),?_,by rw[Zam];simp;omega⟩
    rw[jO,hv]
    exact ZbK (Paired.aS bS fun v q' hq=>hq.same (sT.trans s4)) ⟨t,rfl,Zc⟩
  ·rintro ys σ H2 ⟨v0,v1,rfl,s2,bS,fk⟩ p hp
   have s4:af H2 (upd H2 p (.lst ys)):=Zl hp
   exact q p _ ys (s1.trans (s2.trans s4)) Zc (Paired.aS bS fun v q' hq=>hq.same s4)
abbrev wB:Stmt:=top 30
def vz (K:Zgc):Sp:=fun vs H Q _=> ∃(b:Addr) (v:V) (wd hg:Int) (x:Int×Int),vs=[.ref b,v]/\H b=some (.tup [.int wd,.int hg])/\iq H v x/\(0<=x.1/\x.1<wd)/\(0<=x.2/\x.2<hg)/\∀H',af H H'->Q (.bl true) H'
theorem HG:aQ ["board", "thing"] ["board", "thing"] (aw wB):=Zr (by decide+kernel)
theorem Kl {f:Addr}{fd:FuncData}(F:aC K "is_point" "is_point" wB f fd) (G:Gs mg) (D1:Def P w K mg base 1 "is_tuple_of" ["thing", "many"] (pz K)) (D2:Def P w K mg base 2 "is_whole_within" ["thing", "least", "most"] (kG K)):
  aA P w K mg base az 3 f fd ["board", "thing"] (vz K):=by
 refine F.ok HG (fun vs H Q E h=> ?_) (fun aq A outer s H vs Q E hr h=> ?_)
 ·obtain⟨b,v,wd,hg,x,rfl,_⟩:=h
  rfl
 ·obtain⟨b,v,wd,hg,⟨x,y⟩,rfl,hb,⟨t,rfl,ht⟩,hx,hy,q⟩:=h
  refine⟨_,Zh (Zm (Yk (Zf D1 (hr.mono .d) (Za (pv 1) (Za Zg Zb)))
   (Yi (Zk Yo rfl G.all Zfy (Za (ZA ["at", "side"] 2 [] (EL rfl G.zip (Za (pv 1) (Za (pv 0) Zb)))
    (fun C s H fp=>show PG (aG _ _ _ C s H fp) _ (gJ K 2 (bR (bF 0) (bR (bF 1) gK))) from ZO rfl (Zj (pb 0) (Zj (pb 1) ZF))) (fun C s H fp=>ZC)
    (fun C s H fp D=>bL rfl (Zf D2 (hr.mono .d) (Za (pv 0) (Za Zg (Za (Zn ZW (pv 1) Zg) Zb)))))) Zb))))),?_⟩
  refine⟨_,rfl,.ref t,2,rfl,⟨_,.tup ht⟩,_,rfl,?_⟩
  rw[ZJ ht]
  show if decide ((2:Int)=2)=true then _ else _
  rw[Zat rfl]
  refine bg ⟨_,rfl,_,rfl,t,b,rfl,⟨_,_,ag.of ht,ag.of hb⟩,?_⟩
  refine Ui (xs:=[.int x,.int y]) (zs:=[.int wd,.int hg]) rfl (fun i zs σ H2=> ∃v0 v1,σ=[v0,v1]/\af H H2/\zs=List.replicate i (V.bl true)) ⟨_,_,rfl,af.refl _,rfl⟩ (fun i zs σ H2 _ ⟨_,_,_,s2,_⟩=> ⟨ag.of (s2 _ _ ht),ag.of (s2 _ _ hb)⟩) ?_ ?_
  ·rintro i u v T zs σ H2 hu hv hT ⟨v0,v1,rfl,s2,rfl⟩
   have sT:=Zl (o:=.par [u,v]) hT
   obtain⟨a,sd,rfl,rfl,h0,h1⟩:∃a sd:Int,u=.int a/\v=.int sd/\0<=a/\a<sd:=by
    match i,hu,hv with
    |0,hu,hv=>cases hu;cases hv;exact⟨_,_,rfl,rfl,hx.1,hx.2⟩
    |1,hu,hv=>cases hu;cases hv;exact⟨_,_,rfl,rfl,hy.1,hy.2⟩
   have hi:i<2:=(X8.mp hu).1
   refine⟨T,_,rfl,ag.kL Zc,rfl,_,_,rfl,_,_,rfl,rfl,?_⟩
   refine⟨_,rfl,_,rfl,_,_,rfl,rfl,.int a,0,sd - 1,rfl,⟨_,.int a⟩,by rw[Zbc,Zau];omega,_,_,rfl,s2.trans sT,?_⟩
   rw[QU h0 .o,ZcG]
  ·rintro zs σ H2 ⟨v0,v1,rfl,s2,rfl⟩ p hp
   refine⟨p,List.replicate 2 true,rfl,ai.of Zc,?_⟩
   exact q _ (s2.trans (Zl hp))
abbrev wA:Stmt:=top 31
def vw (K:Zgc):Sp:=fun vs H Q _=> ∃(b L:Addr) (ps:List V) (qs:List (Int×Int)) (wd hg:Int),vs=[.ref b,.ref L]/\dP H (.ref b) wd hg/\H L=some (.lst ps)/\Paired (iq H) ps qs/\uH wd hg qs/\oW qs/\qs.length<=12/\∀(t:Addr) H',af H H'->H' t=some (.tup (dW wd.toNat qs))->Q (.ref t) H'
theorem su:aQ ["board", "points", "rows", "line", "row"] ["board", "points"] (aw wA):=Zr (by decide+kernel)
theorem Kk {f:Addr}{fd:FuncData}(F:aC K "lay_of" "lay_of" wA f fd) (G:Gs mg) (D1:Def P w K mg base 4 "need_board" ["board"] (pB K)) (D2:Def P w K mg base 3 "is_point" ["board", "thing"] (vz K)):aA P w K mg base az 5 f fd ["board", "points"] (vw K):=by
 refine F.ok su (fun vs H Q E h=> ?_) (fun aq A outer s H vs Q E hr h=> ?_)
 ·obtain⟨b,L,ps,qs,wd,hg,rfl,_⟩:=h
  rfl
 ·obtain⟨b,L,ps,qs,wd,hg,rfl,bd,hL,pr,BK,OF,hlen,q⟩:=h
  refine⟨_,Zd (ZL (Zf D1 hr (Za (pv 0) Zb)))
   (Zd (ZS (PW.pt (JQ (Z9 (ZT (Zk (Zv (c:= "list")) rfl G.isinstance Za4 (Za (pv 1) (Za (ZB (v:=.ty "list") rfl G.list Zes rfl) Zb)))))
     (YI (Z9 (ZT (Zk Yo rfl G.all Zfy (Za (ZA ["point", "board"] 1 [0] (ZD (pv 1)) (fun C s H fp=>pb 0) (fun C s H fp=>ZC)
      (fun C s H fp D=>bL rfl (Zf D2 (hr.mono .d) (Za (pv 1) (Za (pv 0) Zb))))) Zb))))))) Zs Zw)
   (Zd (Zo (i:=2) su.nd rfl (Or.inl rfl) (Zn PQ (ZE (Za Jx Zb)) (Zy ZH (pv 0) Zg (fun _ _=>rfl))))
   (Zd (Z3 Zbv rfl (ZD (pv 1)) (ZO rfl (Zj (Zp (i:=3) su.nd rfl (Or.inl rfl)) (Zj (Zp (i:=4) su.nd rfl (Or.inl rfl)) ZF)))
    (Zd (ZS (PW.pt (JQ (Yg (YV (Zy ZN (pv 2) (pv 3) (fun _ _=>rfl)))) (YI (ZI Sx (pv 4) (pv 2) rfl)))) Zs Zw)
    (Zh (YB (pv 4) (zK (pv 2) (pv 3) Wh)))))
   (Zh (Zm (Yv Ys rfl G.tuple ZcN (Za (pv 2) Zb))))))),?_⟩
  obtain⟨_,w1,uL,g1,yS⟩:=id bd
  obtain⟨b',eb,hb⟩:=Zq bd.1
  cases eb
  have lp:ps.length=qs.length:=ZaA pr
  refine aE ⟨_,rfl,.ref b,wd,hg,rfl,bd,fun H1 s1=> ?_⟩
  dsimp only
  have oF:=s1 _ _ hL
  have cX:=s1 _ _ hb
  refine aE ⟨_,rfl,_,_,_,rfl,.lst oF,(show _=some true from rfl),_,rfl,aP ?_⟩
  refine⟨_,rfl,L,rfl,⟨ps,ai.of oF⟩,?_⟩
  refine ZG (xs:=ps) (fun i zs σ H2=> ∃v0,σ=[v0,some (.ref b)]/\af H1 H2/\zs=List.replicate i (V.bl true)) ⟨_,rfl,af.refl _,rfl⟩ (fun i zs σ H2 _ ⟨_,_,s2,_⟩=>ai.of (s2 _ _ oF)) ?_ ?_
  ·rintro i v zs σ H2 hv ⟨v0,rfl,s2,rfl⟩
   obtain⟨x,hx,px⟩:=ZV pr hv
   obtain⟨og,iH⟩:=BK x (Zap hx)
   have hi:i<ps.length:=(X8.mp hv).1
   refine⟨_,rfl,_,rfl,b,v,wd,hg,x,rfl,s2 _ _ cX,px.same (s1.trans s2),og,iH,fun H3 s3=> ⟨by rw[Zbc,Zau];omega,_,rfl,s2.trans s3,?_⟩⟩
   rw[ZcG]
  rintro zs σ H2 ⟨v0,rfl,s2,rfl⟩ p hp
  refine⟨p,List.replicate ps.length true,rfl,?_,?_⟩
  ·rw[List.map_replicate]
   exact ai.of Zc
  have ea:(List.replicate ps.length true).all id=true:=by simp
  rw[ea]
  refine⟨_,rfl,aP (iA ?_)⟩
  dsimp only
  have s3:=s2.trans (Zl (o:=.lst (List.replicate ps.length (V.bl true))) hp)
  generalize upd H2 p (.lst (List.replicate ps.length (V.bl true)))=H3 at s3
  have Nz:=s3 _ _ cX
  have yL:=s3 _ _ oF
  refine aE (bp ⟨gR,fun l0 h0=> ?_⟩)
  obtain⟨H4,zz,s4,e4⟩:=aR (o:=.lst [V.ah]) h0
  rw[zz]
  refine⟨_,rfl,b,_,_,_,rfl,rfl,ag.of (s4 _ _ Nz),ij,l0,wd,_,rfl,rfl,e4,.o,.o,(by rw[Zau];show 1*wd.toNat<=_;omega),fun R hR=>aO ?_⟩
  dsimp only[List.set]
  have er:(List.replicate wd.toNat [V.ah]).flatten=dW wd.toNat []:=by rw[wX,Tq]
  rw[er]
  have CH:=s4 _ _ yL
  have A6:=s3.trans s4
  have Iy:Paired (iq H4) ps qs:=Paired.aS pr fun v q' hq=>hq.same (s1.trans A6)
  refine aE ⟨_,rfl,L,rfl,⟨ps,ai.of ((Zl hR) _ _ CH)⟩,?_⟩
  refine Yz (xs:=ps) (fun i σ H5=> ∃v3 v4,σ=[some (.ref b),some (.ref L),some (.ref R),v3,v4]/\af H4 H5/\H5 R=some (.lst (dW wd.toNat (qs.take i)))) ⟨_,_,rfl,Zl hR,Zc⟩ (fun i σ H5 _ ⟨_,_,_,s5,_⟩=>ai.of (s5 _ _ CH)) ?_ ?_
  ·rintro i v σ H5 hv ⟨v3,v4,rfl,s5,e5⟩
   obtain⟨x,hx,px⟩:=ZV Iy hv
   obtain⟨t,rfl,ht⟩:=px.same s5
   obtain⟨⟨x0,x1⟩,y0,y1⟩:=BK x (Zap hx)
   have hi:i<qs.length:=(X8.mp hx).1
   have C2:∀p∈qs.take i,p.1≠x.1/\p.2≠x.2:=fun p hp=>by
    obtain⟨j,hj,e⟩:=ZbF hp
    rw[ZaI]at hj
    rw[List.getElem_take]at e
    have:=Zb5.mp OF j i .o hi .o
    rw[e,(X8.mp hx).2]at this
    exact this
   refine⟨t,_,rfl,ag.of ht,rfl,_,_,rfl,_,_,rfl,rfl,?_⟩
   dsimp only[List.set]
   have ek:x.1=(x.1.toNat:Int):=.o
   have oE:eW (dW wd.toNat (qs.take i)) x.1=some .ah:=by
    rw[ek]
    refine YE ?_
    rw[Jl .o,<-ek,RJ fun p hp=> (C2 p hp).1]
   refine aE ⟨_,rfl,_,rfl,R,_,_,_,rfl,rfl,ai.of e5,oE,?_⟩
   refine⟨_,rfl,aP ?_⟩
   refine⟨_,rfl,_,rfl,R,_,rfl,.inl (ai.of e5),rfl,TK,?_⟩
   have zi:bD (.int x.2) (dW wd.toNat (qs.take i))=false:=RV fun p hp=> (C2 p hp).2
   rw[Zav Zag,zi]
   refine⟨_,rfl,aP (iA ?_)⟩
   dsimp only
   refine bp ⟨_,rfl,_,rfl,_,rfl,R,_,x.1,x.1.toNat,rfl,rfl,e5,Qs x0 (by rw[lW];omega),?_⟩
   refine⟨_,_,rfl,lO s5 hR,?_⟩
   rw[Zc,Sk x0,ZaD,hx]
   rfl
  ·rintro σ H5 ⟨v3,v4,rfl,s5,e5⟩
   rw[lp,ZaK]at e5
   refine⟨_,rfl,R,_,rfl,.inl ⟨ai.of e5,fun t ht=> ?_⟩⟩
   exact q t _ (s1.trans (A6.trans (s5.trans (Zl ht)))) Zc
end
section
theorem Ri {xs:List V}{wd hg:Int} :eO wd hg (some xs)=true↔(xs.length:Int)=wd/\(∀v∈xs,v=.ah∨bH v 0 (hg - 1)=true)/\xs.Pairwise fun a b=>a=b->a=.ah:=by
 have pw:(rowsOf xs).Nodup↔xs.Pairwise fun a b=>a=b->a=.ah:=by
  unfold rowsOf List.Nodup
  rw[List.pairwise_filter]
  constructor
  ·intro h
   refine h.imp fun {a b} h e=> ?_
   by_cases z:a=.ah
   ·exact z
   ·exact absurd e (h (by simp[z]) (by rw[<-e];simp[z]))
  ·intro h
   refine h.imp fun {a b} h p1 p2 e=> ?_
   rw[h e]at p1
   simp at p1
 have al:((rowsOf xs).all fun r=>bH r 0 (hg - 1))=true↔∀v∈xs,v=.ah∨bH v 0 (hg - 1)=true:=by
  rw[ZaF]
  unfold rowsOf
  constructor
  ·intro h v hv
   by_cases z:v=.ah
   ·exact .inl z
   ·exact .inr (h v (ZaW.mpr ⟨hv,by simp[z]⟩))
  ·intro h v hv
   obtain⟨h1,h2⟩:=ZaW.mp hv
   rcases h v h1 with z |z
   ·rw[z]at h2;simp at h2
   ·exact z
 unfold eO
 rw[Zaw,Zaw,decide_eq_true_iff,decide_eq_true_iff,al,pw,and_assoc]
theorem EO {xs:List V}{wd hg:Int}(h:eO wd hg (some xs)=true):∀n,oW (dC xs n)
 |0=> .nil
 |n+1=>by
  rw[jO]
  unfold oW
  rw[List.pairwise_append]
  refine⟨EO h n,?_,fun a ha b hb=> ?_⟩
  ·cases ((xs[n]?).bind gU).map fun r=> ((n:Int),r)<;>simp
  ·obtain⟨k,hk,e1,e2⟩:=Ea ha
   cases e3:xs[n]? with
   |none=>rw[e3]at hb;cases hb
   |some v=>
    rw[e3]at hb
    cases v with
    |int r=>
     obtain rfl:b=((n:Int),r):=Zao.mp hb
     refine⟨by show a.1≠(n:Int);omega,fun z=> ?_⟩
     obtain⟨_,_,h3⟩:=Ri.mp h
     obtain⟨k1,g1⟩:=X8.mp e2
     obtain⟨n1,g2⟩:=X8.mp e3
     have:=Zb5.mp h3 k n k1 n1 hk (by rw[g1,g2,z])
     rw[g1]at this
     cases this
    |_=>cases hb
theorem pJ (xs:List V):(aI xs).length<=xs.length:=by
 have:=ZcO (fun(l:Nat)=> ((xs[l]?).bind gU).map fun r=> ((l:Int),r)) (List.range xs.length)
 rw[Zbz]at this
 exact this
theorem DL {n x:Int}{l:Bool}(h0:0<=x) (h1:x<n):0<=tA n l x/\tA n l x<n:=by
 unfold tA
 cases l
 ·rw[Zav Zag];exact⟨h0,h1⟩
 ·rw[Zay rfl];omega
theorem DM {n x y:Int}{l:Bool}(h:x≠y):tA n l x≠tA n l y:=by
 unfold tA
 cases l
 ·rw[Zav Zag,Zav Zag];exact h
 ·rw[Zay rfl,Zay rfl];omega
theorem Ep {wd hg:Int}{q:Bool×Bool×Bool}{ps:List (Int×Int)}(h:uH wd hg ps):uH (tW wd hg q) (tH wd hg q) (ps.map (dQ wd hg q)):=fun x hx=>by
 obtain⟨y,hy,rfl⟩:=ZaC.mp hx
 obtain⟨⟨a0,a1⟩,b0,b1⟩:=h y hy
 obtain⟨o,l,r⟩:=q
 have z1:=DL (l:=l) a0 a1
 have z2:=DL (l:=r) b0 b1
 cases o
 ·exact⟨z1,z2⟩
 ·exact⟨z2,z1⟩
theorem QR {wd hg:Int}{q:Bool×Bool×Bool}{ps:List (Int×Int)}(h:oW ps):oW (ps.map (dQ wd hg q)):=by
 unfold oW
 rw[Zbx]
 refine ZbI (fun {a b} jw=> ?_) h
 obtain⟨o,l,r⟩:=q
 have z1:=DM (n:=wd) (l:=l) jw.1
 have z2:=DM (n:=hg) (l:=r) jw.2
 cases o
 ·exact⟨z1,z2⟩
 ·exact⟨z2,z1⟩
end
section
variable {P:Program}{w:World}{K:Zgc}{mg:Str->Option Value}{base:Heap}{aB aL aT:Addr}
abbrev jL (wd hg:Int) (q:Bool×Bool×Bool) (xs:List V):List V:=dW (tW wd hg q).toNat ((aI xs).map (dQ wd hg q))
end
section
theorem uD {a b:V}{l:Bool} :eW [a,b] (bi l)=some (if l=true then b else a):=by cases l<;>rfl
def kvsOf (ps:List (Int×Int)):List (Key×V):=ps.map fun p=> (Sum.inl p.1,.int p.2)
theorem Fg {k:Int} :∀(ps:List (Int×Int)) (ae:List (Key×V)) (v:V),(bV ae (Sum.inl k)).getD .ah=v->(bV (jP ae (kvsOf ps)) (Sum.inl k)).getD .ah=ps.foldl (fun v p=>if k=p.1 then V.int p.2 else v) v
 | [],_,_,h=>h
 |p::ps,ae,v,h=>by
  refine Fg ps (putK ae (Sum.inl p.1) (.int p.2)) (if k=p.1 then V.int p.2 else v) ?_
  rw[SS]
  by_cases z:k=p.1
  ·rw[Zay z,Zay (by rw[z])];rfl
  ·rw[Zav z,Zav (fun e=>z (Sum.inl.inj e))];exact h
end
section
variable {P:Program}{w:World}{K:Zgc}{mg:Str->Option Value}{base:Heap}
abbrev wt:Stmt:=top 67
def vm:Sp:=fun vs H Q _=> ∃(b t p:Addr) (wd hg:Int) (x:Int×Int) (q:Bool×Bool×Bool),vs=[.ref b,.ref t,.ref p]/\H b=some (.tup [.int wd,.int hg])/\H t=some (.tup (tv q))/\H p=some (.tup [.int x.1,.int x.2])/\∀(r:Addr) H',af H H'->H' r=some (.tup [.int (dQ wd hg q x).1,.int (dQ wd hg q x).2])->Q (.ref r) H'
theorem nH:aQ ["_law_board", "_law_turn_here", "_law_point", "_law_over", "_law_lines", "_law_rows", "_law_line", "_law_row"] ["_law_board", "_law_turn_here", "_law_point"] (aw wt):=Zr (by decide+kernel)
theorem Kf {f:Addr}{fd:FuncData}(F:aC K "_law_moved" "_law_moved" wt f fd):aA P w K mg base az 1 f fd ["_law_board", "_law_turn_here", "_law_point"] vm:=by
 refine F.ok nH (fun vs H Q E h=> ?_) (fun aq A outer s H vs Q E hr h=> ?_)
 ·obtain⟨b,t,p,wd,hg,x,q,rfl,_⟩:=h
  rfl
 ·obtain⟨b,t,p,wd,hg,⟨x,y⟩,⟨o,l,r⟩,rfl,hb,ht,hp,q⟩:=h
  refine⟨_,Zd (YB (pv 1) (ZO rfl (Zj (Zp (i:=3) nH.nd rfl (Or.inl rfl)) (Zj (Zp (i:=4) nH.nd rfl (Or.inl rfl)) (Zj (Zp (i:=5) nH.nd rfl (Or.inl rfl)) ZF)))))
   (Zd (Zo (i:=6) nH.nd rfl (Or.inl rfl) (Zy ZN (ZE (Za (Zy ZH (pv 2) Zg (fun _ _=>rfl)) (Za (Zn ZW (Zn ZW (Zy ZH (pv 0) Zg (fun _ _=>rfl)) Zg) (Zy ZH (pv 2) Zg (fun _ _=>rfl))) Zb))) (pv 4) (fun _ _=>rfl)))
   (Zd (Zo (i:=7) nH.nd rfl (Or.inl rfl) (Zy ZN (ZE (Za (Zy ZH (pv 2) Zg (fun _ _=>rfl)) (Za (Zn ZW (Zn ZW (Zy ZH (pv 0) Zg (fun _ _=>rfl)) Zg) (Zy ZH (pv 2) Zg (fun _ _=>rfl))) Zb))) (pv 5) (fun _ _=>rfl)))
   (Zh (Zm (Zy ZN (ZE (Za (Zt (Za (pv 6) (Za (pv 7) Zb))) (Za (Zt (Za (pv 7) (Za (pv 6) Zb))) Zb))) (pv 3) (fun _ _=>rfl)))))),?_⟩
  refine aE (bp ⟨_,rfl,t,_,rfl,ag.of ht,rfl,_,_,rfl,_,_,rfl,_,_,rfl,rfl,?_⟩)
  dsimp only[List.set]
  refine aE (bp ⟨_,rfl,p,_,_,_,rfl,rfl,ag.of hp,ij,_,rfl,b,_,_,_,rfl,rfl,ag.of hb,ij,_,_,rfl,rfl,_,rfl,p,_,_,_,rfl,rfl,ag.of hp,ij,_,_,rfl,rfl,bf,fun L hL=> ?_⟩)
  have s1:=Zl (o:=.lst [V.int x,V.int (wd - 1 - x)]) hL
  have e1:upd H L (.lst [V.int x,V.int (wd - 1 - x)]) L=some (.lst [V.int x,V.int (wd - 1 - x)]):=Zc
  try dsimp only
  generalize upd H L (HO.lst [V.int x,V.int (wd - 1 - x)])=H1 at s1 e1
  refine⟨_,rfl,L,_,_,_,rfl,rfl,ai.of e1,uD,aO ?_⟩
  try dsimp only[List.set]
  have el:(if l=true then V.int (wd - 1 - x) else V.int x)=.int (tA wd l x):=by cases l<;>rfl
  rw[el]
  refine aE (bp ⟨_,rfl,p,_,_,_,rfl,rfl,ag.of (s1 _ _ hp),cZ,_,rfl,b,_,_,_,rfl,rfl,ag.of (s1 _ _ hb),cZ,_,_,rfl,rfl,_,rfl,p,_,_,_,rfl,rfl,ag.of (s1 _ _ hp),cZ,_,_,rfl,rfl,bf,fun uG yM=> ?_⟩)
  have s2:=Zl (o:=.lst [V.int y,V.int (hg - 1 - y)]) yM
  have e2:upd H1 uG (.lst [V.int y,V.int (hg - 1 - y)]) uG=some (.lst [V.int y,V.int (hg - 1 - y)]):=Zc
  try dsimp only
  generalize upd H1 uG (HO.lst [V.int y,V.int (hg - 1 - y)])=H2 at s2 e2
  refine⟨_,rfl,uG,_,_,_,rfl,rfl,ai.of e2,uD,aO ?_⟩
  try dsimp only[List.set]
  have er:(if r=true then V.int (hg - 1 - y) else V.int y)=.int (tA hg r y):=by cases r<;>rfl
  rw[er]
  refine⟨_,rfl,_,rfl,bf,fun t1 h1=> ?_⟩
  obtain⟨H3,zz,s3,e3⟩:=aR (o:=.tup [V.int (tA wd l x),V.int (tA hg r y)]) h1
  rw[zz]
  refine⟨_,rfl,_,rfl,bf,fun t2 h2=> ?_⟩
  obtain⟨H4,zz,s4,e4⟩:=aR (o:=.tup [V.int (tA hg r y),V.int (tA wd l x)]) h2
  rw[zz]
  refine⟨bf,fun L3 yL=> ?_⟩
  obtain⟨H5,zz,s5,e5⟩:=aR (o:=.lst [V.ref t1,V.ref t2]) yL
  rw[zz]
  have sA:=s1.trans (s2.trans (s3.trans (s4.trans s5)))
  refine⟨_,rfl,L3,_,_,_,rfl,rfl,ai.of e5,uD,?_⟩
  cases o with
  |true=>exact q t2 _ sA (s5 _ _ e4)
  |false=>exact q t1 _ sA ((s4.trans s5) _ _ e3)
abbrev wI:Stmt:=top 68
def vF:Sp:=fun vs H Q _=> ∃(b t:Addr) (wd hg:Int) (q:Bool×Bool×Bool),vs=[.ref b,.ref t]/\H b=some (.tup [.int wd,.int hg])/\H t=some (.tup (tv q))/\∀(c:Addr) H',af H H'->H' c=some (.tup [.int (tW wd hg q),.int (tH wd hg q)])->Q (.ref c) H'
theorem HL:aQ ["_law_board", "_law_turn_here"] ["_law_board", "_law_turn_here"] (aw wI):=Zr (by decide+kernel)
theorem Ko {f:Addr}{fd:FuncData}(F:aC K "_law_board_by" "_law_board_by" wI f fd):aA P w K mg base az 1 f fd ["_law_board", "_law_turn_here"] vF:=by
 refine F.ok HL (fun vs H Q E h=> ?_) (fun aq A outer s H vs Q E hr h=> ?_)
 ·obtain⟨b,t,wd,hg,q,rfl,_⟩:=h
  rfl
 ·obtain⟨b,t,wd,hg,⟨o,l,r⟩,rfl,hb,ht,q⟩:=h
  refine⟨_,Zh (Zm (Zy ZN (ZE (Za (pv 0) (Za (Zt (Za (Zy ZH (pv 0) Zg (fun _ _=>rfl)) (Za (Zy ZH (pv 0) Zg (fun _ _=>rfl)) Zb))) Zb))) (Zy ZH (pv 1) Zg (fun _ _=>rfl)) (fun _ _=>rfl))),?_⟩
  refine⟨_,rfl,_,rfl,b,_,_,_,rfl,rfl,ag.of hb,cZ,_,rfl,b,_,_,_,rfl,rfl,ag.of hb,ij,bf,fun t1 h1=> ?_⟩
  obtain⟨H1,zz,s1,e1⟩:=aR (o:=.tup [V.int hg,V.int wd]) h1
  rw[zz]
  refine⟨bf,fun L hL=> ?_⟩
  obtain⟨H2,zz,s2,e2⟩:=aR (o:=.lst [V.ref b,V.ref t1]) hL
  rw[zz]
  refine⟨_,rfl,t,_,_,_,rfl,rfl,ag.of ((s1.trans s2) _ _ ht),rfl,L,_,_,_,rfl,rfl,ai.of e2,uD,?_⟩
  cases o with
  |true=>exact q t1 _ (s1.trans s2) (s2 _ _ e1)
  |false=>exact q b _ (s1.trans s2) ((s1.trans s2) _ _ hb)
abbrev wy:Stmt:=top 69
def vq (K:Zgc):Sp:=fun vs H Q _=> ∃(b l t:Addr) (xs:List V) (wd hg:Int) (q:Bool×Bool×Bool),vs=[.ref b,.ref l,.ref t]/\ck K H (.ref b) l xs wd hg/\H t=some (.tup (tv q))/\∀(u:Addr) H',af H H'->H' u=some (.tup (jL wd hg q xs))->Q (.ref u) H'
theorem AW:aQ ["_law_board", "_law_lay", "_law_turn_here", "_law_there"] ["_law_board", "_law_lay", "_law_turn_here"] (aw wy):=Zr (by decide+kernel)
theorem Kh {f:Addr}{fd:FuncData}(F:aC K "_law_turned" "_law_turned" wy f fd) (G:Gs mg) (D1:Def P w K mg base 1 "_law_moved" ["_law_board", "_law_turn_here", "_law_point"] vm) (D2:Def P w K mg base 1 "_law_board_by" ["_law_board", "_law_turn_here"] vF):
  aA P w K mg base az 2 f fd ["_law_board", "_law_lay", "_law_turn_here"] (vq K):=by
 refine F.ok AW (fun vs H Q E h=> ?_) (fun aq A outer s H vs Q E hr h=> ?_)
 ·obtain⟨b,l,t,xs,wd,hg,q,rfl,_⟩:=h
  rfl
 ·obtain⟨b,a,t,xs,wd,hg,x,rfl,la,ht,q⟩:=h
  have hu:=qY hr
  refine⟨_,Zd (Zo (i:=3) AW.nd rfl (Or.inr rfl) (Yv WZ rfl G.dict boot_dict (Za (ZA ["_law_line", "_law_row", "_law_board", "_law_turn_here"] 2 [0,2] (UJ rfl G.enumerate (Za (pv 1) Zb))
    (fun C s H fp=>show PG (aG _ _ _ C s H fp) _ (gJ K 2 (bR (bF 0) (bR (bF 1) gK))) from ZO rfl (Zj (pb 0) (Zj (pb 1) ZF)))
    (fun C s H fp=>Z5 (Yg (YV (pv 1)))) (fun C s H fp D=>bL rfl (Zf D1 hr (Za (pv 2) (Za (pv 3) (Za (Zt (Za (pv 0) (Za (pv 1) Zb))) Zb)))))) Zb)))
   (Zh (Zm (Yv Ys rfl G.tuple ZcN (Za (ZA ["_law_line", "_law_there"] 1 [3] (ZY rfl G.range (Za (Zy ZH (Zf D2 hr (Za (pv 0) (Za (pv 2) Zb))) Zg (fun _ _=>rfl)) Zb)) (fun C s H fp=>pb 0) (fun C s H fp=>ZC)
    (fun C s H fp D=>bL rfl (RD hu (pv 1) (pv 0) ⟨rfl,rfl,rfl,rfl⟩))) Zb)))),?_⟩
  obtain⟨_,w1,uL,g1,yS⟩:=id la.bd
  obtain⟨b',eb,hb⟩:=Zq la.bd.1
  cases eb
  have ha:=la.at_
  have hl:=Wb la.ly
  refine aE (bp ⟨_,rfl,a,rfl,⟨xs,ag.of ha⟩,?_⟩)
  refine JC (xs:=xs) (fun i ys σ H2=> ∃v0 v1,σ=[v0,v1,some (.ref b),some (.ref t)]/\af H H2/\uE H2 ys (kvsOf ((dC xs i).map (dQ wd hg x)))/\ys.length<=i) ⟨_,_,rfl,af.refl _,.nil,Zaz _⟩ (fun i ys σ H2 _ ⟨_,_,_,s2,_⟩=>ag.of (s2 _ _ ha)) ?_ ?_
  ·rintro i v T ys σ H2 hv hT ⟨v0,v1,rfl,s2,bS,fk⟩
   have hi:i<xs.length:=(X8.mp hv).1
   have sT:af H2 (upd H2 T (.par [.int (i:Int),v])):=Zl hT
   refine⟨T,_,rfl,ag.kL Zc,rfl,_,_,rfl,_,_,rfl,rfl,?_⟩
   refine⟨_,rfl,_,rfl,?_⟩
   generalize uh:upd H2 T (HO.par [V.int (i:Int),v])=H3 at sT
   rcases Jk la.ly (Zap hv) with rfl |⟨r,rfl,_⟩
   ·refine aP ⟨_,_,rfl,s2.trans sT,?_,.o⟩
    rw[jO,hv]
    exact(by simpa[gU] using Paired.aS bS fun v q' ⟨bb,e,mD⟩=> ⟨bb,e,sT _ _ mD⟩)
   ·refine bg ?_
    refine⟨_,rfl,_,rfl,_,rfl,_,rfl,bf,fun t4 h4=> ?_⟩
    obtain⟨H4,zz,s4,e4⟩:=aR (o:=.tup [V.int (i:Int),V.int r]) h4
    rw[zz]
    have wO:=s2.trans (sT.trans s4)
    refine⟨b,t,t4,wd,hg,((i:Int),r),x,rfl,wO _ _ hb,wO _ _ ht,e4,fun u H5 s5 e5=> ⟨by rw[Zau];omega,_,_,rfl,wO.trans s5,?_,by rw[Zam];simp;omega⟩⟩
    have ep:kvsOf ((dC xs (i+1)).map (dQ wd hg x))=kvsOf ((dC xs i).map (dQ wd hg x))++[(Sum.inl (dQ wd hg x ((i:Int),r)).1,V.int (dQ wd hg x ((i:Int),r)).2)]:=by
     rw[jO,hv]
     unfold kvsOf
     rw[Zax,Zax]
     rfl
    rw[ep]
    exact ZbK (Paired.aS bS fun v q' ⟨bb,e,mD⟩=> ⟨bb,e,(sT.trans (s4.trans s5)) _ _ mD⟩) ⟨u,rfl,e5⟩
  ·rintro ys σ H2 ⟨v0,v1,rfl,s2,bS,fk⟩ L hL
   obtain⟨H3,zz,s3,e3⟩:=aR (o:=.lst ys) hL
   rw[zz]
   have br:uE H3 ys (kvsOf ((aI xs).map (dQ wd hg x))):=Paired.aS bS fun v q' ⟨bb,e,mD⟩=> ⟨bb,e,s3 _ _ mD⟩
   have kT:(kvsOf ((aI xs).map (dQ wd hg x))).length<=1000:=by
    unfold kvsOf
    rw[Zac,Zac]
    have h1:=pJ xs
    omega
   have hm:∀k:Int,(bV (jP [] (kvsOf ((aI xs).map (dQ wd hg x)))) (Sum.inl k)).getD .ah=jf ((aI xs).map (dQ wd hg x)) k:=fun k=>Fg _ [] .ah rfl
   refine⟨L,ys,_,rfl,e3,br,kT,fun d hd=>aO ?_⟩
   dsimp only[List.set]
   generalize jP [] (kvsOf ((aI xs).map (dQ wd hg x)))=ae at hm
   obtain⟨H4,zz,s4,e4⟩:=aR (o:=.dK ae) hd
   rw[zz]
   have sA:=s2.trans (s3.trans s4)
   refine⟨_,rfl,_,rfl,b,t,wd,hg,x,rfl,sA _ _ hb,sA _ _ ht,fun c H5 s5 e5=> ?_⟩
   have hW:1<=tW wd hg x/\tW wd hg x<=12:=by
    unfold tW
    split<;>omega
   refine⟨c,_,_,_,rfl,rfl,ag.of e5,ij,_,rfl,.o,.o,?_⟩
   have Di:=s5 _ _ e4
   refine YD (n:=(tW wd hg x).toNat) (fun j ys σ H6=>ys=(jL wd hg x xs).take j/\H6=H5/\∃v,σ=[v,some (.ref d)]) ⟨rfl,rfl,none,rfl⟩ ?_ ?_
   ·rintro j ys σ H6 hj ⟨rfl,rfl,v,rfl⟩
    have look:iw H6 d (.int (0+(j:Int))) (bV ae (Sum.inl (j:Int))):=by
     rw[Int.zero_add]
     exact iw.k (k:=Sum.inl (j:Int)) Di
    refine⟨_,rfl,d,rfl,.inl ⟨_,.inl Di⟩,_,rfl,_,look,?_,?_,rfl,_,rfl⟩
    ·rw[ZaI,Zau];omega
    ·rw[ZaD,Jl hj,<-hm]
     rfl
   ·rintro ys σ H6 ⟨rfl,rfl,v,rfl⟩ L6 NQ
    refine⟨L6,_,rfl,.inl ⟨ai.of Zc,fun t' jk=> ?_⟩⟩
    refine q t' _ (sA.trans (s5.trans ((Zl NQ).trans (Zl jk)))) ?_
    rw[Zc,Zc3 (by rw[lW];exact Zal _)]
end
section
theorem IH {X:Cx}{k:Nat}{x:Str}{sp:Sp}{p pos:Pos}(d:Def X.prog X.w X.K X.mg X.base k x [] sp) (hr:bj k X.A) (hg:Gl X x:=by rfl) (dI:(x==("__debug__" :Str))=false:=by decide):PE X (.Call (.Name x p) [] [] pos) (nC sp [] E0 i8):=by
 obtain⟨f,fd,F,hm,hk,hb⟩:=d
 exact RB F hr hg hm hk hb .nil xc dI
theorem Jf {α β γ:Type}{R:α->γ->Prop}{f:β->γ} :∀{xs:List α}{ys:List β},Paired R xs (ys.map f)->Paired (fun x y=>R x (f y)) xs ys
 |_,[],h=>by cases h;exact .nil
 |_,_::_,h=>by
  cases h with
  |cons h1 h2=>exact .cons h1 (Jf h2)
def i4 (H:Hp) (v:V) (l:List Bool):Prop:=∃t:Addr,v=.ref t/\H t=some (.tup (l.map fun b=>V.int (bi b)))
theorem i4.same {H H':Hp}{v:V}{l:List Bool}(h:i4 H v l) (s:af H H'):i4 H' v l:=by
 obtain⟨t,e,h1⟩:=h
 exact⟨t,e,s _ _ h1⟩
def Vy (H:Hp) (v:V) (q:Bool×Bool×Bool):Prop:=∃t:Addr,v=.ref t/\H t=some (.tup (tv q))
def two (l:List Bool):List (List Bool):=[l++[false],l++[true]]
def lC:Nat->List (List Bool)
 |0=> [[]]
 |k+1=> (lC k).flatMap two
def da:List (Bool×Bool×Bool):=[(false,false,false),(false,false,true),(false,true,false),(false,true,true),(true,false,false),(true,false,true),(true,true,false),(true,true,true)]
theorem Qh:lC 3=da.map fun q=> [q.1,q.2.1,q.2.2]:=.d
theorem Q0:∀{k:Nat},k<=3->(lC k).length<=8/\∀l∈lC k,l.length=k:=by
 intro k h
 rcases (by omega:k=0∨k=1∨k=2∨k=3) with rfl |rfl |rfl |rfl<;>exact⟨.d,.d⟩
end
section
variable {P:Program}{w:World}{K:Zgc}{mg:Str->Option Value}{base:Heap}
abbrev wK:Stmt:=top 70
def vG:Sp:=fun vs H Q _=>vs=[]/\∀(L:Addr) H' (ts:List V),af H H'->H' L=some (.lst ts)->Paired (Vy H') ts da->Q (.ref L) H'
theorem nJ:aQ ["_law_found", "_law_k", "_law_longer", "_law_one"] [] (aw wK):=Zr (by decide+kernel)
theorem Kq {f:Addr}{fd:FuncData}(F:aC K "_law_all_turns" "_law_all_turns" wK f fd) (G:Gs mg):aA P w K mg base az 1 f fd [] vG:=by
 refine F.ok nJ (fun vs H Q E h=> ?_) (fun aq A outer s H vs Q E hr h=> ?_)
 ·obtain⟨rfl,_⟩:=h
  rfl
 ·obtain⟨rfl,q⟩:=h
  refine⟨_,Zd (Zo (i:=0) nJ.nd rfl (Or.inl rfl) (ZE (Za (Zt Zb) Zb)))
   (Zd (Z3 Zbv rfl (ZY rfl G.range (Za Zg Zb)) (Zp (i:=1) nJ.nd rfl (Or.inl rfl))
    (Zd (Zo (i:=2) nJ.nd rfl (Or.inl rfl) (ZE Zb))
    (Zd (Z3 Zbv rfl (ZD (pv 0)) (Zp (i:=3) nJ.nd rfl (Or.inl rfl))
     (Zh (ZL (JR Zbt PySem.F.slot_list_extend PySem.F.type_list_extend JD (pv 2) (Za (ZE (Za (Zn nR (pv 3) (Zt (Za Zg Zb))) (Za (Zn nR (pv 3) (Zt (Za Zg Zb))) Zb))) Zb)))))
    (Zh (Zo (i:=0) nJ.nd rfl (Or.inl rfl) (pv 2))))))
   (Zh (Zm (pv 0)))),?_⟩
  refine aE (bp ⟨Zaz _,fun t0 h0=> ⟨gR,fun L0 oG=>aO ?_⟩⟩)
  dsimp only[List.set]
  have s1:=Zl (o:=.tup []) h0
  have e1:upd H t0 (.tup []) t0=some (.tup []):=Zc
  generalize upd H t0 (.tup [])=H1 at s1 e1 oG
  obtain⟨H2,zz,s2,e2⟩:=aR (o:=.lst [V.ref t0]) oG
  rw[zz]
  refine aE ⟨3,rfl,.d,.d,?_⟩
  refine Ye (n:=3) (fun i σ H'=> ∃(L:Addr) (ts:List V) (v1 v2 v3:Option V),σ=[some (.ref L),v1,v2,v3]/\af H H'/\H' L=some (.lst ts)/\Paired (i4 H') ts (lC i)) ⟨L0,_,_,_,_,rfl,s1.trans s2,e2,.cons ⟨t0,rfl,s2 _ _ e1⟩ .nil⟩ ?_ ?_
  ·rintro i σ H3 hi ⟨L,ts,v1,v2,v3,rfl,s3,e3,pr⟩
   refine aO ?_
   dsimp only[List.set]
   refine aE (bp ⟨Zaz _,fun M hM=>aO ?_⟩)
   dsimp only[List.set]
   obtain⟨k8,kl⟩:=Q0 (k:=i) .o
   have lt:ts.length=(lC i).length:=ZaA pr
   refine aE ⟨_,rfl,L,rfl,⟨ts,ai.of (Zl hM _ _ e3)⟩,?_⟩
   refine Yz (xs:=ts) (fun j σ H4=> ∃(ws:List V) (v3:Option V),σ=[some (.ref L),some (.int (0+(i:Int))),some (.ref M),v3]/\af H3 H4/\H4 M=some (.lst ws)/\Paired (i4 H4) ws (((lC i).take j).flatMap two)) ⟨[],_,rfl,Zl hM,Zc,.nil⟩ (fun j σ H4 _ ⟨_,_,_,s4,_⟩=>ai.of (s4 _ _ e3)) ?_ ?_
   ·rintro j v σ H4 hv ⟨ws,v3,rfl,s4,e4,pw⟩
    obtain⟨l,hl,pl⟩:=ZV pr hv
    obtain⟨t,rfl,ht⟩:=pl.same s4
    have ll:=kl l (Zap hl)
    have hj:j<ts.length:=(X8.mp hv).1
    have lw:ws.length<=16:=by
     have h1:=ZaA pw
     have h2:∀ks:List (List Bool),(ks.flatMap two).length=2*ks.length:=fun ks=>by
      induction ks with
      |nil=>rfl
      |cons a r ih=>rw[Zbm,Zam,ih,ZaJ];show 2+_=_;omega
     rw[h2,ZaI]at h1
     omega
    refine aO ?_
    dsimp only[List.set]
    refine⟨_,rfl,.inl ⟨rfl,_,ai.of e4⟩,_,rfl,gR,fun ta xK=> ?_⟩
    have sa:=Zl (o:=.tup [V.int 0]) xK
    refine Du (sa _ _ ht) Zc (by rw[Zac,Zau];show l.length+1<=_;omega) fun c1 H5 s5 e5=> ?_
    have A4:=sa.trans s5
    refine⟨_,rfl,gR,fun tb jT=> ?_⟩
    have sb:=Zl (o:=.tup [V.int 1]) jT
    refine Du ((A4.trans sb) _ _ ht) Zc (by rw[Zac,Zau];show l.length+1<=_;omega) fun c2 H6 s6 e6=> ?_
    have A3:=sb.trans s6
    refine⟨bf,fun N hN=> ?_⟩
    obtain⟨H7,zz,sn,en⟩:=aR (o:=.lst [V.ref c1,V.ref c2]) hN
    rw[zz]
    have sN:=A4.trans (A3.trans sn)
    refine⟨M,N,ws,_,rfl,rfl,sN _ _ e4,en,(by rw[Zau];show ws.length+2<=_;omega),?_⟩
    have NP:H3 M=none:=hM
    have s7:=s4.trans sN
    have keep:∀{v:V}{l:List Bool},i4 H7 v l->i4 (upd H7 M (.lst (ws++[V.ref c1,V.ref c2]))) v l:=fun⟨t,e,h⟩=> ⟨t,e,by rw[Zi (fun z=>by rw[z,sN _ _ e4]at h;cases h)];exact h⟩
    refine⟨_,_,rfl,lO s7 NP,Zc,?_⟩
    rw[ZaD,hl,ZcR]
    have p1:i4 H7 (.ref c1) (l++[false]):=⟨c1,rfl,by rw[Zax];exact(A3.trans sn) _ _ e5⟩
    have p2:i4 H7 (.ref c2) (l++[true]):=⟨c2,rfl,by rw[Zax];exact sn _ _ e6⟩
    have Iw:Paired (i4 (upd H7 M (.lst (ws++[V.ref c1,V.ref c2])))) ws (((lC i).take j).flatMap two):=Paired.aS pw fun v l h=>keep (h.same sN)
    have:=ZbK (ZbK Iw (keep p1)) (keep p2)
    rw[ZbV,ZbV]at this
    exact this
   ·rintro σ H4 ⟨ws,v3,rfl,s4,e4,pw⟩
    rw[lt,ZaK]at pw
    dsimp only
    refine bp ⟨_,rfl,aO ?_⟩
    exact⟨M,ws,_,_,_,rfl,s3.trans s4,e4,pw⟩
  ·rintro σ H3 ⟨L,ts,v1,v2,v3,rfl,s3,e3,pr⟩
   rw[Qh]at pr
   exact⟨_,rfl,q L H3 ts s3 e3 (Paired.aS (Jf (R:=i4 H3) pr) fun v q h=>h)⟩
end
end U.T
namespace U.S
open PySem L2 PyProof.Rows
def tj (ys:List V):Bool:=decide (rowsOf ys).Nodup
def cQ (ys:List V):Bool:=tj ys&&bW ys
theorem Z0 {ys:List V} :cQ ys=true↔(rowsOf ys).Nodup/\oO ys:=by
 unfold cQ tj
 rw[Zaw,decide_eq_true_iff,Yf]
theorem WG {xs ys:List V}(h:kE xs ys) (g:cQ xs=true):cQ ys=true:=by
 obtain⟨h1,h2⟩:=Z0.mp g
 exact Z0.mpr ⟨h1.sublist (Ft h),Ta h h2⟩
theorem S7 {b rest:List V}{v:V} :kE (b++v::rest) (b++V.ah::rest):=by
 refine⟨by simp,fun i u hu=> ?_⟩
 by_cases h1:i<b.length
 ·rw[ZbO h1]at hu |-
  exact .inr hu
 ·rw[ZbJ .o]at hu |-
  cases hk:i - b.length with
  |zero=>
   rw[hk]at hu
   exact .inl (by simpa using hu.symm)
  |succ k=>
   rw[hk]at hu
   exact .inr (by simpa using hu)
theorem S8 {b rest:List V} :kE (b++rest) (b++List.replicate rest.length V.ah):=by
 refine⟨by simp,fun i u hu=> ?_⟩
 by_cases h1:i<b.length
 ·rw[ZbO h1]at hu |-
  exact .inr hu
 ·rw[ZbJ .o,Zcg]at hu
  split at hu
  ·exact .inl (by simpa using hu.symm)
  ·cases hu
theorem Us {α β:Type}{f g:α->Option β} :∀{l:List α},(∀x∈l,f x=g x)->l.filterMap f=l.filterMap g
 | [],_=>rfl
 |a::l,h=>by
  rw[Zb2,Zb2,h a Zab,Us fun x hx=>h x (Zaa _ hx)]
theorem RM (xs:List V) (n:Nat):aI (xs++List.replicate n V.ah)=aI xs:=by
 unfold aI
 rw[Zam,Zbc,List.range_eq_range',List.range_eq_range',<-List.range'_append_1 (s:=0),List.filterMap_append]
 have e2:(List.range' (0+xs.length) n).filterMap (fun l=> (rowAt (xs++List.replicate n V.ah) l).map fun r=> ((l:Int),r))=[]:=by
  rw[List.filterMap_eq_nil_iff]
  intro l hl
  rw[List.mem_range'_1]at hl
  have:rowAt (xs++List.replicate n V.ah) l=none:=by
   unfold rowAt
   rw[ZbJ .o,Zcg]
   split<;>rfl
  rw[this]
  rfl
 have e1:(List.range' 0 xs.length).filterMap (fun l=> (rowAt (xs++List.replicate n V.ah) l).map fun r=> ((l:Int),r))=(List.range' 0 xs.length).filterMap (fun l=> (rowAt xs l).map fun r=> ((l:Int),r)):=by
  refine Us fun l hl=> ?_
  rw[List.mem_range'_1]at hl
  unfold rowAt
  rw[ZbO .o]
 simp only[e1,e2,ZbN]
theorem Tw (b:List V) (n:Nat):bW (b++List.replicate n V.ah)=bW b:=by
 unfold bW
 rw[RM]
theorem Yu (a b:List V):rowsOf (a++b)=rowsOf a++rowsOf b:=by
 unfold rowsOf
 rw[ZbC]
theorem FF {b rest:List V}(g:cQ (b++rest)=true):cQ b=true:=by
 obtain⟨h1,h2⟩:=Z0.mp (WG S8 g)
 refine Z0.mpr ⟨?_,?_⟩
 ·rw[Yu]at h1
  exact(Zcp.mp h1).1
 ·have:=(Yf _).mpr h2
  rw[Tw]at this
  exact(Yf _).mp this
def fV (hg:Nat):List Int:=(List.range hg).map fun(k:Nat)=> (k:Int)
def qU (hg:Nat):Option V->List Int
 |some (.int r)=> [r]
 |_=>fV hg
def dA (hg:Nat) (xs:List V):Nat->List (List V)
 |0=>if bW xs=true then [xs] else []
 |i+1=>if xs[i]? =some V.ah then (dA hg xs i).flatMap fun p=> (iS hg p i).map fun r=>p.set i (.int r) else dA hg xs i
def iF (hg:Nat) (xs:List V) (i:Nat) (b:List V):List (List V):=((qU hg xs[i]?).filter fun r=> !bD (.int r) b&&bW (b++[.int r])).map fun r=>b++[V.int r]
def cR (hg:Nat) (xs:List V):Nat->List (List V)
 |0=> [[]]
 |i+1=> (cR hg xs i).flatMap (iF hg xs i)
theorem mL (hg:Nat) (xs:List V):∀i,∀b∈cR hg xs i,b.length=i/\cQ b=true/\∃ks:List Int,b=ks.map V.int
 |0,b,h=>by
  have:b=[]:=by simpa[cR] using h
  subst this
  exact⟨rfl,rfl,[],rfl⟩
 |i+1,b,h=>by
  unfold cR at h
  obtain⟨a,ha,hm⟩:=List.mem_flatMap.mp h
  obtain⟨h1,h2,ks,rfl⟩:=mL hg xs i a ha
  unfold iF at hm
  obtain⟨r,hr,rfl⟩:=ZaC.mp hm
  obtain⟨_,iL⟩:=ZaW.mp hr
  rw[Zaw,Bool.not_eq_true']at iL
  refine⟨by rw[Zam,h1];rfl,Z0.mpr ⟨?_,(Yf _).mp iL.2⟩,ks++[r],by simp⟩
  rw[Yu]
  refine Zcp.mpr ⟨(Z0.mp h2).1,by unfold rowsOf;simp,fun x hx y hy e=> ?_⟩
  have ma:y=.int r:=by
   unfold rowsOf at hy
   simpa using (ZaW.mp hy).1
  subst ma
  subst e
  have:=JI (ZaW.mp hx).1
  rw[iL.1]at this
  cases this
theorem CY {α β:Type}{f g:α->List β} :∀{l:List α},(∀x∈l,f x=g x)->l.flatMap f=l.flatMap g
 | [],_=>rfl
 |a::l,h=>by
  rw[Zbm,Zbm,h a Zab,CY fun x hx=>h x (Zaa _ hx)]
theorem JU {α β:Type}(p:β->Bool) (f:α->List β):∀l:List α,(l.flatMap f).filter p=l.flatMap fun a=> (f a).filter p
 | []=>rfl
 |a::l=>by rw[Zbm,Zbm,ZbC,JU p f l]
theorem YM {α β:Type}(p:α->Bool) (f:α->List β):∀l:List α,(l.filter p).flatMap f=l.flatMap fun a=>if p a=true then f a else []
 | []=>rfl
 |a::l=>by
  rw[ZcY,Zbm]
  cases h:p a with
  |true=>rw[Zay rfl,Zbm,YM p f l];simp
  |false=>rw[Zav Zag,YM p f l];simp
theorem Fv {x v:V}{t:List V} :∀{fs:List V},(fs++x::t).set fs.length v=fs++v::t
 | []=>rfl
 |a::fs=>by
  show a::(fs++x::t).set fs.length v=_
  rw[Fv]
  rfl
theorem Ef {r:Int}{xs:List V}(ok:lE xs) (h:bD (.int r) xs=true):V.int r∈xs:=by
 unfold bD at h
 obtain⟨y,hy,e⟩:=List.any_eq_true.mp h
 rcases ok y hy with z |⟨j,z⟩
 ·rw[z]at e
  simp[dX]at e
 ·rw[z]at e
  have:j=r:=by simpa[dX] using e
  rw[<-this,<-z]
  exact hy
theorem FG {b rest:List V}{r:Int}(ok:lE (b++V.ah::rest)) (g:cQ (b++V.ah::rest)=true):cQ (b++V.int r::rest)=(!bD (.int r) (b++V.ah::rest)&&bW (b++V.int r::rest)):=by
 have hp:(rowsOf (b++V.int r::rest)).Perm (V.int r::rowsOf (b++V.ah::rest)):=by
  rw[Yu,Yu]
  have e1:rowsOf (V.int r::rest)=V.int r::rowsOf rest:=rfl
  have e2:rowsOf (V.ah::rest)=rowsOf rest:=rfl
  rw[e1,e2]
  exact List.perm_middle
 have hn:(rowsOf (b++V.int r::rest)).Nodup↔V.int r∉rowsOf (b++V.ah::rest):=by
  rw[hp.nodup_iff,Zbk]
  exact⟨fun h=>h.1,fun h=> ⟨h,(Z0.mp g).1⟩⟩
 have hm:V.int r∈rowsOf (b++V.ah::rest)↔bD (.int r) (b++V.ah::rest)=true:=by
  unfold rowsOf
  rw[ZaW]
  exact⟨fun h=>JI h.1,fun h=> ⟨Ef ok h,by simp⟩⟩
 unfold cQ
 congr 1
 unfold tj
 cases hi:bD (.int r) (b++V.ah::rest) with
 |true=>
  rw[Za9]
  exact Zaq fun h=>hn.mp h (hm.mpr hi)
 |false=>
  rw[ZbY]
  exact Zat (hn.mpr fun h=>by rw[hm.mp h]at hi;cases hi)
theorem zF {wd:Int}{hg:Nat}{xs:List V}(ly:eY wd hg xs):∀i,i<=xs.length->dA hg xs i=((cR hg xs i).filter fun b=>cQ (b++xs.drop i)).map fun b=>b++xs.drop i
 |0,_=>by
  have e:cQ xs=bW xs:=by
   unfold cQ tj
   rw[Zat ly.nd,Bool.true_and]
  unfold dA cR
  simp only[ZcY,List.filter_nil,List.drop_zero,List.nil_append,e]
  split<;>simp
 |i+1,hi=>by
  have ar:i<xs.length:=.o
  have ed:xs.drop i=xs[i]::xs.drop (i+1):=List.drop_eq_getElem_cons ar
  have hx:xs[i]? =some xs[i]:=Zai ar
  have nT:∀v∈xs.drop (i+1),v=.ah∨∃j,v=V.int j:=fun v hv=>ly.ok v (ZcF hv)
  have ih:=zF ly i .o
  generalize xs.drop (i+1)=rest at ed nT |-
  have Bj:∀{b:List V}{v:V},b∈cR hg xs i->(v=.ah∨∃j,v=V.int j)->lE (b++v::rest):=fun {b v} hb hv x LV=>by
   obtain⟨_,_,ks,rfl⟩:=mL hg xs i b hb
   rcases ZaG.mp LV with h |h
   ·obtain⟨k,_,rfl⟩:=ZaC.mp h
    exact .inr ⟨k,rfl⟩
   ·rcases Zaj.mp h with rfl |h
    ·exact hv
    ·exact nT x h
  unfold dA cR
  rw[hx,ih,ed,JU,List.map_flatMap]
  rcases ly.ok xs[i] (Zcx ar) with hv |⟨r,hv⟩
  ·rw[hv,Zay rfl,List.flatMap_map,YM]
   refine CY fun b hb=> ?_
   obtain⟨lb,gb,_⟩:=mL hg xs i b hb
   have es:∀v:V,(b++V.ah::rest).set i v=b++v::rest:=fun v=>by rw[<-lb];exact Fv
   have ea:qU hg xs[i]? =fV hg:=by rw[hx,hv];rfl
   unfold iF
   rw[ea,List.filter_map,Zb0,List.filter_filter]
   have eb:∀v:V,b++[v]++rest=b++v::rest:=fun v=>by rw[ZbV];rfl
   cases mC:cQ (b++V.ah::rest) with
   |true=>
    rw[Zay rfl]
    unfold iS
    simp only[es]
    have e1:((fun c:List V=>c++rest)∘fun r:Int=>b++[V.int r])=fun r=>b++V.int r::rest:=funext fun r=>eb _
    rw[e1]
    refine Zce (List.map _) (List.filter_congr fun r _=> ?_)
    show _=(cQ (b++[V.int r]++rest)&&_)
    rw[eb,FG (Bj hb (.inl rfl)) mC]
    cases h1:(!bD (.int r) (b++V.ah::rest)&&bW (b++V.int r::rest)) with
    |false=>rfl
    |true=>
     have gg:cQ (b++V.int r::rest)=true:=by rw[FG (Bj hb (.inl rfl)) mC];exact h1
     rw[<-eb]at gg
     have g1:=FF gg
     rw[Zaw,Bool.not_eq_true']at h1
     have hn:bD (.int r) b=false:=by
      cases hz:bD (.int r) b with
      |false=>rfl
      |true=>
       have:bD (.int r) (b++V.ah::rest)=true:=by
        unfold bD at hz |-
        rw[List.any_append,hz]
        rfl
       rw[this]at h1
       cases h1.1
     rw[hn,(Yf _).mpr (Z0.mp g1).2]
     rfl
   |false=>
    rw[Zav Zag]
    symm
    rw[List.map_eq_nil_iff,List.filter_eq_nil_iff]
    intro r _
    show ¬(cQ (b++[V.int r]++rest)&&_)=true
    rw[eb]
    cases hz:cQ (b++V.int r::rest) with
    |false=>simp
    |true=>
     have:=WG S7 hz
     rw[mC]at this
     cases this
  ·rw[hv,Zav (by intro z;cases z)]
   have ea:qU hg xs[i]? =[r]:=by rw[hx,hv];rfl
   have eb:∀b:List V,b++[V.int r]++rest=b++V.int r::rest:=fun b=>by rw[ZbV];rfl
   have key:∀l:List (List V),(∀b∈l,b∈cR hg xs i)->(l.filter fun b=>cQ (b++V.int r::rest)).map (fun b=>b++V.int r::rest)=l.flatMap fun b=> ((iF hg xs i b).filter fun b=>cQ (b++rest)).map fun b=>b++rest:=by
    intro l hl
    induction l with
    |nil=>rfl
    |cons b l LF=>
     rw[Zbm,<-LF fun x hx=>hl x (Zaa _ hx),ZcY]
     have hb:=hl b Zab
     have en:((iF hg xs i b).filter fun b=>cQ (b++rest)).map (fun b=>b++rest)=if cQ (b++V.int r::rest)=true then [b++V.int r::rest] else []:=by
      unfold iF
      rw[ea]
      cases mC:cQ (b++V.int r::rest) with
      |false=>
       rw[Zav Zag]
       rw[List.map_eq_nil_iff,List.filter_eq_nil_iff]
       intro y hy
       obtain⟨r',cw,rfl⟩:=ZaC.mp hy
       have:r'=r:=by simpa using (ZaW.mp cw).1
       rw[this,eb,mC]
       simp
      |true=>
       rw[Zay rfl]
       have gg:=mC
       rw[<-eb]at gg
       have g1:=FF gg
       have hn:bD (.int r) b=false:=by
        cases hz:bD (.int r) b with
        |false=>rfl
        |true=>
         obtain⟨_,_,ks,rfl⟩:=mL hg xs i b hb
         have hm:=Ef (fun x hx=>by obtain⟨k,_,rfl⟩:=ZaC.mp hx;exact .inr ⟨k,rfl⟩) hz
         have nd:=(Z0.mp g1).1
         rw[Yu]at nd
         have:=(Zcp.mp nd).2.2 (V.int r) (ZaW.mpr ⟨hm,by simp⟩) (V.int r) (by unfold rowsOf;simp)
         exact absurd rfl this
       have hu:=(Yf _).mpr (Z0.mp g1).2
       simp only[ZcY,List.filter_nil,hn,hu,ZbY,Bool.and_self,Zch,ZaR,List.map_nil,eb,mC]
     rw[en]
     split<;>simp
   exact key _ fun b hb=>hb
theorem Rb {wd:Int}{hg:Nat}{xs:List V}(ly:eY wd hg xs):dA hg xs xs.length=cR hg xs xs.length:=by
 rw[zF ly xs.length (Zal _)]
 have e:xs.drop xs.length=[]:=List.drop_length
 simp only[e,ZbN]
 rw[List.map_id'' (fun _=>rfl)]
 exact List.filter_eq_self.mpr fun b hb=> (mL hg xs _ b hb).2.1
theorem Q5 {hg:Nat}(h:hg<=7) (o:Option V):(qU hg o).length<=7:=by
 unfold qU
 split
 ·simp
 ·unfold fV;simp;exact h
theorem FD {hg:Nat}(h:hg<=7) (xs:List V):∀i,(cR hg xs i).length<=7^i
 |0=>by simp[cR]
 |i+1=>by
  have ih:=FD h xs i
  unfold cR
  refine Zbf (Ut _ 7 _ fun a _=> ?_) ?_
  ·unfold iF
   rw[Zac]
   exact Zbf (Zb9 _ _) (Q5 h _)
  ·rw[Nat.pow_succ]
   exact Nat.mul_le_mul_right _ ih
theorem Sj {hg:Nat}(h:hg<=7) (xs:List V) {i:Nat}(hi:i<=6):(cR hg xs i).length<=117649:=
 Zbf (FD h xs i) (Zbf (Nat.pow_le_pow_right .d hi) .d)
theorem Si {wd:Int}{hg:Nat}{xs:List V}(ly:eY wd hg xs) (h:hg<=7) {i:Nat}(hi:i<=6) (hl:i<=xs.length):(dA hg xs i).length<=117649:=by
 rw[zF ly i hl,Zac]
 exact Zbf (Zb9 _ _) (Sj h xs hi)
theorem WI {wd:Int}{hg:Nat}{xs:List V}(ly:eY wd hg xs):∀i,∀p∈dA hg xs i,eY wd hg p/\∀j,i<=j->p[j]? =xs[j]?
 |0,p,hp=>by
  unfold dA at hp
  split at hp
  ·rw[Zao.mp hp]
   exact⟨ly,fun _ _=>rfl⟩
  ·cases hp
 |i+1,p,hp=>by
  unfold dA at hp
  split at hp
  ·rename_i hx
   obtain⟨a,ha,hm⟩:=List.mem_flatMap.mp hp
   obtain⟨h1,h2⟩:=WI ly i a ha
   obtain⟨r,hr,rfl⟩:=ZaC.mp hm
   obtain⟨⟨r0,r1⟩,hn,_⟩:=R3.mp hr
   have hi:a[i]? =some V.ah:=by rw[h2 i (Zal _)];exact hx
   refine⟨EB h1 hi r0 r1 hn,fun j hj=> ?_⟩
   rw[List.getElem?_set_ne .o]
   exact h2 j .o
  ·obtain⟨h1,h2⟩:=WI ly i p hp
   exact⟨h1,fun j hj=>h2 j .o⟩
def mM (hg:Nat) (xs:List V) (i j:Nat):List (List V):=((dA hg xs i).take j).flatMap fun p=> (iS hg p i).map fun r=>p.set i (.int r)
theorem Vl {hg:Nat}{xs:List V}{i j:Nat}{p:List V}(e:(dA hg xs i)[j]? =some p):mM hg xs i (j+1)=mM hg xs i j++(iS hg p i).map fun r=>p.set i (.int r):=by
 unfold mM
 rw[ZaD,e,ZcR]
 simp
section
variable {P:Program}{w:World}{K:Zgc}{mg:Str->Option Value}{base:Heap}
abbrev wo:Stmt:=top 40
def vj:Sp:=fun vs H Q _=> ∃x y wd hg xs,vs=[x,y]/\ck H x y wd hg xs/\wd<=6/\hg<=7/\∀H',af H H'->Q .ah H'
theorem HD:aQ ["board", "lay"] ["board", "lay"] (aw wo):=Zr (by decide+kernel)
theorem Kc {f:Addr}{fd:FuncData}(F:aC K "need_small" "need_small" wo f fd) (G:Gs mg) (VR:Def P w K mg base 6 "need_lay" ["board", "lay"] kH) (VS:Def P w K mg base 1 "need_at_most" ["board", "wide", "high"] vk):aA P w K mg base az 7 f fd ["board", "lay"] vj:=by
 obtain⟨Xl,oF⟩:=G.K2
 obtain⟨rJ,yM⟩:=G.K4
 refine F.ok HD (fun vs H Q E h=> ?_) (fun aq A outer s H vs Q E hr h=> ?_)
 ·obtain⟨x,y,wd,hg,xs,rfl,_⟩:=h
  rfl
 ·obtain⟨x,y,wd,hg,xs,rfl,la,w6,g7,q⟩:=h
  refine⟨_,Zd (ZL (Zf VR hr (Za (pv 0) (Za (pv 1) Zb))))
   (Zh (ZL (Zf VS (hr.mono .d) (Za (pv 0) (Za (Z6 (v:=.int 6) rfl oF ⟨_,rfl⟩) (Za (Z6 (v:=.int 7) rfl yM ⟨_,rfl⟩) Zb)))))),?_⟩
  refine aE ⟨_,rfl,_,rfl,x,y,wd,hg,xs,rfl,la,fun H1 s1=> ?_⟩
  dsimp only
  obtain⟨b,rfl,hb⟩:=Zq la.1.1
  exact⟨_,rfl,b,wd,hg,6,7,rfl,s1 _ _ hb,w6,g7,q H1 s1⟩
abbrev wL:Stmt:=top 42
def vH:Sp:=fun vs H Q _=> ∃(b l:Addr) (wd hg:Int) (xs:List V),vs=[.ref b,.ref l]/\dP H (.ref b) wd hg/\H l=some (.tup xs)/\eY wd hg xs/\wd<=6/\hg<=7/\∀(q:Addr) (H':Hp) (ts:List V),af H H'->H q=none->H' q=some (.lst ts)->Paired (bu H') ts (cR hg.toNat xs xs.length)->Q (.ref q) H'
theorem sv:aQ ["board", "lay", "found", "line"] ["board", "lay"] (aw wL):=Zr (by decide+kernel)
theorem Ks {f:Addr}{fd:FuncData}(F:aC K "all_fits" "all_fits" wL f fd) (G:Gs mg) (VQ:Def P w K mg base 7 "need_small" ["board", "lay"] vj) (Ad:Def P w K mg base 11 "is_unlike" ["board", "lay"] rZ) (Ac:Def P w K mg base 1 "with_point" ["lay", "line", "row"] rY) (VW:Def P w K mg base 12 "free_rows" ["board", "lay", "line"] vC):aA P w K mg base az 13 f fd ["board", "lay"] vH:=by
 refine F.ok sv (fun vs H Q E h=> ?_) (fun aq A outer s H vs Q E hr h=> ?_)
 ·obtain⟨b,l,wd,hg,xs,rfl,_⟩:=h
  rfl
 ·obtain⟨b,l,wd,hg,xs,rfl,bd,hl,ly,w6,g7,q⟩:=h
  refine⟨_,Zd (ZL (Zf VQ (hr.mono .d) (Za (pv 0) (Za (pv 1) Zb))))
   (Zd (Zo (i:=2) sv.nd rfl (Or.inl rfl) (Je (ZT (Zf Ad (hr.mono .d) (Za (pv 0) (Za (pv 1) Zb)))) (ZE (Za (pv 1) Zb)) (ZE Zb)))
   (Zd (Z3 Zbv rfl (ZY rfl G.range (Za (Zy ZH (pv 0) Zg (fun _ _=>rfl)) Zb)) (Zp (i:=3) sv.nd rfl (Or.inr rfl))
    (Zh (ZS (Yg (Jy (Zy ZH (pv 1) (pv 3) (fun _ _=>rfl))))
     (Zh (Jc ["part", "row", "board", "line"] 2 [0,3] (i:=2) sv.nd rfl (Or.inl rfl) (ZD (pv 2)) (fun C s H fp=>pb 0) (fun C s H fp=>ZC)
      (fun C s H fp D=>Fp rfl rfl rfl (show PI (aG _ _ _ C s H fp) _ _ (xD K _) from ZD (Zf VW hr (Za (pv 2) (Za (pv 0) (Za (pv 3) Zb)))))
       (show PG (aG _ _ _ C s H fp) _ (bF 1) from pb 1) ZC (bL rfl (Zf Ac (hr.mono .d) (Za (pv 0) (Za (pv 3) (Za (pv 1) Zb))))) (by intro _;rfl) (by intro g' h;cases h)))) Zw)))
   (Zh (Zm (pv 2))))),?_⟩
  obtain⟨b',eb,hb⟩:=Zq bd.1
  cases eb
  obtain⟨_,w1,_,g1,_⟩:=id bd
  have eH:(hg.toNat:Int)=hg:=.o
  have xt:eY wd (hg.toNat:Int) xs:=by rw[eH];exact ly
  have Oa:hg.toNat<=7:=.o
  have ll:=ly.len
  have eq:=Rb xt
  refine aE ⟨_,rfl,_,rfl,.ref b,.ref l,wd,hg,xs,rfl,⟨bd,ZJ hl,ly⟩,w6,g7,fun H1 s1=> ?_⟩
  dsimp only
  have fm:=s1 _ _ hl
  refine aE (bp (T.Gw (t:=AF _ _ _) (fun v H'=> ∃fa ts,v=.ref fa/\af H H'/\H fa=none/\H' fa=some (.lst ts)/\Paired (bu H') ts (dA hg.toNat xs 0)) ?_ ?_))
  case refine_2=>
   intro Q' hq
   refine⟨_,rfl,_,rfl,.ref b,.ref l,wd,hg,xs,rfl,⟨bd.same s1,ZJ fm,ly⟩,.o,fun H2 r s2 fi=> ⟨_,rfl,?_⟩⟩
   rw[Es fi]
   have jN:=s1.trans s2
   have fk:=s2 _ _ fm
   have e0:dA hg.toNat xs 0=if bW xs=true then [xs] else []:=rfl
   cases hu:bW xs with
   |true=>
    rw[hu,Zay rfl]at e0
    refine bg ⟨_,rfl,gR,fun L hL=>hq _ _ ⟨L,_,rfl,jN.trans (de hL),jN.free hL,Zc,?_⟩⟩
    rw[e0]
    exact .cons ⟨l,rfl,de hL _ _ fk⟩ .nil
   |false=>
    rw[hu,Zav Zag]at e0
    refine aP ⟨Zaz _,fun L hL=>hq _ _ ⟨L,_,rfl,jN.trans (de hL),jN.free hL,Zc,?_⟩⟩
    rw[e0]
    exact .nil
  rintro v H2 ⟨Oj,Gp,rfl,s2,n2,e2,bS⟩
  refine aO ?_
  dsimp only[List.set]
  refine aE ⟨_,rfl,b,_,_,_,rfl,rfl,ag.of (s2 _ _ hb),ij,wd,rfl,.o,.o,?_⟩
  refine Ye (n:=wd.toNat) (fun i σ H'=> ∃fa ts v,σ=[some (.ref b),some (.ref l),some (.ref fa),v]/\af H H'/\H fa=none/\H' fa=some (.lst ts)/\Paired (bu H') ts (dA hg.toNat xs i)) ⟨Oj,Gp,_,rfl,s2,n2,e2,bS⟩ ?_ ?_
  ·rintro i σ H3 hi ⟨fa,ts,v,rfl,s3,nU,jD,br⟩
   rw[Int.zero_add]
   refine aO ?_
   dsimp only[List.set]
   have qq:i<xs.length:=.o
   obtain⟨v,hv⟩:∃v,xs[i]? =some v:=⟨_,Zai qq⟩
   have mO:=Si xt Oa (i:=i) .o .o
   have gY:=ZaA br
   have es:dA hg.toNat xs (i+1)=if xs[i]? =some V.ah then (dA hg.toNat xs i).flatMap fun p=> (iS hg.toNat p i).map fun r=>p.set i (.int r) else dA hg.toNat xs i:=rfl
   rw[hv]at es
   refine⟨_,rfl,_,rfl,l,xs,(i:Int),v,rfl,rfl,ag.of (s3 _ _ hl),YE hv,_,rfl,?_⟩
   rcases ly.ok v (Zap hv) with rfl |⟨r,rfl⟩
   ·rw[Zay rfl]at es
    refine bg ⟨_,rfl,fa,rfl,⟨ts,ai.of jD⟩,?_⟩
    refine ZG (xs:=ts) (fun j ys σ H4=> ∃v0 v1,σ=[v0,v1,some (.ref b),some (.int (i:Int))]/\af H3 H4/\Paired (bu H4) ys (mM hg.toNat xs i j)/\ys.length<=j*7) ⟨_,_,rfl,af.refl _,.nil,Zaz _⟩ (fun j ys σ H4 _ ⟨_,_,_,s4,_⟩=>ai.of (s4 _ _ jD)) ?_ ?_
    ·rintro j v ys σ H4 iI ⟨v0,v1,rfl,s4,gW,mn⟩
     obtain⟨p,hp,t,rfl,ht⟩:=Paired.at br iI
     have hj:j<ts.length:=(X8.mp iI).1
     obtain⟨xr,tail⟩:=WI xt i p (Zap hp)
     have lp:=xr.len
     rw[eH]at xr
     have hx:p[i]? =some V.ah:=by rw[tail i (Zal _)];exact hv
     have kZ:=s4 _ _ ht
     refine aO ?_
     dsimp only[List.set]
     try unfold rP
     refine bg ?_
     refine⟨_,rfl,_,rfl,_,rfl,b,t,i,wd,hg,p,rfl,bd.same (s3.trans s4),kZ,xr,.o,hx,fun fb H5 s5 nf ef=> ?_⟩
     have fl:=Td hg.toNat p i
     have cE:=Vl hp
     generalize iS hg.toNat p i=fr at ef fl cE
     refine⟨fb,rfl,⟨_,ai.of ef⟩,?_⟩
     refine ZG (xs:=fr.map V.int) (fun k zs σ H6=> ∃v1,σ=[some (.ref t),v1,some (.ref b),some (.int (i:Int))]/\af H5 H6/\Paired (bu H6) zs (mM hg.toNat xs i j++(fr.take k).map fun r=>p.set i (.int r))/\zs.length<=j*7+k) ⟨_,rfl,af.refl _,by simpa using Paired.aS gW fun v q' hq=>bu.same hq s5,mn⟩ (fun k zs σ H6 _ ⟨_,_,s6,_⟩=>ai.of (s6 _ _ ef)) ?_ ?_
     ·rintro k u zs σ H6 hu ⟨v1,rfl,s6,fW,tV⟩
      rw[ZaH]at hu
      obtain⟨r,cw,rfl⟩:=ZaB.mp hu
      have hk:k<fr.length:=(X8.mp cw).1
      refine aO ?_
      dsimp only[List.set]
      try unfold rP
      refine bg ?_
      refine⟨_,rfl,_,rfl,_,rfl,t,p,i,.int r,rfl,(s5.trans s6) _ _ kZ,.o,.o,fun t7 H7 s7 e7=> ⟨by rw[Zau];omega,_,rfl,s6.trans s7,?_,by rw[Zam];simp;omega⟩⟩
      rw[ZaD,cw,Zax,<-ZbV]
      exact ZbK (Paired.aS fW fun v q' hq=>bu.same hq s7) ⟨t7,rfl,e7⟩
     ·rintro zs σ H6 ⟨v1,rfl,s6,fW,tV⟩
      rw[Zac]at fW tV
      rw[ZaK]at fW
      refine⟨_,_,rfl,s4.trans (s5.trans s6),?_,.o⟩
      rw[cE]
      exact fW
    ·rintro ys σ H4 ⟨v0,v1,rfl,s4,gW,mn⟩ p hp
     dsimp only[List.set]
     have s5:=de (o:=.lst ys) hp
     refine⟨p,ys,_,rfl,s3.trans (s4.trans s5),s3.free (s4.free hp),Zc,?_⟩
     have e:mM hg.toNat xs i ts.length=dA hg.toNat xs (i+1):=by
      unfold mM
      rw[gY,ZaK,es]
     rw[<-e]
     exact Paired.aS gW fun v q' hq=>bu.same hq s5
   ·rw[Zav (by intro z;cases z)]at es
    refine aP (iA ⟨fa,ts,_,rfl,s3,nU,jD,?_⟩)
    rw[es]
    exact br
  ·rintro σ H3 ⟨fa,ts,v,rfl,s3,nU,jD,br⟩
   have e:dA hg.toNat xs wd.toNat=cR hg.toNat xs xs.length:=by
    rw[show wd.toNat=xs.length by omega]
    exact eq
   rw[e]at br
   exact⟨_,rfl,q fa H3 ts s3 nU jD br⟩
end
end U.S
namespace L2
open PySem PySem.Spec PyProof.Rows
theorem ag.keep {K:Zgc}{H H':Hp}{a:Addr}{xs:List V}(h:ag K H a xs) (s:af H H'):ag K H' a xs:=by
 rcases h with (h |⟨o,h⟩) |h |h
 ·exact .inl (.inl (s _ _ h))
 ·exact .inl (.inr ⟨o,s _ _ h⟩)
 ·exact .inr (.inl h)
 ·exact .inr (.inr (s _ _ h))
end L2
namespace U.T
open PySem L2 PyProof.Rows
section
variable {P:Program}{w:World}{K:Zgc}{mg:Str->Option Value}{base:Heap}{aB aL aT:Addr}
def u7 (K:Zgc):Sp:=fun vs H Q _=> ∃(a:Addr) (xs:List V) (n:Int),vs=[.ref a,.int n]/\ag K H a xs/\Q (.bl (decide ((xs.length:Int)=n))) H
theorem IT {f:Addr}{fd:FuncData}(F:aC K "is_tuple_of" "is_tuple_of" sD f fd) (G:Gs mg):aA P w K mg base az 1 f fd ["thing", "many"] (u7 K):=by
 refine F.ok AO (fun vs H Q E h=> ?_) (fun aq A outer s H vs Q E hr h=> ?_)
 ·obtain⟨a,xs,n,rfl,_⟩:=h
  rfl
 ·obtain⟨a,xs,n,rfl,t,q⟩:=h
  refine⟨_,Zh (Zm (Yk (Zk (UY (c:= "tuple")) rfl G.isinstance Za4 (Za (pv 0) (Za (ZB (v:=.ty "tuple") rfl G.tuple ZcN rfl) Zb)))
   (Yi (Yq YG (Zk Zx rfl G.len Zc6 (Za (pv 0) Zb)) (pv 1) (cC _))))),?_⟩
  refine⟨_,rfl,a,xs,true,rfl,t,rfl,_,rfl,bg ⟨_,rfl,a,xs,rfl,.inr t,_,rfl,rfl,?_⟩⟩
  have z:decide (V.int (xs.length:Int)=V.int n)=decide ((xs.length:Int)=n):=by simp
  rw[z]
  exact q
def u6 (K:Zgc):Sp:=fun vs H Q _=> ∃(t:Addr) (q:Bool×Bool×Bool),vs=[.ref t]/\ag K H t (tv q)/\∀H',af H H'->Q (.bl true) H'
abbrev vY:Stmt:=top 46
theorem Hx:aQ ["thing"] ["thing"] (aw vY):=Zr (by decide+kernel)
theorem IS {f:Addr}{fd:FuncData}(F:aC K "is_turn" "is_turn" vY f fd) (G:Gs mg) (D1:Def P w K mg base 1 "is_tuple_of" ["thing", "many"] (u7 K)) (D2:Def P w K mg base 2 "is_whole_within" ["thing", "least", "most"] (kG K)):
  aA P w K mg base az 3 f fd ["thing"] (u6 K):=by
 refine F.ok Hx (fun vs H Q E h=> ?_) (fun aq A outer s H vs Q E hr h=> ?_)
 ·obtain⟨t,x,rfl,_⟩:=h
  rfl
 ·obtain⟨t,x,rfl,ht,q⟩:=h
  refine⟨_,Zh (Zm (Yk (Zf D1 (hr.mono .d) (Za (pv 0) (Za Zg Zb)))
   (Yi (Zk Yo rfl G.all Zfy (Za (ZA ["part"] 1 [] (Wj (pv 0)) (fun C s H fp=>pb 0) (fun C s H fp=>ZC)
    (fun C s H fp D=>bL rfl (Zf D2 (hr.mono .d) (Za (pv 0) (Za Zg (Za Zg Zb)))))) Zb))))),?_⟩
  refine⟨_,rfl,t,tv x,3,rfl,ht,_,rfl,?_⟩
  rw[Zat (show((tv x).length:Int)=3 from rfl)]
  refine bg ⟨_,rfl,t,rfl,⟨tv x,ht⟩,?_⟩
  refine YK (xs:=tv x) (fun i ys σ H2=>ys=List.replicate i (V.bl true)/\H2=H/\∃v,σ=[v]) ⟨rfl,rfl,none,rfl⟩ (fun i ys σ H2 _ ⟨_,e2,_⟩=>by rw[e2];exact ht) ?_ ?_
  ·rintro i y ys σ H2 hy ⟨rfl,rfl,v,rfl⟩
   have my:y∈tv x:=Zap hy
   obtain⟨b,rfl⟩:∃b:Bool,y=.int (bi b):=by
    simp only[Zaj,Za5,Zb4]at my
    rcases my with rfl |rfl |rfl<;>exact⟨_,rfl⟩
   have hi:i<3:=(X8.mp hy).1
   refine⟨_,rfl,_,0,1,rfl,⟨_,.int _⟩,?_,?_⟩
   ·rw[Zbc,Zau];omega
   ·refine⟨?_,rfl,_,rfl⟩
    rw[show bH (.int (bi b)) 0 1=true by cases b<;>rfl,ZcG]
  ·rintro ys σ H2 ⟨rfl,rfl,v,rfl⟩ p hp
   refine⟨p,List.replicate 3 true,rfl,ai.of Zc,?_⟩
   exact q _ (Zl hp)
def vi (K:Zgc):Sp:=fun vs H Q _=> ∃(t:Addr) (q:Bool×Bool×Bool),vs=[.ref t]/\ag K H t (tv q)/\∀H',af H H'->Q .ah H'
abbrev wm:Stmt:=top 47
theorem HB:aQ ["turn"] ["turn"] (aw wm):=Zr (by decide+kernel)
theorem Kb {f:Addr}{fd:FuncData}(F:aC K "need_turn" "need_turn" wm f fd) (D1:Def P w K mg base 3 "is_turn" ["thing"] (u6 K)):aA P w K mg base az 4 f fd ["turn"] (vi K):=by
 refine F.ok HB (fun vs H Q E h=> ?_) (fun aq A outer s H vs Q E hr h=> ?_)
 ·obtain⟨t,x,rfl,_⟩:=h
  rfl
 ·obtain⟨t,x,rfl,ht,q⟩:=h
  refine⟨_,Zh (ZS (Z9 (ZT (Zf D1 hr (Za (pv 0) Zb)))) Zs Zw),?_⟩
  exact⟨_,rfl,t,x,rfl,ht,fun H1 s1=> ⟨_,rfl,aP (q H1 s1)⟩⟩
abbrev v8:Stmt:=top 48
def vc (K:Zgc):Sp:=fun vs H Q _=> ∃(b p t:Addr) (wd hg:Int) (x:Int×Int) (q:Bool×Bool×Bool),vs=[.ref b,.ref p,.ref t]/\H b=some (.tup [.int wd,.int hg])/\H p=some (.tup [.int x.1,.int x.2])/\ag K H t (tv q)/\∀(r:Addr) H',af H H'->H' r=some (.tup [.int (dQ wd hg q x).1,.int (dQ wd hg q x).2])->Q (.ref r) H'
theorem kI:aQ ["board", "point", "turn", "line", "row", "over", "lines", "rows"] ["board", "point", "turn"] (aw v8):=Zr (by decide+kernel)
theorem IV {f:Addr}{fd:FuncData}(F:aC K "turned_point" "turned_point" v8 f fd):aA P w K mg base az 1 f fd ["board", "point", "turn"] (vc K):=by
 refine F.ok kI (fun vs H Q E h=> ?_) (fun aq A outer s H vs Q E hr h=> ?_)
 ·obtain⟨b,p,t,wd,hg,x,q,rfl,_⟩:=h
  rfl
 ·obtain⟨b,p,t,wd,hg,⟨x,y⟩,⟨o,l,r⟩,rfl,hb,hp,ht,q⟩:=h
  refine⟨_,Zd (YB (pv 1) (ZO rfl (Zj (Zp (i:=3) kI.nd rfl (Or.inl rfl)) (Zj (Zp (i:=4) kI.nd rfl (Or.inl rfl)) ZF))))
   (Zd (YB (pv 2) (ZO rfl (Zj (Zp (i:=5) kI.nd rfl (Or.inl rfl)) (Zj (Zp (i:=6) kI.nd rfl (Or.inl rfl)) (Zj (Zp (i:=7) kI.nd rfl (Or.inl rfl)) ZF)))))
   (Zd (ZS (ZI YG (pv 6) Zg (cC _)) (Zh (Zo (i:=3) kI.nd rfl (Or.inl rfl) (Zn ZW (Zn ZW (Zy ZH (pv 0) Zg (fun _ _=>rfl)) Zg) (pv 3)))) Zw)
   (Zd (ZS (ZI YG (pv 7) Zg (cC _)) (Zh (Zo (i:=4) kI.nd rfl (Or.inl rfl) (Zn ZW (Zn ZW (Zy ZH (pv 0) Zg (fun _ _=>rfl)) Zg) (pv 4)))) Zw)
   (Zh (Zm (Je (ZI YG (pv 5) Zg (cC _)) (Zt (Za (pv 4) (Za (pv 3) Zb))) (Zt (Za (pv 3) (Za (pv 4) Zb))))))))),?_⟩
  refine aE (bp ⟨_,rfl,p,_,rfl,ag.of hp,rfl,_,_,rfl,_,_,rfl,rfl,?_⟩)
  dsimp only[List.set]
  refine aE (bp ⟨_,rfl,t,_,rfl,ht,rfl,_,_,rfl,_,_,rfl,_,_,rfl,rfl,?_⟩)
  dsimp only[List.set]
  refine U7 (fun σ H'=>H'=H/\σ=[some (.ref b),some (.ref p),some (.ref t),some (.int (tA wd l x)),some (.int y),some (.int (bi o)),some (.int (bi l)),some (.int (bi r))]) ?_ ?_
  ·rintro σ H' ⟨rfl,rfl⟩
   refine U7 (fun σ H2=>H2=H'/\σ=[some (.ref b),some (.ref p),some (.ref t),some (.int (tA wd l x)),some (.int (tA hg r y)),some (.int (bi o)),some (.int (bi l)),some (.int (bi r))]) ?_ ?_
   ·rintro σ H2 ⟨rfl,rfl⟩
    refine⟨_,rfl,rfl,_,rfl,?_⟩
    rw[U0]
    cases o with
    |true=>exact bg ⟨_,rfl,_,rfl,bf,fun u hu=>q u _ (Zl hu) Zc⟩
    |false=>exact aP ⟨_,rfl,_,rfl,bf,fun u hu=>q u _ (Zl hu) Zc⟩
   ·intro D' hD
    refine⟨_,rfl,rfl,_,rfl,?_⟩
    rw[U0]
    cases r with
    |true=>exact bg (bp ⟨_,rfl,b,_,_,_,rfl,rfl,ag.of hb,cZ,_,_,rfl,rfl,_,rfl,_,_,rfl,rfl,aO (hD _ _ ⟨rfl,rfl⟩)⟩)
    |false=>exact aP (iA (hD _ _ ⟨rfl,rfl⟩))
  ·intro D' hD
   refine⟨_,rfl,rfl,_,rfl,?_⟩
   rw[U0]
   cases l with
   |true=>exact bg (bp ⟨_,rfl,b,_,_,_,rfl,rfl,ag.of hb,ij,_,_,rfl,rfl,_,rfl,_,_,rfl,rfl,aO (hD _ _ ⟨rfl,rfl⟩)⟩)
   |false=>exact aP (iA (hD _ _ ⟨rfl,rfl⟩))
abbrev wa:Stmt:=top 49
def r6 (K:Zgc):Sp:=fun vs H Q _=> ∃(b t:Addr) (wd hg:Int) (q:Bool×Bool×Bool),vs=[.ref b,.ref t]/\dP H (.ref b) wd hg/\ag K H t (tv q)/\∀(c:Addr) H',af H H'->dP H' (.ref c) (tW wd hg q) (tH wd hg q)->Q (.ref c) H'
theorem Hy:aQ ["board", "turn"] ["board", "turn"] (aw wa):=Zr (by decide+kernel)
theorem IW {f:Addr}{fd:FuncData}(F:aC K "turned_board" "turned_board" wa f fd) (D1:Def P w K mg base 4 "need_board" ["board"] (pB K)) (D2:Def P w K mg base 4 "need_turn" ["turn"] (vi K)):aA P w K mg base az 5 f fd ["board", "turn"] (r6 K):=by
 refine F.ok Hy (fun vs H Q E h=> ?_) (fun aq A outer s H vs Q E hr h=> ?_)
 ·obtain⟨b,t,wd,hg,q,rfl,_⟩:=h
  rfl
 ·obtain⟨b,t,wd,hg,⟨o,l,r⟩,rfl,bd,ht,q⟩:=h
  refine⟨_,Zd (ZL (Zf D1 hr (Za (pv 0) Zb)))
   (Zd (ZL (Zf D2 hr (Za (pv 1) Zb)))
   (Zh (Zm (Je (ZI YG (Zy ZH (pv 1) Zg (fun _ _=>rfl)) Zg (cC _)) (Zt (Za (Zy ZH (pv 0) Zg (fun _ _=>rfl)) (Za (Zy ZH (pv 0) Zg (fun _ _=>rfl)) Zb))) (pv 0))))),?_⟩
  refine aE ⟨_,rfl,.ref b,wd,hg,rfl,bd,fun H1 s1=> ?_⟩
  dsimp only
  have qd:=ht.keep s1
  refine aE ⟨_,rfl,t,_,rfl,qd,fun H2 s2=> ?_⟩
  dsimp only
  have Mj:=qd.keep s2
  have lP:=s1.trans s2
  obtain⟨_,w1,uL,g1,yS⟩:=id bd
  obtain⟨b',eb,hb⟩:=Zq bd.1
  cases eb
  have jt:=lP _ _ hb
  refine⟨_,rfl,t,_,_,_,rfl,rfl,Mj,rfl,rfl,_,rfl,?_⟩
  rw[U0]
  cases o with
  |true=>
   refine bg ⟨_,rfl,b,_,_,_,rfl,rfl,ag.of jt,cZ,_,rfl,b,_,_,_,rfl,rfl,ag.of jt,ij,bf,fun u hu=>q u _ (lP.trans (Zl hu)) ⟨ZJ Zc,g1,yS,w1,uL⟩⟩
  |false=>exact aP ⟨_,rfl,q b _ lP (bd.same lP)⟩
abbrev vZ:Stmt:=top 50
def u9 (K:Zgc):Sp:=fun vs H Q _=> ∃(b l t:Addr) (xs:List V) (wd hg:Int) (q:Bool×Bool×Bool),vs=[.ref b,.ref l,.ref t]/\ck K H (.ref b) l xs wd hg/\ag K H t (tv q)/\∀(u:Addr) H',af H H'->H' u=some (.tup (jL wd hg q xs))->Q (.ref u) H'
theorem vK:aQ ["board", "lay", "turn", "elder", "come"] ["board", "lay", "turn"] (aw vZ):=Zr (by decide+kernel)
theorem IU {f:Addr}{fd:FuncData}(F:aC K "turned" "turned" vZ f fd) (D1:Def P w K mg base 7 "points" ["board", "lay"] (lM K)) (D2:Def P w K mg base 5 "turned_board" ["board", "turn"] (r6 K)) (D3:Def P w K mg base 5 "lay_of" ["board", "points"] (vw K)) (D4:Def P w K mg base 1 "turned_point" ["board", "point", "turn"] (vc K)):
  aA P w K mg base az 8 f fd ["board", "lay", "turn"] (u9 K):=by
 refine F.ok vK (fun vs H Q E h=> ?_) (fun aq A outer s H vs Q E hr h=> ?_)
 ·obtain⟨b,l,t,xs,wd,hg,q,rfl,_⟩:=h
  rfl
 ·obtain⟨b,l,t,xs,wd,hg,x,rfl,la,ht,q⟩:=h
  refine⟨_,Zd (Zo (i:=3) vK.nd rfl (Or.inl rfl) (Zf D1 hr (Za (pv 0) (Za (pv 1) Zb))))
   (Zd (Zo (i:=4) vK.nd rfl (Or.inl rfl) (Zf D2 (hr.mono .d) (Za (pv 0) (Za (pv 2) Zb))))
   (Zh (Zm (Zf D3 (hr.mono .d) (Za (pv 4) (Za (ZA ["point", "board", "turn"] 1 [0,2] (ZD (pv 3)) (fun C s H fp=>pb 0) (fun C s H fp=>ZC)
    (fun C s H fp D=>bL rfl (Zf D4 (hr.mono .d) (Za (pv 1) (Za (pv 0) (Za (pv 2) Zb)))))) Zb)))))),?_⟩
  refine aE (bp ⟨_,rfl,_,rfl,.ref b,l,xs,wd,hg,rfl,la,fun L H1 ps s1 e1 pr=>aO ?_⟩)
  dsimp only[List.set]
  have qd:=ht.keep s1
  refine aE (bp ⟨_,rfl,_,rfl,b,t,wd,hg,x,rfl,la.bd.same s1,qd,fun c H2 s2 Po=>aO ?_⟩)
  dsimp only[List.set]
  obtain⟨b',eb,hb⟩:=Zq la.bd.1
  cases eb
  have lP:=s1.trans s2
  have e2:=s2 _ _ e1
  have bS:Paired (iq H2) ps (aI xs):=Paired.aS pr fun v q' hq=>hq.same s2
  have lp:ps.length=(aI xs).length:=ZaA pr
  have kT:(aI xs).length<=12:=by
   have h1:=pJ xs
   have h2:=Wb la.ly
   have h3:=la.bd.2.2.1
   omega
  refine⟨_,rfl,_,rfl,L,rfl,⟨ps,ai.of e2⟩,?_⟩
  refine ZG (xs:=ps) (fun i zs σ H3=> ∃v0,σ=[v0,some (.ref b),some (.ref t)]/\af H2 H3/\Paired (iq H3) zs (((aI xs).take i).map (dQ wd hg x))) ⟨_,rfl,af.refl _,.nil⟩ (fun i zs σ H3 _ ⟨_,_,s3,_⟩=>ai.of (s3 _ _ e2)) ?_ ?_
  ·rintro i v zs σ H3 hv ⟨v0,rfl,s3,br⟩
   obtain⟨y,hy,py⟩:=ZV bS hv
   obtain⟨t',rfl,jk⟩:=py.same s3
   have hi:i<ps.length:=(X8.mp hv).1
   have lz:zs.length<=12:=by
    have:=ZaA br
    rw[Zac,ZaI]at this
    omega
   refine⟨_,rfl,_,rfl,_,rfl,b,t',t,wd,hg,y,x,rfl,(lP.trans s3) _ _ hb,jk,qd.keep (s2.trans s3),fun r H4 s4 e4=> ⟨by rw[Zau];omega,_,rfl,s3.trans s4,?_⟩⟩
   rw[ZaD,hy,Zax]
   exact ZbK (Paired.aS br fun v q' hq=>hq.same s4) ⟨r,rfl,e4⟩
  ·rintro zs σ H3 ⟨v0,rfl,s3,br⟩ p hp
   rw[lp,ZaK]at br
   have s4:=Zl (o:=.lst zs) hp
   refine⟨c,p,zs,_,tW wd hg x,tH wd hg x,rfl,Po.same (s3.trans s4),Zc,Paired.aS br fun v q' hq=>hq.same s4,Ep (ER la.ly),QR (EO la.ly _),by rw[Zac];exact kT,fun u H5 s5 e5=> ?_⟩
   exact q u H5 (lP.trans (s3.trans (s4.trans s5))) e5
end
end U.T
namespace U.T
open PySem L2 PyProof.Rows PyProof.Rows.dc
def fF:V->Int
 | .int i=>i
 |_=> -1
def NR (ys:List V):Prop:=∀y∈ys,y=.ah∨∃i:Int,y=.int i/\0<=i
theorem T6 {wd hg:Int}{q:Bool×Bool×Bool}{xs:List V}(ly:eO wd hg (some xs)=true):NR (jL wd hg q xs):=fun y hy=>by
 rcases JG hy with rfl |⟨p,hp,rfl⟩
 ·exact .inl rfl
 ·exact .inr ⟨_,rfl,(Ep (q:=q) (ER ly) p hp).2.1⟩
def FT (K:Zgc) (mg:Str->Option Value):Prop:=∃(aT:Addr) (ts:List Addr),mg "TURNS" =some (.ref aT)/\(∀H,ag K H aT (ts.map V.ref))/\Paired (fun t q=> ∀H,ag K H t (tv q)) ts da
def ni (wd hg:Int) (xs:List V) (H:Hp) (v:V) (q:Bool×Bool×Bool):Prop:=∃t c u:Addr,v=.ref t/\H t=some (.tup [.ref c,.ref u])/\dP H (.ref c) (tW wd hg q) (tH wd hg q)/\H u=some (.tup (jL wd hg q xs))
theorem ni.same {wd hg:Int}{xs:List V}{H H':Hp}{v:V}{q:Bool×Bool×Bool}(h:ni wd hg xs H v q) (s:af H H'):ni wd hg xs H' v q:=by
 obtain⟨t,c,u,e,h1,h2,h3⟩:=h
 exact⟨t,c,u,e,s _ _ h1,h2.same s,s _ _ h3⟩
section
variable {P:Program}{w:World}{K:Zgc}{mg:Str->Option Value}{base:Heap}{aB aL aT:Addr}
abbrev wJ:Stmt:=top 51
def pD (K:Zgc):Sp:=fun vs H Q _=> ∃(b l:Addr) (xs:List V) (wd hg:Int),vs=[.ref b,.ref l]/\ck K H (.ref b) l xs wd hg/\∀(L:Addr) H' (ps:List V),af H H'->H' L=some (.lst ps)->Paired (ni wd hg xs H') ps da->Q (.ref L) H'
theorem HN:aQ ["board", "lay"] ["board", "lay"] (aw wJ):=Zr (by decide+kernel)
theorem TM {ts:List Addr}{i:Nat}{v:V}(h:(ts.map V.ref)[i]? =some v):∃t,ts[i]? =some t/\v=.ref t:=by
 rw[ZaH]at h
 cases e:ts[i]? with
 |none=>rw[e]at h;cases h
 |some t=>rw[e]at h;cases h;exact⟨t,rfl,rfl⟩
theorem Kr {f:Addr}{fd:FuncData}(F:aC K "all_turned" "all_turned" wJ f fd) (T:FT K mg) (D1:Def P w K mg base 5 "turned_board" ["board", "turn"] (r6 K)) (D2:Def P w K mg base 8 "turned" ["board", "lay", "turn"] (u9 K)):aA P w K mg base az 9 f fd ["board", "lay"] (pD K):=by
 obtain⟨aT,ts,hm,hq,pt⟩:=T
 refine F.ok HN (fun vs H Q E h=> ?_) (fun aq A outer s H vs Q E hr h=> ?_)
 ·obtain⟨b,l,xs,wd,hg,rfl,_⟩:=h
  rfl
 ·obtain⟨b,l,xs,wd,hg,rfl,la,q⟩:=h
  refine⟨_,Zh (Zm (ZA ["turn", "board", "lay"] 1 [0,1] (Wj (Z6 (v:=.ref aT) rfl hm rfl)) (fun C s H fp=>pb 0) (fun C s H fp=>ZC)
    (fun C s H fp D=>bL rfl (Zt (Za (Zf D1 (hr.mono .d) (Za (pv 1) (Za (pv 0) Zb))) (Za (Zf D2 (hr.mono .d) (Za (pv 1) (Za (pv 2) (Za (pv 0) Zb)))) Zb)))))),?_⟩
  refine⟨aT,rfl,⟨_,hq H⟩,?_⟩
  have lt:ts.length=8:=ZaA pt
  refine YK (xs:=ts.map V.ref) (fun i zs σ H2=> ∃v0,σ=[v0,some (.ref b),some (.ref l)]/\af H H2/\Paired (ni wd hg xs H2) zs (da.take i)) ⟨_,rfl,af.refl _,.nil⟩ (fun i zs σ H2 _ _=>hq H2) ?_ ?_
  ·rintro i v zs σ H2 hv ⟨v0,rfl,s2,pr⟩
   obtain⟨t,ht,rfl⟩:=TM hv
   obtain⟨y,hy,py⟩:=ZV pt ht
   have hi:i<ts.length:=(X8.mp ht).1
   refine⟨_,rfl,_,rfl,b,t,wd,hg,y,rfl,la.bd.same s2,py H2,fun c H3 s3 b3=> ?_⟩
   refine⟨_,rfl,_,rfl,_,rfl,b,l,t,xs,wd,hg,y,rfl,la.same (s2.trans s3),py H3,fun u H4 s4 e4=> ?_⟩
   refine⟨bf,fun p hp=> ?_⟩
   obtain⟨H5,zz,s5,e5⟩:=aR (o:=.tup [V.ref c,V.ref u]) hp
   rw[zz]
   have lz:zs.length<=8:=by
    have:=ZaA pr
    rw[ZaI]at this
    omega
   have A5:=s3.trans (s4.trans s5)
   refine⟨by rw[Zau];omega,_,rfl,s2.trans A5,?_⟩
   rw[ZaD,hy]
   exact ZbK (Paired.aS pr fun v q' h=>h.same A5) ⟨p,c,u,rfl,e5,b3.same (s4.trans s5),s5 _ _ e4⟩
  ·rintro zs σ H2 ⟨v0,rfl,s2,pr⟩ p hp
   rw[Zac,lt]at pr
   have s3:=Zl (o:=.lst zs) hp
   exact q p _ zs (s2.trans s3) Zc (Paired.aS pr fun v q' h=>h.same s3)
abbrev wj:Stmt:=top 52
def vf:Sp:=fun vs H Q _=> ∃(t c u:Addr) (wd hg:Int) (ys:List V),vs=[.ref t]/\H t=some (.tup [.ref c,.ref u])/\H c=some (.tup [.int wd,.int hg])/\H u=some (.tup ys)/\NR ys/\ys.length<=12/\∀v H',af H H'->ir H' v (wd::hg::ys.map fF)->Q v H'
theorem vO:aQ ["led", "board", "lay"] ["led"] (aw wj):=Zr (by decide+kernel)
theorem Kd {f:Addr}{fd:FuncData}(F:aC K "none_least" "none_least" wj f fd) (G:Gs mg):aA P w K mg base az 1 f fd ["led"] vf:=by
 refine F.ok vO (fun vs H Q E h=> ?_) (fun aq A outer s H vs Q E hr h=> ?_)
 ·obtain⟨t,c,u,wd,hg,ys,rfl,_⟩:=h
  rfl
 ·obtain⟨t,c,u,wd,hg,ys,rfl,ht,hc,hu,nr,lu,q⟩:=h
  refine⟨_,Zd (YB (pv 0) (ZO rfl (Zj (Zp (i:=1) vO.nd rfl (Or.inl rfl)) (Zj (Zp (i:=2) vO.nd rfl (Or.inl rfl)) ZF))))
   (Zh (Zm (Zt (Za (pv 1) (Za (Yv Ys rfl G.tuple ZcN (Za (ZA ["row"] 1 [] (Wj (pv 2)) (fun C s H fp=>pb 0) (fun C s H fp=>ZC)
    (fun C s H fp D=>bL rfl (Je (Yg (Jy (pv 0))) (DU Er Zg) (pv 0)))) Zb)) Zb))))),?_⟩
  refine aE (bp ⟨_,rfl,t,_,rfl,ag.of ht,rfl,_,_,rfl,_,_,rfl,rfl,?_⟩)
  dsimp only[List.set]
  refine⟨_,rfl,_,rfl,u,rfl,⟨ys,ag.of hu⟩,?_⟩
  refine YK (xs:=ys) (fun i zs σ H2=>zs=((ys.take i).map fF).map V.int/\H2=H/\∃v,σ=[v]) ⟨rfl,rfl,none,rfl⟩ (fun i zs σ H2 _ ⟨_,e2,_⟩=>by rw[e2];exact ag.of hu) ?_ ?_
  ·rintro i y zs σ H2 hy ⟨rfl,rfl,v,rfl⟩
   have hz:(((ys.take i).map fF).map V.int).length<sizeLine:=by rw[Zac,Zac,ZaI,Zau];omega
   have e:((ys.take (i+1)).map fF).map V.int=((ys.take i).map fF).map V.int++[V.int (fF y)]:=by rw[ZaD,hy,Zax,Zax];rfl
   refine⟨_,rfl,_,rfl,?_⟩
   rcases nr y (Zap hy) with rfl |⟨r,rfl,_⟩
   ·exact bg ⟨_,rfl,hz,e.symm,rfl,_,rfl⟩
   ·exact aP ⟨_,rfl,hz,e.symm,rfl,_,rfl⟩
  ·rintro zs σ H2 ⟨rfl,rfl,v,rfl⟩ L hL
   rw[ZaK]
   refine⟨L,_,rfl,.inl ⟨ai.of Zc,fun r cw=> ?_⟩⟩
   refine⟨bf,fun p hp=> ?_⟩
   have s1:=Zl (o:=.lst ((ys.map fF).map V.int)) hL
   generalize upd H2 L (.lst ((ys.map fF).map V.int))=H3 at s1 cw hp
   have s2:=Zl (o:=.tup ((ys.map fF).map V.int)) cw
   have e2:upd H3 r (.tup ((ys.map fF).map V.int)) r=some (.tup ((ys.map fF).map V.int)):=Zc
   generalize upd H3 r (.tup ((ys.map fF).map V.int))=H4 at s2 e2 hp
   have s3:=Zl (o:=.tup [V.ref c,V.ref r]) hp
   have sA:=s1.trans (s2.trans s3)
   exact q _ _ sA ⟨p,c,r,wd,hg,ys.map fF,rfl,Zc,sA _ _ hc,s3 _ _ e2,rfl⟩
def lY (wd hg:Int) (xs:List V) (q:Bool×Bool×Bool):List Int:=tW wd hg q::tH wd hg q::(jL wd hg q xs).map fF
abbrev wu:Stmt:=top 53
def vn (K:Zgc):Sp:=fun vs H Q _=> ∃(b l:Addr) (xs:List V) (wd hg:Int),vs=[.ref b,.ref l]/\ck K H (.ref b) l xs wd hg/\∀v q H',af H H'->ni wd hg xs H' v q->(∀p,av (lY wd hg xs p) (lY wd hg xs q)=false)->Q v H'
theorem HF:aQ ["board", "lay"] ["board", "lay"] (aw wu):=Zr (by decide+kernel)
theorem oN (q:Bool×Bool×Bool):q∈da:=by
 obtain⟨a,b,c⟩:=q
 cases a<;>cases b<;>cases c<;>decide
theorem Ki {f:Addr}{fd:FuncData}(F:aC K "least_turned" "least_turned" wu f fd) (G:Gs mg) (D1:Def P w K mg base 9 "all_turned" ["board", "lay"] (pD K)) (D2:Def P w K mg base 1 "none_least" ["led"] vf):aA P w K mg base az 10 f fd ["board", "lay"] (vn K):=by
 refine F.ok HF (fun vs H Q E h=> ?_) (fun aq A outer s H vs Q E hr h=> ?_)
 ·obtain⟨b,l,xs,wd,hg,rfl,_⟩:=h
  rfl
 ·obtain⟨b,l,xs,wd,hg,rfl,la,q⟩:=h
  refine⟨_,Zh (Zm (QJ rfl rfl G.min D2 rfl (hr.mono .d) (Zf D1 hr (Za (pv 0) (Za (pv 1) Zb))))),?_⟩
  refine⟨_,rfl,_,rfl,b,l,xs,wd,hg,rfl,la,fun L H1 ps s1 e1 pr=> ?_⟩
  have lp:ps.length=8:=ZaA pr
  refine⟨L,ps,da.map (lY wd hg xs),rfl,e1,(fun z=>by rw[z]at lp;cases lp),by rw[Zac,lp];rfl,fun j v k' hv hk H2 s2 Q' q'=> ?_,fun i v k' H2 hv hk best s2=> ?_⟩
  ·obtain⟨y,hy,py⟩:=ZV pr hv
   rw[ZaH,hy]at hk
   cases hk
   obtain⟨t,c,u,rfl,h1,h2,h3⟩:=py.same s2
   obtain⟨c',ec,hc⟩:=Zq h2.1
   cases ec
   refine⟨t,c,u,_,_,_,rfl,h1,hc,h3,T6 la.ly,?_,fun v H' s' kp=>q' v H' s' kp⟩
   rw[lW]
   have:=h2.2.2.1
   omega
  ·obtain⟨y,hy,py⟩:=ZV pr hv
   rw[ZaH,hy]at hk
   cases hk
   exact q v y H2 (s1.trans s2) (py.same s2) fun p=>best _ (ZaC.mpr ⟨p,oN p,rfl⟩)
end
end U.T
namespace U.K
open PySem L2 PyProof.Rows PyProof.Rows.dc
def iV:V->Int
 | .int i=>i
 |_=> -1
def dh (n:Nat):List V:=List.replicate n .ah
def dB (n:Nat):List (List Int):=(U.S.cR n (dh n) n).map fun b=>b.map iV
def cU (n:Nat) (q:Bool×Bool×Bool) (x:List Int):List Int:=(T.jL n n q (x.map V.int)).map iV
def cm (n:Nat) (x:List Int):List Int:=T.da.foldl (fun b q=>if av (cU n q x) b=true then cU n q x else b) (cU n (false,false,false) x)
def dY (n:Nat) (x:List Int):Nat:=gF (T.da.map fun q=>cU n q x)
def xa (n:Nat) (x:List Int):List (List Int×List Int):=T.da.map fun q=> ([T.tW n n q,T.tH n n q],cU n q x)
def C1 (n:Nat) (x:List Int):Bool:=
 decide (eO n n (some (x.map V.int))=true)&&decide (x≠[])&&
 (T.da.all fun q=>decide (T.jL n n q (x.map V.int)=(cU n q x).map V.int)&&decide (T.tW n n q=n)&&decide (T.tH n n q=n)&& !av (cU n q x) (cm n x))&&
 (T.da.any fun q=>decide (cU n q x=cm n x))&&decide (cm n x∈dB n)&&decide (dY n (cm n x)=dY n x)&&decide (nY (xa n x)=dY n x)
theorem Jo:∀n∈[1,2,3,4,5],(dB n).length<63/\∀x∈dB n,C1 n x=true:=by decide+kernel
theorem C0 {n:Nat} :U.S.cR n (dh n) n=(dB n).map fun x=>x.map V.int:=by
 unfold dB
 rw[Zb0]
 refine(List.map_id _).symm.trans (List.map_congr_left fun b hb=> ?_)
 obtain⟨_,_,ks,rfl⟩:=U.S.mL n (dh n) n b hb
 show ks.map V.int=((ks.map V.int).map iV).map V.int
 rw[Zb0,Zb0]
 rfl
structure uI (n:Nat) (x:List Int):Prop where
 ly:eO n n (some (x.map V.int))=true
 ne:x≠[]
 tr:∀q,T.jL n n q (x.map V.int)=(cU n q x).map V.int
 w:∀q,T.tW n n q=n
 h:∀q,T.tH n n q=n
 le:∀q,av (cU n q x) (cm n x)=false
 ex:∃q,cU n q x=cm n x
 mem:cm n x∈dB n
 cnt:dY n (cm n x)=dY n x
 pr:nY (xa n x)=dY n x
def jI (n:Nat):Prop:=1<=n/\n<=5
theorem YZ {n:Nat}(h:jI n):n∈[1,2,3,4,5]:=by
 obtain⟨h1,h2⟩:=h
 rcases (by omega:n=1∨n=2∨n=3∨n=4∨n=5) with rfl |rfl |rfl |rfl |rfl<;>decide
theorem lB {n:Nat}(h:jI n) {x:List Int}(hx:x∈dB n):uI n x:=by
 have f:=(Jo n (YZ h)).2 x hx
 unfold C1 at f
 simp only[Zaw,Zbw,ZaF,List.any_eq_true,Bool.not_eq_true']at f
 obtain⟨⟨⟨⟨⟨⟨f1,f2⟩,f3⟩,f4⟩,f5⟩,f6⟩,f7⟩:=f
 obtain⟨q,_,hq⟩:=f4
 exact⟨f1,f2,fun q=> (f3 q (T.oN q)).1.1.1,fun q=> (f3 q (T.oN q)).1.1.2,fun q=> (f3 q (T.oN q)).1.2,fun q=> (f3 q (T.oN q)).2,⟨q,hq⟩,f5,f6,f7⟩
theorem Rq (l:List Int):(l.map V.int).map T.fF=l:=by
 rw[Zb0]
 exact(List.map_congr_left fun _ _=>rfl).trans (List.map_id _)
theorem Sl {a b:Int}{l m:List Int} :av (a::b::l) (a::b::m)=av l m:=by
 show(if a=a then (if b=b then av l m else decide (b<b)) else decide (a<a))=_
 rw[Zay rfl,Zay rfl]
theorem RX {n:Nat}{x:List Int}{q:Bool×Bool×Bool}(f:uI n x) (h:∀p,av (T.lY n n (x.map V.int) p) (T.lY n n (x.map V.int) q)=false):cU n q x=cm n x:=by
 have hk:∀p,T.lY n n (x.map V.int) p=(n:Int)::(n:Int)::cU n p x:=fun p=>by
  unfold T.lY
  rw[f.w p,f.h p,f.tr p,Rq]
 obtain⟨p,hp⟩:=f.ex
 have h1:=h p
 rw[hk,hk,Sl,hp]at h1
 exact Jj _ _ (f.le q) h1
structure i5 (n:Nat) (ks:List (List Int)):Prop where
 nd:ks.Nodup
 so:ks.Pairwise (fun a b=>av b a=false)
 mem:∀k,k∈ks↔∃x∈dB n,cm n x=k
theorem W6:∀{a b:List (List Int)},a.Nodup->b.Nodup->a.Pairwise (fun a b=>av b a=false)->b.Pairwise (fun a b=>av b a=false)->(∀k,k∈a↔k∈b)->a=b
 | [],[],_,_,_,_,_=>rfl
 | [],y::b,_,_,_,_,h=>absurd ((h y).mpr Zab) (by simp)
 |x::a,[],_,_,_,_,h=>absurd ((h x).mp Zab) (by simp)
 |x::a,y::b,n1,n2,p1,p2,h=>by
  obtain⟨n3,n4⟩:=Zbk.mp n1
  obtain⟨n5,n6⟩:=Zbk.mp n2
  obtain⟨p3,p4⟩:=Zbp.mp p1
  obtain⟨p5,p6⟩:=Zbp.mp p2
  have e:x=y:=by
   rcases Zaj.mp ((h x).mp Zab) with z |z
   ·exact z
   ·rcases Zaj.mp ((h y).mpr Zab) with z' |z'
    ·exact z'.symm
    ·exact Jj _ _ (p5 x z) (p3 y z')
  subst e
  rw[W6 n4 n6 p4 p6 fun k=> ⟨fun hk=> ?_,fun hk=> ?_⟩]
  ·rcases Zaj.mp ((h k).mp (Zaa _ hk)) with z |z
   ·exact absurd (z▸hk) n3
   ·exact z
  ·rcases Zaj.mp ((h k).mpr (Zaa _ hk)) with z |z
   ·exact absurd (z▸hk) n5
   ·exact z
theorem i5.eq {n:Nat}{a b:List (List Int)}(x:i5 n a) (y:i5 n b):a=b:=W6 x.nd y.nd x.so y.so fun k=> (x.mem k).trans (y.mem k).symm
theorem i5.len {n:Nat}{ks:List (List Int)}(h:jI n) (x:i5 n ks):ks.length<63:=by
 have p:=(Jo n (YZ h)).1
 have:∀(ks l:List (List Int)),ks.Nodup->(∀k∈ks,k∈l)->ks.length<=l.length:=fun ks=>by
  induction ks with
  |nil=>intro l _ _;exact Zaz _
  |cons k ks ih=>
   intro l nd hs
   obtain⟨n1,n2⟩:=Zbk.mp nd
   have hk:=hs k Zab
   have:=ih (l.erase k) n2 fun k' ay=> (List.mem_erase_of_ne fun z=>n1 (by rw[<-z];exact ay)).mpr (hs k' (Zaa _ ay))
   have pl:=(List.perm_cons_erase hk).length_eq
   rw[ZaJ]at pl |-
   omega
 have:=this ks ((dB n).map (cm n)) x.nd fun k hk=>by
  obtain⟨y,hy,e⟩:=(x.mem k).mp hk
  exact ZaC.mpr ⟨y,hy,e⟩
 rw[Zac]at this
 omega
abbrev uA:List Value:=[.type "ValueError",.type "Exception",.type "BaseException",.type "object"]
theorem R8 (n:Nat):eY n n (dh n):=by
 have e:rowsOf (dh n)=[]:=by
  unfold rowsOf dh
  rw[List.filter_eq_nil_iff]
  intro v hv
  rw[(List.mem_replicate.mp hv).2]
  simp
 refine⟨by unfold dh;rw[Zbc],fun r hr=> ?_,?_⟩
 ·rw[e]at hr;cases hr
 ·rw[e];exact .nil
theorem YC {H H':Hp}{a:Addr}(s:af H H') (h:H' a=none):H a=none:=by
 cases e:H a with
 |none=>rfl
 |some o=>rw[s _ _ e]at h;cases h
section
variable {P:Program}{w:World}{K:Zgc}{mg:Str->Option Value}{base:Heap}{cN:Addr}
abbrev sE:Stmt:=top 21
def vh:Sp:=fun vs H Q _=> ∃i a b:Int,vs=[.int i,.int a,.int b]/\a<=i/\i<=b/\Q .ah H
theorem AU:aQ ["number", "least", "most"] ["number", "least", "most"] (aw sE):=Zr (by decide+kernel)
theorem PM {f:Addr}{fd:FuncData}(F:aC K "need_whole_within" "need_whole_within" sE f fd) (D1:Def P w K mg base 2 "is_whole_within" ["thing", "least", "most"] (kG K)):aA P w K mg base az 3 f fd ["number", "least", "most"] vh:=by
 refine F.ok AU (fun vs H Q E h=> ?_) (fun aq A outer s H vs Q E hr h=> ?_)
 ·obtain⟨i,a,b,rfl,_⟩:=h
  rfl
 ·obtain⟨i,a,b,rfl,h1,h2,q⟩:=h
  refine⟨_,Zh (ZS (Z9 (ZT (Zf D1 hr (Za (pv 0) (Za (pv 1) (Za (pv 2) Zb)))))) Zs Zw),?_⟩
  refine⟨_,rfl,_,rfl,_,rfl,_,a,b,rfl,⟨_,.int i⟩,_,rfl,?_⟩
  have e:bH (.int i) a b=true:=by
   show(decide (a<=i)&&decide (i<=b))=true
   rw[Zat h1,Zat h2]
   rfl
  rw[e]
  exact aP q
def vg (K:Zgc) (cN:Addr):Sp:=fun vs H _ E=> ∃x,vs=[x,.int 1,.int 5]/\eA K H x/\bH x 1 5=false/\∀e H',af H H'->E (.ref e) (some cN) H'
theorem Rr {f:Addr}{fd:FuncData}(F:aC K "need_whole_within" "need_whole_within" sE f fd) (mN:mg "NoNumber" =some (.ref cN)) (xN:PySem.W.excIn K cN uA "ValueError.__new__" =true) (D1:Def P w K mg base 2 "is_whole_within" ["thing", "least", "most"] (kG K)):aA P w K mg base (cf P w) 3 f fd ["number", "least", "most"] (vg K cN):=by
 refine F.nT AU (fun vs H Q E h=> ?_) (fun aq A outer s H vs Q E hr h=> ?_)
 ·obtain⟨x,rfl,_⟩:=h
  rfl
 ·obtain⟨x,rfl,t,hw,q⟩:=h
  refine⟨_,Zh (ZS (Z9 (ZT (Zf D1 hr (Za (pv 0) (Za (pv 1) (Za (pv 2) Zb)))))) (Zh (RI PySem.F.excBase_ValueError mN xN rfl (Za (RF Jw (pv 1) Jw (pv 2) Jw) Zb))) Zw),?_⟩
  refine⟨x,rfl,_,rfl,_,rfl,x,1,5,rfl,t,_,rfl,?_⟩
  rw[hw]
  exact bg ⟨_,rfl,.d,_,rfl,1,rfl,.d,.d,_,rfl,.d,_,rfl,5,rfl,.d,.d,_,rfl,.d,fun z=> ⟨gR,fun e=>q e H (af.refl H)⟩⟩
abbrev sG:Stmt:=top 54
abbrev KW:List Str:=["number", "board"]
theorem vQ:aQ KW ["number"] (aw sG):=Zr (by decide+kernel)
def nE:Sp:=fun vs H Q _=> ∃n:Nat,vs=[.int n]/\jI n/\∀(q:Addr) (H':Hp) (ts:List V) (ks:List (List Int)),af H H'->H q=none->H' q=some (.lst ts)->Paired (bq H') ts ks->i5 n ks->Q (.ref q) H'
theorem Qa {f:Addr}{fd:FuncData}(F:aC K "kinds" "kinds" sG f fd) (G:Gs mg) (VP:Def P w K mg base 3 "need_whole_within" ["number", "least", "most"] vh) (VX:Def P w K mg base 13 "all_fits" ["board", "lay"] U.S.vH) (Ak:Def P w K mg base 10 "least_turned" ["board", "lay"] (T.vn K)):aA P w K mg base az 14 f fd ["number"] nE:=by
 obtain⟨Gv,hL⟩:=G.Bz
 refine F.ok vQ (fun vs H Q E h=> ?_) (fun aq A outer s H vs Q E hr h=> ?_)
 ·obtain⟨n,rfl,_⟩:=h
  rfl
 ·obtain⟨n,rfl,h5,q⟩:=h
  have hu:=qY hr
  refine⟨_,Zd (ZL (Zf VP (hr.mono .d) (Za (pv 0) (Za Zg (Za (Z6 (v:=.int 5) rfl hL ⟨_,rfl⟩) Zb)))))
   (Zd (Zo (i:=1) vQ.nd rfl (Or.inr rfl) (Zt (Za (pv 0) (Za (pv 0) Zb))))
   (Zh (Zm (ST.IG ["lay", "board"] 1 [1] rfl G.sorted (ZD (Zf VX hr (Za (pv 1) (zH (Zn QG (Zt (Za Jx Zb)) (pv 0)) Zb)))) (fun C s H fp=>pb 0) (fun C s H fp=>ZC)
    (fun C s H fp D=>ST.bL hu rfl (Zy (show nk (aG _ _ _ C s H fp) (pI K) from ZH) (Zf Ak (hr.mono .d) (Za (pv 1) (Za (pv 0) Zb))) Zg (fun _ _=>rfl))))))),?_⟩
  obtain⟨n1,n5⟩:=id h5
  refine aE ⟨_,rfl,(n:Int),1,5,rfl,.o,.o,?_⟩
  dsimp only
  refine aE (bp ⟨_,rfl,_,rfl,bf,fun b hb=>aO ?_⟩)
  obtain⟨H1,zz,s1,e1⟩:=aR (o:=.tup [V.int n,V.int n]) hb
  rw[zz]
  dsimp only[List.set]
  refine⟨_,rfl,gR,fun t ht=> ⟨_,rfl,t,(n:Int),[.ah],rfl,rfl,Zc,by simp,.o,.o,by simp;omega,fun c H3 s3 e3=> ?_⟩⟩
  have nN:=(U.S.de (o:=.tup [V.ah]) ht).trans s3
  rw[Za7,U.S.wX]at e3
  have bd:∀{H':Hp},af H1 H'->dP H' (.ref b) n n:=fun s=> ⟨ZJ (s _ _ e1),.o,.o,.o,.o⟩
  refine⟨b,c,(n:Int),(n:Int),dh n,rfl,bd nN,e3,R8 n,.o,.o,fun fa H4 ts s4 nf ef pr=> ?_⟩
  rw[Za7,show(dh n).length=n by unfold dh;rw[Zbc],C0]at pr
  have gY:=ZaA pr
  rw[Zac]at gY
  have mO:=(Jo n (YZ h5)).1
  refine⟨fa,rfl,⟨_,ai.of ef⟩,?_⟩
  refine ZG (xs:=ts) (fun j ys σ Hj=> ∃as v,ys=ST.enc as/\as.map (·.2)=((dB n).take j).map (cm n)/\(∀p∈as,Hj p.1=some (.tup (p.2.map V.int))/\p.2≠[])/\af H4 Hj/\σ=[v,some (.ref b)]) ⟨[],none,rfl,rfl,(fun p hp=>by cases hp),af.refl _,rfl⟩ (fun j ys σ Hj _ ⟨_,_,_,_,_,sj,_⟩=>ai.of (sj _ _ ef)) ?_ ?_
  ·rintro j y ys σ Hj hy ⟨as,v,rfl,ea,aM,sj,rfl⟩
   have hj:=(X8.mp hy).1
   obtain⟨bx,CA,t',rfl,et⟩:=ZV pr hy
   rw[ZaH]at CA
   obtain⟨x,hx,rfl⟩:=ZaB.mp CA
   have f:=lB h5 (Zap hx)
   refine aO ?_
   dsimp only[List.set]
   refine⟨_,rfl,_,rfl,b,t',x.map V.int,(n:Int),(n:Int),rfl,⟨bd (nN.trans (s4.trans sj)),sj _ _ et,f.ly⟩,fun v' q' H5 s5 led least=> ?_⟩
   obtain⟨tp,cb,u,rfl,h1,h2,h3⟩:=led
   rw[f.tr q',RX f least]at h3
   have Xw:as.length=j:=by
    have:=Zce List.length ea
    rw[Zac,Zac,ZaI,Nat.min_eq_left .o]at this
    exact this
   have fl:=lB h5 f.mem
   refine⟨tp,_,_,_,rfl,rfl,ag.of h1,cZ,as,u,cm n x,rfl,rfl,h3,fun p hp=>s5 _ _ (aM p hp).1,.o,as++[(u,cm n x)],_,rfl,?_,fun p hp=> ?_,sj.trans s5,rfl⟩
   ·rw[Zax,ea,ZaD,hx,Zax]
    rfl
   ·rcases ZaG.mp hp with hp |hp
    ·exact⟨s5 _ _ (aM p hp).1,(aM p hp).2⟩
    ·rw[Zao.mp hp];exact⟨h3,fl.ne⟩
  ·rintro ys σ Hj ⟨as,v,rfl,ea,aM,sj,rfl⟩
   rw[gY,ZaK]at ea
   refine⟨as,rfl,aM,fun q' bQ bz hq nd mem so jg=> ?_⟩
   have sA:=s1.trans (nN.trans (s4.trans sj))
   have sq:=U.S.de (o:=.lst bQ) hq
   refine q q' _ bQ bz (sA.trans sq) (YC sA hq) Zc (Paired.aS jg fun _ _ h=>h.same sq) ⟨nd,so,fun k=> ?_⟩
   rw[mem k,ea,ZaC]
abbrev jc:Stmt:=top 55
abbrev xn:List Str:=["number"]
theorem AX:aQ xn ["number"] (aw jc):=Zr (by decide+kernel)
def AY:Scope:=match cY jc with | [.Return (some (.ListComp _ _ sc _)) _]=>sc |_=>aw jc
def pC:Sp:=fun vs H Q _=> ∃n:Nat,vs=[.int n]/\jI n/\∀(q:Addr) (H':Hp) (ks:List (List Int)),af H H'->H q=none->i5 n ks->H' q=some (.lst ((ks.map fun k=> (dY n k:Int)).map V.int))->Q (.ref q) H'
theorem Qx {n:Nat}{x:List Int}(f:uI n x) {H:Hp}{v:V}{q:Bool×Bool×Bool}(h:T.ni n n (x.map V.int) H v q):zQ H v ([T.tW n n q,T.tH n n q],cU n q x):=by
 obtain⟨t,c,u,rfl,h1,h2,h3⟩:=h
 obtain⟨c',ec,hc⟩:=Zq h2.1
 cases ec
 rw[f.tr q]at h3
 exact⟨t,c,u,rfl,h1,hc,h3⟩
theorem Wn {α β γ:Type}{R:α->β->Prop}{S:α->γ->Prop}{g:β->γ} :∀{xs:List α}{ys:List β},Paired R xs ys->(∀x y,R x y->S x (g y))->Paired S xs (ys.map g)
 |_,_,.nil,_=> .nil
 |_,_,.cons h r,k=> .cons (k _ _ h) (Wn r k)
theorem Qb {f:Addr}{fd:FuncData}(F:aC K "kinds_many" "kinds_many" jc f fd) (G:Gs mg) (rn:Def P w K mg base 14 "kinds" ["number"] nE) (An:Def P w K mg base 9 "all_turned" ["board", "lay"] (T.pD K)):aA P w K mg base az 15 f fd ["number"] pC:=by
 refine F.ok AX (fun vs H Q E h=> ?_) (fun aq A outer s0 H0 vs Q E hr h=> ?_)
 ·obtain⟨n,rfl,_⟩:=h
  rfl
 ·obtain⟨n,rfl,h5,q⟩:=h
  have hu:=hr.units
  have xI:(A.deeper (envOfC "kinds_many" (aw jc) s0.heap.objs.size f aq)).units+5<cLine:=.o
  refine⟨_,Zh (Zm (ZA ["lay", "number"] 1 [0] (ZD (Zf rn hr (Za (pv 0) Zb))) (fun C s H fp=>pb 0) (fun C s H fp=>ZC)
   (fun C s H fp D=>bL rfl (show PE _ _ (uX K _) from Wk (X:=aG (bG az P w K mg base xn "kinds_many" (aw jc) f aq A outer s0 H0 E).dw ["lay", "number"] AY C s H fp) rfl xI rfl G.len rfl G.set (Zf An (hr.mono .d) (Za (Zt (Za (pv 1) (Za (pv 1) Zb))) (Za (pv 0) Zb))))))),?_⟩
  obtain⟨n1,n5⟩:=id h5
  refine⟨_,rfl,n,rfl,h5,fun fa H1 ts ks s1 nf ef pr ko=> ?_⟩
  have gY:=ZaA pr
  have mO:=ko.len h5
  refine⟨fa,rfl,⟨_,ai.of ef⟩,?_⟩
  refine ZG (xs:=ts) (fun j ys σ Hj=> ∃v,ys=((ks.take j).map fun k=> (dY n k:Int)).map V.int/\af H1 Hj/\σ=[v,some (.int n)]) ⟨none,rfl,af.refl _,rfl⟩ (fun j ys σ Hj _ ⟨_,_,sj,_⟩=>ai.of (sj _ _ ef)) ?_ ?_
  ·rintro j y ys σ Hj hy ⟨v,rfl,sj,rfl⟩
   have hj:=(X8.mp hy).1
   obtain⟨k,hk,t,rfl,et⟩:=ZV pr hy
   obtain⟨x,hx,e⟩:=(ko.mem k).mp (Zap hk)
   have MX:k∈dB n:=by rw[<-e];exact(lB h5 hx).mem
   have f:=lB h5 MX
   refine aO ?_
   dsimp only[List.set]
   refine⟨_,rfl,_,rfl,bf,fun b hb=> ?_⟩
   obtain⟨H2,zz,s2,e2⟩:=aR (o:=.tup [V.int n,V.int n]) hb
   rw[zz]
   refine⟨_,rfl,b,t,k.map V.int,(n:Int),(n:Int),rfl,⟨⟨ZJ e2,.o,.o,.o,.o⟩,(sj.trans s2) _ _ et,f.ly⟩,fun L H3 ps s3 e3 br=> ?_⟩
   refine⟨L,ps,xa n k,rfl,ai.of e3,Wn br fun _ _ h=>Qx f h,by rw[ZaA br];decide,?_⟩
   rw[f.pr]
   refine⟨by rw[Zac,Zac,ZaI,Zau];omega,_,?_,sj.trans (s2.trans s3),rfl⟩
   rw[ZaD,hk,Zax,Zax]
   rfl
  ·rintro ys σ Hj ⟨v,rfl,sj,rfl⟩ L hL
   rw[gY,ZaK]
   have sA:=s1.trans sj
   exact q L _ ks (sA.trans (U.S.de hL)) (YC sA hL) ko Zc
end
end U.K
namespace U.K
open PySem L2 PyProof.Rows PyProof.Rows.dc U.S
def oJ (n i j:Nat):List (List V):=((cR n (dh n) i).take j).flatMap (iF n (dh n) i)
theorem Tc {n i j:Nat}{b:List V}(e:(cR n (dh n) i)[j]? =some b):oJ n i (j+1)=oJ n i j++iF n (dh n) i b:=by
 unfold oJ
 rw[ZaD,e,ZcR]
 simp
theorem Rp {n i:Nat}(hi:i<n) (fs:List V):iF n (dh n) i fs=((((fV n).filter fun r=> !bD (.int r) fs).map fun r=>fs++[V.int r])).filter fun l=>bW l:=by
 unfold iF
 have:(dh n)[i]? =some .ah:=by unfold dh;rw[Zcg,Zay hi]
 rw[this]
 show((fV n).filter _).map _=_
 rw[List.filter_map,List.filter_filter]
 congr 1
 refine List.filter_congr fun r _=> ?_
 rw[Bool.and_comm]
 rfl
theorem Em {H:Hp}{L:Addr}{zs:List V}{o:HO}(e:H L=some (.lst zs)) {v:V}{k:List V}(h:bu H v k):bu (upd H L o) v k:=by
 obtain⟨t,rfl,h1⟩:=h
 refine⟨t,rfl,?_⟩
 rw[Zi (fun z=>by rw[z,e]at h1;cases h1)]
 exact h1
theorem Ra:∀n∈[1,2,3,4,5],∀i∈List.range 6,(cR n (dh n) i).length<=100:=by decide+kernel
section
variable {P:Program}{w:World}{K:Zgc}{mg:Str->Option Value}{base:Heap}{cN:Addr}
abbrev wC:Stmt:=top 71
abbrev KY:List Str:=["_law_number", "_law_found", "_law_line", "_law_longer", "_law_one", "_law_some"]
theorem lN:aQ KY ["_law_number"] (aw wC):=Zr (by decide+kernel)
def vA:Sp:=fun vs H Q _=> ∃n:Nat,vs=[.int n]/\jI n/\∀(q:Addr) (H':Hp) (ts:List V),af H H'->H q=none->H' q=some (.lst ts)->Paired (bq H') ts (dB n)->Q (.ref q) H'
theorem P9 {f:Addr}{fd:FuncData}(F:aC K "_law_full" "_law_full" wC f fd) (G:Gs mg) (VT:Def P w K mg base 2 "_law_unlike" ["_law_lay"] vp):aA P w K mg base az 3 f fd ["_law_number"] vA:=by
 refine F.ok lN (fun vs H Q E h=> ?_) (fun aq A outer s H vs Q E hr h=> ?_)
 ·obtain⟨n,rfl,_⟩:=h
  rfl
 ·obtain⟨n,rfl,h5,q⟩:=h
  refine⟨_,Zd (Zo (i:=1) lN.nd rfl (Or.inl rfl) (ZE (Za (Zt Zb) Zb)))
   (Zd (Z3 Zbv rfl (ZY rfl G.range (Za (pv 0) Zb)) (Zp (i:=2) lN.nd rfl (Or.inl rfl))
    (Zd (Zo (i:=3) lN.nd rfl (Or.inl rfl) (ZE Zb))
    (Zd (Z3 Zbv rfl (ZD (pv 1)) (Zp (i:=4) lN.nd rfl (Or.inr rfl))
     (Zd (Jc ["_law_row", "_law_one"] 1 [4] (i:=5) lN.nd rfl (Or.inl rfl) (ZY rfl G.range (Za (pv 0) Zb)) (fun C s H fp=>pb 0)
       (fun C s H fp=>Z5 (ZI (show bo (aG _ _ _ C s H fp) (compareOp .NotIn) (sP K true) from Jg) (pv 0) (pv 1) rfl))
       (fun C s H fp D=>bL rfl (Zn (show bo (aG _ _ _ C s H fp) (binaryOp .Add) (nP K) from nR) (pv 1) (Zt (Za (pv 0) Zb)))))
     (Zh (ZL (JR Zbt PySem.F.slot_list_extend PySem.F.type_list_extend JD (pv 3) (Za
      (ZA ["_law_lay"] 1 [] (ZD (pv 5)) (fun C s H fp=>pb 0)
       (fun C s H fp=>Z5 (ZT (Zf VT hr (Za (pv 0) Zb))))
       (fun C s H fp D=>bL rfl (pv 0))) Zb))))))
    (Zh (Zo (i:=1) lN.nd rfl (Or.inl rfl) (pv 3))))))
   (Zh (Zm (pv 1)))),?_⟩
  obtain⟨n1,n5⟩:=id h5
  refine aE (bp ⟨Zaz _,fun p hp=> ⟨gR,fun L0 oG=>aO ?_⟩⟩)
  dsimp only[List.set]
  have s1:=de (o:=.tup []) hp
  have e1:upd H p (.tup []) p=some (.tup []):=Zc
  generalize upd H p (HO.tup [])=H1 at s1 e1 oG
  obtain⟨H2,zz,s2,e2⟩:=aR (o:=.lst [.ref p]) oG
  rw[zz]
  have jN:=s1.trans s2
  have KU:=YC s1 oG
  refine aE ⟨_,rfl,(n:Int),rfl,.o,.o,?_⟩
  refine Ye (n:=(n:Int).toNat) (fun i σ H'=> ∃fa ts x2 x3 x4 x5,σ=[some (.int n),some (.ref fa),x2,x3,x4,x5]/\af H H'/\H fa=none/\H' fa=some (.lst ts)/\Paired (bu H') ts (cR n (dh n) i)) ⟨L0,_,_,_,_,_,rfl,jN,KU,e2,.cons ⟨p,rfl,s2 _ _ e1⟩ .nil⟩ ?_ ?_
  ·rintro i σ H3 aX ⟨fa,ts,x2,x3,x4,x5,rfl,s3,nU,jD,br⟩
   have hi:i<n:=by rw[Za7]at aX;exact aX
   rw[Int.zero_add]
   refine aO ?_
   dsimp only[List.set]
   have mO:=Ra n (YZ h5) i (ZaU.mpr .o)
   have gY:=ZaA br
   refine aE (bp ⟨Zaz _,fun L hL=>aO ?_⟩)
   dsimp only[List.set]
   have sL:=de (o:=.lst []) hL
   have eL:upd H3 L (.lst []) L=some (.lst []):=Zc
   have nL:=YC s3 hL
   generalize upd H3 L (HO.lst [])=H4 at sL eL
   refine aE ⟨_,rfl,fa,rfl,⟨ts,ai.of (sL _ _ jD)⟩,?_⟩
   refine Yz (xs:=ts) (fun j σ H5=> ∃zs x4 x5,σ=[some (.int n),some (.ref fa),some (.int (i:Int)),some (.ref L),x4,x5]/\af H3 H5/\H5 L=some (.lst zs)/\Paired (bu H5) zs (oJ n i j)/\zs.length<=j*7) ⟨_,_,_,rfl,sL,eL,.nil,Zaz _⟩ (fun j σ H5 _ ⟨_,_,_,_,s5,_⟩=>ai.of (s5 _ _ jD)) ?_ ?_
   ·rintro j v' σ H5 iI ⟨zs,x4,x5,rfl,s5,qK,pL,yh⟩
    obtain⟨fs,Cq,t,rfl,ht⟩:=ZV br iI
    have hj:j<ts.length:=(X8.mp iI).1
    obtain⟨Xv,_,ks,Ow⟩:=mL n (dh n) i fs (Zap Cq)
    have A7:lE fs:=fun x hx=>by
     rw[Ow]at hx
     obtain⟨k,_,rfl⟩:=ZaC.mp hx
     exact .inr ⟨k,rfl⟩
    have flat:fs.all eV=true:=ZaF.mpr fun x hx=>by
     rcases A7 x hx with z |⟨j,z⟩<;>rw[z]<;>rfl
    have xO:=s5 _ _ ht
    refine aO ?_
    dsimp only[List.set]
    refine aE ⟨_,rfl,(n:Int),rfl,.o,.o,?_⟩
    refine YD (n:=n) (fun k us aj H6=> ∃v,aj=[v,some (.ref t)]/\af H5 H6/\Paired (bu H6) us ((((fV n).take k).filter fun r=> !bD (.int r) fs).map fun r=>fs++[V.int r])/\us.length<=k) ⟨_,rfl,af.refl _,.nil,Zaz _⟩ ?_ ?_
    ·rintro k us aj H6 hk ⟨v0,rfl,s6,fW,tV⟩
     rw[Int.zero_add]
     refine aO ?_
     dsimp only[List.set]
     have BU:=s6 _ _ xO
     have et:(fV n).take (k+1)=(fV n).take k++[(k:Int)]:=by
      rw[ZaD]
      unfold fV
      rw[ZaH,List.getElem?_range hk]
      rfl
     refine⟨_,rfl,_,rfl,t,fs,rfl,.inr (ag.of BU),rfl,flat,_,rfl,?_⟩
     cases hn:bD (.int (k:Int)) fs with
     |true=>
      refine aP ⟨_,rfl,s6,?_,.o⟩
      rw[et,ZbC,Zax]
      simpa[hn] using fW
     |false=>
      refine bg ⟨_,rfl,_,rfl,gR,fun t8 xM=> ?_⟩
      obtain⟨H8,zz,s8,e8⟩:=aR (o:=.tup [.int (k:Int)]) xM
      rw[zz]
      refine zE (s8 _ _ BU) e8 (by simp;omega) fun t9 H9 s9 e9=> ⟨by rw[Zau];omega,_,rfl,s6.trans (s8.trans s9),?_,by rw[Zam];simp;omega⟩
      rw[et,ZbC,Zax]
      simp only[ZcY,hn,ZbY,Zch,List.filter_nil,ZaR,List.map_nil]
      exact ZbK (Paired.aS fW fun v q' hq=>bu.same hq (s8.trans s9)) ⟨t9,rfl,e9⟩
    rintro us aj H6 ⟨v0,rfl,s6,fW,tV⟩ S hS
    have lr:(fV n).length=n:=by unfold fV;rw[Zac,Zbz]
    rw[Zc3 .o]at fW
    obtain⟨H7,zz,sS,eS⟩:=aR (o:=.lst us) hS
    rw[zz]
    refine aO ?_
    dsimp only[List.set]
    have wN:=s6.trans sS
    have Dh:=wN _ _ qK
    have dD:Paired (bu H7) us (((fV n).filter fun r=> !bD (.int r) fs).map fun r=>fs++[V.int r]):=Paired.aS fW fun v q' hq=>bu.same hq sS
    have cE:=Tc Cq
    rw[Rp hi]at cE
    have Bi:∀m∈(((fV n).filter fun r=> !bD (.int r) fs).map fun r=>fs++[V.int r]),lE m/\m.length<=12:=fun m hm=>by
     obtain⟨r,_,rfl⟩:=ZaC.mp hm
     refine⟨fun x hx=> ?_,by rw[Zam];simp;omega⟩
     rcases ZaG.mp hx with z |z
     ·exact A7 x z
     ·exact .inr ⟨r,Zao.mp z⟩
    generalize (((fV n).filter fun r=> !bD (.int r) fs).map fun r=>fs++[V.int r])=ms at dD cE Bi
    have xu:=ZaA dD
    refine⟨_,rfl,.inl ⟨rfl,_,ai.of Dh⟩,_,rfl,S,rfl,⟨_,ai.of eS⟩,?_⟩
    refine ZG (xs:=us) (fun k ws aj H8=> ∃v,aj=[v]/\af H7 H8/\Paired (bu H8) ws ((ms.take k).filter fun l=>bW l)/\ws.length<=k) ⟨_,rfl,af.refl _,.nil,Zaz _⟩ (fun k ws aj H8 _ ⟨_,_,s8,_⟩=>ai.of (s8 _ _ eS)) ?_ ?_
    ·rintro k u ws aj H8 hu ⟨v0,rfl,s8,pK,yg⟩
     obtain⟨m,hm,tm,rfl,em⟩:=ZV dD hu
     have hk:k<us.length:=(X8.mp hu).1
     obtain⟨mo,ml⟩:=Bi m (Zap hm)
     refine aO ?_
     dsimp only[List.set]
     have et:ms.take (k+1)=ms.take k++[m]:=by rw[ZaD,hm];rfl
     refine⟨_,rfl,tm,m,rfl,s8 _ _ em,mo,ml,fun H9 s9=> ⟨_,rfl,?_⟩⟩
     cases hn:bW m with
     |true=>
      refine bg ⟨_,rfl,by rw[Zau];omega,_,rfl,s8.trans s9,?_,by rw[Zam];simp;omega⟩
      rw[et,ZbC]
      simp only[ZcY,hn,Zch,List.filter_nil]
      exact ZbK (Paired.aS pK fun v q' hq=>bu.same hq s9) ⟨tm,rfl,(s8.trans s9) _ _ em⟩
     |false=>
      refine aP ⟨_,rfl,s8.trans s9,?_,.o⟩
      rw[et,ZbC]
      simpa[hn] using Paired.aS pK fun v q' hq=>bu.same hq s9
    ·rintro ws aj H8 ⟨v0,rfl,s8,pK,yg⟩ M hM
     rw[xu,ZaK]at pK
     obtain⟨H9,zz,sM,eM⟩:=aR (o:=.lst ws) hM
     rw[zz]
     have wM:=s8.trans sM
     have zh:=wM _ _ Dh
     refine⟨L,M,zs,ws,rfl,rfl,zh,eM,by rw[Zau];omega,iA ?_⟩
     refine⟨_,_,_,rfl,lO (s5.trans (wN.trans wM)) hL,Zc,?_,by rw[Zam];omega⟩
     rw[cE]
     exact Y5 (Paired.aS pL fun v q' hq=>Em zh (bu.same hq (wN.trans wM))) (Paired.aS pK fun v q' hq=>Em zh (bu.same hq sM))
   ·rintro σ H5 ⟨zs,x4,x5,rfl,s5,qK,pL,yh⟩
    dsimp only
    refine bp ⟨_,rfl,aO ?_⟩
    dsimp only[List.set]
    refine⟨L,zs,_,_,_,_,rfl,s3.trans s5,nL,qK,?_⟩
    have e:oJ n i ts.length=cR n (dh n) (i+1):=by
     unfold oJ
     rw[gY,ZaK]
     rfl
    rw[<-e]
    exact pL
  ·rintro σ H3 ⟨fa,ts,x2,x3,x4,x5,rfl,s3,nU,jD,br⟩
   rw[Za7,C0]at br
   refine⟨_,rfl,q fa H3 ts s3 nU jD ?_⟩
   have:∀{ts:List V}{l:List (List Int)},Paired (bu H3) ts (l.map fun x=>x.map V.int)->Paired (bq H3) ts l:=fun {ts l} h=>by
    induction l generalizing ts with
    |nil=>cases h;exact .nil
    |cons x l ih=>cases h with |cons h r=>exact .cons h (ih r)
   exact this br
end
def encD (n:Nat) (kl:List (List Int)):List (List Key×V):=kl.map fun k=> (k.map Sum.inl,V.int (dY n k))
theorem UU {a b:List Int}(h:(a.map Sum.inl:List Key)=b.map Sum.inl):a=b:=(List.map_inj_right (fun _ _ z=>by injection z)).mp h
theorem Qz {x:V}{r:List V} :eW (x::r) 0=some x:=by
 unfold eW ji
 simp
theorem Q4 (n:Nat) (kl:List (List Int)) (k:List Int):((encD n kl).any fun kv=>decide (kv.1=(k.map Sum.inl:List Key)))=decide (k∈kl):=by
 rw[Zb6,List.any_eq_true,Zbw]
 constructor
 ·rintro⟨kv,yi,e⟩
  obtain⟨k',ay,rfl⟩:=ZaC.mp yi
  rw[Zbw]at e
  rw[<-UU e]
  exact ay
 ·intro h
  exact⟨_,ZaC.mpr ⟨k,h,rfl⟩,Zat rfl⟩
theorem QL (n:Nat) (kl:List (List Int)) (k:List Int):putK (encD n kl) (k.map Sum.inl) (.int (dY n k))=encD n (if k∈kl then kl else kl++[k]):=by
 unfold putK
 rw[Q4]
 by_cases h:k∈kl
 ·rw[Zat h,Zay rfl,Zay h]
  unfold encD
  rw[Zb0]
  refine List.map_congr_left fun k' _=> ?_
  show(if (k'.map Sum.inl:List Key)=k.map Sum.inl then _ else _)=_
  split
  ·rename_i e
   rw[UU e]
  ·rfl
 ·rw[Zaq h,Zav Zag,Zav h]
  unfold encD
  rw[Zax]
  rfl
theorem QT {n:Nat}{kl:List (List Int)}{k:List Int}(h:k∈kl):bV (encD n kl) (k.map Sum.inl)=some (.int (dY n k)):=by
 induction kl with
 |nil=>cases h
 |cons x kl ih=>
  show bV ((x.map Sum.inl,V.int (dY n x))::encD n kl) _=_
  by_cases e:x=k
  ·subst e
   exact ZQ rfl
  ·rw[ZR (fun z=>e (UU z))]
   rcases Zaj.mp h with rfl |h
   ·exact absurd rfl e
   ·exact ih h
theorem Vk {n:Nat}{x:List Int}(f:uI n x) {ks:List (List Int)}(nd:ks.Nodup) (mem:∀k,k∈ks↔k∈T.da.map fun q=>cU n q x) (so:ks.Pairwise (fun a b=>av b a=false)):∃r,ks=cm n x::r/\ks.length=dY n x:=by
 obtain⟨q,hq⟩:=f.ex
 have hl:cm n x∈ks:=(mem _).mpr (ZaC.mpr ⟨q,T.oN q,hq⟩)
 have len:ks.length=dY n x:=by
  unfold dY gF
  have p:=HC.sR (ks:=HS.met (fun i=> (T.da.map fun q=>cU n q x).getD i []) (T.da.map fun q=>cU n q x).length) (l:=ks) (HC.pQ _ _) (fun k hk=> (mem k).mpr ((Wa k).mp hk)) ?_
  ·exact p.length_eq
  ·have p2:=HC.sR (ks:=ks) (l:=HS.met (fun i=> (T.da.map fun q=>cU n q x).getD i []) (T.da.map fun q=>cU n q x).length) nd (fun k hk=> (Wa k).mpr ((mem k).mp hk))
   by_cases hc:(HS.met (fun i=> (T.da.map fun q=>cU n q x).getD i []) (T.da.map fun q=>cU n q x).length).length<=ks.length
   ·exact Nat.le_of_eq (p2 hc).length_eq.symm
   ·omega
 cases ks with
 |nil=>cases hl
 |cons a r=>
  refine⟨r,?_,len⟩
  obtain⟨p,_,hp⟩:=ZaC.mp ((mem a).mp Zab)
  have h1:=f.le p
  rw[hp]at h1
  have h2:av (cm n x) a=false:=by
   rcases Zaj.mp hl with e |e
   ·rw[e];exact Ji a
   ·exact(Zbp.mp so).1 _ e
  rw[Jj _ _ h1 h2]
section
variable {P:Program}{w:World}{K:Zgc}{mg:Str->Option Value}{base:Heap}{cN:Addr}
abbrev sI:Stmt:=top 72
abbrev KZ:List Str:=["_law_number", "_law_found", "_law_board", "_law_lay", "_law_there"]
theorem pG:aQ KZ ["_law_number"] (aw sI):=Zr (by decide+kernel)
def sf:Sp:=fun vs H Q _=> ∃n:Nat,vs=[.int n]/\jI n/\∀(d:Addr) (H':Hp) (kl:List (List Int)),af H H'->H d=none->kl.Nodup->(∀k,k∈kl↔∃x∈dB n,cm n x=k)->H' d=some (.dT (encD n kl))->Q (.ref d) H'
theorem P8 {f:Addr}{fd:FuncData}(F:aC K "_law_counts" "_law_counts" sI f fd) (G:Gs mg) (VV:Def P w K mg base 3 "_law_full" ["_law_number"] vA) (Dat:Def P w K mg base 1 "_law_all_turns" [] T.vG) (Ak:Def P w K mg base 2 "_law_turned" ["_law_board", "_law_lay", "_law_turn_here"] (T.vq K)):aA P w K mg base az 4 f fd ["_law_number"] sf:=by
 refine F.ok pG (fun vs H Q E h=> ?_) (fun aq A outer s H vs Q E hr h=> ?_)
 ·obtain⟨n,rfl,_⟩:=h
  rfl
 ·obtain⟨n,rfl,h5,q⟩:=h
  have hu:=hr.units
  have jS:=qY hr
  have Mc:(A.deeper (envOfC "_law_counts" (aw sI) s.heap.objs.size f aq)).units+4<cLine:=.o
  refine⟨_,Zd (YB (Zt (Za RE (Za (Zt (Za (pv 0) (Za (pv 0) Zb))) Zb))) (ZO rfl (Zj (Zp (i:=1) pG.nd rfl (Or.inl rfl)) (Zj (Zp (i:=2) pG.nd rfl (Or.inr rfl)) ZF))))
   (Zd (Z3 Zbv rfl (ZD (Zf VV hr (Za (pv 0) Zb))) (Zp (i:=3) pG.nd rfl (Or.inr rfl))
    (Zd (Zo (i:=4) pG.nd rfl (Or.inl rfl) (Vg rfl (by exact Mc) rfl G.sorted rfl G.set (ZA ["_law_turn_here", "_law_board", "_law_lay"] 1 [2,3] (ZD (T.IH Dat (hr.mono .d))) (fun C s H fp=>pb 0) (fun C s H fp=>ZC)
     (fun C s H fp D=>bL rfl (Zf Ak (hr.mono .d) (Za (pv 1) (Za (pv 2) (Za (pv 0) Zb))))))))
    (Zh (QK jS (pv 1) (Zy ZN (pv 4) Zg (fun _ _=>rfl)) (Zk Zx rfl G.len Zc6 (Za (pv 4) Zb)) rfl))))
   (Zh (Zm (pv 1)))),?_⟩
  obtain⟨n1,n5⟩:=id h5
  refine aE (bp fun d hd=> ⟨_,rfl,_,rfl,bf,fun b hb=> ⟨bf,fun t ht=> ?_⟩⟩)
  have s1:=de (o:=.dT []) hd
  have e1:upd H d (.dT []) d=some (.dT []):=Zc
  generalize upd H d (HO.dT [])=H1 at s1 e1 hb ht
  have s2:=de (o:=.tup [V.int n,V.int n]) hb
  have e2:upd H1 b (.tup [V.int n,V.int n]) b=some (.tup [V.int n,V.int n]):=Zc
  generalize upd H1 b (HO.tup [V.int n,V.int n])=H2 at s2 e2 ht
  have s3:=de (o:=.tup [V.ref d,V.ref b]) ht
  refine⟨t,_,rfl,ag.of Zc,rfl,_,_,rfl,_,_,rfl,rfl,?_⟩
  dsimp only[List.set]
  generalize upd H2 t (HO.tup [V.ref d,V.ref b])=H3 at s3
  refine aE ⟨_,rfl,n,rfl,h5,fun fa H4 ts s4 nf ef pr=> ⟨fa,rfl,⟨_,ai.of ef⟩,?_⟩⟩
  have ed:=(s2.trans (s3.trans s4)) _ _ e1
  have eb:=(s3.trans s4) _ _ e2
  have By:b≠d:=Wt eb ed (by intro z;cases z)
  have KD:fa≠d:=Wt ef ed (by intro z;cases z)
  have gY:=ZaA pr
  have HW:=s1.trans (s2.trans (s3.trans s4))
  refine Yz (xs:=ts) (fun j σ Hj=> ∃x3 x4,σ=[some (.int n),some (.ref d),some (.ref b),x3,x4]/\bZ d H4 Hj/\Hj d=some (.dT (encD n (ST.fh (((dB n).take j).map (cm n)))))) ⟨_,_,rfl,bZ.refl _ _,ed⟩ (fun j σ Hj _ ⟨_,_,_,sx,_⟩=>ai.of (sx _ _ ef KD)) ?_ ?_
  ·rintro j v σ H5 hv ⟨x3,x4,rfl,sx,um⟩
   have hj:=(X8.mp hv).1
   obtain⟨x,hx,tx,rfl,et⟩:=ZV pr hv
   have f:=lB h5 (Zap hx)
   have Om:=sx _ _ et (Wt et ed (by intro z;cases z))
   have Oz:=sx _ _ eb By
   refine aO ?_
   dsimp only[List.set]
   refine aE (bp ⟨rfl,fun L H6 Gn s6 e6 fW=> ⟨L,rfl,⟨_,ai.of e6⟩,?_⟩⟩)
   have l6:=ZaA fW
   have l8:T.da.length=8:=rfl
   refine ZG (xs:=Gn) (fun k us aj H7=> ∃v,aj=[v,some (.ref b),some (.ref tx)]/\af H6 H7/\Paired (bq H7) us ((T.da.take k).map fun q=>cU n q x)) ⟨_,rfl,af.refl _,.nil⟩ (fun k us aj H7 _ ⟨_,_,s7,_⟩=>ai.of (s7 _ _ e6)) ?_ ?_
   ·rintro k u us aj H7 cq ⟨v0,rfl,s7,dD⟩
    obtain⟨q',cW,tq,rfl,Ol⟩:=ZV fW cq
    have l7:=ZaA dD
    rw[Zac,ZaI]at l7
    refine aO ?_
    dsimp only[List.set]
    refine⟨_,rfl,_,rfl,_,rfl,b,tx,tq,x.map V.int,(n:Int),(n:Int),q',rfl,⟨⟨ZJ ((s6.trans s7) _ _ Oz),.o,.o,.o,.o⟩,(s6.trans s7) _ _ Om,f.ly⟩,s7 _ _ Ol,fun u8 H8 s8 e8=> ⟨by rw[Zau];omega,_,rfl,s7.trans s8,?_⟩⟩
    rw[f.tr q']at e8
    rw[ZaD,cW,Zax]
    exact ZbK (Paired.aS dD fun _ _ h=>h.same s8) ⟨u8,rfl,e8⟩
   ·rintro us aj H7 ⟨v0,rfl,s7,dD⟩ M hM
    rw[l6,ZaK]at dD
    obtain⟨H8,zz,sM,eM⟩:=aR (o:=.lst us) hM
    rw[zz]
    have xu:=ZaA dD
    refine⟨M,us,_,rfl,ai.of eM,Paired.aS dD fun _ _ h=>h.same sM,fun k hk=> ?_,by rw[xu,Zac];decide,fun q' bQ bz hq nd mem so jg=>aO ?_⟩
    ·obtain⟨q',_,rfl⟩:=ZaC.mp hk
     have h1:=Zce List.length (f.tr q')
     rw[T.lW,Zac,f.w q',Za7]at h1
     intro z
     rw[z]at h1
     simp at h1
     omega
    dsimp only[List.set]
    obtain⟨r,er,hlen⟩:=Vk f nd mem so
    have lv:=ZaA jg
    subst er
    obtain⟨H9,zz,sq,eq⟩:=aR (o:=.lst bQ) hq
    rw[zz]
    have A1:=s6.trans (s7.trans (sM.trans sq))
    cases jg with
    |cons h0 cw=>
     rename_i Xj vr
     obtain⟨tb,rfl,jT⟩:=h0
     have Mf:H9 tb=some (.tup (((cm n x).map Sum.inl:List Key).map kV)):=by rw[zG];exact sq _ _ jT
     have kp:=ST.lX _ (((dB n).take j).map (cm n)) rfl
     have mO:=(Jo n (YZ h5)).1
     refine⟨_,rfl,q',_,rfl,.inl (ai.of eq),_,rfl,_,rfl,q',_,_,_,rfl,rfl,ai.of eq,Qz,d,_,rfl,rp.t (A1 _ _ um) Mf ?_,_,_,rfl,sx.trans (A1.x.trans bZ.upd),?_⟩
     ·unfold encD
      rw[Zac,Zau]
      have:=kp.2.2
      rw[Zac,ZaI]at this
      omega
     ·rw[Zc,lv,hlen,<-f.cnt,QL,ZaD,hx]
      show _=some (HO.dT (encD n (ST.fh (((dB n).take j++[x]).map (cm n)))))
      rw[Zax]
      show _=some (HO.dT (encD n (ST.fh (((dB n).take j).map (cm n)++[cm n x]))))
      rw[ST.xy]
  ·rintro σ H5 ⟨x3,x4,rfl,sx,um⟩
   rw[gY,ZaK]at um
   obtain⟨k1,k2,k3⟩:=ST.lX _ ((dB n).map (cm n)) rfl
   have sA:af H H5:=fun c o hc=>sx _ _ (HW _ _ hc) (Ze hc hd)
   refine⟨_,rfl,q d H5 _ sA hd k1 (fun k=> ?_) um⟩
   rw[k2 k,ZaC]
end
end U.K
namespace U.K
open PySem L2 PyProof.Rows PyProof.Rows.dc
section
variable {P:Program}{w:World}{K:Zgc}{mg:Str->Option Value}{base:Heap}{cN:Addr}
abbrev wg:Stmt:=top 63
def r9 (K:Zgc):Sp:=fun vs H Q _=> ∃q:Addr,vs=[.ref q,.int 1,.int 5]/\T.kq H q/\∀v H',bZ q H H'->T.kq H' q->eA K H' v->bH v 1 5=false->v≠.ref q->Q v H'
theorem AS:aQ ["_law_state_here", "_law_low", "_law_high", "_law_some"] ["_law_state_here", "_law_low", "_law_high"] (aw wg):=Zr (by decide+kernel)
theorem PL {f:Addr}{fd:FuncData}(F:aC K "_law_no_number" "_law_no_number" wg f fd) (D1:Def P w K mg base 1 "_law_take" ["_law_state_here", "_law_many"] T.pA):aA P w K mg base az 2 f fd ["_law_state_here", "_law_low", "_law_high"] (r9 K):=by
 refine F.ok AS (fun vs H Q E h=> ?_) (fun aq A outer s H vs Q E hr h=> ?_)
 ·obtain⟨q,rfl,_⟩:=h
  rfl
 ·obtain⟨q,rfl,st,k⟩:=h
  refine⟨_,Zd (Zo (i:=3) AS.nd rfl (Or.inl rfl) (ZE (Za (Zn ZW (pv 1) Zg) (Za (Zn YJ (pv 2) Zg) (Za Jx (Za Wl (Za Jw (Za (Zt (Za (pv 1) Zb)) (Za (ZE (Za (pv 1) Zb)) (Za (Zn Wo Zg Zg) (Za (Zn ZW Zg (Zn Wo Zg Zg)) (Za Wl Zb))))))))))))
   (Zh (Zm (Zy ZN (pv 3) (Zf D1 hr (Za (pv 0) (Za Zg Zb))) (fun _ _=>rfl)))),?_⟩
  refine aE (bp ⟨_,rfl,_,_,rfl,rfl,_,rfl,_,_,rfl,rfl,_,rfl,gR,fun t ht=> ?_⟩)
  obtain⟨H1,zz,s1,e1⟩:=aR (o:=.tup [V.int 1]) ht
  rw[zz]
  refine⟨_,rfl,gR,fun m hm=> ?_⟩
  have s2:=U.S.de (o:=.lst [V.int 1]) hm
  have e2:upd H1 m (.lst [V.int 1]) m=some (.lst [V.int 1]):=Zc
  have nm:=YC s1 hm
  generalize upd H1 m (HO.lst [V.int 1])=H2 at s2 e2
  refine⟨_,_,rfl,rfl,⟨.d,.d,.d⟩,_,_,rfl,rfl,⟨.d,.d,.d⟩,_,_,rfl,rfl,(by show 10<=sizeLine;decide),fun L hL=>aO ?_⟩
  dsimp only[List.set]
  generalize hS:[V.int (1 - 1),V.int (5+1),V.ah,V.bl true,V.str "0",V.ref t,V.ref m,V.int (10^(39:Int).toNat),V.int (0 - 10^(39:Int).toNat),V.bl false]=S
  have lS:S.length=10:=by rw[<-hS];rfl
  show uV _ _ [some (.ref q),some (.int 1),some (.int 5),some (.ref L)] (upd H2 L (.lst S))
  obtain⟨H3,zz,s3,e3⟩:=aR (o:=.lst S) hL
  rw[zz]
  have sA:=s1.trans (s2.trans s3)
  have fw:=st.same sA
  obtain⟨u0,v0,zb,_⟩:=id st
  have Bl:t≠q:=fun z=>by rw[z,zb]at ht;cases ht
  have Bs:m≠q:=fun z=>by rw[z,zb]at nm;cases nm
  have KR:L≠q:=fun z=>by
   have:=(s1.trans s2) _ _ zb
   rw[<-z,hL]at this
   cases this
  refine⟨_,rfl,_,rfl,q,10,rfl,fw,.d,.d,fun r o h0 XN kF=> ?_⟩
  have x4:bZ q H3 (upd H3 q o):=bZ.upd
  have ar:r.toNat<S.length:=by rw[lS];omega
  have qq:=Zai ar
  have oE:=YE qq
  rw[Int.toNat_of_nonneg h0]at oE
  refine⟨L,_,_,_,rfl,rfl,ai.of (x4 _ _ e3 KR),oE,?_⟩
  have dH:S[r.toNat]∈S:=Zcx ar
  generalize S[r.toNat]=v at dH
  have IM:(1000:Int)<=10^(39:Int).toNat:=.d
  have good:eA K (upd H3 q o) v/\bH v 1 5=false/\v≠.ref q:=by
   rw[<-hS]at dH
   generalize (10:Int)^(39:Int).toNat=Xn at dH IM
   have wf:∀i:Int,(i<1∨5<i)->bH (.int i) 1 5=false:=fun i h=>by
    show(decide (1<=i)&&decide (i<=5))=false
    rcases h with h |h
    ·rw[Zaq .o,Bool.false_and]
    ·rw[Zaq (show ¬i<=5 by omega),Zc0]
   simp only[Zaj,Za5,Zb4]at dH
   rcases dH with rfl |rfl |rfl |rfl |rfl |rfl |rfl |rfl |rfl |rfl
   ·exact⟨⟨_,.int _⟩,wf _ .o,fun z=>by cases z⟩
   ·exact⟨⟨_,.int _⟩,wf _ .o,fun z=>by cases z⟩
   ·exact⟨⟨_,.ah⟩,rfl,fun z=>by cases z⟩
   ·exact⟨⟨_,.bl _⟩,rfl,fun z=>by cases z⟩
   ·exact⟨⟨_,.str _⟩,rfl,fun z=>by cases z⟩
   ·exact⟨⟨_,.tup (x4 _ _ ((s2.trans s3) _ _ e1) Bl)⟩,rfl,fun z=>Bl (by cases z;rfl)⟩
   ·exact⟨⟨_,.lst (x4 _ _ (s3 _ _ e2) Bs)⟩,rfl,fun z=>Bs (by cases z;rfl)⟩
   ·exact⟨⟨_,.int _⟩,wf _ .o,fun z=>by cases z⟩
   ·exact⟨⟨_,.int _⟩,wf _ .o,fun z=>by cases z⟩
   ·exact⟨⟨_,.bl _⟩,rfl,fun z=>by cases z⟩
  exact k v _ (fun c u hc hn=>x4 _ _ (sA _ _ hc) hn) kF good.1 good.2.1 good.2.2
def ff (K:Zgc) (cN:Addr):Sp:=fun vs H _ E=> ∃x,vs=[x]/\eA K H x/\bH x 1 5=false/\∀e H',af H H'->E (.ref e) (some cN) H'
theorem PD {f:Addr}{fd:FuncData}(F:aC K "kinds" "kinds" sG f fd) (G:Gs mg) (R1:eZ P w K mg base 3 "need_whole_within" ["number", "least", "most"] (vg K cN)):aA P w K mg base (cf P w) 14 f fd ["number"] (ff K cN):=by
 obtain⟨Gv,hL⟩:=G.Bz
 refine F.nT vQ (fun vs H Q E h=> ?_) (fun aq A outer s H vs Q E hr h=> ?_)
 ·obtain⟨x,rfl,_⟩:=h
  rfl
 ·obtain⟨x,rfl,t,hw,q⟩:=h
  refine⟨_,Zd (ZL (Fo R1 (hr.mono .d) (Za (pv 0) (Za Zg (Za (Z6 (v:=.int 5) rfl hL ⟨_,rfl⟩) Zb))))) Zs,?_⟩
  exact⟨x,rfl,x,rfl,t,hw,q⟩
theorem PF {f:Addr}{fd:FuncData}(F:aC K "kinds_many" "kinds_many" jc f fd) (G:Gs mg) (VA:eZ P w K mg base 14 "kinds" ["number"] (ff K cN)) (An:Def P w K mg base 9 "all_turned" ["board", "lay"] (T.pD K)):aA P w K mg base (cf P w) 15 f fd ["number"] (ff K cN):=by
 refine F.nT AX (fun vs H Q E h=> ?_) (fun aq A outer s0 H0 vs Q E hr h=> ?_)
 ·obtain⟨x,rfl,_⟩:=h
  rfl
 ·obtain⟨x,rfl,t,hw,q⟩:=h
  have hu:=hr.units
  have xI:(A.deeper (envOfC "kinds_many" (aw jc) s0.heap.objs.size f aq)).units+5<cLine:=.o
  refine⟨_,Zh (Zm (ZA ["lay", "number"] 1 [0] (ZD (Fo VA hr (Za (pv 0) Zb))) (fun C s H fp=>pb 0) (fun C s H fp=>ZC)
   (fun C s H fp D=>bL rfl (show PE _ _ (uX K _) from Wk (X:=aG (bG (cf P w) P w K mg base xn "kinds_many" (aw jc) f aq A outer s0 H0 E).dw ["lay", "number"] AY C s H fp) rfl xI rfl G.len rfl G.set (Zf An (hr.mono .d) (Za (Zt (Za (pv 1) (Za (pv 1) Zb))) (Za (pv 0) Zb))))))),?_⟩
  exact⟨x,rfl,x,rfl,t,hw,q⟩
def mZ (R:Hp->V->V->Prop) (H:Hp) (x y:V):Prop:=∃(a b:Addr) (xs ys:List V),x=.ref a/\y=.ref b/\H a=some (.lst xs)/\H b=some (.lst ys)/\Paired (R H) xs ys/\xs.length<=1000
theorem QZ {R:Hp->V->V->Prop}(hR:∀{H H':Hp}{x y:V},R H x y->af H H'->R H' x y) {H H':Hp}{x y:V}(r:T.kr R H x y) (s:af H H'):T.kr R H' x y:=by
 obtain⟨a,b,xs,ys,e1,e2,h1,h2,pr,hl⟩:=r
 exact⟨a,b,xs,ys,e1,e2,s _ _ h1,s _ _ h2,Paired.aS pr fun _ _ q=>hR q s,hl⟩
theorem Ug {R:Hp->V->V->Prop}{k:Nat}(hR:∀{H H':Hp}{x y:V},R H x y->af H H'->R H' x y) {f:Addr}{fd:FuncData}(F:aC K "_law_same" "_law_same" T.pH f fd) (G:Gs mg) (D:Def P w K mg base k "_law_same" ["_law_found", "_law_due"] (T.gE R)):
  aA P w K mg base az (k+1) f fd ["_law_found", "_law_due"] (T.gE (mZ R)):=by
 refine F.ok T.vL (fun vs H Q E h=> ?_) (fun aq A outer s H vs Q E hr h=> ?_)
 ·obtain⟨x,y,rfl,_⟩:=h
  rfl
 ·obtain⟨x,y,rfl,⟨a,b,xs,ys,rfl,rfl,ha,hb,pr,hl⟩,q⟩:=h
  refine⟨_,Zd (ZS (ZT (Zk (Y4 (a:= "list") (b:= "tuple")) rfl G.isinstance Za4 (Za (pv 1) (Za (Zt (Za (ZB (v:=.ty "list") rfl G.list Zes rfl) (Za (ZB (v:=.ty "tuple") rfl G.tuple ZcN rfl) Zb))) Zb))))
    (Zd (ZS (PW.pt (JQ (ZI Uf (Zk (Zv (c:= "list")) rfl G.isinstance Za4 (Za (pv 0) (Za (ZB (v:=.ty "list") rfl G.list Zes rfl) Zb))) (Zk (Zv (c:= "list")) rfl G.isinstance Za4 (Za (pv 1) (Za (ZB (v:=.ty "list") rfl G.list Zes rfl) Zb))) (cC _))
      (YI (ZI Uf (Zk (Zv (c:= "tuple")) rfl G.isinstance Za4 (Za (pv 0) (Za (ZB (v:=.ty "tuple") rfl G.tuple ZcN rfl) Zb))) (Zk (Zv (c:= "tuple")) rfl G.isinstance Za4 (Za (pv 1) (Za (ZB (v:=.ty "tuple") rfl G.tuple ZcN rfl) Zb))) (cC _))))) Zs Zw)
    (Zh (Zm (Yk (Yq YG (Zk Zx rfl G.len Zc6 (Za (pv 0) Zb)) (Zk Zx rfl G.len Zc6 (Za (pv 1) Zb)) (cC _))
     (Yi (Zk Yo rfl G.all Zfy (Za (ZA ["_law_one", "_law_other"] 2 [] (EK rfl G.zip (Za (pv 0) (Za (pv 1) Zb)))
      (fun C s H fp=>show PG (aG _ _ _ C s H fp) _ (gJ K 2 (bR (bF 0) (bR (bF 1) gK))) from ZO rfl (Zj (pb 0) (Zj (pb 1) ZF))) (fun C s H fp=>ZC)
      (fun C s H fp D'=>bL rfl (Zf D hr (Za (pv 0) (Za (pv 1) Zb))))) Zb))))))) Zw) Zs,?_⟩
  refine⟨_,rfl,bf,fun t ht=> ?_⟩
  obtain⟨H1,zz,s1,e1⟩:=aR (o:=.tup [V.ty "list",V.ty "tuple"]) ht
  rw[zz]
  have gH:=s1 _ _ ha
  have cX:=s1 _ _ hb
  refine⟨_,t,_,_,rfl,ag.of e1,.inr (.inr (.inl ⟨b,ys,rfl,cX,rfl⟩)),(show _=some true from rfl),_,rfl,bg ?_⟩
  refine⟨_,rfl,_,_,_,rfl,.lst gH,(show _=some true from rfl),_,rfl,_,_,_,rfl,.lst cX,(show _=some true from rfl),rfl,_,rfl,aP ?_⟩
  refine⟨_,rfl,_,_,_,rfl,.lst gH,(show _=some false from rfl),_,rfl,_,_,_,rfl,.lst cX,(show _=some false from rfl),rfl,_,rfl,aP ?_⟩
  have hlen:xs.length=ys.length:=ZaA pr
  refine⟨_,rfl,a,xs,rfl,.inl (ai.of gH),_,rfl,b,ys,rfl,.inl (ai.of cX),rfl,_,rfl,?_⟩
  have el:decide (V.int (xs.length:Int)=V.int (ys.length:Int))=true:=Zat (by rw[hlen])
  rw[el]
  refine bg ⟨_,rfl,_,rfl,a,b,rfl,⟨xs,ys,ai.of gH,ai.of cX⟩,?_⟩
  refine Uj (xs:=xs) (zs:=ys) (fun i zs σ H2=> ∃v0 v1,σ=[v0,v1]/\af H1 H2/\zs=List.replicate i (V.bl true)) ⟨_,_,rfl,af.refl _,rfl⟩ (fun i zs σ H2 _ ⟨_,_,_,s2,_⟩=> ⟨ai.of (s2 _ _ gH),ai.of (s2 _ _ cX)⟩) ?_ ?_
  ·rintro i x y T zs σ H2 hx hy hT ⟨v0,v1,rfl,s2,rfl⟩
   obtain⟨y',ma,r⟩:=ZV pr hx
   rw[hy]at ma
   cases ma
   have sT:=U.S.de (o:=.par [x,y]) hT
   have hi:i<xs.length:=(X8.mp hx).1
   refine⟨T,_,rfl,ag.kL Zc,rfl,_,_,rfl,_,_,rfl,rfl,?_⟩
   refine⟨x,rfl,y,rfl,x,y,rfl,hR r (s1.trans (s2.trans sT)),fun H3 s3=> ⟨by rw[Zbc,Zau];omega,_,_,rfl,s2.trans (sT.trans s3),?_⟩⟩
   rw[ZcG]
  ·rw[<-hlen,Nat.min_self]
   rintro zs σ H2 ⟨v0,v1,rfl,s2,rfl⟩ p hp
   refine⟨p,List.replicate xs.length true,rfl,?_,?_⟩
   ·rw[List.map_replicate]
    exact ai.of Zc
   ·have e:(List.replicate xs.length true).all id=true:=by simp
    rw[e]
    exact q _ (s1.trans (s2.trans (U.S.de hp)))
end
theorem Rk:∀n∈[1,2,3,4,5],∀x∈dB n,x.length<=100:=by decide+kernel
theorem i5.short {n:Nat}{ks:List (List Int)}(h:jI n) (x:i5 n ks):∀k∈ks,k.length<=100:=fun k hk=>by
 obtain⟨y,hy,e⟩:=(x.mem k).mp hk
 exact Rk n (YZ h) k (by rw[<-e];exact(lB h hy).mem)
theorem Y8 {H:Hp} :∀k:List Int,Paired (T.R0 H) (k.map V.int) (k.map V.int)
 | []=> .nil
 |i::k=> .cons ⟨i,rfl,rfl⟩ (Y8 k)
theorem Wf {H:Hp} :∀{ts vs:List V}{ks:List (List Int)},Paired (bq H) ts ks->Paired (bq H) vs ks->(∀k∈ks,k.length<=100)->Paired (T.kr T.R0 H) ts vs
 |_,_,_,.nil,.nil,_=> .nil
 |_,_,k::_,.cons h1 r1,.cons h2 r2,hs=>by
  obtain⟨t1,rfl,e1⟩:=h1
  obtain⟨t2,rfl,e2⟩:=h2
  exact .cons ⟨t1,t2,_,_,rfl,rfl,e1,e2,Y8 k,by rw[Zac];exact hs k Zab⟩ (Wf r1 r2 fun k hk=>hs k (Zaa _ hk))
theorem R7:∀(ks l:List (List Int)),ks.Nodup->(∀k∈ks,k∈l)->ks.length<=l.length:=fun ks=>by
 induction ks with
 |nil=>intro l _ _;exact Zaz _
 |cons k ks ih=>
  intro l nd hs
  obtain⟨n1,n2⟩:=Zbk.mp nd
  have hk:=hs k Zab
  have:=ih (l.erase k) n2 fun k' ay=> (List.mem_erase_of_ne fun z=>n1 (by rw[<-z];exact ay)).mpr (hs k' (Zaa _ ay))
  have pl:=(List.perm_cons_erase hk).length_eq
  rw[ZaJ]at pl |-
  omega
theorem FA (n:Nat) (kl:List (List Int)):(encD n kl).map (·.1)=kl.map (fun k=>k.map Sum.inl):=by
 unfold encD
 rw[Zb0]
 rfl
section
variable {P:Program}{w:World}{K:Zgc}{mg:Str->Option Value}{base:Heap}
abbrev bI:Stmt:=top 73
abbrev fX:List Str:=["_law_script", "_law_there", "_law_turn_here", "_law_lays", "_law_many", "_law_k", "_law_state_here", "_law_odd", "_law_great", "_law_call", "_law_number"]
theorem ja:aQ fX ["_law_script"] (aw bI):=Zr (by decide+kernel)
def bA:List Stmt:=match cY bI with | .For _ _ b _ _::_=>b |_=> []
theorem part1 {f c:Addr}{A:Around}{outer:List Env}{s:Shared}{H0:Hp}{E:XK}(G:Gs mg) (hr:bj 17 (A.deeper (envOfC "law" (aw bI) s.heap.objs.size f (.ref c))))
  (Am:Def P w K mg base 4 "_law_counts" ["_law_number"] sf) (rn:Def P w K mg base 14 "kinds" ["number"] nE) (Al:Def P w K mg base 15 "kinds_many" ["number"] pC)
  (Ag:Def P w K mg base 3 "_law_same" ["_law_found", "_law_due"] (T.gE (mZ (T.kr T.R0)))) (Ah:Def P w K mg base 2 "_law_same" ["_law_found", "_law_due"] (T.gE (mZ T.R0))):
  ∃t,eB (bG az P w K mg base fX "law" (aw bI) f (.ref c) A outer s H0 E).dw bA t/\
  ∀(D:Ends) (v0 s1 s2 s3 s4 s5 s6 s7 s8 s9:Option V) (n:Nat) (H:Hp),jI n->(∀y1 y2 y3 y4 H',af H H'->D.nx [v0,y1,y2,y3,y4,s5,s6,s7,s8,s9,some (.int n)] H')->t D [v0,s1,s2,s3,s4,s5,s6,s7,s8,s9,some (.int n)] H:=by
 have jS:=qY hr
 refine⟨_,(Zd (Zo (i:=1) ja.nd rfl (Or.inr rfl) (Zf Am (hr.mono .d) (Za (pv 10) Zb)))
  (Zh (Z3 Zbv rfl (ZY rfl G.range (Za Zg Zb)) (Zp (i:=2) ja.nd rfl (Or.inl rfl))
   (Zd (DY (i:=3) (j:=4) rfl ja.nd rfl rfl .d rfl rfl (J7 (Zf rn (hr.mono .d) (Za (pv 10) Zb)) (J7 (Zf Al (hr.mono .d) (Za (pv 10) Zb)) Zb)) rfl)
   (Zd (ZS (PW.pt (JQ (Z9 (ZT (Zf Ag (hr.mono .d) (Za (pv 3) (J7 (Zk Jr rfl G.sorted PyProof.Rows.Boot.«sorted» (Za (pv 1) Zb)) Zb)))))
     (YI (Z9 (ZT (Zf Ah (hr.mono .d) (Za (pv 4) (Za (ZA ["_law_lay", "_law_there"] 1 [1] (ZD (Zk Jr rfl G.sorted PyProof.Rows.Boot.«sorted» (Za (pv 1) Zb))) (fun C s H fp=>pb 0) (fun C s H fp=>ZC)
      (fun C s H fp D=>bL rfl (QH jS (pv 1) (pv 0) (fun _ _=>rfl)))) Zb)))))))) Zs Zw)
   (Zd (ZL (JR Zbt PySem.F.slot_list_append PySem.F.type_list_append JE (pv 3) (Za (Zt Zb) Zb)))
   (Zh (ZL (JR Zbt PySem.F.slot_list_append PySem.F.type_list_append JE (pv 4) (Za Zg Zb)))))))))),?_⟩
 intro D v0 s1 s2 s3 s4 s5 s6 s7 s8 s9 n H h5 q
 refine aE (bp ⟨_,rfl,n,rfl,h5,fun d H1 kl q1 nd Bq mem ed=>aO ?_⟩)
 dsimp only[List.set]
 refine⟨_,rfl,.d,.d,?_⟩
 refine Ye (fun j σ H'=> ∃y2 y3 y4,σ=[v0,some (.ref d),y2,y3,y4,s5,s6,s7,s8,s9,some (.int n)]/\af H1 H') ⟨_,_,_,rfl,af.refl _⟩ ?_ ?_
 ·rintro i σ H2 hi ⟨y2,y3,y4,rfl,q2⟩
  refine aO ?_
  dsimp only[List.set]
  refine aE ⟨_,rfl,n,rfl,h5,fun l H3 ts ks q3 nl el pr ko=> ⟨_,rfl,n,rfl,h5,fun m H4 bz q4 nm Lr em=> ⟨_,_,rfl,?_⟩⟩⟩
  dsimp only[List.set]
  cases Lr.eq ko
  have Xu:=ko.len h5
  have gY:=ZaA pr
  have Df:=(q2.trans (q3.trans q4)) _ _ ed
  have kD:i5 n ks->∀{k5:List (List Int)},k5.Perm kl->k5.Pairwise (fun a b=>av b a=false)->k5=ks:=fun ko k5 pm so=>i5.eq ⟨pm.nodup_iff.mpr Bq,so,fun k=> (pm.mem_iff).trans (mem k)⟩ ko
  have aW:∀k∈kl,k≠[]:=fun k hk=>by
   obtain⟨y,hy,e⟩:=(mem k).mp hk
   exact(lB h5 (by rw[<-e];exact(lB h5 hy).mem:k∈dB n)).ne
  have hlen:kl.length<64:=by
   have:=R7 kl ks Bq fun k hk=> (ko.mem k).mpr ((mem k).mp hk)
   omega
  refine aE ⟨_,rfl,_,rfl,d,encD n kl,kl,rfl,Df,FA n kl,aW,hlen,fun L5 uM Xz n5 IB Ho pL=> ?_⟩
  cases kD ko IB Ho
  obtain⟨H5,zz,q5,e5⟩:=aR (o:=.lst uM) n5
  rw[zz]
  have Ba:=q4.trans q5
  refine⟨.ref l,.ref L5,rfl,⟨l,L5,ts,uM,rfl,rfl,Ba _ _ el,e5,Wf (Paired.aS pr fun _ _ h=>h.same Ba) (Paired.aS pL fun _ _ h=>h.same q5) (ko.short h5),.o⟩,fun H6 q6=> ⟨true,rfl,aP ?_⟩⟩
  have De:=(q5.trans q6) _ _ Df
  refine⟨_,rfl,_,rfl,d,encD n kl,kl,rfl,De,FA n kl,aW,hlen,fun L7 Au Xy n7 IA Hn dD=> ?_⟩
  cases kD ko IA Hn
  obtain⟨H7,zz,q7,e7⟩:=aR (o:=.lst Au) n7
  rw[zz]
  have Lc:=ZaA dD
  refine⟨L7,rfl,⟨_,ai.of e7⟩,?_⟩
  refine ZG (xs:=Au) (fun j ys σ Hj=> ∃v,ys=((ks.take j).map fun k=> (dY n k:Int)).map V.int/\af H7 Hj/\σ=[v,some (.ref d)]) ⟨none,rfl,af.refl _,rfl⟩ (fun j ys σ Hj _ ⟨_,_,sj,_⟩=>ai.of (sj _ _ e7)) ?_ ?_
  ·rintro j y ys σ Hj hy ⟨v,rfl,sj,rfl⟩
   have hj:=(X8.mp hy).1
   obtain⟨k,hk,t,rfl,et⟩:=ZV dD hy
   have yk:k∈kl:=(mem k).mpr ((ko.mem k).mp (Zap hk))
   refine aO ?_
   dsimp only[List.set]
   have Oo:Hj t=some (.tup ((k.map Sum.inl:List Key).map kV)):=by rw[zG];exact(q7.trans sj) _ _ et
   have g:=iw.t ((q7.trans sj) _ _ De) Oo
   rw[QT yk]at g
   refine⟨_,rfl,_,rfl,d,_,rfl,g,?_⟩
   refine⟨by rw[Zac,Zac,ZaI,Zau];omega,_,?_,sj,rfl⟩
   rw[ZaD,hk,Zax,Zax]
   rfl
  ·rintro ys σ Hj ⟨v,rfl,sj,rfl⟩ M hM
   rw[Lc,ZaK]
   obtain⟨H8,zz,qM,eM⟩:=aR (o:=.lst ((ks.map fun k=> (dY n k:Int)).map V.int)) hM
   rw[zz]
   have sQ:=q5.trans (q6.trans (q7.trans (sj.trans qM)))
   refine⟨.ref m,.ref M,rfl,⟨m,M,_,_,rfl,rfl,sQ _ _ em,eM,Y8 _,by rw[Zac,Zac];omega⟩,fun H9 q9=> ⟨true,rfl,aP (iA ?_)⟩⟩
   dsimp only
   have Iv:=q3.trans (q4.trans (sQ.trans q9))
   have Dc:=(q4.trans (sQ.trans q9)) _ _ el
   have Oq:=(sQ.trans q9) _ _ em
   refine aE ⟨_,rfl,.inl ⟨rfl,_,ai.of Dc⟩,AJ,fun e he=> ⟨l,_,_,rfl,rfl,(U.S.de he) _ _ Dc,by rw[gY,Zau];omega,iA ?_⟩⟩
   dsimp only
   have qe:=U.S.de (o:=.tup []) he
   have C9:=qe _ _ Oq
   generalize upd H9 e (HO.tup [])=VL at qe C9
   have n2:H1 l=none:=YC q2 nl
   have n3:H1 m=none:=YC (q2.trans q3) nm
   have KC:m≠l:=by
    intro z
    rw[z,el]at nm
    cases nm
   have C8:upd VL l (.lst (ts++[V.ref e])) m=some (.lst ((ks.map fun k=> (dY n k:Int)).map V.int)):=by rw[Zi KC];exact C9
   refine⟨_,rfl,.inl ⟨rfl,_,ai.of C8⟩,m,_,_,rfl,rfl,C8,by rw[Zac,Zac,Zau];omega,?_⟩
   exact⟨_,_,_,rfl,T.lO (T.lO (q2.trans (Iv.trans qe)) n2) n3⟩
 ·rintro σ H2 ⟨y2,y3,y4,rfl,q2⟩
  exact q _ _ _ _ H2 (q1.trans q2)
end
theorem zB {K:Zgc}{H H':Hp}{p:Addr}{v:V}(t:eA K H v) (s:bZ p H H') (hn:v≠.ref p):eA K H' v:=by
 obtain⟨T,t⟩:=t
 cases t with
 |tup e=>exact⟨_,.tup (s _ _ e fun z=>hn (by rw[z]))⟩
 |lst e=>exact⟨_,.lst (s _ _ e fun z=>hn (by rw[z]))⟩
 |cD e=>exact⟨_,.cD (s _ _ e fun z=>hn (by rw[z]))⟩
 |dK e=>exact⟨_,.dK (s _ _ e fun z=>hn (by rw[z]))⟩
 |dT e=>exact⟨_,.dT (s _ _ e fun z=>hn (by rw[z]))⟩
 |ah=>exact⟨_,.ah⟩
 |bl b=>exact⟨_,.bl b⟩
 |int i=>exact⟨_,.int i⟩
 |str x=>exact⟨_,.str x⟩
 |iU x=>exact⟨_,.iU x⟩
theorem IC {σ:L2.St}{i j:Nat}{a b:V}(h1:σ[i]? =some (some a)) (h2:σ[j]? =some (some b)):∀(k i':Nat) v,[i,j][k]? =some i'->[a,b][k]? =some v->σ[i']? =some (some v):=fun k i' v e1 e2=>by
 match k,e1,e2 with
 |0,e1,e2=>cases e1;cases e2;exact h1
 |1,e1,e2=>cases e1;cases e2;exact h2
 |k+2,e1,e2=>simp at e1
theorem Li {X:Cx}{x y:Str}{i j:Nat}(h1:T.LN X x i) (h2:T.LN X y j):∀(k:Nat) u m,[x,y][k]? =some u->[i,j][k]? =some m->T.LN X u m:=fun k u m e1 e2=>by
 match k,e1,e2 with
 |0,e1,e2=>cases e1;cases e2;exact h1
 |1,e1,e2=>cases e1;cases e2;exact h2
 |k+2,e1,e2=>simp at e1
abbrev kO:Arguments:= {posonlyargs:=[],args:=[],vararg:=none,kwonlyargs:=[],kw_defaults:=[],kwarg:=none,defaults:=[]}
abbrev jb (a b:Str):Scope:= {kind:=.function,names:=[(a,.free),(b,.free)],isGenerator:=false,isCoroutine:=false}
def cK (p1 p2 p3:Pos):Expr:=.Call (.Name "_law_call" p1) [.Name "_law_number" p2] [] p3
theorem Le {p1 p2 p3:Pos} :T.zV kO (cK p1 p2 p3) (jb "_law_call" "_law_number") ["_law_call", "_law_number"]:=⟨rfl,rfl,rfl,.d,.d,.d,fun _ _ _ _ _=>rfl⟩
section
variable {X:Cx}{cN gS gI:Addr}
def FX (K:Zgc) (gS gI:Addr) (ws:List V) (H:Hp):Prop:=∃g x,ws=[.ref g,x]/\(g=gS∨g=gI)/\eA K H x/\bH x 1 5=false
theorem Pl {f:Addr}{q:Str}{cl:List (Str×Addr)}{ws:List V}{p1 p2 p3:Pos}(hS:∀b',eZ X.prog X.w X.K X.mg b' 14 "kinds" ["number"] (ff X.K cN)) (hI:∀b',eZ X.prog X.w X.K X.mg b' 15 "kinds_many" ["number"] (ff X.K cN)) (mS:X.mg "kinds" =some (.ref gS)) (mI:X.mg "kinds_many" =some (.ref gI)):
  T.Ar X 15 cN f q (cK p1 p2 p3) (jb "_law_call" "_law_number") cl ["_law_call", "_law_number"] ws (FX X.K gS gI ws):=by
 intro fO cc A outer s2 H2 Q2 E2 hr pre hE
 obtain⟨g,x,rfl,M8,pl,hw⟩:=pre
 have fin:∀{k':Nat}{fn:Str},k'<=15->(∀b',eZ X.prog X.w X.K X.mg b' k' fn ["number"] (ff X.K cN))->X.mg fn=some (.ref g)->∃t,PE (oK X.prog X.w X.K X.mg fO ["_law_call", "_law_number"] q (jb "_law_call" "_law_number") f (.ref cc) cl A outer s2 H2 E2) (cK p1 p2 p3) t/\t ([V.ref g,x].map some) H2 Q2:=by
  intro k' fn ay hU mg
  obtain⟨g',fd,F,hg,hk,hb⟩:=hU fO
  rw[mg]at hg
  cases hg
  refine⟨_,TR (X:=oK X.prog X.w X.K X.mg fO ["_law_call", "_law_number"] q (jb "_law_call" "_law_number") f (.ref cc) cl A outer s2 H2 E2) (i:=0) F (hr.mono ay) (UK (i:=0) rfl (.inr (.inr rfl)) .d .d) hk hb .nil (E:=E2) (II (X:=oK X.prog X.w X.K X.mg fO ["_law_call", "_law_number"] q (jb "_law_call" "_law_number") f (.ref cc) cl A outer s2 H2 E2) (fun e s' z=>z) rfl rfl rfl)
   (Za (UK (i:=1) rfl (.inr (.inr rfl)) .d .d) Zb),?_⟩
  exact⟨rfl,x,rfl,x,rfl,pl,hw,hE⟩
 rcases M8 with rfl |rfl
 ·exact fin .d hS mS
 ·exact fin .d hI mI
end
structure kB (K:Zgc) (Pt:Addr) (qn:Str) (a:Addr) (ns:List Int) (v:V) (H:Hp):Prop where
 pE:ee K H a ns
 tab:TabAt H Pt qn
 bad:eA K H v
theorem kB.same {K:Zgc}{Pt:Addr}{qn:Str}{a:Addr}{ns:List Int}{v:V}{H H':Hp}(h:kB K Pt qn a ns v H) (s:af H H'):kB K Pt qn a ns v H':=⟨h.pE.same s,T.rL h.tab s,s.xb h.bad⟩
theorem kB.x {K:Zgc}{Pt:Addr}{qn:Str}{a:Addr}{ns:List Int}{v:V}{H H':Hp}(h:kB K Pt qn a ns v H) (s:bZ Pt H H') (t:TabAt H' Pt qn):kB K Pt qn a ns v H':=by
 obtain⟨ps,hp,_⟩:=h.tab
 exact⟨h.pE.x s hp (fun _ _ z=>by cases z),t,zB h.bad s (T.Bc h.bad hp)⟩
section
variable {P:Program}{w:World}{K:Zgc}{mg:Str->Option Value}{base:Heap}{cN gS gI:Addr}
def bB:List Stmt:=match cY bI with |_:: .For _ _ b _ _::_=>b |_=> []
theorem part2 {f c:Addr}{A:Around}{outer:List Env}{s:Shared}{H0:Hp}{E:XK}{cS Pt fR:Addr}(G:Gs mg) (C:T.LCtx (bG az P w K mg base fX "law" (aw bI) f (.ref c) A outer s H0 E).dw cS c Pt fR "kinds_many" 15 ["number"] (ff K cN))
  (Af:Def P w K mg base 2 "_law_state" ["_law_script", "_law_k"] (T.r8 K)) (Ae:Def P w K mg base 1 "_law_take" ["_law_state_here", "_law_many"] T.pA) (Aj:Def P w K mg base 2 "_law_no_number" ["_law_state_here", "_law_low", "_law_high"] (r9 K))
  (hS:∀b',eZ P w K mg b' 14 "kinds" ["number"] (ff K cN)) (hI:∀b',eZ P w K mg b' 15 "kinds_many" ["number"] (ff K cN)) (mS:mg "kinds" =some (.ref gS)) (mI:mg "kinds_many" =some (.ref gI)) (MN:T.oT K mg cS cN 2):
  ∃t,eB (bG az P w K mg base fX "law" (aw bI) f (.ref c) A outer s H0 E).dw bB t/\
  ∀(D:Ends) (a:Addr) (ns:List Int) (i:Nat) (s1 s2 s3 s4 s6 s7 s8 s9 nO:Option V) (H:Hp),ee K H a ns->TabAt H Pt (T.lq (bG az P w K mg base fX "law" (aw bI) f (.ref c) A outer s H0 E).dw)->
   (∀y6 y7 y8 y9 i7 H',ee K H' a ns->TabAt H' Pt (T.lq (bG az P w K mg base fX "law" (aw bI) f (.ref c) A outer s H0 E).dw)->D.nx [some (.ref a),s1,s2,s3,s4,some (.int (i:Int)),y6,y7,y8,y9,i7] H')->
   t D [some (.ref a),s1,s2,s3,s4,some (.int (i:Int)),s6,s7,s8,s9,nO] H:=by
 have hr:=C.room
 have NC:T.LN (bG az P w K mg base fX "law" (aw bI) f (.ref c) A outer s H0 E).dw "_law_call" 9:=⟨rfl,rfl,rfl⟩
 have NN:T.LN (bG az P w K mg base fX "law" (aw bI) f (.ref c) A outer s H0 E).dw "_law_number" 10:=⟨rfl,rfl,rfl⟩
 refine⟨_,(Zd (Zo (i:=6) ja.nd rfl (Or.inl rfl) (Zf Af (hr.mono .d) (Za (pv 0) (Za (pv 5) Zb))))
  (Zd (DY (i:=7) (j:=8) rfl ja.nd rfl rfl .d rfl rfl (J7 (Zf Aj (hr.mono .d) (Za (pv 6) (Za Zg (Za Zg Zb)))) (zH (Zn YJ Zg (Zf Ae (hr.mono .d) (Za (pv 6) (zH (Zn Wo Zg Zg) Zb)))) Zb)) rfl)
  (Zh (Z3 Zbv rfl (ZD (ZE (Za (pv 7) (Za (pv 8) Zb)))) (Zp (i:=10) ja.nd rfl (Or.inr rfl))
   (Zh (Z3 Zbv rfl (ZD (ZE (Za (Z6 (v:=.ref gS) rfl mS rfl) (Za (Z6 (v:=.ref gI) rfl mI rfl) Zb)))) (Zp (i:=9) ja.nd rfl (Or.inr rfl))
    (Zh (ZS (ZI Uf (T.IF (idx:=[9,10]) (Pre:=FX K gS gI) C Le rfl (Li NC NN) rfl rfl (T.Lk (by kernel_rfl)) MN (fun f ws _=>Pl hS hI mS mI)) Jw (cC _)) Zs Zw)))))))),?_⟩
 intro D a ns i s1 s2 s3 s4 s6 s7 s8 s9 nO Hh AZ AA q
 generalize B6:T.lq (bG az P w K mg base fX "law" (aw bI) f (.ref c) A outer s H0 E).dw=qn at AA q
 refine aE (bp ⟨_,rfl,_,rfl,a,ns,i,rfl,AZ.sq,fun p H1 np q1 cG=>aO ?_⟩)
 dsimp only[List.set]
 have sy:=AZ.same q1
 have Gy:=T.rL AA q1
 have step:∀{H H':Hp},bZ p H H'->T.kq H p->ee K H a ns->TabAt H Pt qn->ee K H' a ns/\TabAt H' Pt qn:=fun x ⟨u,v,e,_⟩ s t=> ⟨s.x x e (fun _ _ z=>by cases z),T.Gz t x e (fun _ z=>by cases z) (fun _ z=>by cases z)⟩
 refine aE ⟨_,rfl,p,rfl,cG,fun v H2 x2 cA pl hw nv=> ?_⟩
 obtain⟨jb,rK⟩:=step x2 cG sy Gy
 refine⟨_,rfl,_,_,rfl,rfl,⟨.d,.d,.d⟩,p,10^(9:Int).toNat,rfl,cA,.d,.d,fun r o h0 _ fw=> ⟨_,_,rfl,rfl,_,_,rfl,?_⟩⟩
 dsimp only[List.set]
 obtain⟨H3,zz,x3⟩:=newX H2 p o
 rw[zz]at fw |-
 obtain⟨HQ,Gx⟩:=step x3 cA jb rK
 have ID:=zB pl x3 nv
 have hg:bH (.int (6+r)) 1 5=false:=by
  show(decide (1<=6+r)&&decide (6+r<=5))=false
  rw[Zaq (show ¬6+r<=5 by omega),Zc0]
 generalize (6+r:Int)=g at hg
 have held:kB K Pt qn a ns v H3:=⟨HQ,Gx,ID⟩
 refine⟨_,rfl,_,rfl,bf,fun L hL=> ⟨L,rfl,⟨_,ai.of Zc⟩,?_⟩⟩
 obtain⟨H4,zz,q4,e4⟩:=aR (o:=.lst [v,V.int g]) hL
 rw[zz]
 replace held:=held.same q4
 have keep:∀{H H':Hp}{b:Addr}{o:HO},TabAt H Pt qn->bZ Pt H H'->H b=some o->(∀ps,o≠.cz ps)->H' b=some o:=fun⟨ps,hp,_⟩ x e hn=>x _ _ e (fun z=>by rw[z,hp]at e;cases e;exact hn _ rfl)
 refine Yz (xs:=[v,V.int g]) (fun j σ H'=> ∃y9 i7,σ=[some (.ref a),s1,s2,s3,s4,some (.int (i:Int)),some (.ref p),some v,some (.int g),y9,i7]/\kB K Pt qn a ns v H'/\H' L=some (.lst [v,V.int g])) ⟨_,_,rfl,held,e4⟩ (fun j σ H' _ ⟨_,_,_,_,e⟩=>ai.of e) ?_ ?_
 ·rintro j x σ H5 hx ⟨y9,i7,rfl,ue,e5⟩
  have og:(∀{H:Hp},eA K H v->eA K H x)/\bH x 1 5=false:=by
   have:=Zap hx
   simp only[Zaj,Za5,Zb4]at this
   rcases this with rfl |rfl
   ·exact⟨fun h=>h,hw⟩
   ·exact⟨fun _=> ⟨_,.int _⟩,hg⟩
  refine aO ?_
  dsimp only[List.set]
  refine⟨bf,fun M hM=> ⟨M,rfl,⟨_,ai.of Zc⟩,?_⟩⟩
  obtain⟨H6,zz,q6,e6⟩:=aR (o:=.lst [V.ref gS,V.ref gI]) hM
  rw[zz]
  refine Yz (xs:=[V.ref gS,V.ref gI]) (fun j σ H'=> ∃y9,σ=[some (.ref a),s1,s2,s3,s4,some (.int (i:Int)),some (.ref p),some v,some (.int g),y9,some x]/\kB K Pt qn a ns v H'/\H' L=some (.lst [v,V.int g])/\H' M=some (.lst [V.ref gS,V.ref gI])) ⟨_,rfl,ue.same q6,q6 _ _ e5,e6⟩ (fun j σ H' _ ⟨_,_,_,_,e⟩=>ai.of e) ?_ ?_
  ·rintro k u σ H7 hu ⟨Gb,rfl,j7,e7,f7⟩
   obtain⟨z,rfl,hz⟩:∃z:Addr,u=.ref z/\(z=gS∨z=gI):=by
    have:=Zap hu
    simp only[Zaj,Za5,Zb4]at this
    rcases this with rfl |rfl
    ·exact⟨_,rfl,.inl rfl⟩
    ·exact⟨_,rfl,.inr rfl⟩
   refine aO ?_
   dsimp only[List.set]
   refine⟨[.ref z,x],rfl,IC rfl rfl,by rw[B6];exact j7.tab,fun H' x'=> ?_,fun H8 x8 t8=> ⟨rfl,?_⟩⟩
   ·obtain⟨ps,hp,_⟩:=j7.tab
    exact⟨z,x,rfl,hz,og.1 (zB j7.bad x' (T.Bc j7.bad hp)),og.2⟩
   rw[B6]at t8
   refine⟨_,rfl,aP ?_⟩
   exact⟨_,rfl,j7.x x8 t8,keep j7.tab x8 e7 (fun _ z=>by cases z),keep j7.tab x8 f7 (fun _ z=>by cases z)⟩
  ·rintro σ H7 ⟨Gb,rfl,j7,e7,f7⟩
   exact⟨_,_,rfl,j7,e7⟩
 ·rintro σ H5 ⟨y9,i7,rfl,ue,e5⟩
  exact q _ _ _ _ _ H5 ue.pE ue.tab
def Hs (b1 b2:List Stmt):List Stmt:=match cY bI with | [.For x y _ d e,.For x' y' _ d' e',r]=> [.For x y b1 d e,.For x' y' b2 d' e',r] |_=> []
theorem Tt:cY bI=Hs bA bB:=by kernel_rfl
def vo (K:Zgc) (Pt:Addr):Sp:=fun vs H Q _=> ∃(a:Addr) (ns:List Int),vs=[.ref a]/\ee K H a ns/\ns.length<=63/\H Pt=some (.cz #[])/\∀H',Q (.bl true) H'
theorem PH {f c Pt fR cS:Addr}{oc:Value}{od an:Option Addr}{kV doc pm ct:Value}{fB:Array (Option Value)}
  (lk:K.lookup f=some ⟨oc,od,.func (PySem.W.fnOf "law" "law" (gz bI) (cY bI) (aw bI) .none kV doc pm an (.ref c) ct),fB⟩) (cO:PySem.W.codeIn K (.ref c) "law" =true) (G:Gs mg)
  (Am:Def P w K mg base 4 "_law_counts" ["_law_number"] sf) (rn:Def P w K mg base 14 "kinds" ["number"] nE) (Al:Def P w K mg base 15 "kinds_many" ["number"] pC)
  (Ag:Def P w K mg base 3 "_law_same" ["_law_found", "_law_due"] (T.gE (mZ (T.kr T.R0)))) (Ah:Def P w K mg base 2 "_law_same" ["_law_found", "_law_due"] (T.gE (mZ T.R0)))
  (Af:Def P w K mg base 2 "_law_state" ["_law_script", "_law_k"] (T.r8 K)) (Ae:Def P w K mg base 1 "_law_take" ["_law_state_here", "_law_many"] T.pA) (Aj:Def P w K mg base 2 "_law_no_number" ["_law_state_here", "_law_low", "_law_high"] (r9 K))
  (hR:∀b',Def P w K mg b' 17 "_law_word" ["_law_call"] (T.rX P w K mg b' cS 16)) (hS:∀b',eZ P w K mg b' 14 "kinds" ["number"] (ff K cN)) (hI:∀b',eZ P w K mg b' 15 "kinds_many" ["number"] (ff K cN)) (mS:mg "kinds" =some (.ref gS)) (mI:mg "kinds_many" =some (.ref gI))
  (mR:mg "_law_word" =some (.ref fR)) (kR:PySem.W.keepIn K (.ref fR)=true) (MN:T.oT K mg cS cN 2) (hC:PySem.W.CodeHd base c Pt)
  (yC:∃bm ob,mg "__builtins__" =some (.ref bm)/\bm≠builtinsNs/\base.get? bm=some ob/\ob.cls=.type "module" /\ob.dict=some builtinsNs/\ob.data=.plain):
  aA P w K mg base az 18 f (PySem.W.fnOf "law" "law" (gz bI) (cY bI) (aw bI) .none kV doc pm an (.ref c) ct) ["_law_script"] (vo K Pt):=by
 refine zC lk cO ja (fun vs H Q E h=> ?_) (fun A outer s H vs Q E hr h=> ?_)
 ·obtain⟨a,ns,rfl,_⟩:=h
  rfl
 ·obtain⟨a,ns,rfl,pE,qk,Mh,q⟩:=h
  have C:T.LCtx (bG az P w K mg base fX "law" (aw bI) f (.ref c) A outer s H E).dw cS c Pt fR "kinds_many" 15 ["number"] (ff K cN):=⟨⟨rfl,hC,yC⟩,hR,hI,hr,mR,kR⟩
  obtain⟨t1,r1,h1⟩:=part1 (outer:=outer) (H0:=H) (E:=E) G hr Am rn Al Ag Ah
  obtain⟨t2,r2,h2⟩:=part2 G C Af Ae Aj hS hI mS mI MN
  have main:∃t,eB (bG az P w K mg base fX "law" (aw bI) f (.ref c) A outer s H E).dw (cY bI) t/\t {nx:=fun _ H'=>Q .ah H',rt:=Q} (start fX [.ref a]) H:=by
   rw[Tt]
   generalize bA=b1 at r1
   generalize bB=b2 at r2
   refine⟨_,(Zd (Z3 Zbv rfl (Sz rfl G.range (Za Zg (Za Zg Zb))) (Zp (i:=10) ja.nd rfl (Or.inr rfl)) r1)
    (Zd (Z3 Zbv rfl (ZY rfl G.range (Za (Zk (Uy rfl) rfl G.max boot_max (Za Zg (Za (Zk (SV rfl) rfl G.min boot_min (Za (Zk Zx rfl G.len Zc6 (Za (pv 0) Zb)) (Za Zg Zb))) Zb))) Zb)) (Zp (i:=5) ja.nd rfl (Or.inl rfl)) r2)
    (Zh (Zm Wl)))),?_⟩
   have AB:TabAt H Pt (T.lq (bG az P w K mg base fX "law" (aw bI) f (.ref c) A outer s H E).dw):=⟨#[],Mh,trivial,fun pos cv z=>by cases z⟩
   generalize T.lq (bG az P w K mg base fX "law" (aw bI) f (.ref c) A outer s H E).dw=qn at AB h2
   refine aE ⟨_,_,rfl,⟨.d,.d,.d,.d⟩,?_⟩
   refine Ye (fun i σ H'=> (∃y1 y2 y3 y4 i7,σ=[some (.ref a),y1,y2,y3,y4,none,none,none,none,none,i7])/\af H H') ⟨⟨_,_,_,_,_,rfl⟩,af.refl _⟩ ?_ ?_
   ·rintro i σ H1 hi ⟨⟨y1,y2,y3,y4,i7,rfl⟩,q1⟩
    obtain⟨n,hn,h5⟩:∃n:Nat,(1+(i:Int))=(n:Int)/\jI n:=⟨1+i,.o,by constructor<;> · have:i<5:=hi;omega⟩
    rw[hn]
    refine aO ?_
    dsimp only[List.set]
    exact h1 _ _ _ _ _ _ _ _ _ _ _ n H1 h5 fun y1 y2 y3 y4 H' q'=> ⟨⟨_,_,_,_,_,rfl⟩,q1.trans q'⟩
   ·rintro σ H1 ⟨⟨y1,y2,y3,y4,i7,rfl⟩,q1⟩
    have sy:=pE.same q1
    refine aE ⟨_,rfl,a,_,rfl,.inl sy.sq,_,_,rfl,_,_,rfl,_,rfl,(by rw[Zac];split<;>split<;>omega),(by rw[Zac];split<;>split<;>omega),?_⟩
    refine Ye (fun i σ H'=> (∃s5 s6 s7 s8 s9 nO,σ=[some (.ref a),y1,y2,y3,y4,s5,s6,s7,s8,s9,nO])/\ee K H' a ns/\TabAt H' Pt qn) ⟨⟨_,_,_,_,_,_,rfl⟩,sy,T.rL AB q1⟩ ?_ ?_
    ·rintro i σ H2 hi ⟨⟨s5,s6,s7,s8,s9,nO,rfl⟩,jb,rK⟩
     rw[Int.zero_add]
     refine aO ?_
     dsimp only[List.set]
     exact h2 _ a ns i _ _ _ _ _ _ _ _ _ H2 jb rK fun y6 y7 y8 y9 i7 H' HR nB=> ⟨⟨_,_,_,_,_,_,rfl⟩,HR,nB⟩
    ·rintro σ H2 ⟨⟨s5,s6,s7,s8,s9,nO,rfl⟩,jb,rK⟩
     exact q _
  obtain⟨t,ht,hq⟩:=main
  exact⟨t,ht.dw,hq⟩
end
end U.K
namespace U.T
open PySem L2 PyProof.Rows
theorem T3 {u:Value}{x:V}(h:qV u=some x):RelV x u:=by
 cases u<;>simp only[qV,Option.some.injEq,reduceCtorEq]at h<;>subst h<;>first |rfl |exact⟨_,rfl⟩
theorem JN:∀{us:List Value}{xs:List V},us.map qV=xs.map some->Vals xs us
 | [],[],_=> .nil
 | [],_::_,h=>by cases h
 |_::_,[],h=>by cases h
 |u::us,x::xs,h=>by
  rw[ZaR,ZaR,List.cons.injEq]at h
  exact .cons (T3 h.1) (JN h.2)
def rG (K:Zgc) (a:Addr) (xs:List V):Bool:=match K.lookup a with
 |some o=> (match o.cls with | .type n=>n== "tuple" |_=>false)&&match o.data with
  | .seq aa _=>decide (aa.size<=100)&&decide (aa.toList.map qV=xs.map some)
  |_=>false
 |none=>false
theorem JO {K:Zgc}{a:Addr}{xs:List V}(h:rG K a xs=true) (H:Hp):ag K H a xs:=by
 unfold rG at h
 split at h
 next o ho=>
  rw[Zaw]at h
  obtain⟨h1,h2⟩:=h
  split at h1
  next n hn=>
   split at h2
   next aa m hd=>
    rw[Zaw,Zbw,Zbw]at h2
    rw[Zcm]at h1
    subst h1
    exact .inr (.inl ⟨o,aa,m,ho,hn,hd,by rw[Zau];omega,JN h2.2⟩)
   next=>cases h2
  next=>cases h1
 next=>cases h
def refsOf (K:Zgc) (a:Addr):List Addr:=match K.lookup a with
 |some o=>match o.data with
  | .seq aa _=>aa.toList.filterMap fun v=>match v with | .ref t=>some t |_=>none
  |_=> []
 |none=> []
def uO (K:Zgc) (a:Addr):Bool:=rG K a ((refsOf K a).map V.ref)&&(decide ((refsOf K a).length=8)&&((refsOf K a).zip da).all fun p=>rG K p.1 (tv p.2))
theorem Wm {α β:Type}{R:α->β->Prop} :∀{xs:List α}{ys:List β},xs.length=ys.length->(∀p∈xs.zip ys,R p.1 p.2)->Paired R xs ys
 | [],[],_,_=> .nil
 | [],_::_,h,_=>by cases h
 |_::_,[],h,_=>by cases h
 |x::xs,y::ys,h,k=> .cons (k (x,y) Zab) (Wm (by simpa using h) fun p hp=>k p (Zaa _ hp))
theorem Gr {K:Zgc}{mg:Str->Option Value}{a:Addr}(hm:mg "TURNS" =some (.ref a)) (h:uO K a=true):FT K mg:=by
 unfold uO at h
 rw[Zaw,Zaw,Zbw]at h
 obtain⟨h1,h2,h3⟩:=h
 refine⟨a,refsOf K a,hm,JO h1,Wm (by rw[h2];rfl) fun p hp H=> ?_⟩
 exact JO (ZaF.mp h3 p hp) H
end U.T
namespace U.K
open PySem L2
structure Exc (K:Zgc) (mg:Str->Option Value) (nm:Str) (C:Addr):Prop where
 m:mg nm=some (.ref C)
 x:PySem.W.excIn K C uA "ValueError.__new__" =true
end U.K
namespace U.K
open PySem L2 PyProof.Rows PySem.Spec
abbrev yQ:List Str:=["isinstance", "int", "bool", "tuple", "list", "len", "all", "set", "range", "max", "min", "enumerate", "zip", "sorted", "dict", "ValueError"]
section
variable {P:Program}{w:World}{K:Zgc}{mg:Str->Option Value}{base:Heap}
theorem QC {h:Heap}{t0 t1 t2 t3:Tok}(KX:K.In h) (G:h.Ns mainGlobals mg) (e:yQ.all (sZ K)=true) (lo0:PySem.W.nsIn K mainGlobals "LONGEST_SIDE" =some (some (.int 12 t0))) (lo1:PySem.W.nsIn K mainGlobals "MOST_WIDE" =some (some (.int 6 t1))) (lo2:PySem.W.nsIn K mainGlobals "MOST_HIGH" =some (some (.int 7 t2))) (lo3:PySem.W.nsIn K mainGlobals "MOST_LINES" =some (some (.int 5 t3))):Gs mg/\mg "ValueError" =none:=by
 have k:∀x∈yQ,mg x=none:=fun x hx=>Sv KX G (ZaF.mp e x hx)
 exact⟨⟨k _ (by simp),k _ (by simp),k _ (by simp),k _ (by simp),k _ (by simp),k _ (by simp),k _ (by simp),k _ (by simp),k _ (by simp),k _ (by simp),k _ (by simp),k _ (by simp),k _ (by simp),k _ (by simp),k _ (by simp),⟨t0,ZbH KX G lo0⟩,⟨t1,ZbH KX G lo1⟩,⟨t2,ZbH KX G lo2⟩,⟨t3,ZbH KX G lo3⟩⟩,k _ (by simp)⟩
def tI (K:Zgc) (C c:Value) (b:Bool):Bool:=match PySem.W.kitOne K C c with |some d=>d==b |none=>false
theorem Eh {C c:Value}{b:Bool}(h:tI K C c b=true):PySem.W.kitOne K C c=some b:=by
 unfold tI at h
 split at h
 ·rename_i d q
  rw[q,Zcm.mp h]
 ·cases h
def K5 (K:Zgc) (C:Addr) (iC:Nat):Bool:=(List.range 15).all fun i=>match PySem.W.nsIn K mainGlobals (T.Bt.getD i "") with |some (some (.ref c))=>tI K (.ref C) (.ref c) (decide (i=iC)) |_=>false
def mroOk (K:Zgc) (C:Addr) (b:Value):Bool:=match PySem.W.mroIn K C b with |some d=>d |none=>false
theorem Fi {C:Addr}{b:Value}(h:mroOk K C b=true):PySem.W.mroIn K C b=some true:=by
 unfold mroOk at h
 split at h
 ·rename_i d q
  rw[q,h]
 ·cases h
def yZ (K:Zgc) (C c:Value):Bool:=match PySem.W.exmOne K C c with |some d=>d |none=>false
theorem Sh {C c:Value}(h:yZ K C c=true):PySem.W.exmOne K C c=some true:=by
 unfold yZ at h
 split at h
 ·rename_i d q
  rw[q,h]
 ·cases h
def za (K:Zgc) (cS C:Addr) (iC:Nat):Bool:=mroOk K C (.type "object")&&mroOk K C (.type "BaseException")&&(PySem.W.clsIn K C).isSome&&yZ K (.ref C) (.ref cS)&&K5 K C iC&&tI K (.ref C) (.type "ValueError") true&&PySem.W.excIn K C uA "ValueError.__new__"
theorem Ro {h:Heap}{cS C:Addr}{iC:Nat}(KX:K.In h) (G:h.Ns mainGlobals mg) (mv:mg "ValueError" =none) (ms:mg "StepError" =some (.ref cS)) (hi:iC<15) (e:za K cS C iC=true)
  (ga:PySem.W.findIn K (.ref C) "__getattribute__" =some (some (.builtin "BaseException.__getattribute__"))) (hook:PySem.W.findIn K (.ref C) "__getattr__" =some none) (cl:PySem.W.findIn K (.ref C) "__class__" =some (some (.builtin "object.__class__"))):T.oT K mg cS C iC/\PySem.W.excIn K C uA "ValueError.__new__" =true:=by
 unfold za at e
 simp only[Zaw]at e
 obtain⟨⟨⟨⟨⟨⟨e1,e2⟩,e3⟩,e4⟩,e5⟩,e6⟩,e7⟩:=e
 refine⟨⟨⟨ga,hook,cl,Fi e1,Fi e2,e3⟩,ms,Sh e4,fun i hi=> ?_,mv,Eh e6,hi⟩,e7⟩
 have:=ZaF.mp e5 i (ZaU.mpr hi)
 split at this
 ·rename_i c q
  exact⟨c,ZbH KX G q,Eh this⟩
 ·cases this
set_option maxHeartbeats 4000000 in
theorem Lq {h:Heap}{fa c Pt f cS aN:Addr}{oc:Value}{od an:Option Addr}{kV doc pm ct:Value}{fB:Array (Option Value)}{t0 t1 t2 t3:Tok}(KX:K.In h) (G:h.Ns mainGlobals mg) (hmg:mg "law" =some (.ref fa))
  (d0:aU K "is_whole" vV) (d1:aU K "is_whole_within" vU) (d2:aU K "need_whole_within" sE) (d3:aU K "is_tuple_of" sD) (d4:aU K "is_board" wH) (d5:aU K "need_board" wk) (d6:aU K "need_at_most" S.wq) (d7:aU K "is_lay" wx) (d8:aU K "need_lay" nM) (d9:aU K "with_point" S.vW) (Dq:aU K "points" nK) (O8:aU K "is_point" T.wB) (O7:aU K "lay_of" T.wA) (O6:aU K "point_pairs" we) (O5:aU K "steps" wb) (O4:aU K "first_like" wD) (O3:aU K "is_unlike" vX) (O2:aU K "need_small" S.wo) (O1:aU K "free_rows" S.wF) (O0:aU K "all_fits" S.wL) (OZ:aU K "is_turn" T.vY) (OY:aU K "need_turn" T.wm) (OX:aU K "turned_point" T.v8) (OW:aU K "turned_board" T.wa) (OV:aU K "turned" T.vZ) (OU:aU K "all_turned" T.wJ) (OT:aU K "none_least" T.wj) (OS:aU K "least_turned" T.wu) (zl:aU K "kinds" sG) (zk:aU K "kinds_many" jc) (OR:aU K "_law_cell_at" T.wG) (OQ:aU K "_law_state" T.wc) (OP:aU K "_law_take" T.v7) (Dp:aU K "_law_word" T.vT) (OO:aU K "_law_steps" S.wz) (ON:aU K "_law_unlike" S.sF) (OM:aU K "_law_no_number" wg) (uv:aU K "_law_same" T.pH) (OL:aU K "_law_moved" T.wt) (OK:aU K "_law_board_by" T.wI) (OJ:aU K "_law_turned" T.wy) (OI:aU K "_law_all_turns" T.wK) (OH:aU K "_law_full" wC) (OG:aU K "_law_counts" sI)
  (l1:PySem.W.nsIn K mainGlobals "law" =some (some (.ref f))) (l2:K.lookup f=some ⟨oc,od,.func (PySem.W.fnOf "law" "law" (gz bI) (cY bI) (aw bI) .none kV doc pm an (.ref c) ct),fB⟩) (l3:PySem.W.codeIn K (.ref c) "law" =true) (l4:PySem.W.codeHdIn K c Pt=true)
  (g1:yQ.all (sZ K)=true) (lo0:PySem.W.nsIn K mainGlobals "LONGEST_SIDE" =some (some (.int 12 t0))) (lo1:PySem.W.nsIn K mainGlobals "MOST_WIDE" =some (some (.int 6 t1))) (lo2:PySem.W.nsIn K mainGlobals "MOST_HIGH" =some (some (.int 7 t2))) (lo3:PySem.W.nsIn K mainGlobals "MOST_LINES" =some (some (.int 5 t3)))
  (eN:PySem.W.nsIn K mainGlobals "NoNumber" =some (some (.ref aN))) (eS:PySem.W.nsIn K mainGlobals "StepError" =some (some (.ref cS)))
  (xN:za K cS aN 2=true) {DF:Addr} (eTU:PySem.W.nsIn K mainGlobals "TURNS" =some (some (.ref DF))) (hTU:T.uO K DF=true)
  (gaN:PySem.W.findIn K (.ref aN) "__getattribute__" =some (some (.builtin "BaseException.__getattribute__"))) (hoN:PySem.W.findIn K (.ref aN) "__getattr__" =some none) (clN:PySem.W.findIn K (.ref aN) "__class__" =some (some (.builtin "object.__class__"))):
  ∃fd:FuncData,(∀(s:Shared) (u:Value),BindsTo s fd ⟨[u],[]⟩ [("_law_script",u)])/\∀base:Heap,K.In base->base.Ns mainGlobals mg->rA mg base->aA P w K mg base az 18 fa fd ["_law_script"] (vo K Pt):=by
 have e0:=hmg.symm.trans (ZbH KX G l1)
 cases e0
 obtain⟨gs,mv⟩:=QC KX G g1 lo0 lo1 lo2 lo3
 have ms:=ZbH KX G eS
 obtain⟨MN,yN⟩:=Ro KX G mv ms (by decide:2<15) xN gaN hoN clN
 have C5:Exc K mg "NoNumber" aN:=⟨ZbH KX G eN,yN⟩
 have tg:=T.Gr (ZbH KX G eTU) hTU
 refine⟨PySem.W.fnOf "law" "law" (gz bI) (cY bI) (aw bI) .none kV doc pm an (.ref c) ct,fun s u=> .of_eq rfl,fun base kb nb bm=> ?_⟩
 have b0:∀{x:Str}{st:Stmt},(∀(kV doc pm:Value) (an:Option Addr) (aq ct:Value),bindArgs (PySem.W.fnOf x x (gz st) (cY st) (aw st) .none kV doc pm an aq ct) ⟨[],[]⟩=pure [])->oX x st []:=fun h kV doc pm an aq ct us hl=>match us,hl with | [],_=>h kV doc pm an aq ct
 have b1:∀{x a:Str}{st:Stmt},(∀(kV doc pm:Value) (an:Option Addr) (aq ct u:Value),bindArgs (PySem.W.fnOf x x (gz st) (cY st) (aw st) .none kV doc pm an aq ct) ⟨[u],[]⟩=pure [(a,u)])->oX x st [a]:=fun h kV doc pm an aq ct us hl=>match us,hl with | [u],_=>h kV doc pm an aq ct u
 have b2:∀{x a b:Str}{st:Stmt},(∀(kV doc pm:Value) (an:Option Addr) (aq ct u v:Value),bindArgs (PySem.W.fnOf x x (gz st) (cY st) (aw st) .none kV doc pm an aq ct) ⟨[u,v],[]⟩=pure [(a,u),(b,v)])->oX x st [a,b]:=fun h kV doc pm an aq ct us hl=>match us,hl with | [u,v],_=>h kV doc pm an aq ct u v
 have b3:∀{x a b c:Str}{st:Stmt},(∀(kV doc pm:Value) (an:Option Addr) (aq ct u v w:Value),bindArgs (PySem.W.fnOf x x (gz st) (cY st) (aw st) .none kV doc pm an aq ct) ⟨[u,v,w],[]⟩=pure [(a,u),(b,v),(c,w)])->oX x st [a,b,c]:=fun h kV doc pm an aq ct us hl=>match us,hl with | [u,v,w],_=>h kV doc pm an aq ct u v w
 have good:∀b':Heap,(Def P w K mg b' 14 "kinds" ["number"] nE/\Def P w K mg b' 15 "kinds_many" ["number"] pC)/\eZ P w K mg b' 14 "kinds" ["number"] (ff K aN)/\eZ P w K mg b' 15 "kinds_many" ["number"] (ff K aN):=fun b'=>by
  have D0:Def P w K mg b' 1 "is_whole" ["thing"] (u5 K):=d0.to KX G (b1 fun _ _ _ _ _ _ _=>rfl) fun f fd F=>RA F gs
  have D1:Def P w K mg b' 2 "is_whole_within" ["thing", "least", "most"] (kG K):=d1.to KX G (b3 fun _ _ _ _ _ _ _ _ _=>rfl) fun f fd F=>Sw F D0
  have Dn:Def P w K mg b' 3 "need_whole_within" ["number", "least", "most"] vh:=d2.to KX G (b3 fun _ _ _ _ _ _ _ _ _=>rfl) fun f fd F=>PM F D1
  have D2:Def P w K mg b' 1 "is_tuple_of" ["thing", "many"] (pz K):=d3.to KX G (b2 fun _ _ _ _ _ _ _ _=>rfl) fun f fd F=>Rz F gs
  have V1:Def P w K mg b' 1 "is_tuple_of" ["thing", "many"] (T.u7 K):=d3.to KX G (b2 fun _ _ _ _ _ _ _ _=>rfl) fun f fd F=>T.IT F gs
  have D3:Def P w K mg b' 3 "is_board" ["thing"] (vE K):=d4.to KX G (b1 fun _ _ _ _ _ _ _=>rfl) fun f fd F=>Rv F gs D2 D1
  have D4:Def P w K mg b' 4 "need_board" ["board"] (pB K):=d5.to KX G (b1 fun _ _ _ _ _ _ _=>rfl) fun f fd F=>UN F D3
  have V0:Def P w K mg b' 1 "need_at_most" ["board", "wide", "high"] S.vk:=d6.to KX G (b3 fun _ _ _ _ _ _ _ _ _=>rfl) fun f fd F=>S.Ke F
  have D5:Def P w K mg b' 5 "is_lay" ["board", "thing"] (se K):=d7.to KX G (b2 fun _ _ _ _ _ _ _ _=>rfl) fun f fd F=>PJ F gs D4 D2 D1
  have D6:Def P w K mg b' 6 "need_lay" ["board", "lay"] kH:=d8.to KX G (b2 fun _ _ _ _ _ _ _ _=>rfl) fun f fd F=>xl F D5
  have VZ:Def P w K mg b' 6 "need_lay" ["board", "lay"] (T.kH K):=d8.to KX G (b2 fun _ _ _ _ _ _ _ _=>rfl) fun f fd F=>T.xl F D5
  have F4:Def P w K mg b' 1 "with_point" ["lay", "line", "row"] S.rY:=d9.to KX G (b3 fun _ _ _ _ _ _ _ _ _=>rfl) fun f fd F=>S.IP F
  have D7:Def P w K mg b' 7 "points" ["board", "lay"] lM:=Dq.to KX G (b2 fun _ _ _ _ _ _ _ _=>rfl) fun f fd F=>xk F gs D6
  have VY:Def P w K mg b' 7 "points" ["board", "lay"] (T.lM K):=Dq.to KX G (b2 fun _ _ _ _ _ _ _ _=>rfl) fun f fd F=>T.xk F gs VZ
  have D8:Def P w K mg b' 8 "point_pairs" ["board", "lay"] ve:=O6.to KX G (b2 fun _ _ _ _ _ _ _ _=>rfl) fun f fd F=>Rx F D7
  have D9:Def P w K mg b' 9 "steps" ["board", "lay"] vd:=O5.to KX G (b2 fun _ _ _ _ _ _ _ _=>rfl) fun f fd F=>Ry F gs D8
  have Xe:Def P w K mg b' 10 "first_like" ["board", "lay"] vB:=O4.to KX G (b2 fun _ _ _ _ _ _ _ _=>rfl) fun f fd F=>Rw F gs D9
  have F7:Def P w K mg b' 11 "is_unlike" ["board", "lay"] rZ:=O3.to KX G (b2 fun _ _ _ _ _ _ _ _=>rfl) fun f fd F=>PN F Xe
  have Xd:Def P w K mg b' 7 "need_small" ["board", "lay"] S.vj:=O2.to KX G (b2 fun _ _ _ _ _ _ _ _=>rfl) fun f fd F=>S.Kc F gs D6 V0
  have Xc:Def P w K mg b' 12 "free_rows" ["board", "lay", "line"] S.vC:=O1.to KX G (b3 fun _ _ _ _ _ _ _ _ _=>rfl) fun f fd F=>S.Km F gs F7 F4
  have Xb:Def P w K mg b' 13 "all_fits" ["board", "lay"] S.vH:=O0.to KX G (b2 fun _ _ _ _ _ _ _ _=>rfl) fun f fd F=>S.Ks F gs Xd F7 F4 Xc
  have Xa:Def P w K mg b' 3 "is_point" ["board", "thing"] (T.vz K):=O8.to KX G (b2 fun _ _ _ _ _ _ _ _=>rfl) fun f fd F=>T.Kl F gs D2 D1
  have V9:Def P w K mg b' 5 "lay_of" ["board", "points"] (T.vw K):=O7.to KX G (b2 fun _ _ _ _ _ _ _ _=>rfl) fun f fd F=>T.Kk F gs D4 Xa
  have V8:Def P w K mg b' 3 "is_turn" ["thing"] (T.u6 K):=OZ.to KX G (b1 fun _ _ _ _ _ _ _=>rfl) fun f fd F=>T.IS F gs V1 D1
  have V7:Def P w K mg b' 4 "need_turn" ["turn"] (T.vi K):=OY.to KX G (b1 fun _ _ _ _ _ _ _=>rfl) fun f fd F=>T.Kb F V8
  have V6:Def P w K mg b' 1 "turned_point" ["board", "point", "turn"] (T.vc K):=OX.to KX G (b3 fun _ _ _ _ _ _ _ _ _=>rfl) fun f fd F=>T.IV F
  have F6:Def P w K mg b' 5 "turned_board" ["board", "turn"] (T.r6 K):=OW.to KX G (b2 fun _ _ _ _ _ _ _ _=>rfl) fun f fd F=>T.IW F D4 V7
  have V5:Def P w K mg b' 8 "turned" ["board", "lay", "turn"] (T.u9 K):=OV.to KX G (b3 fun _ _ _ _ _ _ _ _ _=>rfl) fun f fd F=>T.IU F VY F6 V9 V6
  have Ao:Def P w K mg b' 9 "all_turned" ["board", "lay"] (T.pD K):=OU.to KX G (b2 fun _ _ _ _ _ _ _ _=>rfl) fun f fd F=>T.Kr F tg F6 V5
  have V4:Def P w K mg b' 1 "none_least" ["led"] T.vf:=OT.to KX G (b1 fun _ _ _ _ _ _ _=>rfl) fun f fd F=>T.Kd F gs
  have V3:Def P w K mg b' 10 "least_turned" ["board", "lay"] (T.vn K):=OS.to KX G (b2 fun _ _ _ _ _ _ _ _=>rfl) fun f fd F=>T.Ki F gs Ao V4
  have F5:Def P w K mg b' 14 "kinds" ["number"] nE:=zl.to KX G (b1 fun _ _ _ _ _ _ _=>rfl) fun f fd F=>Qa F gs Dn Xb V3
  have V2:Def P w K mg b' 15 "kinds_many" ["number"] pC:=zk.to KX G (b1 fun _ _ _ _ _ _ _=>rfl) fun f fd F=>Qb F gs F5 Ao
  have Rn:eZ P w K mg b' 3 "need_whole_within" ["number", "least", "most"] (vg K aN):=d2.uR KX G (b3 fun _ _ _ _ _ _ _ _ _=>rfl) fun f fd F=>Rr F C5.m C5.x D1
  have FW:eZ P w K mg b' 14 "kinds" ["number"] (ff K aN):=zl.uR KX G (b1 fun _ _ _ _ _ _ _=>rfl) fun f fd F=>PD F gs Rn
  have VB:eZ P w K mg b' 15 "kinds_many" ["number"] (ff K aN):=zk.uR KX G (b1 fun _ _ _ _ _ _ _=>rfl) fun f fd F=>PF F gs FW Ao
  exact⟨⟨F5,V2⟩,FW,VB⟩
 have hR:∀b':Heap,Def P w K mg b' 17 "_law_word" ["_law_call"] (T.rX P w K mg b' cS 16):=fun b'=>Dp.to KX G (b1 fun _ _ _ _ _ _ _=>rfl) fun f fd F=>T.IQ F gs
 have E1:Def P w K mg base 1 "_law_cell_at" ["_law_script", "_law_k"] (T.vD K):=OR.to KX G (b2 fun _ _ _ _ _ _ _ _=>rfl) fun f fd F=>T.Kn F gs
 have E2:Def P w K mg base 2 "_law_state" ["_law_script", "_law_k"] (T.r8 K):=OQ.to KX G (b2 fun _ _ _ _ _ _ _ _=>rfl) fun f fd F=>T.IZ F gs E1
 have E3:Def P w K mg base 1 "_law_take" ["_law_state_here", "_law_many"] T.pA:=OP.to KX G (b2 fun _ _ _ _ _ _ _ _=>rfl) fun f fd F=>T.IY F
 have E4:Def P w K mg base 2 "_law_no_number" ["_law_state_here", "_law_low", "_law_high"] (r9 K):=OM.to KX G (b3 fun _ _ _ _ _ _ _ _ _=>rfl) fun f fd F=>PL F E3
 have S0:Def P w K mg base 1 "_law_same" ["_law_found", "_law_due"] (T.gE T.R0):=uv.to KX G (b2 fun _ _ _ _ _ _ _ _=>rfl) fun f fd F=>T.Ka F gs
 have S1:Def P w K mg base 2 "_law_same" ["_law_found", "_law_due"] (T.gE (T.kr T.R0)):=uv.to KX G (b2 fun _ _ _ _ _ _ _ _=>rfl) fun f fd F=>T.I9 (R:=T.R0) (fun r s=>T.R0.same r s) F gs S0
 have S2:Def P w K mg base 3 "_law_same" ["_law_found", "_law_due"] (T.gE (mZ (T.kr T.R0))):=uv.to KX G (b2 fun _ _ _ _ _ _ _ _=>rfl) fun f fd F=>Ug (R:=T.kr T.R0) (fun r s=>QZ (R:=T.R0) (fun r s=>T.R0.same r s) r s) F gs S1
 have S3:Def P w K mg base 2 "_law_same" ["_law_found", "_law_due"] (T.gE (mZ T.R0)):=uv.to KX G (b2 fun _ _ _ _ _ _ _ _=>rfl) fun f fd F=>Ug (R:=T.R0) (fun r s=>T.R0.same r s) F gs S0
 have E5:Def P w K mg base 1 "_law_steps" ["_law_lay"] S.vt:=OO.to KX G (b1 fun _ _ _ _ _ _ _=>rfl) fun f fd F=>S.Kj F gs
 have E6:Def P w K mg base 2 "_law_unlike" ["_law_lay"] S.vp:=ON.to KX G (b1 fun _ _ _ _ _ _ _=>rfl) fun f fd F=>S.Kg F gs E5
 have E7:Def P w K mg base 1 "_law_moved" ["_law_board", "_law_turn_here", "_law_point"] T.vm:=OL.to KX G (b3 fun _ _ _ _ _ _ _ _ _=>rfl) fun f fd F=>T.Kf F
 have E8:Def P w K mg base 1 "_law_board_by" ["_law_board", "_law_turn_here"] T.vF:=OK.to KX G (b2 fun _ _ _ _ _ _ _ _=>rfl) fun f fd F=>T.Ko F
 have E9:Def P w K mg base 2 "_law_turned" ["_law_board", "_law_lay", "_law_turn_here"] (T.vq K):=OJ.to KX G (b3 fun _ _ _ _ _ _ _ _ _=>rfl) fun f fd F=>T.Kh F gs E7 E8
 have VO:Def P w K mg base 1 "_law_all_turns" [] T.vG:=OI.to KX G (b0 fun _ _ _ _ _ _=>rfl) fun f fd F=>T.Kq F gs
 have VN:Def P w K mg base 3 "_law_full" ["_law_number"] vA:=OH.to KX G (b1 fun _ _ _ _ _ _ _=>rfl) fun f fd F=>P9 F gs E6
 have VM:Def P w K mg base 4 "_law_counts" ["_law_number"] sf:=OG.to KX G (b1 fun _ _ _ _ _ _ _=>rfl) fun f fd F=>P8 F gs VN VO E9
 obtain⟨fR,Oi,OC,FR⟩:=id Dp
 obtain⟨fS,XO,OB,FS⟩:=id zl
 obtain⟨fI,XQ,OD,FI⟩:=id zk
 exact PH l2 l3 gs VM (good base).1.1 (good base).1.2 S2 S3 E2 E3 E4 hR (fun b'=> (good b').2.1) (fun b'=> (good b').2.2) (ZbH KX G OB) (ZbH KX G OD) (ZbH KX G OC) FR.kp MN (PySem.W.codeHd_of_K kb l4) bm
end
end U.K
namespace PySem.W.Fast
theorem tw9244672943675650176:True:=⟨⟩
theorem tw5122239138008165536:True:=⟨⟩
theorem tw6690040164491159712:True:=⟨⟩
theorem tw9902103962658204864:True:=⟨⟩
theorem tw12669585266062982336:True:=⟨⟩
theorem tw5896662957496269152:True:=⟨⟩
theorem tw16795590993617695264:True:=⟨⟩
theorem tw14949727240476921408:True:=⟨⟩
theorem tw1265906470793735008:True:=⟨⟩
theorem tw7515133513612320672:True:=⟨⟩
theorem tw15155802930375195584:True:=⟨⟩
theorem tw4193550998052114657:True:=⟨⟩
theorem tw9033901663142207777:True:=⟨⟩
theorem tw1854413502199610753:True:=⟨⟩
theorem tw649216672525685249:True:=⟨⟩
theorem tw4676385869605408289:True:=⟨⟩
theorem tw30367663782642273:True:=⟨⟩
theorem tw5881890739785782913:True:=⟨⟩
theorem tw3535171347315192513:True:=⟨⟩
theorem tw4335617409024403169:True:=⟨⟩
theorem tw7945766444566272865:True:=⟨⟩
theorem tw4794123730521647969:True:=⟨⟩
theorem tw15992833725850397569:True:=⟨⟩
theorem tw8291103272907992961:True:=⟨⟩
theorem tw5570434514324732801:True:=⟨⟩
theorem tw1150207056084864034:True:=⟨⟩
theorem tw15053631406277675138:True:=⟨⟩
theorem tw12724746770219317442:True:=⟨⟩
theorem tw8309598437101464802:True:=⟨⟩
theorem tw3035581532399552802:True:=⟨⟩
theorem tw899697251755317538:True:=⟨⟩
theorem tw7875693850770886018:True:=⟨⟩
theorem tw10338886159561719170:True:=⟨⟩
theorem tw11400037873046596130:True:=⟨⟩
theorem tw4255742557406392930:True:=⟨⟩
theorem tw17121851938785303170:True:=⟨⟩
theorem tw12584219107897458306:True:=⟨⟩
theorem tw7885486747586969218:True:=⟨⟩
theorem tw6031521436909987618:True:=⟨⟩
theorem tw4624907389342152642:True:=⟨⟩
theorem tw1355426794355431394:True:=⟨⟩
theorem tw1878845211370213443:True:=⟨⟩
theorem tw5281657341717005667:True:=⟨⟩
theorem tw18251525635860446659:True:=⟨⟩
theorem tw3321155263288935875:True:=⟨⟩
theorem tw3266152098276391427:True:=⟨⟩
theorem tw5047131296475064867:True:=⟨⟩
theorem tw7576832888503108163:True:=⟨⟩
theorem tw3328554012517943875:True:=⟨⟩
theorem tw4508829820073805411:True:=⟨⟩
theorem tw10409247669085555363:True:=⟨⟩
theorem tw6831575289748365123:True:=⟨⟩
theorem tw7404133065097505603:True:=⟨⟩
theorem tw3591211784463657891:True:=⟨⟩
theorem tw226491760352693187:True:=⟨⟩
theorem tw2166799939805591588:True:=⟨⟩
theorem tw7165165082789258308:True:=⟨⟩
theorem tw18356550050763243652:True:=⟨⟩
theorem tw14455807881908750564:True:=⟨⟩
theorem tw14152244172982508900:True:=⟨⟩
theorem tw7316160598814763396:True:=⟨⟩
theorem tw8654817957327296036:True:=⟨⟩
theorem tw5448802252650637860:True:=⟨⟩
theorem tw1070900496818023076:True:=⟨⟩
theorem tw4063415370113790628:True:=⟨⟩
theorem tw2502606628222910148:True:=⟨⟩
theorem tw12940638507768957668:True:=⟨⟩
theorem tw13782267244893924100:True:=⟨⟩
theorem tw12754092755783788388:True:=⟨⟩
theorem tw9898548186322433892:True:=⟨⟩
theorem tw17321102796388448132:True:=⟨⟩
theorem tw12986269087455265861:True:=⟨⟩
theorem tw6293571414973583429:True:=⟨⟩
theorem tw12348310857584337285:True:=⟨⟩
theorem tw16752771526871344581:True:=⟨⟩
theorem tw542583251758027333:True:=⟨⟩
theorem tw10309481417964889669:True:=⟨⟩
theorem tw4625640406530340453:True:=⟨⟩
theorem tw779605301549223621:True:=⟨⟩
theorem tw3026053227181156165:True:=⟨⟩
theorem tw16101123234740672357:True:=⟨⟩
theorem tw4864906939119794053:True:=⟨⟩
theorem tw18021699414733748165:True:=⟨⟩
theorem tw13388884020592176101:True:=⟨⟩
theorem tw15132446079223866534:True:=⟨⟩
theorem tw12743092682487638310:True:=⟨⟩
theorem tw9277299329155616038:True:=⟨⟩
theorem tw8230526168623164742:True:=⟨⟩
theorem tw15730252376708530534:True:=⟨⟩
theorem tw12041724863417857414:True:=⟨⟩
theorem tw1855444999524207014:True:=⟨⟩
theorem tw12910834747543841190:True:=⟨⟩
theorem tw16796553423312605862:True:=⟨⟩
theorem tw3017637811662402246:True:=⟨⟩
theorem tw17014986578008068838:True:=⟨⟩
theorem tw16507624241984015078:True:=⟨⟩
theorem tw14119394876694516550:True:=⟨⟩
theorem tw17289989734463298406:True:=⟨⟩
theorem tw10716336037474552710:True:=⟨⟩
theorem tw14443890419131531142:True:=⟨⟩
theorem tw4045131542799333286:True:=⟨⟩
theorem tw14988459441173064614:True:=⟨⟩
theorem tw3600513455669051302:True:=⟨⟩
theorem tw4508092254097745862:True:=⟨⟩
theorem tw6516746109791258598:True:=⟨⟩
theorem tw5807964829058044935:True:=⟨⟩
theorem tw8572178893795037319:True:=⟨⟩
theorem tw3315879216705593479:True:=⟨⟩
theorem tw11115777576008883367:True:=⟨⟩
theorem tw12894094333126136071:True:=⟨⟩
theorem tw15924095275469327655:True:=⟨⟩
theorem tw9943903376672255271:True:=⟨⟩
theorem tw1819511468424158535:True:=⟨⟩
theorem tw10656307943961705831:True:=⟨⟩
theorem tw1214725964254974375:True:=⟨⟩
theorem tw13310481462405550535:True:=⟨⟩
theorem tw8996031370248782311:True:=⟨⟩
theorem tw10822453858242006631:True:=⟨⟩
theorem tw5279606998590087:True:=⟨⟩
theorem tw12061637150992037511:True:=⟨⟩
theorem tw8453537081024780967:True:=⟨⟩
theorem tw17649205917849061063:True:=⟨⟩
theorem tw15016299829679828711:True:=⟨⟩
theorem tw6725151369781300007:True:=⟨⟩
theorem tw17793431573700796199:True:=⟨⟩
theorem tw1055850029906973607:True:=⟨⟩
theorem tw18173231407091637191:True:=⟨⟩
theorem tw13923265951489923112:True:=⟨⟩
theorem tw11363517535471700072:True:=⟨⟩
theorem tw14129945869678559400:True:=⟨⟩
theorem tw17773903523879841224:True:=⟨⟩
theorem tw3020630722000676360:True:=⟨⟩
theorem tw16339211848380990120:True:=⟨⟩
theorem tw15639318054938605256:True:=⟨⟩
theorem tw15986607056149115592:True:=⟨⟩
theorem tw2581903118231802600:True:=⟨⟩
theorem tw14057539939984236328:True:=⟨⟩
theorem tw11147992742765165384:True:=⟨⟩
theorem tw1754958476487855113:True:=⟨⟩
theorem tw16590611308538002601:True:=⟨⟩
theorem tw11781242638805028137:True:=⟨⟩
theorem tw5638051992461509961:True:=⟨⟩
theorem tw16314190646955460937:True:=⟨⟩
theorem tw1686786382678595241:True:=⟨⟩
theorem tw10753673382275357545:True:=⟨⟩
theorem tw9633951130257257353:True:=⟨⟩
theorem tw5536183833741289385:True:=⟨⟩
theorem tw3297730343408282569:True:=⟨⟩
theorem tw12788326407239016490:True:=⟨⟩
theorem tw604692226025617482:True:=⟨⟩
theorem tw17523595689149957226:True:=⟨⟩
theorem tw7060408404736125098:True:=⟨⟩
theorem tw7842405022688302250:True:=⟨⟩
theorem tw8891708379276474538:True:=⟨⟩
theorem tw12597689590522665162:True:=⟨⟩
theorem tw8750289739022563530:True:=⟨⟩
theorem tw13252513519840889162:True:=⟨⟩
theorem tw13427525280389450058:True:=⟨⟩
theorem tw4853255778124518762:True:=⟨⟩
theorem tw3290330630575985002:True:=⟨⟩
theorem tw16159767799270376906:True:=⟨⟩
theorem tw6805994083792529962:True:=⟨⟩
theorem tw12593373555360692778:True:=⟨⟩
theorem tw10295246346712232586:True:=⟨⟩
theorem tw2233602563765627562:True:=⟨⟩
theorem tw495143267847843658:True:=⟨⟩
theorem tw9733240103197971434:True:=⟨⟩
theorem tw7936263517726858315:True:=⟨⟩
theorem tw13926520590018832459:True:=⟨⟩
theorem tw14477450164559757451:True:=⟨⟩
theorem tw15846498832441351435:True:=⟨⟩
theorem tw11937141115747620107:True:=⟨⟩
theorem tw10365544882443394347:True:=⟨⟩
theorem tw15326929593421801803:True:=⟨⟩
theorem tw9104188377603992939:True:=⟨⟩
theorem tw277077198059798955:True:=⟨⟩
theorem tw6734879388772710827:True:=⟨⟩
theorem tw7085787061680745003:True:=⟨⟩
theorem tw2900643505571156523:True:=⟨⟩
theorem tw8022667638510036683:True:=⟨⟩
theorem tw4238716546201386699:True:=⟨⟩
theorem tw14984850446539218667:True:=⟨⟩
theorem tw5711117315433870155:True:=⟨⟩
theorem tw10468172918429236107:True:=⟨⟩
theorem tw6785596004343383979:True:=⟨⟩
theorem tw3788003807187445707:True:=⟨⟩
theorem tw10268171737163140140:True:=⟨⟩
theorem tw12874464906987375692:True:=⟨⟩
theorem tw3630497973003735148:True:=⟨⟩
theorem tw12920548617512450156:True:=⟨⟩
theorem tw8727899586413774988:True:=⟨⟩
theorem tw4635006516270832844:True:=⟨⟩
theorem tw9217473369941970124:True:=⟨⟩
theorem tw14053770432210628844:True:=⟨⟩
theorem tw6791165357293296876:True:=⟨⟩
theorem tw3986119585458206988:True:=⟨⟩
theorem tw14307531461614920972:True:=⟨⟩
theorem tw12526455745412926796:True:=⟨⟩
theorem tw11644139502829281676:True:=⟨⟩
theorem tw11917860784153917932:True:=⟨⟩
theorem tw16220512234212724364:True:=⟨⟩
theorem tw6330404793723547340:True:=⟨⟩
theorem tw8954694490836213516:True:=⟨⟩
theorem tw17895706621860162380:True:=⟨⟩
theorem tw2300141778252380012:True:=⟨⟩
theorem tw13862392247071567756:True:=⟨⟩
theorem tw11875996313501965260:True:=⟨⟩
theorem tw10929889334244705293:True:=⟨⟩
theorem tw2991411113529966605:True:=⟨⟩
theorem tw5285559246422598925:True:=⟨⟩
theorem tw13978910676477999437:True:=⟨⟩
theorem tw1039446687153728845:True:=⟨⟩
theorem tw4353925801456008557:True:=⟨⟩
theorem tw9133989580972845453:True:=⟨⟩
theorem tw3846439213023740365:True:=⟨⟩
theorem tw16915792036133834189:True:=⟨⟩
theorem tw2460381170572215853:True:=⟨⟩
theorem tw6305457838923902509:True:=⟨⟩
theorem tw7910203555693125197:True:=⟨⟩
theorem tw6957346203492192973:True:=⟨⟩
theorem tw17255194331801876269:True:=⟨⟩
theorem tw7832027670191494989:True:=⟨⟩
theorem tw837026969858404205:True:=⟨⟩
theorem tw8465312317751769005:True:=⟨⟩
theorem tw8029179035232629741:True:=⟨⟩
theorem tw7275777719420813326:True:=⟨⟩
theorem tw4687814988044296206:True:=⟨⟩
theorem tw10915914531826438222:True:=⟨⟩
theorem tw4341624277561953710:True:=⟨⟩
theorem tw3102542029635596750:True:=⟨⟩
theorem tw13722893478644878894:True:=⟨⟩
theorem tw14752087792962615950:True:=⟨⟩
theorem tw13634679865964718734:True:=⟨⟩
theorem tw1440285043491816142:True:=⟨⟩
theorem tw7708197360779018062:True:=⟨⟩
theorem tw10491319640843039662:True:=⟨⟩
theorem tw408671316617581550:True:=⟨⟩
theorem tw14693177278701558799:True:=⟨⟩
theorem tw16051254063992463407:True:=⟨⟩
theorem tw5021312282759279695:True:=⟨⟩
theorem tw18445132899858429199:True:=⟨⟩
theorem tw15416509871313398095:True:=⟨⟩
theorem tw10858661733964445007:True:=⟨⟩
theorem tw5105932129747191151:True:=⟨⟩
theorem tw6093574678962828815:True:=⟨⟩
theorem tw9684434567860687503:True:=⟨⟩
theorem tw9110068893954555631:True:=⟨⟩
theorem tw8792552677924253455:True:=⟨⟩
theorem tw15683893432990239535:True:=⟨⟩
theorem tw7452499945850920783:True:=⟨⟩
theorem tw464108543629376495:True:=⟨⟩
theorem tw2605713034769205264:True:=⟨⟩
theorem tw16785208003126449200:True:=⟨⟩
theorem tw12035680689467510864:True:=⟨⟩
theorem tw14007898575880842352:True:=⟨⟩
theorem tw3280136429638297744:True:=⟨⟩
theorem tw7760124120581036240:True:=⟨⟩
theorem tw11574400387497167056:True:=⟨⟩
theorem tw3974197090728313072:True:=⟨⟩
theorem tw4184716348293385456:True:=⟨⟩
theorem tw4005737362700750096:True:=⟨⟩
theorem tw9385514981272189232:True:=⟨⟩
theorem tw8882098716811666736:True:=⟨⟩
theorem tw6999762868214581584:True:=⟨⟩
theorem tw9205310211614513520:True:=⟨⟩
theorem tw6801666883806923216:True:=⟨⟩
theorem tw13211560813225962096:True:=⟨⟩
theorem tw5054301586109414064:True:=⟨⟩
theorem tw13141603963092101968:True:=⟨⟩
theorem tw1826974704516576176:True:=⟨⟩
theorem tw16101001029802872816:True:=⟨⟩
theorem tw9832009877065149521:True:=⟨⟩
theorem tw8928033471055841425:True:=⟨⟩
theorem tw4499807063452068017:True:=⟨⟩
theorem tw2332540055216684401:True:=⟨⟩
theorem tw3268471003271440849:True:=⟨⟩
theorem tw14277955029479203377:True:=⟨⟩
theorem tw13524599002989996657:True:=⟨⟩
theorem tw3349628596450893457:True:=⟨⟩
theorem tw3898783515934545553:True:=⟨⟩
theorem tw13319257698341552817:True:=⟨⟩
theorem tw2848598841215516369:True:=⟨⟩
theorem tw849718261352242961:True:=⟨⟩
theorem tw6106221528451444593:True:=⟨⟩
theorem tw1327153818968976305:True:=⟨⟩
theorem tw7290818524358869010:True:=⟨⟩
theorem tw1963887537178353714:True:=⟨⟩
theorem tw2349223616245809202:True:=⟨⟩
theorem tw10257254181511109778:True:=⟨⟩
theorem tw9709642823277189330:True:=⟨⟩
theorem tw8132337834507352274:True:=⟨⟩
theorem tw7869674746697836786:True:=⟨⟩
theorem tw12330935340393413906:True:=⟨⟩
theorem tw8905034704167620882:True:=⟨⟩
theorem tw3635076301391483154:True:=⟨⟩
theorem tw1872959075628260658:True:=⟨⟩
theorem tw16931583660247835954:True:=⟨⟩
theorem tw9813716313353284946:True:=⟨⟩
theorem tw14227455397633037714:True:=⟨⟩
theorem tw6697640484481636754:True:=⟨⟩
theorem tw9926023154998272402:True:=⟨⟩
theorem tw16688491636397159858:True:=⟨⟩
theorem tw158218294569958002:True:=⟨⟩
theorem tw16266797554342506130:True:=⟨⟩
theorem tw17846380460694356658:True:=⟨⟩
theorem tw15311703966052767474:True:=⟨⟩
theorem tw13888404192897502962:True:=⟨⟩
theorem tw8822801066885456626:True:=⟨⟩
theorem tw17430722008831941394:True:=⟨⟩
theorem tw10357487685340836786:True:=⟨⟩
theorem tw14289868139854301170:True:=⟨⟩
theorem tw16094933280721609939:True:=⟨⟩
theorem tw6171928587566967059:True:=⟨⟩
theorem tw9806237899835395379:True:=⟨⟩
theorem tw2843165109272373683:True:=⟨⟩
theorem tw2398448498634008019:True:=⟨⟩
theorem tw16206610751645967859:True:=⟨⟩
theorem tw40520466625344083:True:=⟨⟩
theorem tw1976433605340527251:True:=⟨⟩
theorem tw7429531422662427315:True:=⟨⟩
theorem tw1139051659811614451:True:=⟨⟩
theorem tw12873678142584988435:True:=⟨⟩
theorem tw4117915921804486483:True:=⟨⟩
theorem tw7130257309040318323:True:=⟨⟩
theorem tw16932107964572634132:True:=⟨⟩
theorem tw8943802293055906868:True:=⟨⟩
theorem tw5450390806210748532:True:=⟨⟩
theorem tw6292776284024153332:True:=⟨⟩
theorem tw2300571887537447220:True:=⟨⟩
theorem tw10575625561529327956:True:=⟨⟩
theorem tw830227546031729172:True:=⟨⟩
theorem tw5320589280228420180:True:=⟨⟩
theorem tw17275979507626891988:True:=⟨⟩
theorem tw8760155429458505428:True:=⟨⟩
theorem tw14242711357223121652:True:=⟨⟩
theorem tw9945206453176284980:True:=⟨⟩
theorem tw1517994907057993524:True:=⟨⟩
theorem tw10719730732278648724:True:=⟨⟩
theorem tw10455507779248890836:True:=⟨⟩
theorem tw4601121536882084852:True:=⟨⟩
theorem tw7509892520770035893:True:=⟨⟩
theorem tw506468505441745173:True:=⟨⟩
theorem tw8648243609059018005:True:=⟨⟩
theorem tw6698473251400597813:True:=⟨⟩
theorem tw15263531821670659381:True:=⟨⟩
theorem tw16241911495846556181:True:=⟨⟩
theorem tw15688156842913609365:True:=⟨⟩
theorem tw1295595729474982549:True:=⟨⟩
theorem tw9217364555892333237:True:=⟨⟩
theorem tw12215886708428062389:True:=⟨⟩
theorem tw16355738178443565749:True:=⟨⟩
theorem tw16912841306704891637:True:=⟨⟩
theorem tw15668049089798619925:True:=⟨⟩
theorem tw5191466463149549365:True:=⟨⟩
theorem tw13096238654708120501:True:=⟨⟩
theorem tw6230359824742195125:True:=⟨⟩
theorem tw18232637902390213814:True:=⟨⟩
theorem tw3080487248552411446:True:=⟨⟩
theorem tw5902256850527308086:True:=⟨⟩
theorem tw10029201945501368854:True:=⟨⟩
theorem tw7998530745583951414:True:=⟨⟩
theorem tw8294966609741091638:True:=⟨⟩
theorem tw13831896316003358518:True:=⟨⟩
theorem tw13152843563676433270:True:=⟨⟩
theorem tw815017999722386390:True:=⟨⟩
theorem tw15479192045970187383:True:=⟨⟩
theorem tw12072991872488358039:True:=⟨⟩
theorem tw689359635200192727:True:=⟨⟩
theorem tw573400194760450295:True:=⟨⟩
theorem tw1917013590757944567:True:=⟨⟩
theorem tw11806386628584889591:True:=⟨⟩
theorem tw13400272472622284151:True:=⟨⟩
theorem tw2689253693907969463:True:=⟨⟩
theorem tw3933724817627630071:True:=⟨⟩
theorem tw15901761599033212439:True:=⟨⟩
theorem tw9971887265949603383:True:=⟨⟩
theorem tw3293057205247824471:True:=⟨⟩
theorem tw2812488593817426519:True:=⟨⟩
theorem tw2111666419082726039:True:=⟨⟩
theorem tw8162506307653712535:True:=⟨⟩
theorem tw16988090286620589879:True:=⟨⟩
theorem tw4798575689619800887:True:=⟨⟩
theorem tw7984120123095960407:True:=⟨⟩
theorem tw4335598083041221591:True:=⟨⟩
theorem tw2173862093771756696:True:=⟨⟩
theorem tw11455585052752495800:True:=⟨⟩
theorem tw354752201623892216:True:=⟨⟩
theorem tw1520219781910100440:True:=⟨⟩
theorem tw13741100382562549336:True:=⟨⟩
theorem tw11223527451143741048:True:=⟨⟩
theorem tw8900867214304323288:True:=⟨⟩
theorem tw5046197868901860088:True:=⟨⟩
theorem tw6305287923795464952:True:=⟨⟩
theorem tw8606920230946507544:True:=⟨⟩
theorem tw14374778903923862424:True:=⟨⟩
theorem tw16496306467449101465:True:=⟨⟩
theorem tw14720568017567881401:True:=⟨⟩
theorem tw14253583634844045497:True:=⟨⟩
theorem tw17632258328246913209:True:=⟨⟩
theorem tw2600285260409300217:True:=⟨⟩
theorem tw17018130272922712313:True:=⟨⟩
theorem tw16101521627011579225:True:=⟨⟩
theorem tw12810469595117596025:True:=⟨⟩
theorem tw5859570840695709081:True:=⟨⟩
theorem tw1107136220936776089:True:=⟨⟩
theorem tw15421424419982615001:True:=⟨⟩
theorem tw12017594568568612377:True:=⟨⟩
theorem tw10293896251304015545:True:=⟨⟩
theorem tw7910146843829369561:True:=⟨⟩
theorem tw3543840087354549017:True:=⟨⟩
theorem tw7973073760089404217:True:=⟨⟩
theorem tw9761358707896639353:True:=⟨⟩
theorem tw10882479864439548954:True:=⟨⟩
theorem tw13870310567550403610:True:=⟨⟩
theorem tw4245198912579693594:True:=⟨⟩
theorem tw5126902557778703418:True:=⟨⟩
theorem tw15186401104557561978:True:=⟨⟩
theorem tw13872927189650464922:True:=⟨⟩
theorem tw977008588342975642:True:=⟨⟩
theorem tw1910419569556831418:True:=⟨⟩
theorem tw7763700550636628186:True:=⟨⟩
theorem tw10538429301386642682:True:=⟨⟩
theorem tw2189157138709818618:True:=⟨⟩
theorem tw7630402736179891514:True:=⟨⟩
theorem tw16709029838715647418:True:=⟨⟩
theorem tw10355757300939634202:True:=⟨⟩
theorem tw7745051480320000570:True:=⟨⟩
theorem tw6533802619111193242:True:=⟨⟩
theorem tw15390902367454874330:True:=⟨⟩
theorem tw943226877771846394:True:=⟨⟩
theorem tw11794015482787345210:True:=⟨⟩
theorem tw7054866569303386938:True:=⟨⟩
theorem tw206311439979659098:True:=⟨⟩
theorem tw754142269042193338:True:=⟨⟩
theorem tw5017661423879418874:True:=⟨⟩
theorem tw8579186860718653531:True:=⟨⟩
theorem tw14788518147354130523:True:=⟨⟩
theorem tw5123398971061889243:True:=⟨⟩
theorem tw17746123069578772731:True:=⟨⟩
theorem tw11170945796210910459:True:=⟨⟩
theorem tw10180752740264739163:True:=⟨⟩
theorem tw13580574378114781563:True:=⟨⟩
theorem tw16531003899060989339:True:=⟨⟩
theorem tw6672008823189801467:True:=⟨⟩
theorem tw7969541434574755419:True:=⟨⟩
theorem tw17535682324311963227:True:=⟨⟩
theorem tw15044935130451658395:True:=⟨⟩
theorem tw1161101526074913499:True:=⟨⟩
theorem tw6993404313865427803:True:=⟨⟩
theorem tw7311689833282785147:True:=⟨⟩
theorem tw1328452873355101083:True:=⟨⟩
theorem tw13348762494015115163:True:=⟨⟩
theorem tw4578806177853070299:True:=⟨⟩
theorem tw11716097816932797435:True:=⟨⟩
theorem tw6874423188287758396:True:=⟨⟩
theorem tw5182712425158287420:True:=⟨⟩
theorem tw5848628985707683932:True:=⟨⟩
theorem tw3924591873247681628:True:=⟨⟩
theorem tw561216721525857404:True:=⟨⟩
theorem tw3951346732310692092:True:=⟨⟩
theorem tw14380815916730855836:True:=⟨⟩
theorem tw10138679756741724700:True:=⟨⟩
theorem tw3868708674288831100:True:=⟨⟩
theorem tw15774834900556927676:True:=⟨⟩
theorem tw13258928310955147996:True:=⟨⟩
theorem tw17959441206698477340:True:=⟨⟩
theorem tw6422735838111273788:True:=⟨⟩
theorem tw7689256054220027740:True:=⟨⟩
theorem tw3099708733765993372:True:=⟨⟩
theorem tw6629157638200209437:True:=⟨⟩
theorem tw4364661878525226013:True:=⟨⟩
theorem tw515035689175918653:True:=⟨⟩
theorem tw5061670282495389821:True:=⟨⟩
theorem tw2139984650841536733:True:=⟨⟩
theorem tw12501909967645319613:True:=⟨⟩
theorem tw10175226324560401949:True:=⟨⟩
theorem tw15356504219709195901:True:=⟨⟩
theorem tw12674887856613794493:True:=⟨⟩
theorem tw16756641915186762493:True:=⟨⟩
theorem tw14753918666947247901:True:=⟨⟩
theorem tw6770774255400214333:True:=⟨⟩
theorem tw17369675010981131326:True:=⟨⟩
theorem tw15596090548446172510:True:=⟨⟩
theorem tw8456119566736344478:True:=⟨⟩
theorem tw11792673481333593566:True:=⟨⟩
theorem tw3831818965911054910:True:=⟨⟩
theorem tw12655893246399448766:True:=⟨⟩
theorem tw11429759296423704318:True:=⟨⟩
theorem tw844540957902980894:True:=⟨⟩
theorem tw13529654945547198270:True:=⟨⟩
theorem tw11096974566648680286:True:=⟨⟩
theorem tw7144756663609697118:True:=⟨⟩
theorem tw7148612502769142654:True:=⟨⟩
theorem tw16662270203060133983:True:=⟨⟩
theorem tw5671761676685671583:True:=⟨⟩
theorem tw15449521068371648735:True:=⟨⟩
theorem tw4435347724669537567:True:=⟨⟩
theorem tw173295253353655583:True:=⟨⟩
theorem tw15358241204145435039:True:=⟨⟩
theorem tw1056977443520630207:True:=⟨⟩
theorem tw17335989870337871391:True:=⟨⟩
theorem tw5631490614254185023:True:=⟨⟩
theorem tw13615153155336105631:True:=⟨⟩
theorem tw12871576329769728703:True:=⟨⟩
theorem tw12260109482441699039:True:=⟨⟩
theorem tw12807891422182051615:True:=⟨⟩
theorem tw2593552728644686655:True:=⟨⟩
theorem tw8550194750751825791:True:=⟨⟩
theorem tw17129167980106000099:True:=⟨⟩
end PySem.W.Fast
set_option maxRecDepth 100000 in
set_option maxHeartbeats 0 in
theorem PySem.Challenge.cw_unlikesteps_k82_kinds_of_full_lays_holds : PySem.Challenge.rw_unlikesteps_k82_kinds_of_full_lays.Holds := by
 w_on; o_law; k_head; (case hw => w_witness2)
 k_fill
 refine U.Gd (l := PySem.Challenge.rw_unlikesteps_k82_kinds_of_full_lays) (n := 63) (k := 18) (x := "_law_script") (Pts := [498]) (sp := fun K => U.K.vo K 498) rfl .d rfl ⟨rfl, by decide, by decide, rfl⟩ (fun w h Y => PySem.W.km_in_of Y) ?hT9 ?hC9 ?hN9 ?F ?S
 case hT9 =>
  intro w h Y P hP
  simp only [List.mem_cons, List.not_mem_nil, or_false] at hP
  rcases hP with rfl
  ·exact PySem.W.km_tabs_of Y 498 (by simp)
 case hC9 =>
  intro w h X P hP
  simp only [List.mem_cons, List.not_mem_nil, or_false] at hP
  rcases hP with rfl
  ·exact ⟨500, PySem.W.codeHd_of_K X (by kernel_rfl)⟩
 case hN9 =>
  intro w P hP
  simp only [List.mem_cons, List.not_mem_nil, or_false] at hP
  rcases hP with rfl
  ·kernel_rfl
 case S => exact fun K H a ns hl hs hp => ⟨a, ns, rfl, hs, hl, hp _ (by simp), fun _ => rfl⟩
 case F =>
  intro w mg fa h KX G hmg
  refine' U.K.Lq (c := 500) (Pt := 498) KX G hmg (U.aZ ?a0 ?b0 ?c0 ?e0) (U.aZ ?a1 ?b1 ?c1 ?e1) (U.aZ ?a2 ?b2 ?c2 ?e2) (U.aZ ?a3 ?b3 ?c3 ?e3) (U.aZ ?a4 ?b4 ?c4 ?e4) (U.aZ ?a5 ?b5 ?c5 ?e5) (U.aZ ?a6 ?b6 ?c6 ?e6) (U.aZ ?a7 ?b7 ?c7 ?e7) (U.aZ ?a8 ?b8 ?c8 ?e8) (U.aZ ?a9 ?b9 ?c9 ?e9) (U.aZ ?a10 ?b10 ?c10 ?e10) (U.aZ ?a11 ?b11 ?c11 ?e11) (U.aZ ?a12 ?b12 ?c12 ?e12) (U.aZ ?a13 ?b13 ?c13 ?e13) (U.aZ ?a14 ?b14 ?c14 ?e14) (U.aZ ?a15 ?b15 ?c15 ?e15) (U.aZ ?a16 ?b16 ?c16 ?e16) (U.aZ ?a17 ?b17 ?c17 ?e17) (U.aZ ?a18 ?b18 ?c18 ?e18) (U.aZ ?a19 ?b19 ?c19 ?e19) (U.aZ ?a20 ?b20 ?c20 ?e20) (U.aZ ?a21 ?b21 ?c21 ?e21) (U.aZ ?a22 ?b22 ?c22 ?e22) (U.aZ ?a23 ?b23 ?c23 ?e23) (U.aZ ?a24 ?b24 ?c24 ?e24) (U.aZ ?a25 ?b25 ?c25 ?e25) (U.aZ ?a26 ?b26 ?c26 ?e26) (U.aZ ?a27 ?b27 ?c27 ?e27) (U.aZ ?a28 ?b28 ?c28 ?e28) (U.aZ ?a29 ?b29 ?c29 ?e29) (U.aZ ?a30 ?b30 ?c30 ?e30) (U.aZ ?a31 ?b31 ?c31 ?e31) (U.aZ ?a32 ?b32 ?c32 ?e32) (U.aZ ?a33 ?b33 ?c33 ?e33) (U.aZ ?a34 ?b34 ?c34 ?e34) (U.aZ ?a35 ?b35 ?c35 ?e35) (U.aZ ?a36 ?b36 ?c36 ?e36) (U.aZ ?a37 ?b37 ?c37 ?e37) (U.aZ ?a38 ?b38 ?c38 ?e38) (U.aZ ?a39 ?b39 ?c39 ?e39) (U.aZ ?a40 ?b40 ?c40 ?e40) (U.aZ ?a41 ?b41 ?c41 ?e41) (U.aZ ?a42 ?b42 ?c42 ?e42) (U.aZ ?a43 ?b43 ?c43 ?e43) ?l1 ?l2 ?l3 ?l4 ?g1 ?lo0 ?lo1 ?lo2 ?lo3 ?eN ?eS ?xN ?eTU ?hTU ?gaN ?hoN ?clN
  case a0|b0|c0|e0|a1|b1|c1|e1|a2|b2|c2|e2|a3|b3|c3|e3|a4|b4|c4|e4|a5|b5|c5|e5|a6|b6|c6|e6|a7|b7|c7|e7|a8|b8|c8|e8|a9|b9|c9|e9|a10|b10|c10|e10|a11|b11|c11|e11|a12|b12|c12|e12|a13|b13|c13|e13|a14|b14|c14|e14|a15|b15|c15|e15|a16|b16|c16|e16|a17|b17|c17|e17|a18|b18|c18|e18|a19|b19|c19|e19|a20|b20|c20|e20|a21|b21|c21|e21|a22|b22|c22|e22|a23|b23|c23|e23|a24|b24|c24|e24|a25|b25|c25|e25|a26|b26|c26|e26|a27|b27|c27|e27|a28|b28|c28|e28|a29|b29|c29|e29|a30|b30|c30|e30|a31|b31|c31|e31|a32|b32|c32|e32|a33|b33|c33|e33|a34|b34|c34|e34|a35|b35|c35|e35|a36|b36|c36|e36|a37|b37|c37|e37|a38|b38|c38|e38|a39|b39|c39|e39|a40|b40|c40|e40|a41|b41|c41|e41|a42|b42|c42|e42|a43|b43|c43|e43|l1|l2|l3|lo0|lo1|lo2|lo3|eN|eS|eTU|gaN|hoN|clN=>k_is
  case l4|g1|xN|hTU=>kernel_rfl
