import PyProof.Rows.All
import Wide.All
import OpenK.AllK
import Wide.FinOn
import Lean
import PySem.Challenge.RW_unlikesteps_k31_papers_looked_at
set_option Elab.async false
set_option linter.all false
set_option autoImplicit true
set_option relaxedAutoImplicit true
set_option compiler.extract_closed false
local macro_rules|`(.o)=>`(by omega)
local macro_rules|`(.d)=>`(by decide)
noncomputable section
local macro_rules|`(.l)=>`(by lia)
local macro_rules|`(.s)=>`(by simp)
local macro_rules|`(.k)=>`(by decide+kernel)
local macro_rules|`(.r)=>`(by rfl)
set_option maxRecDepth 100000
set_option maxHeartbeats 0
def gc:=@PySem.wpAny_bind
def Zai:=@List.getElem?_eq_some_iff
def Zaj:=@List.getElem?_eq_getElem
def Zak:=@List.length_append
def Zal:=@Nat.le_refl
def Zam:=@Bool.false_ne_true
def Zan:=@PySem.Heap.get?_push_of_some
def Zao:=@List.mem_of_getElem?
def Zap:=@Bool.and_eq_true
def Zaq:=@List.mem_cons_of_mem
def Zar:=@List.size_toArray
def Zas:=@List.mem_cons
def Zat:=@List.length_map
def Zau:=@decide_eq_true
def Zav:=@PySem.wpAny_pure
def Zaw:=@List.mem_append_right
def Zax:=@decide_eq_false
def Zay:=@List.mem_append
def Zaz:=@List.mem_cons_self
def ZaA:=@PySem.Heap.lt_size
def ZaB:=@List.length_take
def ZaC:=@PyProof.Rows.wpS_bind
def ZaD:=@PySem.Heap.get?_push_size
def ZaE:=@List.mem_singleton
def ZaF:=@decide_eq_true_eq
def ZaG:=@Nat.lt_of_lt_of_le
def ZaH:=@PySem.sizeLine_eq
def ZaI:=@PyProof.Rows.wpS_pure
def ZaJ:=@Nat.zero_le
def ZaK:=@List.all_eq_true
def ZaL:=@List.mem_filter
def ZaM:=@PySem.Paired.length
def ZaN:=@if_neg
def ZaO:=@List.take_add_one
def ZaP:=@List.append_assoc
def ZaQ:=@if_pos
def ZaR:=@Nat.ne_of_lt
def ZaS:=@List.mem_append_left
def ZaT:=@Array.length_toList
def ZaU:=@List.length_cons
def ZaV:=@List.take_length
def ZaW:=@List.map_append
def ZaX:=@List.getElem?_of_mem
def ZaZ:=@Array.getElem?_toList
def Za2:=@List.mem_map
def Za3:=@Option.some.inj
def Za4:=@List.filter_append
def Za5:=@List.length_drop
def Za6:=@PyProof.Rows.slot_tuple_getitem
def Za9:=@List.take_append_drop
def Zba:=@List.length_filter_le
def Zbb:=@Nat.le_trans
def Zbd:=@Bool.false_and
def Zbe:=@Nat.max_eq_right
def Zbf:=@List.mem_range
def Zbg:=@List.nodup_iff_pairwise_ne
def Zbi:=@List.append_nil
def Zbk:=@List.not_mem_nil
def Zbl:=@Nat.le_of_lt
def Zbm:=@PySem.wpAny_newObj_type
def Zbo:=@Bool.true_and
def Zbp:=@Option.map_eq_some_iff
def Zbt:=@List.getElem?_append_right
def Zbv:=@List.map_cons
def Zbw:=@List.getElem?_append_left
def Zbx:=@List.Pairwise.sublist
def Zby:=@List.getElem?_map
def Zbz:=@Array.toList_push
def ZbA:=@List.getElem_mem
def ZbB:=@List.pairwise_append
def ZbC:=@PySem.wpAny_callSpecial?_slot
def ZbD:=@List.pairwise_cons
def ZbE:=@List.filterMap_cons
def ZbF:=@PySem.wpAny_field
def ZbG:=@Int.toNat_of_nonneg
def ZbH:=@PyProof.Rows.wpS_forRange
def ZbJ:=@List.take_of_length_le
def ZbM:=@Nat.lt_irrefl
def ZbP:=@of_decide_eq_true
def ZbQ:=@Int.emod_lt_of_pos
def ZbR:=@PySem.wpAny_mono
def ZbT:=@congrArg
def ZbU:=@Array.toList_append
def ZbV:=@PySem.F.plainAttrs_list
def ZbY:=@List.filter_cons_of_neg
def ZbZ:=@PyProof.Rows.boot_isinstance
def Zb0:=@PySem.PassesOwn.never
def Zb2:=@Int.toNat_natCast
def Zb3:=@List.mem_of_mem_drop
def Zb4:=@PySem.Heap.get?_update_other
def Zb5:=@List.drop_eq_nil_of_le
def Zb7:=@List.mem_filterMap
def Zb8:=@List.getElem?_drop
def Zb9:=@List.getElem?_take_of_lt
def Zca:=@PyProof.Rows.callWith_type1
def Zcc:=@Bool.eq_iff_iff
def Zcd:=@PySem.W.kia_one
def Zce:=@Int.emod_nonneg
def Zcf:=@List.all_cons
def Zcg:=@Bool.not_eq_true'
def Zch:=@PySem.W.mg_of
def Zci:=@List.getD_eq_getElem?_getD
def Zcj:=@Array.perm_iff_toList_perm
def Zco:=@List.mem_of_mem_take
def Zcp:=@or_false
def Zcr:=@beq_iff_eq
def Zcv:=@PySem.wpAny_seqItems
def Zcw:=@List.range_succ
def ZcB:=@List.getElem?_zip_eq_some
def ZcD:=@PySem.wpAny_call_entry
def ZcF:=@PySem.mem_of_lookup
def ZcP:=@PySem.wpAny_truthy_bool
def ZcR:=@List.length_range
def ZcS:=@List.nodup_append
def ZcT:=@PySem.wpAny_holding
def ZcU:=@PySem.wpAny_Call_Name_kw
def ZcV:=@List.nodup_cons
def ZcW:=@PySem.SeqAt.EqAt.int_int
def ZcX:=@Bool.false_eq_true
def ZcY:=@PySem.boot_len
def ZcZ:=@List.replicate_succ
def Zc0:=@List.pairwise_map
def Zc1:=@Bool.and_false
def Zc2:=@List.pairwise_iff_getElem
def Zc3:=@List.Perm.append_left
def Zc4:=@Int.zero_add
def Zc5:=@Option.isSome_iff_exists
def Zc6:=@List.length_filterMap_le
def Zc7:=@PySem.F.slot_list_append
def Zc8:=@PySem.F.type_list_append
def Zc9:=@PySem.Paired.snoc
def Zda:=@List.any_eq_true
def Zdb:=@List.filter_cons_of_pos
def Zdc:=@PySem.wpAny_rule
def Zdd:=@Nat.lt_of_succ_lt
def Zde:=@List.Pairwise.imp
def Zdf:=@beq_eq_false_iff_ne
def Zdg:=@List.length_nil
def Zdh:=@List.nil_append
def Zdi:=@Nat.min_eq_left
def Zdj:=@List.mem_map_of_mem
def Zdk:=@PySem.F.slot_tuple_iterator_next
def Zdl:=@decide_eq_decide
def Zdm:=@List.mem_flatMap
def Zdn:=@PyProof.Rows.assignInOrder_cons
def Zdo:=@PySem.Heap.get?_update_self
def Zdp:=@Nat.sub_add_cancel
def Zdq:=@List.map_map
def Zd7:=@List.drop_eq_getElem_cons
def Zd8:=@List.take_sublist
def Zeb:=@List.filterMap_cons_some
def Zec:=@List.drop_sublist
def Zee:=@PySem.wpAny_standAt
def Zef:=@List.getElem?_replicate
def Zej:=@PySem.Heap.SameBut.update
def Zek:=@List.getElem_of_mem
def Zeo:=@List.pairwise_singleton
def Zeq:=@List.length_pos_iff
def Zev:=@List.lookup_cons
def Zex:=@List.eq_nil_of_length_eq_zero
def Zey:=@PySem.Heap.size_push
def Zez:=@PyProof.Rows.wpS_modify
def ZeA:=@List.drop_drop
def ZeD:=@List.getElem?_set_self
def ZeE:=@PySem.F.slot_tuple_mul
def ZeI:=@List.zip_cons_cons
def ZeJ:=@Nat.lt_of_le_of_lt
def ZeV:=@PySem.wpAny_setField_rec
def Ze0:=@PyProof.Rows.wpS_mono
def Ze1:=@of_decide_eq_false
def Ze4:=@Ne.symm
def Ze6:=@Nat.le_antisymm
def Ze7:=@List.length_replicate
def Ze9:=@List.find?_cons
def Zfa:=@List.flatten_cons
def Zfb:=@Nat.lt_succ_of_lt
def Zfc:=@PySem.F.excBase_ValueError
def Zfd:=@List.getElem?_set_ne
def Zff:=@Array.toList_reverse
def Zfh:=@Nat.mul_le_mul_right
def Zfi:=@List.getElem?_eq_none_iff
def Zfq:=@PySem.wpAny_pyIter_zip
def Zfr:=@PyProof.Rows.slot_tupleiter_next
def Zft:=@List.reverse_append
def Zfx:=@List.flatMap_append
def ZfG:=@PySem.codeAny_mono
def Zgt:=@PySem.F.args_tuple_add_2
def Zgu:=@PySem.W.of_hideAll
def Zgv:=@PySem.wpAny_passesOwn
def Zgw:=@PySem.F.entry_tuple_add
def Zgx:=@if_true
def Zgy:=@List.length_set
def Zgz:=@List.any_cons
def ZgA:=@List.foldl_cons
def ZhI:=@PySem.Obj.data_mapFields
def ZhJ:=@PySem.W.kia_tup
def ZhK:=@and_false
def ZhL:=@List.pairwise_filterMap
def ZhM:=@List.length_zip
def ZhN:=@Int.eq_ofNat_of_zero_le
def ZhO:=@decide_eq_true_iff
def ZhP:=@List.set_eq_take_append_cons_drop
def ZhQ:=@PySem.F.slot_tuple_add
def ZhR:=@List.Perm.append_right
def ZhS:=@PySem.F.plain_min_loop
def ZhT:=@PySem.wpAny_pyIter_list
def ZhU:=@Nat.le_succ
def ZhV:=@PySem.call_meets
def ZhW:=@PySem.WalksT.enumerateD
def ZhX:=@PySem.wpAny_pyIter_enum
def ZhY:=@Array.append_push
def ZhZ:=@PyProof.Rows.boot_tuple
def Zh0:=@List.flatMap_cons
def Zh1:=@PySem.wpAny_bindName
def Zh2:=@if_false
def Zh3:=@List.drop_zero
def Zh4:=@PySem.wpAny_tryCatch
def Zh5:=@Nat.mul_le_mul
def Zh6:=@Nat.ne_of_gt
def Zh7:=@List.map_nil
def Zh8:=@Nat.add_zero
def Zh9:=@List.all_map
def Zia:=@List.filterMap_append
def Zib:=@Nat.lt_succ_self
def Zic:=@Option.getD_some
def Zid:=@Nat.le_add_right
def Zie:=@PyProof.Rows.wpS_get
def Zif:=@List.mem_reverse
def Zig:=@PySem.W.kat_cons
def Zih:=@PySem.F.plain_min_loop
def Zii:=@List.nodup_range
def Zij:=@PySem.Heap.get?_none_of_le
def Zik:=@List.range_eq_range'
def Zil:=@PySem.W.looks_findIn
def Zim:=@PySem.Around.under_plainId
def Zin:=@PySem.F.args_tuple_iterator_next_1
def Zio:=@Prod.mk.injEq
def Ziq:=@PySem.W.hideAll_get
def Zir:=@PyProof.Rows.entry_tuple_getitem
def Zis:=@Nat.add_le_add_left
def Zit:=@List.forIn_cons
def Ziu:=@PySem.F.entry_tuple_iterator_next
def Ziv:=@PySem.codeAny_builtin
def Ziw:=@PySem.wpAny_letGo
def Zix:=@PySem.F.slot_zip_next
def Ziy:=@PySem.W.kat_yes
def Ziz:=@Bool.or_eq_true
def ZiA:=@PySem.Calls.Name_function_global
def ZiB:=@Array.getElem?_eq_some_iff
def ZiC:=@Array.toList_setIfInBounds
def ZiD:=@PySem.wpAny_pyIter_tuple
def ZiE:=@PySem.W.callWith_K
def ZiF:=@PyProof.Rows.args_tuple_getitem
def ZiG:=@Bool.not_eq_false'
def ZiH:=@Nat.sub_self
def ZiI:=@List.set_cons_zero
def ZiJ:=@PySem.EqMixed.eq_bool_str
def ZiK:=@PySem.wpAny_setField
def ZiL:=@PySem.W.kat_no
def ZiM:=@List.filterMap_eq_nil_iff
def ZiN:=@Classical.byContradiction
def ZiO:=@Bool.not_false
def ZiP:=@List.exists_mem_of_ne_nil
def ZiQ:=@PyProof.Rows.assignInOrder_nil
def ZiR:=@PySem.EqNone.eq_none_str
def ZiS:=@PySem.EqMixed.eq_int_str
def ZiT:=@PySem.W.kitx_list
def ZiU:=@PySem.wpAny_sequenceKey
def ZiV:=@PySem.wpAny_comprehension_free
def ZiW:=@Bool.eq_false_iff
def ZiX:=@PySem.F.args_tuple_mul_2
def ZiY:=@Int.emod_eq_of_lt
def ZiZ:=@PySem.F.slot_list_extend
def Zi0:=@PySem.F.type_list_extend
def Zi1:=@PyProof.Rows.slicePart_int
def Zi2:=@PyProof.Rows.tupleItemsOf_
def Zi3:=@PySem.evalPart_some
def Zi4:=@PySem.wpAny_attempt
def Zi7:=@PySem.plainId_quiet
def Zi9:=@PySem.wpAny_execs_cons
def Zja:=@Nat.le_of_not_lt
def Zjb:=@PySem.noFill_tuple_add
def Zjc:=@Nat.min_le_right
def Zjd:=@beq_self_eq_true
def Zje:=@List.zipIdx_cons
def Zjf:=@List.ext_getElem
def Zjg:=@PySem.Heap.size_update
def Zjh:=@List.isEmpty_iff
def Zji:=@PyProof.Rows.vals1
def Zjm:=@PySem.wpAny_execs_nil
def Zjn:=@PyProof.Rows.IsTup.new
def Zjo:=@List.of_mem_zip
def Zjq:=@PySem.wpAny_typeOf
def Zjs:=@Nat.lt_trans
def Zjv:=@Nat.zero_add
def Zjx:=@PyProof.Rows.pairsOf_size
def Zjy:=@List.cons.injEq
def Zjz:=@PySem.wpAny_updateSeq
def ZjA:=@PyProof.Rows.boot_list
def ZjB:=@Option.map_some
def ZjD:=@PyProof.Rows.wpS_lift
def ZjG:=@List.nodup_nil
def ZjH:=@List.take_take
def ZjI:=@PySem.repr_of_reads'
def ZjK:=@PySem.wpAny_of_eq
def ZjN:=@Nat.add_mul
def ZjR:=@PySem.seq_tuple_add
def ZjT:=@PySem.wpAny_onRaise
def ZjY:=@PySem.wpAny_newList
abbrev Zke:=PySem.W.Frag
namespace L2
open PySem PySem.Spec PyProof.Rows
abbrev Key:=Sum Int Str
def tN:Key->Value->Bool
 | .inl k,v=>Value.isInt k v
 | .inr x,v=>Value.isStrOf x v
def T5 (w:World):Key->Int
 | .inl k=>hashInt k
 | .inr x=>hashStr w x
theorem Yg:∀{k:Key}{v:Value},tN k v=true->(∃i t,k=Sum.inl i/\v=Value.int i t)∨(∃x t,k=Sum.inr x/\v=Value.str x t)
 | .inl i,v,h=>by obtain⟨t,e⟩:=Value.isInt_shape (k:=i) (v:=v) h;exact .inl ⟨i,t,rfl,e⟩
 | .inr x,v,h=>by obtain⟨t,e⟩:=Value.isStrOf_shape (x:=x) (v:=v) h;exact .inr ⟨x,t,rfl,e⟩
theorem ZdU (i:Int)(t:Tok):tN (.inl i) (.int i t)=true:=by simp[tN,Value.isInt]
theorem ZdT (x:Str)(t:Tok):tN (.inr x) (.str x t)=true:=by simp[tN,Value.isStrOf]
theorem Zg9 (a b:Int):decide ((Sum.inl a:Key)=Sum.inl b)=(a==b):=by
 by_cases e:a=b
 ·subst e;simp
 ·have h:¬(Sum.inl a:Key)=Sum.inl b:=fun q=>e (Sum.inl.inj q);rw[Zax h];exact(Zdf.mpr e).symm
theorem Zg6 (a b:Str):decide ((Sum.inr a:Key)=Sum.inr b)=decide (a=b):=by
 by_cases e:a=b
 ·subst e;simp
 ·have h:¬(Sum.inr a:Key)=Sum.inr b:=fun q=>e (Sum.inr.inj q);rw[Zax h,Zax e]
theorem Zg8 (a:Int)(b:Str):decide ((Sum.inl a:Key)=Sum.inr b)=false:=Zax (fun q=>nomatch q)
theorem Zg7 (a:Str)(b:Int):decide ((Sum.inr a:Key)=Sum.inl b)=false:=Zax (fun q=>nomatch q)
def jm (prog:Program)(w:World):PySem.KeyKind prog w Key where
 is:=tN
 hash:=T5 w
 inj:=fun v a b ha hb=>by
  rcases Yg ha with ⟨i,t,rfl,rfl⟩|⟨x,t,rfl,rfl⟩
  ·rcases Yg hb with ⟨j,u,rfl,e⟩|⟨y,u,rfl,e⟩
   ·injection e with e1 _;rw[e1]
   ·exact nomatch e
  ·rcases Yg hb with ⟨j,u,rfl,e⟩|⟨y,u,rfl,e⟩
   ·exact nomatch e
   ·injection e with e1 _;rw[e1]
 byValue:=fun k v h=>by rcases Yg h with ⟨i,t,rfl,rfl⟩|⟨x,t,rfl,rfl⟩<;>rfl
 pyHash:=fun hv h=>by
  rcases Yg hv with ⟨i,t,rfl,rfl⟩|⟨x,t,rfl,rfl⟩
  ·exact wpAny_pyHash_int h
  ·exact wpAny_pyHash_str h
 eqBool:=fun hu hv h=>by
  rcases Yg hu with ⟨i,t,rfl,rfl⟩|⟨x,t,rfl,rfl⟩
  ·rcases Yg hv with ⟨j,u,rfl,rfl⟩|⟨y,u,rfl,rfl⟩
   ·rw[Zg9]at h;exact wpAny_eqBool_int h
   ·rw[Zg8]at h;exact SeqAt.EqAt.int_str i t y u _ _ _ _ h
  ·rcases Yg hv with ⟨j,u,rfl,rfl⟩|⟨y,u,rfl,rfl⟩
   ·rw[Zg7]at h;exact SeqAt.EqAt.str_int x t j u _ _ _ _ h
   ·rw[Zg6]at h;exact wpAny_eqBool_str h
 «strs» :=fun k x t v h=>by
  rcases Yg h with ⟨i,u,rfl,e⟩|⟨y,u,rfl,e⟩
  ·exact nomatch e
  ·injection e with e1 _;subst e1;cases v<;>rfl
theorem ZbL (prog:Program)(w:World)(i:Int)(t:Tok):(jm prog w).is (.inl i) (.int i t)=true:=ZdU i t
theorem ZbK (prog:Program)(w:World)(x:Str)(t:Tok):(jm prog w).is (.inr x) (.str x t)=true:=ZdT x t
inductive V where
 |af|bl (b:Bool)|int (i:Int)|str (x:Str)|j4 (b:Array UInt8)|kT (b:UInt64)|ref (a:Addr)|ty (n:String)
 deriving DecidableEq
def RelV:V->Value->Prop
 | .af,u=>u=Value.none
 | .bl b,u=>u=Value.bool b
 | .int i,u=> ∃t,u=Value.int i t
 | .str x,u=> ∃t,u=Value.str x t
 | .j4 b,u=> ∃t,u=Value.bytes b t
 | .kT b,u=> ∃t,u=Value.float b t
 | .ref a,u=>u=Value.ref a
 | .ty n,u=>u=Value.type n
abbrev Vals:List V->List Value->Prop:=Paired RelV
theorem Vals.length {xs:List V}{us:List Value}(r:Vals xs us):xs.length=us.length:=ZaM r
theorem Vals.get:∀{xs:List V}{us:List Value}{i:Nat}{x:V},Vals xs us->xs[i]?=some x->∃u,us[i]?=some u/\RelV x u
 |_,_,_,_,.nil,e=>by simp at e
 |_,_,0,_,.cons r _,e=>by simp at e;subst e;exact⟨_,rfl,r⟩
 |_,_,i+1,x,.cons _ t,e=>by obtain⟨u,h1,h2⟩:=Vals.get (i:=i) (x:=x) t (by simpa using e);exact⟨u,by simpa using h1,h2⟩
theorem Vals.set {x:V}{u:Value}(r:RelV x u):∀{xs:List V}{us:List Value}(i:Nat),Vals xs us->Vals (xs.set i x) (us.set i u)
 |_,_,_,.nil=>.nil
 |_,_,0,.cons _ t=>.cons r t
 |_,_,i+1,.cons q t=>.cons q (Vals.set r i t)
theorem Vals.append:∀{xs ys:List V}{us ws:List Value},Vals xs us->Vals ys ws->Vals (xs++ys) (us++ws)
 |_,_,_,_,.nil,s=>s
 |_,_,_,_,.cons r t,s=>.cons r (Vals.append t s)
theorem Vals.take:∀{xs:List V}{us:List Value}(n:Nat),Vals xs us->Vals (xs.take n) (us.take n)
 |_,_,0,_=>.nil
 |_,_,_+1,.nil=>.nil
 |_,_,n+1,.cons r t=>.cons r (Vals.take n t)
theorem Vals.drop:∀{xs:List V}{us:List Value}(n:Nat),Vals xs us->Vals (xs.drop n) (us.drop n)
 |_,_,0,r=>r
 |_,_,_+1,.nil=>.nil
 |_,_,n+1,.cons _ t=>Vals.drop n t
def rW:Option V->Option Value->Prop
 |some v,some u=>RelV v u
 |none,none=>True
 |_,_=>False
def KV {κ:Type} :List (κ×V)->List (κ×Value)->Prop:=Paired fun(p:κ×V) (q:κ×Value)=>p.1=q.1/\RelV p.2 q.2
def kV:Key->V
 | .inl i=>.int i
 | .inr x=>.str x
inductive HO where
 |lst (xs:List V)
 |tup (xs:List V)
 |par (xs:List V)
 |dK (kvs:List (Key×V))|dT (kvs:List (List Key×V))
 |set (S:Int->Bool) (n:Nat)
 |ins (C dx:Addr) (fs:List (Str×V))
 |own (x:Addr)
 |xd (fs:List (Str×V))
 |met (f x:Addr)
 |jk (lo hi:Int)
 |de (o:Obj) (u:HO)
 |cm (ps:Array Value)
 |ext (φ:Heap->Prop)
abbrev Hp:=Addr->Option HO
def upd (H:Hp)(a:Addr)(o:HO):Hp:=fun b=>if b=a then some o else H b
theorem aj {H:Hp} :upd H a o a=some o:=by unfold upd;rw[ZaQ rfl]
theorem Zh {H:Hp}(h:b≠a):upd H a o b=H b:=by unfold upd;rw[ZaN h]
theorem YW {H:Hp}(h:H a=some o)(h':H b=some u)(d:o≠u):a≠b:=by intro e;subst e;rw[h]at h';exact d (Za3 h')
theorem Ze {H:Hp}(h:H a=some o)(h':H b=none):a≠b:=by intro e;subst e;rw[h]at h';cases h'
section
variable (P:Program) (w:World)
def bI (H:Hp)(h:Heap)(a:Addr):HO->Prop
 | .lst xs=>xs.length<=sizeLine/\∃(aa:List Value) (n:Nat),Vals xs aa/\h.get? a=some {cls:=.type "list",data:=.seq aa.toArray n}
 | .tup xs=>xs.length<=sizeLine/\∃aa:List Value,Vals xs aa/\IsTup h a aa.toArray/\∃o,h.get? a=some o/\o.dict=none
 | .par xs=>xs.length<=sizeLine/\∃aa:List Value,Vals xs aa/\IsTup h a aa.toArray
 | .dK kvs=>kvs.length<=sizeLine/\(a==sysModules)=false/\∃vs,KV kvs vs/\h.DictOf (jm P w) a vs
 | .dT kvs=>kvs.length<=sizeLine/\(a==sysModules)=false/\∃xs:List (List Key×Addr×Value),
   Paired (fun(p:List Key×V) (q:List Key×Addr×Value)=>p.1=q.1/\H q.2.1=some (.tup (p.1.map kV))/\RelV p.2 q.2.2) kvs xs/\
   ∃o es ep,h.get? a=some o/\o.ExactDict/\o.data=.dict es ep/\es.toList=xs.map (entryOfKey (tupleKind (jm P w)))/\(xs.map (·.1)).Nodup
 | .set S n=>h.SetOf (intKind P w) a S n
 | .ins C dx fs=>H dx=some (.own a)/\fs.length<=1000/\dx≠a/\h.get? a=some (PySem.W.instObj C dx)/\
   ∃mA,h.Ns1 dx mA/\(∀f,rW (fs.lookup f) (mA f))/\PySem.Within mA (fs.map (·.1))
 | .own _=> ∃o,h.get? a=some o
 | .xd fs=> ∃mA,h.Ns1 a mA/\∀f,rW (fs.lookup f) (mA f)
 | .jk lo hi=> ∃t u v,h.get? a=some {cls:=.type "range",data:=.fields #[.int lo t,.int hi u,.int 1 v]}
 | .de o u=>h.get? a=some o/\bI H h a u
 | .cm ps=>h.get? a=some {cls:=.none,data:=.fields ps}
 | .met f x=>h.get? a=some (PySem.W.methodObj (.ref f) (.ref x))
 | .ext φ=>φ h/\(∃o,h.get? a=some o)/\∀h1 h2:Heap,φ h1->(∀o,h1.get? a=some o->h2.get? a=some o)->φ h2
def bK (H:Hp)(h:Heap):Prop:=∀a o,H a=some o->bI P w H h a o
end
section
variable {P:Program}{w:World}{H H':Hp}{h h':Heap}{a:Addr}{o:HO}
theorem bI.lt (x:bI P w H h a o):a<h.objs.size:=by
 cases o with
 |lst xs=>obtain⟨_,_,_,_,e⟩:=x;exact ZaA e
 |tup xs=>obtain⟨_,_,_,p,_⟩:=x;exact p.lt
 |par xs=>obtain⟨_,_,_,p⟩:=x;exact p.lt
 |dK kvs=>obtain⟨_,_,_,_,o,_,_,e,_⟩:=x;exact ZaA e
 |dT kvs=>obtain⟨_,_,_,_,o,_,_,e,_⟩:=x;exact ZaA e
 |set S n=>obtain⟨o,_,_,_,e,_⟩:=x;exact ZaA e
 |ins C dx fs=>obtain⟨_,_,_,e,_⟩:=x;exact ZaA e
 |own y=>obtain⟨_,e⟩:=x;exact ZaA e
 |xd fs=>obtain⟨_,⟨_,_,_,e,_⟩,_⟩:=x;exact ZaA e
 |jk lo hi=>obtain⟨_,_,_,e⟩:=x;exact ZaA e
 |de ob u=>obtain⟨e,_⟩:=x;exact ZaA e
 |cm ps=>exact ZaA (show h.get? a=some _ from x)
 |met f y=>exact ZaA (show h.get? a=some _ from x)
 |ext φ=>obtain⟨_,⟨_,e⟩,_⟩:=x;exact ZaA e
theorem Paired.bh {α β:Type}{F G:α->β->Prop} :∀{oN:List α}{oM:List β},Paired F oN oM->(∀a b,F a b->G a b)->Paired G oN oM
 |_,_,.nil,_=>.nil
 |_,_,.cons r t,f=>.cons (f _ _ r) (Paired.bh t f)
theorem bI.cY (x:bI P w H h a o)(k:∀b u,(b=a∨H b=some (.own a))->h.get? b=some u->h'.get? b=some u)
  (ho:∀b,H b=some (.own a)->H' b=some (.own a)) (ht:∀b xs,H b=some (.tup xs)->H' b=some (.tup xs)):bI P w H' h' a o:=by
 induction o with
 |lst xs=>obtain⟨z,aa,n,r,e⟩:=x;exact⟨z,aa,n,r,k _ _ (.inl rfl) e⟩
 |tup xs=>obtain⟨z,aa,r,⟨ob,e,c⟩,o2,e2,c2⟩:=x;exact⟨z,aa,r,⟨ob,k _ _ (.inl rfl) e,c⟩,o2,k _ _ (.inl rfl) e2,c2⟩
 |par xs=>obtain⟨z,aa,r,ob,e,c⟩:=x;exact⟨z,aa,r,ob,k _ _ (.inl rfl) e,c⟩
 |dK kvs=>obtain⟨z,y,vs,r,ob,es,ep,e,c⟩:=x;exact⟨z,y,vs,r,ob,es,ep,k _ _ (.inl rfl) e,c⟩
 |dT kvs=>obtain⟨z,y,xs,r,ob,es,ep,e,c⟩:=x;exact⟨z,y,xs,Paired.bh r fun p q z=>⟨z.1,ht _ _ z.2.1,z.2.2⟩,ob,es,ep,k _ _ (.inl rfl) e,c⟩
 |set S n=>obtain⟨ob,es,ep,t,e,c⟩:=x;exact⟨ob,es,ep,t,k _ _ (.inl rfl) e,c⟩
 |ins C dx fs=>obtain⟨d,z,ne,e,mA,⟨od,es,ep,e2,c⟩,r⟩:=x;exact⟨ho _ d,z,ne,k _ _ (.inl rfl) e,mA,⟨od,es,ep,k _ _ (.inr d) e2,c⟩,r⟩
 |own y=>obtain⟨ob,e⟩:=x;exact⟨ob,k _ _ (.inl rfl) e⟩
 |xd fs=>obtain⟨mA,⟨od,es,ep,e,c⟩,r⟩:=x;exact⟨mA,⟨od,es,ep,k _ _ (.inl rfl) e,c⟩,r⟩
 |jk lo hi=>obtain⟨t,u,v,e⟩:=x;exact⟨t,u,v,k _ _ (.inl rfl) e⟩
 |de ob u ih=>obtain⟨e,q⟩:=x;exact⟨k _ _ (.inl rfl) e,ih q⟩
 |cm ps=>have e:h.get? a=some {cls:=.none,data:=.fields ps} :=x;show h'.get? a=some {cls:=.none,data:=.fields ps};exact k a _ (.inl rfl) e
 |met f y=>have e:h.get? a=some (PySem.W.methodObj (.ref f) (.ref y)):=x;show h'.get? a=some (PySem.W.methodObj (.ref f) (.ref y));exact k a _ (.inl rfl) e
 |ext φ=>obtain⟨p,⟨o,e⟩,st⟩:=x;exact⟨st _ _ p fun o q=>k _ _ (.inl rfl) q,⟨o,k _ _ (.inl rfl) e⟩,st⟩
theorem bK.lt (x:bK P w H h)(e:H a=some o):a<h.objs.size:=(x a o e).lt
theorem bK.fresh (x:bK P w H h)(e:h.objs.size<=a):H a=none:=by
 cases q:H a with
 |none=>rfl
 |some u=>exact absurd (ZaG (x.lt q) e) (ZbM _)
theorem bK.kept (x:bK P w H h)(k:∀b u,h.get? b=some u->h'.get? b=some u):bK P w H h':=fun a o e=>
 (x a o e).cY (fun b u _ q=>k b u q) (fun _ q=>q) fun _ _ q=>q
theorem bK.laid (x:bK P w H h)(k:∀b u,h.get? b=some u->h'.get? b=some u)(hp:h.objs.size<=a)(new:bI P w (upd H a o) h' a o):bK P w (upd H a o) h':=fun b u e=>by
 have hn:=x.fresh hp;by_cases hb:b=a
 ·subst hb;rw[aj]at e;cases e;exact new
 ·rw[Zh hb]at e;exact(x b u e).cY (fun c v _ q=>k c v q) (fun c q=>by rw[Zh (Ze q hn)];exact q) fun c xs q=>by rw[Zh (Ze q hn)];exact q
end
def Rd (H:Hp)(a:Addr)(u:HO):Prop:=H a=some u∨∃o,H a=some (.de o u)
theorem Rd.ok {w:World}{H:Hp}{h:Heap}(r:Rd H a u)(x:bK P w H h):bI P w H h a u:=by
 rcases r with r|⟨o,r⟩
 ·exact x a u r
 ·obtain⟨_,q⟩:=x a _ r;exact q
def xX:Option HO->Prop
 |some (.lst _)=>True
 |some (.dK _)=>True
 |some (.dT _)=>True
 |some (.set _ _)=>True
 |some (.ins _ _ _)=>True
 |some (.ext _)=>True
 |_=>False
section
variable {P:Program}{w:World}{H:Hp}{h h':Heap}{x e:Addr}{o':HO}
theorem bK.write (ok:bK P w H h)(mu:xX (H x))(he:e=x∨H e=some (.own x))(k:∀b u,b≠e->h.get? b=some u->h'.get? b=some u)(ua:∃u,h'.get? e=some u)
  (new:bI P w (upd H x o') h' x o'):bK P w (upd H x o') h':=fun b u q=>by
 have Ia:∀c y,H c=some (.own y)->c≠x:=fun c y r z=>by subst z;rw[r]at mu;exact mu
 have Sy:∀c xs,H c=some (.tup xs)->c≠x:=fun c xs r z=>by subst z;rw[r]at mu;exact mu
 by_cases hb:b=x
 ·subst hb;rw[aj]at q;cases q;exact new
 ·rw[Zh hb]at q;by_cases mh:b=e
  ·have q':H b=some (.own x):=by
    rcases he with z|z
    ·exact absurd (mh.trans z) hb
    ·rw[mh];exact z
   rw[q]at q';cases q';obtain⟨v,hv⟩:=ua;exact⟨v,by rw[mh];exact hv⟩
  ·refine(ok b u q).cY (fun c v hc r=>k c v ?_ r) (fun c r=>by rw[Zh (Ia c b r)];exact r) fun c xs r=>by rw[Zh (Sy c xs r)];exact r
   rcases hc with rfl|hc
   ·exact mh
   ·rintro rfl;rcases he with z|z
    ·exact Ia c b hc z
    ·rw[hc]at z;cases z;exact hb rfl
end
structure Un (fs ex:List Addr)(H H':Hp)(h h':Heap):Prop where
 keep:∀b o,h.get? b=some o->H b=none->b∉fs->b∉ex->h'.get? b=some o
 slot:∀b o,h.get? b=some o->H b=none->b∈fs->b∉ex->∃sl,h'.get? b=some {o with slots:=sl}
 free:∀b o,h.get? b=some o->H b=none->b∉ex->H' b=none
 there:∀b o,h.get? b=some o->b∉ex->∃o',h'.get? b=some o'
 je:∀b xs,H b=some (.tup xs)->H' b=some (.tup xs)
 iX:∀b o u,H b=some (.de o u)->H' b=some (.de o u)
 iH:∀b ps,H b=some (.cm ps)->∃more,H' b=some (.cm (ps++more))
section
variable {fs fs' ex ex':List Addr}{H H1 H2:Hp}{h h1 h2 h':Heap}{a x e:Addr}{o:HO}
theorem Un.any (u:Un fs ex H H1 h h1)(q:h.get? b=some ob)(n:H b=none)(hx:b∉ex):∃sl,h1.get? b=some {ob with slots:=sl} :=by
 by_cases hb:b∈fs
 ·exact u.slot b ob q n hb hx
 ·exact⟨ob.slots,u.keep b ob q n hb hx⟩
theorem Un.kept (k:∀b u,h.get? b=some u->h'.get? b=some u):Un fs ex H H h h':=
 ⟨fun b ob q _ _ _=>k b ob q,fun b ob q _ _ _=>⟨ob.slots,k b ob q⟩,fun _ _ _ n _=>n,fun b ob q _=>⟨ob,k b ob q⟩,fun _ _ q=>q,fun _ _ _ q=>q,fun _ ps q=>⟨#[],by rw[q];simp⟩⟩
theorem Un.refl:Un fs ex H H h h:=Un.kept fun _ _ q=>q
theorem Un.laid (k:∀b u,h.get? b=some u->h'.get? b=some u)(hp:h.objs.size<=a)(hn:H a=none):Un fs ex H (upd H a o) h h' where
 keep:=fun b u q _ _ _=>k b u q
 slot:=fun b u q _ _ _=>⟨u.slots,k b u q⟩
 free:=fun b u q n _=>by rw[Zh (ZaR (ZaG (ZaA q) hp))];exact n
 there:=fun b u q _=>⟨u,k b u q⟩
 je:=fun b xs q=>by rw[Zh (Ze q hn)];exact q
 iX:=fun b u xs q=>by rw[Zh (Ze q hn)];exact q
 iH:=fun b ps q=>⟨#[],by rw[Zh (Ze q hn),q];simp⟩
theorem Un.write (mu:xX (H x))(he:e=x∨H e=some (.own x))(k:∀b u,b≠e->h.get? b=some u->h'.get? b=some u)(ua:∃u,h'.get? e=some u):Un fs ex H (upd H x o) h h':=by
 have hx:∀b,H b=none->b≠x:=fun b n z=>by subst z;rw[n]at mu;exact mu
 have hb:∀b,H b=none->b≠e:=fun b n z=>by
  subst z;rcases he with r|r
  ·exact hx b n r
  ·rw[n]at r;cases r
 have hm:∀b u,H b=some u->¬xX (some u)->b≠x:=fun b u q nm z=>by subst z;rw[q]at mu;exact nm mu
 refine⟨fun b u q n _ _=>k b u (hb b n) q,fun b u q n _ _=>⟨u.slots,k b u (hb b n) q⟩,fun b u q n _=>by rw[Zh (hx b n)];exact n,fun b u q _=>?_,
  fun b xs q=>by rw[Zh (hm b _ q fun z=>z)];exact q,fun b u xs q=>by rw[Zh (hm b _ q fun z=>z)];exact q,fun b ps q=>⟨#[],by rw[Zh (hm b _ q fun z=>z),q];simp⟩⟩
 by_cases mh:b=e
 ·subst mh;exact ua
 ·exact⟨u,k b u mh q⟩
end
def yw (h:Heap)(H:Hp):List Addr:=(List.range h.objs.size).filter fun a=>(H a).isSome
def jV (h:Heap)(H:Hp):Heap:=PySem.W.hideAll h (yw h H)
theorem Ol (h:Heap)(H:Hp):(jV h H).objs.size=h.objs.size:=PySem.W.hideAll_size _ _
theorem NQ {h:Heap}{H:Hp}(e:h.get? b=some o)(n:H b=none):(jV h H).get? b=some o:=
 Ziq _ e fun hm=>by have q:(H b).isSome=true:=(ZaL.mp hm).2;rw[n]at q;simp at q
theorem Ny {h:Heap}{H:Hp}(e:(jV h H).get? b=some o):h.get? b=some o/\H b=none:=by
 have e':h.get? b=some o:=Zgu (yw h H) e;refine⟨e',?_⟩;cases q:H b with
 |none=>rfl
 |some x=>have hm:b∈yw h H:=ZaL.mpr ⟨Zbf.mpr (ZaA e'),by simp[q]⟩;have z:(jV h H).get? b=none:=PySem.W.hideAll_none (yw h H) hm;rw[z]at e;cases e
structure Mod (K:Zke)(mg:Str->Option Value)(base:Heap):Prop where
 qI:K.In base
 glob:base.Ns mainGlobals mg
 blt:∃mb,base.Ns builtinsNs mb/\∀x:Str,x≠ "__name__" ->mb x=bootBuiltins x
 nolimit:base.NoLimit
structure Cx where
 prog:Program
 w:World
 K:Zke
 mg:Str->Option Value
 base:Heap
 A:Around
 N:List Str
 cR:Shared
 nZ:Hp
 env:Env
 outer:List Env
 stack:List Env
 ex:List Addr
 fn:Str->Bool
 calm:Bool
 pn:List (Addr×Obj)
 xe:Value->Shared->Prop
def bz (l:List Env):List Addr:=l.filterMap (·.frame)
abbrev Cx.fs (X:Cx):List Addr:=bz X.outer
def pN (sc:Scope)(x:Str):Prop:=sc.names.lookup x=some .local∨sc.names.lookup x=some .cell∨sc.names.lookup x=some .free
def Loc (sc:Scope)(x:Str):Prop:=sc.names.lookup x=some .local∨sc.names.lookup x=some .cell
def Look (env:Env)(h:Heap)(m:Str->Option Value)(x:Str)(u:Value):Prop:=
 (env.kindOf x=some .local/\m x=some u)∨((env.kindOf x=some .cell∨env.kindOf x=some .free)/\∃c,env.cells.lookup x=some c/\h.IsCell c (some u))
structure Cx.Ok (X:Cx):Prop where
 mod:Mod X.K X.mg X.base
 kind:X.env.scope.kind=.function
 glob:X.env.globals=mainGlobals
 blt:X.env.builtins=builtinsNs
 above:X.cR.heap.objs.size<=X.env.locals
 inj:∀x y c,X.env.cells.lookup x=some c->X.env.cells.lookup y=some c->x=y
 has:∀x,(X.env.kindOf x=some .cell∨X.env.kindOf x=some .free)->∃c,X.env.cells.lookup x=some c
 pH:∀x c,X.fn x=true->X.env.cells.lookup x=some c->X.cR.heap.objs.size<=c
 hd:X.calm=true->X.A.handled=none
 frames:X.A.frames=some X.stack
 sH:X.stack=X.outer∨(X.stack=X.env::X.outer/\X.env.frame=some X.env.locals)
 ui:∀b∈X.ex,b≠X.env.locals/\∀x c,X.env.cells.lookup x=some c->c≠b
 bs:∀b o,X.base.get? b=some o->X.cR.heap.get? b=some o/\X.nZ b=none
 mC:X.base.objs.size<=X.cR.heap.objs.size
 qG:∀b o,X.base.get? b=some o->b∉X.ex
 rH:∀b∈X.ex,b∉X.fs
 fN:X.cR.heap.FunFrames X.base X.outer
 jX:∀b∈X.fs,X.nZ b=none
structure ag (X:Cx)(pins:List (Addr×Obj))(σ:List (Option V))(H:Hp)(s:Shared):Prop where
 ok:X.Ok
 os:s.os=X.cR.os
 bare:AllBare s.gens
 base:Un X.fs X.ex X.nZ H X.cR.heap s.heap
 loc:∃m,s.heap.Ns X.env.locals m/\∀(i:Nat) (x:Str) (v:V),X.N[i]?=some x->σ[i]?=some (some v)->pN X.env.scope x->∃u,RelV v u/\Look X.env s.heap m x u
 cell:∀x c,X.env.cells.lookup x=some c->∃v,s.heap.IsCell c v
 free:H X.env.locals=none
 iY:∀x c,X.env.cells.lookup x=some c->H c=none
 pin:∀p∈X.pn++pins,s.heap.get? p.1=some p.2/\H p.1=none/\p.1≠X.env.locals/\p.1∉X.fs/\∀v,p.2.data≠.cell v
 au:bK X.prog X.w H s.heap
 len:σ.length=X.N.length
section
variable {X:Cx}{pins:List (Addr×Obj)}{σ:List (Option V)}{H H':Hp}{s:Shared}{h':Heap}
theorem Cx.Ok.SK (ok:X.Ok)(e:X.base.get? b=some o):b∉X.fs:=fun hb=>by have:=(ok.fN.mem hb).1;rw[e]at this;cases this
theorem ag.bs (I:ag X pins σ H s):∀b o,X.base.get? b=some o->s.heap.get? b=some o/\H b=none:=fun b o e=>
 ⟨I.base.keep b o (I.ok.bs b o e).1 (I.ok.bs b o e).2 (I.ok.SK e) (I.ok.qG b o e),I.base.free b o (I.ok.bs b o e).1 (I.ok.bs b o e).2 (I.ok.qG b o e)⟩
theorem ag.bk (I:ag X pins σ H s):∀b o,X.base.get? b=some o->s.heap.get? b=some o:=fun b o e=>(I.bs b o e).1
theorem ag.mod (I:ag X pins σ H s):Mod X.K X.mg X.base:=I.ok.mod
theorem ag.cK (I:ag X pins σ H s):X.K.In s.heap:=I.ok.mod.qI.keeps I.bk
theorem ag.lt (I:ag X pins σ H s):X.env.locals<s.heap.objs.size:=let ⟨_,hn,_⟩:=I.loc;hn.lt
theorem ag.sz (I:ag X pins σ H s):X.cR.heap.objs.size<=s.heap.objs.size:=Zbb I.ok.above (Zbl I.lt)
theorem ag.SH (I:ag X pins σ H s){a:Addr}(h:s.heap.objs.size<=a):a∉X.fs:=fun hb=>by obtain⟨_,o,ho,_⟩:=I.ok.fN.mem hb;exact absurd (ZaG (ZaA ho) (Zbb I.sz h)) (ZbM _)
theorem ag.jZ (I:ag X pins σ H s):∀x c,X.env.cells.lookup x=some c->c≠X.env.locals:=fun x c e z=>by obtain⟨v,o,ho,hd⟩:=I.cell x c e;obtain⟨m,⟨o',es,ep,fb,uc,_⟩,_⟩:=I.loc;rw[z,fb]at ho;cases ho;rw[uc]at hd;cases hd
theorem ag.fN (I:ag X pins σ H s):s.heap.FunFrames X.base X.outer:=by
 have all:∀(l:List Env),(∀b∈bz l,b∈X.fs)->X.cR.heap.FunFrames X.base l->s.heap.FunFrames X.base l:=by
  intro l
  induction l with
  |nil=>intro _ _;trivial
  |cons env r ih=>intro hs hl;obtain⟨hk,⟨L,o,hf,hn,ho,hd⟩,hr⟩:=hl;have hL:L∈X.fs:=hs L (by unfold bz;rw[ZbE,hf];exact Zaz);obtain⟨sl,e⟩:=I.base.slot L o ho (I.ok.jX L hL) hL fun z=>I.ok.rH L z hL;exact⟨hk,⟨L,_,hf,hn,e,hd⟩,ih (fun b hb=>hs b (by unfold bz;rw[ZbE,hf];exact Zaq _ hb)) hr⟩
 exact all X.outer (fun _ hb=>hb) I.ok.fN
theorem ag.stack (I:ag X pins σ H s):s.heap.FunFrames X.base X.stack:=by
 rcases I.ok.sH with e|⟨e,hf⟩
 ·rw[e];exact I.fN
 ·rw[e];obtain⟨m,hn,_⟩:=I.loc;refine .cons (by rw[I.ok.kind];decide) hf hn ?_ I.fN;exact Zij (Zbb I.ok.mC I.ok.above)
theorem ag.yA (I:ag X pins σ H s):∀b∈bz X.stack,b∈X.env.locals::X.fs:=fun b hb=>by
 rcases I.ok.sH with e|⟨e,hf⟩
 ·rw[e]at hb;exact Zaq _ hb
 ·rw[e]at hb;unfold bz at hb;rw[ZbE,hf]at hb;exact hb
theorem ag.uX (I:ag X pins σ H s):∀b∈bz X.stack,H b=none:=fun b hb=>by
 rcases Zas.mp (I.yA b hb) with e|hb
 ·rw[e];exact I.free
 ·obtain⟨_,o,ho,_⟩:=I.ok.fN.mem hb;exact I.base.free b o ho (I.ok.jX b hb) fun z=>I.ok.rH b z hb
theorem ag.step {g':Array GenState}{t':Nat}{d':Drawn}{ch:List Addr}(I:ag X pins σ H s)
  (jW:∀b∈ch,(b∈X.ex∨X.cR.heap.objs.size<=b)/\b≠X.env.locals/\(∀x c,X.env.cells.lookup x=some c->c≠b)/\∀p∈X.pn++pins,p.1≠b)
  (keep:∀b o,b≠X.env.locals->b∉X.fs->b∉ch->s.heap.get? b=some o->H b=none->h'.get? b=some o)
  (slot:∀b o,b≠X.env.locals->b∈X.fs->b∉ch->s.heap.get? b=some o->H b=none->∃sl,h'.get? b=some {o with slots:=sl}) (free:∀b o,b∉ch->s.heap.get? b=some o->H b=none->H' b=none)
  (there:∀b o,b∉ch->s.heap.get? b=some o->∃o',h'.get? b=some o')
  (je:∀b xs,H b=some (.tup xs)->H' b=some (.tup xs)) (iX:∀b o u,H b=some (.de o u)->H' b=some (.de o u)) (iH:∀b ps,H b=some (.cm ps)->∃more,H' b=some (.cm (ps++more)))
  (ns:∀m,s.heap.Ns X.env.locals m->h'.Ns X.env.locals m) (au:bK X.prog X.w H' h') (hg:AllBare g'):
  ag X pins σ H' {s with heap:=h',gens:=g',drawn:=d',toks:=t'} :=by
 have Ig:∀b o,X.cR.heap.get? b=some o->b≠X.env.locals:=fun b o e=>ZaR (ZaG (ZaA e) I.ok.above);have jM:∀b o,X.cR.heap.get? b=some o->b∉X.ex->b∉ch:=fun b o e hx hb=>by
  rcases (jW b hb).1 with z|z
  ·exact hx z
  ·exact absurd (ZaG (ZaA e) z) (ZbM _)
 have cellK:∀x c,X.env.cells.lookup x=some c->∀v,s.heap.IsCell c v->h'.IsCell c v:=fun x c e v ⟨o,ho,hd⟩=>by
  have vS:c∉ch:=fun z=>(jW c z).2.2.1 x c e rfl;by_cases hc:c∈X.fs
  ·obtain⟨sl,q⟩:=slot c o (I.jZ x c e) hc vS ho (I.iY x c e);exact⟨_,q,hd⟩
  ·exact⟨o,keep c o (I.jZ x c e) hc vS ho (I.iY x c e),hd⟩
 refine⟨I.ok,I.os,hg,⟨fun b o e n hb hx=>?_,fun b o e n hb hx=>?_,fun b o e n hx=>?_,fun b o e hx=>?_,fun b xs e=>je b xs (I.base.je b xs e),fun b o xs e=>iX b o xs (I.base.iX b o xs e),fun b ps e=>?_⟩,?_,fun x c e=>?_,?_,fun x c e=>?_,fun p hp=>?_,au,I.len⟩
 ·exact keep b o (Ig b o e) hb (jM b o e hx) (I.base.keep b o e n hb hx) (I.base.free b o e n hx)
 ·obtain⟨sl,e1⟩:=I.base.slot b o e n hb hx;obtain⟨QF,e2⟩:=slot b _ (Ig b o e) hb (jM b o e hx) e1 (I.base.free b o e n hx);exact⟨QF,e2⟩
 ·obtain⟨o',e1⟩:=I.base.there b o e hx;exact free b o' (jM b o e hx) e1 (I.base.free b o e n hx)
 ·obtain⟨o',e1⟩:=I.base.there b o e hx;exact there b o' (jM b o e hx) e1
 ·obtain⟨m1,e1⟩:=I.base.iH b ps e;obtain⟨m2,e2⟩:=iH b _ e1;exact⟨m1++m2,by rw[e2,Array.append_assoc]⟩
 ·obtain⟨m,hn,hl⟩:=I.loc;refine⟨m,ns m hn,fun i x v e1 e2 e3=>?_⟩;obtain⟨u,r,l⟩:=hl i x v e1 e2 e3;refine⟨u,r,?_⟩;rcases l with l|⟨k,c,e,z⟩
  ·exact .inl l
  ·exact .inr ⟨k,c,e,cellK x c e _ z⟩
 ·obtain⟨v,z⟩:=I.cell x c e;exact⟨v,cellK x c e v z⟩
 ·obtain⟨m,⟨o,_,_,ho,_⟩,_⟩:=I.loc;exact free _ o (fun z=>(jW _ z).2.1 rfl) ho I.free
 ·obtain⟨v,o,ho,hd⟩:=I.cell x c e;exact free c o (fun z=>(jW c z).2.2.1 x c e rfl) ho (I.iY x c e)
 ·obtain⟨e,n,ne,nf,d⟩:=I.pin p hp;have vS:p.1∉ch:=fun z=>(jW p.1 z).2.2.2 p hp rfl;exact⟨keep p.1 p.2 ne nf vS e n,free p.1 p.2 vS e n,ne,nf,d⟩
theorem ag.un {t':Nat}(I:ag X pins σ H s)(u:Un X.fs [] H H' s.heap h')(au:bK X.prog X.w H' h'):ag X pins σ H' {s with heap:=h',toks:=t'} :=by
 obtain⟨m,⟨o,es,ep,ho,r⟩,_⟩:=id I.loc;obtain⟨sl,hL⟩:=u.any ho I.free .s;exact I.step (g':=s.gens) (d':=s.drawn) (ch:=[]) (fun _ z=>nomatch z) (fun b o _ hb _ e n=>u.keep b o e n hb .s) (fun b o _ hb _ e n=>u.slot b o e n hb .s) (fun b o _ e n=>u.free b o e n .s) (fun b o _ e=>u.there b o e .s) u.je u.iX u.iH (fun m' hm=>by obtain⟨o',xp,EH,fb,r'⟩:=hm;rw[ho]at fb;cases fb;exact⟨_,xp,EH,hL,r'⟩) au I.bare
theorem ag.call {t':Nat}{d':Drawn}(I:ag X pins σ H s)(u:Un (bz X.stack) ch H H' s.heap h')(au:bK X.prog X.w H' h')(hg:AllBare g')
  (jW:∀b∈ch,(b∈X.ex∨X.cR.heap.objs.size<=b)/\b≠X.env.locals/\(∀x c,X.env.cells.lookup x=some c->c≠b)/\∀p∈X.pn++pins,p.1≠b):
  ag X pins σ H' {s with heap:=h',gens:=g',drawn:=d',toks:=t'} :=by
 obtain⟨m,⟨o,es,ep,ho,r⟩,_⟩:=id I.loc;obtain⟨sl,hL⟩:=u.any ho I.free fun z=>(jW _ z).2.1 rfl;exact I.step (ch:=ch) jW (fun b o hL hb hc e n=>u.keep b o e n (fun z=>(Zas.mp (I.yA b z)).elim hL hb) hc) (fun b o _ _ hc e n=>u.any e n hc) (fun b o hc e n=>u.free b o e n hc) (fun b o hc e=>u.there b o e hc) u.je u.iX u.iH (fun m' hm=>by obtain⟨o',xp,EH,fb,r'⟩:=hm;rw[ho]at fb;cases fb;exact⟨_,xp,EH,hL,r'⟩) au hg
theorem ag.turned {t':Nat}(I:ag X pins σ H s)(k:∀b o,b≠it->s.heap.get? b=some o->h'.get? b=some o)(hn:H it=none)(hL:it≠X.env.locals)
  (h1:it∈X.ex∨X.cR.heap.objs.size<=it) (h2:∀x c,X.env.cells.lookup x=some c->c≠it) (h3:∀p∈X.pn++pins,p.1≠it):ag X pins σ H {s with heap:=h',toks:=t'} :=by
 have Ie:∀b u,H b=some u->b≠it:=fun b u e z=>by rw[z,hn]at e;cases e
 refine I.step (g':=s.gens) (d':=s.drawn) (ch:=[it]) (fun b hb=>?_) (fun b o _ _ hc e _=>k b o (fun z=>hc (by simp[z])) e) (fun b o _ _ hc e _=>⟨o.slots,k b o (fun z=>hc (by simp[z])) e⟩) (fun _ _ _ _ n=>n)
  (fun b o hc e=>⟨o,k b o (fun z=>hc (by simp[z])) e⟩) (fun _ _ e=>e) (fun _ _ _ e=>e) (fun b ps e=>⟨#[],by rw[e];simp⟩) (fun m hm=>?_) (fun b u e=>?_) I.bare
 ·have e:b=it:=by simpa using hb
  subst e;exact⟨h1,hL,h2,h3⟩
 ·obtain⟨o,es,ep,ho,r⟩:=hm;exact⟨o,es,ep,k _ o (Ze4 hL) ho,r⟩
 ·refine(I.au b u e).cY (fun c v hc q=>k c v ?_ q) (fun _ q=>q) fun _ _ q=>q;rcases hc with z|z
  ·rw[z];exact Ie b u e
  ·exact Ie c _ z
theorem ag.tok (I:ag X pins σ H s)(t:Nat):ag X pins σ H {s with toks:=t} :=I.un (h':=s.heap) (t':=t) Un.refl I.au
theorem ag.kept {t':Nat}(I:ag X pins σ H s)(k:∀b u,s.heap.get? b=some u->h'.get? b=some u):ag X pins σ H {s with heap:=h',toks:=t'} :=I.un (Un.kept k) (I.au.kept k)
theorem ag.laid {a:Addr}{t':Nat}(I:ag X pins σ H s)(k:∀b u,s.heap.get? b=some u->h'.get? b=some u)(hp:s.heap.objs.size<=a)(new:bI X.prog X.w (upd H a o) h' a o):
  ag X pins σ (upd H a o) {s with heap:=h',toks:=t'} :=I.un (Un.laid k hp (I.au.fresh hp)) (I.au.laid k hp new)
theorem ag.write {t':Nat}(I:ag X pins σ H s)(mu:xX (H x))(he:e=x∨H e=some (.own x))(k:∀b u,b≠e->s.heap.get? b=some u->h'.get? b=some u)(ua:∃u,h'.get? e=some u)
  (new:bI X.prog X.w (upd H x o) h' x o):ag X pins σ (upd H x o) {s with heap:=h',toks:=t'} :=I.un (Un.write mu he k ua) (I.au.write mu he k ua new)
theorem ag.HR {HS:List (Addr×Obj)}(I:ag X pins σ H s)(h:∀p∈HS,s.heap.get? p.1=some p.2/\H p.1=none/\p.1≠X.env.locals/\p.1∉X.fs/\∀v,p.2.data≠.cell v):ag X HS σ H s:=
 ⟨I.ok,I.os,I.bare,I.base,I.loc,I.cell,I.free,I.iY,fun p hp=>(Zay.mp hp).elim (fun z=>I.pin p (ZaS _ z)) (h p),I.au,I.len⟩
theorem UF {N:List Str}(hN:N.Nodup){i j:Nat}{x:Str}(a:N[i]?=some x)(b:N[j]?=some x):i=j:=by obtain⟨h1,e1⟩:=Zai.mp a;obtain⟨h2,e2⟩:=Zai.mp b;exact(List.getElem_inj hN).mp (e1.trans e2.symm)
theorem Ox {M:Model}{A:Around}{E:Value->Shared->Prop}{i:Nat}{x:Str}{v:V}{u:Value}{Q:Unit->Shared->Prop}(I:ag X pins σ H s)(hN:X.N.Nodup)(hi:X.N[i]?=some x)(hx:Loc X.env.scope x)(r:RelV v u)
  (h:∀s',ag X pins (σ.set i (some v)) H s'->(∃a,Heap.SameBut a s.heap s'.heap/\(a=X.env.locals∨X.env.cells.lookup x=some a))->Q () s') (hf:X.fn x=true∨X.env.scope.names.lookup x=some .local:=by first|exact .inl rfl|exact .inr rfl|assumption):wpAny M A (storeName X.env x u) Q E s:=by
 obtain⟨m,hn,hl⟩:=id I.loc;have Ec:(X.env.scope.kind==.class||(X.env.scope.kind==.module&&X.env.locals !=X.env.globals))=false:=by rw[I.ok.kind];rfl
 have Kw:i<σ.length:=by rw[I.len];exact(Zai.mp hi).1
 have jZ:=I.jZ;have tracked:∀{a:Addr}{h':Heap},(∃o,s.heap.get? a=some o/\H a=none)->Heap.SameBut a s.heap h'->bK X.prog X.w H h':=fun {a h'} ha hs b ob e=>by
  obtain⟨_,_,Ky⟩:=ha;refine(I.au b ob e).cY (fun c w' hc q=>(hs.2 c ?_).trans q) (fun _ q=>q) fun _ _ q=>q;rintro rfl;rcases hc with rfl|hc
  ·rw[Ky]at e;cases e
  ·rw[Ky]at hc;cases hc
 rcases hx with hk|hk
 ·refine wpAny_storeName_local hk hn (fun h' wL hs=>?_) Ec;obtain⟨oL,_,_,qW,_⟩:=id hn;refine h _ ⟨I.ok,I.os,I.bare,⟨fun b o e n hb hx=>?_,fun b o e n hb hx=>?_,I.base.free,fun b o e hx=>?_,I.base.je,I.base.iX,I.base.iH⟩,⟨_,wL,fun j y v' e1 e2 e3=>?_⟩,fun y c e=>?_,I.free,I.iY,fun p hp=>?_,tracked ⟨oL,qW,I.free⟩ hs,by simpa using I.len⟩ ⟨_,hs,.inl rfl⟩
  ·exact(hs.2 b (ZaR (ZaG (ZaA e) I.ok.above))).trans (I.base.keep b o e n hb hx)
  ·obtain⟨sl,e1⟩:=I.base.slot b o e n hb hx;exact⟨sl,(hs.2 b (ZaR (ZaG (ZaA e) I.ok.above))).trans e1⟩
  ·obtain⟨o',e1⟩:=I.base.there b o e hx;exact⟨o',(hs.2 b (ZaR (ZaG (ZaA e) I.ok.above))).trans e1⟩
  ·by_cases hj:j=i
   ·subst hj;rw[hi]at e1;cases e1;rw[ZeD Kw]at e2;cases e2;exact⟨u,r,.inl ⟨hk,.s⟩⟩
   ·rw[Zfd (Ze4 hj)]at e2;obtain⟨u',r',q⟩:=hl j y v' e1 e2 e3;refine⟨u',r',?_⟩;rcases q with ⟨k,e⟩|⟨k,c,e,z⟩
    ·refine .inl ⟨k,?_⟩;have:y≠x:=fun e=>hj (UF hN e1 (e▸hi));simp[this,e]
    ·exact .inr ⟨k,c,e,z.sameBut hs (jZ y c e)⟩
  ·obtain⟨w',z⟩:=I.cell y c e;exact⟨w',z.sameBut hs (jZ y c e)⟩
  ·obtain⟨e,n,ne,nf,d⟩:=I.pin p hp;exact⟨(hs.2 p.1 ne).trans e,n,ne,nf,d⟩
 ·have gm:X.fn x=true:=by
   rcases hf with z|z
   ·exact z
   ·rw[z]at hk;cases hk
  obtain⟨c,hc⟩:=I.ok.has x (.inl hk);obtain⟨w',z⟩:=I.cell x c hc;refine wpAny_storeName_cell I.ok.kind hk hc z (fun h' cW hs=>?_);obtain⟨oc,IZ,V2⟩:=id z;refine h {s with heap:=h'} ⟨I.ok,I.os,I.bare,⟨fun b o e n hb hx=>?_,fun b o e n hb hx=>?_,I.base.free,fun b o e hx=>?_,I.base.je,I.base.iX,I.base.iH⟩,⟨m,hn.sameBut hs (Ze4 (jZ x c hc)),fun j y v' e1 e2 e3=>?_⟩,fun y c' e=>?_,I.free,I.iY,fun p hp=>?_,tracked ⟨oc,IZ,I.iY x c hc⟩ hs,by simpa using I.len⟩ ⟨c,hs,.inr hc⟩
  ·exact(hs.2 b (ZaR (ZaG (ZaA e) (I.ok.pH x c gm hc)))).trans (I.base.keep b o e n hb hx)
  ·obtain⟨sl,e1⟩:=I.base.slot b o e n hb hx;exact⟨sl,(hs.2 b (ZaR (ZaG (ZaA e) (I.ok.pH x c gm hc)))).trans e1⟩
  ·obtain⟨o',e1⟩:=I.base.there b o e hx;exact⟨o',(hs.2 b (ZaR (ZaG (ZaA e) (I.ok.pH x c gm hc)))).trans e1⟩
  ·by_cases hj:j=i
   ·subst hj;rw[hi]at e1;cases e1;rw[ZeD Kw]at e2;cases e2;exact⟨u,r,.inr ⟨.inl hk,c,hc,cW⟩⟩
   ·rw[Zfd (Ze4 hj)]at e2;obtain⟨u',r',q⟩:=hl j y v' e1 e2 e3;refine⟨u',r',?_⟩;rcases q with q|⟨k,c',e,z'⟩
    ·exact .inl q
    ·refine .inr ⟨k,c',e,z'.sameBut hs ?_⟩;rintro rfl;exact hj (UF hN e1 (I.ok.inj _ _ _ e hc▸hi))
  ·by_cases me:c'=c
   ·subst me;exact⟨_,cW⟩
   ·obtain⟨w2,z2⟩:=I.cell y c' e;exact⟨w2,z2.sameBut hs me⟩
  ·obtain⟨e,n,ne,nf,d⟩:=I.pin p hp;refine⟨(hs.2 p.1 ?_).trans e,n,ne,nf,d⟩;intro q;rw[q,IZ]at e;have q':oc=p.2:=Za3 e;exact d w' (by rw[<-q'];exact V2)
theorem YS {M:Model}{A:Around}{E:Value->Shared->Prop}{Q:Unit->Shared->Prop}(I:ag X pins σ H s)(hN:X.N.Nodup)(hi:X.N[i]?=some x)(hx:Loc X.env.scope x)(r:RelV v u)
  (h:∀s',ag X pins (σ.set i (some v)) H s'->Q () s') (hf:X.fn x=true∨X.env.scope.names.lookup x=some .local:=by first|exact .inl rfl|exact .inr rfl|assumption):wpAny M A (storeName X.env x u) Q E s:=
 Ox I hN hi hx r (fun s' I' _=>h s' I') hf
theorem ag.LP {s':Shared}(I:ag X pins σ H s)(ho:s'.os=s.os)(u:Un (bz X.stack) ch H H' s.heap s'.heap)(au:bK X.prog X.w H' s'.heap)(hg:AllBare s'.gens)
  (jW:∀b∈ch,(b∈X.ex∨X.cR.heap.objs.size<=b)/\b≠X.env.locals/\(∀x c,X.env.cells.lookup x=some c->c≠b)/\∀p∈X.pn++pins,p.1≠b):ag X pins σ H' s':=by
 obtain⟨h',g',d',t',o'⟩:=s';have e:o'=s.os:=ho;subst e;exact I.call (g':=g') (t':=t') (d':=d') u au hg jW
end
abbrev XK:=Value->Option Addr->Hp->Prop
abbrev St:=List (Option V)
abbrev VK:=V->Hp->Prop
abbrev TE:=St->Hp->VK->Prop
abbrev TT:=St->Hp->(Bool->Hp->Prop)->Prop
abbrev TA:=St->Hp->(List V->Hp->Prop)->Prop
structure Ends where
 nx:St->Hp->Prop
 rt:VK
 bk:St->Hp->Prop:=fun _ _=>False
 ct:St->Hp->Prop:=fun _ _=>False
variable {X:Cx}{s:Shared}{H:Hp}{σ:St}{A:Around}{w:World}{E:Value->Shared->Prop}{us:List Value}{pos:Pos}{pins:List (Addr×Obj)}{es:List Expr}{mg:Str->Option Value}
abbrev TS:=Ends->St->Hp->Prop
def EP (X:Cx)(pins:List (Addr×Obj))(σ:St)(Q:VK)(u:Value)(s':Shared):Prop:=∃v H',ag X pins σ H' s'/\RelV v u/\Q v H'
def TP (X:Cx)(pins:List (Addr×Obj))(σ:St)(Q:Bool->Hp->Prop)(b:Bool)(s':Shared):Prop:=∃H',ag X pins σ H' s'/\Q b H'
def AP (X:Cx)(pins:List (Addr×Obj))(σ:St)(Q:List V->Hp->Prop)(us:List Value)(s':Shared):Prop:=∃vs H',ag X pins σ H' s'/\Vals vs us/\Q vs H'
def SP (X:Cx)(pins:List (Addr×Obj))(D:Ends)(f:Flow)(s':Shared):Prop:=
 match f with
 | .next=> ∃ao H',ag X pins ao H' s'/\D.nx ao H'
 | .brk=> ∃ao H',ag X pins ao H' s'/\D.bk ao H'
 | .cont=> ∃ao H',ag X pins ao H' s'/\D.ct ao H'
 | .ret u=> ∃v ao H',ag X pins ao H' s'/\RelV v u/\D.rt v H'
def PE (X:Cx)(e:Expr)(t:TE):Prop:=
 ∀(pins:List (Addr×Obj)) (s:Shared) (σ:St) (H:Hp) (Q:VK),ag X pins σ H s->t σ H Q->wpAny (model X.prog X.w) X.A (eval e X.env) (EP X pins σ Q) X.xe s
def PT (X:Cx)(e:Expr)(t:TT):Prop:=
 ∀(pins:List (Addr×Obj)) (s:Shared) (σ:St) (H:Hp) (Q:Bool->Hp->Prop),ag X pins σ H s->t σ H Q->wpAny (model X.prog X.w) X.A (isTrue e X.env (eval e X.env)) (TP X pins σ Q) X.xe s
def PW (X:Cx)(e:Expr)(t:TT):Prop:=
 ∀(whole:Sem Value) (pins:List (Addr×Obj)) (s:Shared) (σ:St) (H:Hp) (Q:Bool->Hp->Prop),ag X pins σ H s->t σ H Q->wpAny (model X.prog X.w) X.A (isTrue e X.env whole) (TP X pins σ Q) X.xe s
theorem PW.pt (h:PW X e t):PT X e t:=h _
def PA (X:Cx)(es:List Expr)(t:TA):Prop:=
 ∀(pos:Pos) (pins:List (Addr×Obj)) (s:Shared) (σ:St) (H:Hp) (Q:List V->Hp->Prop),ag X pins σ H s->t σ H Q->wpAny (model X.prog X.w) X.A (spliced (backTo pos (starEach es X.env))) (AP X pins σ Q) X.xe s
def PS (X:Cx)(st:Stmt)(t:TS):Prop:=
 ∀(pins:List (Addr×Obj)) (s:Shared) (σ:St) (H:Hp) (D:Ends),ag X pins σ H s->t D σ H->wpAny (model X.prog X.w) X.A (exec st X.env) (SP X pins D) X.xe s
def cO (X:Cx)(st:List Stmt)(t:TS):Prop:=
 ∀(pins:List (Addr×Obj)) (s:Shared) (σ:St) (H:Hp) (D:Ends),ag X pins σ H s->t D σ H->wpAny (model X.prog X.w) X.A (execs st X.env) (SP X pins D) X.xe s
theorem aH {α:Type}{t:Sem α}{Q Q':α->Shared->Prop}{M:Model}(h:wpAny M A t Q E s)(hQ:∀a s,Q a s->Q' a s):wpAny M A t Q' E s:=ZbR h hQ fun _ _ x=>x
section
inductive dA (i:Nat) (σ:St) (H:Hp) (Q:VK):Prop
 |mk (v:_) (c0:σ[i]?=some (some v)) (c1:Q v H)
def tC (v:V):TE:=fun _ H Q=>Q v H
theorem JI (hN:X.N[i]?=some x)(hv:pN X.env.scope x)(hd:(x==("__debug__" :Str))=false:=by decide)(cq:(x==("__classdict__" :Str))=false:=by decide):PE X (.Name x pos) (dA i):=by
 intro pins s σ H Q I h;obtain⟨v,e,h⟩:=h;obtain⟨m,hn,hl⟩:=I.loc;obtain⟨u,r,l⟩:=hl i x v hN e hv;have fin:EP X pins σ Q u s:=⟨v,H,I,r,h⟩;rcases l with ⟨hk,hm⟩|⟨hk,c,hc,o9⟩
 ·exact wpAny_Name (wpAny_loadName_local I.ok.kind hk hn hm fin) hd
 ·rcases hk with hk|hk
  ·exact wpAny_Name (wpAny_loadName_cell I.ok.kind hk hc o9 fin) hd
  ·exact wpAny_Name (wpAny_loadName_free I.ok.kind hk hc o9 fin cq) hd
theorem Zc {i j pos} :PE X (.Constant (.int i) j pos) (tC (.int i)):=fun _ _ _ H _ I h=>wpAny_Constant_int ⟨.int i,H,I.tok _,⟨_,rfl⟩,h⟩
theorem YC {b j pos} :PE X (.Constant (.bool b) j pos) (tC (.bl b)):=fun _ _ _ H _ I h=>Constant_bool ⟨.bl b,H,I,rfl,h⟩
theorem ZW {j pos} :PE X (.Constant .none j pos) (tC .af):=fun _ _ _ H _ I h=>Constant_none ⟨.af,H,I,rfl,h⟩
theorem ZA {x j pos} :PE X (.Constant (.str x) j pos) (tC (.str x)):=fun _ _ _ H _ I h=>Calls.Constant_str ⟨.str x,H,I.tok _,⟨_,rfl⟩,h⟩
def Gl (X:Cx)(x:Str):Prop:=X.env.kindOf x=some .globalImplicit
theorem JZ {Q:Value->Shared->Prop}(I:ag X pins σ H s)(hg:Gl X x)(hm:X.mg x=some u)(h:Q u s)
  (hd:(x==("__debug__" :Str))=false:=by decide):wpAny (model X.prog X.w) X.A (eval (.Name x pos) X.env) Q E s:=
 ZiA I.ok.kind hg (Calls.loadGlobal_global (by rw[I.ok.glob];exact I.mod.glob.keeps I.bk) hm h) hd
theorem Jx {Q:Value->Shared->Prop}(I:ag X pins σ H s)(hg:Gl X x)(hm:X.mg x=none)(hv:bootBuiltins x=some u)(h:Q u s)
  (hn:x≠ "__name__" :=by decide) (hd:(x==("__debug__" :Str))=false:=by decide):wpAny (model X.prog X.w) X.A (eval (.Name x pos) X.env) Q E s:=by
 obtain⟨mb,h1,h2⟩:=I.mod.blt;exact ZiA I.ok.kind hg (Calls.loadGlobal_builtin (by rw[I.ok.glob];exact I.mod.glob.keeps I.bk) hm (by rw[I.ok.blt];exact h1.keeps I.bk) ((h2 x hn).trans hv) h) hd
theorem Wy (hg:Gl X x)(hm:X.mg x=some u)(r:RelV v u)(hd:(x==("__debug__" :Str))=false:=by decide):PE X (.Name x pos) (tC v):=
 fun _ _ _ H _ I h=>JZ I hg hm ⟨v,H,I,r,h⟩ hd
theorem YB (hg:Gl X x)(hm:X.mg x=none)(hv:bootBuiltins x=some u)(r:RelV v u)(hn:x≠ "__name__" :=by decide)(hd:(x==("__debug__" :Str))=false:=by decide):PE X (.Name x pos) (tC v):=
 fun _ _ _ H _ I h=>Jx I hg hm hv ⟨v,H,I,r,h⟩ hn hd
variable {a b:Expr}{ta tb:TE}
def PC (X:Cx)(op:CmpOp)(a b:Expr)(t:TE):Prop:=
 ∀(pins:List (Addr×Obj)) (s:Shared) (σ:St) (H:Hp) (Q:VK),ag X pins σ H s->t σ H Q->
  wpAny (model X.prog X.w) X.A (eval a X.env) (fun v br=>wpAny (model X.prog X.w) X.A (eval b X.env) (fun u Bc=>wpAny (model X.prog X.w) X.A (compareOp op v u) (EP X pins σ Q) X.xe Bc) X.xe br) X.xe s
theorem Ic (b:Expr)(h:op≠.In)(h2:op≠.NotIn):behindInMarks op b=false:=by
 have e1:(op==CmpOp.In)=false:=by cases op<;>first|rfl|exact absurd rfl h
 have e2:(op==CmpOp.NotIn)=false:=by cases op<;>first|rfl|exact absurd rfl h2
 cases b<;>simp[behindInMarks,e1,e2]
def Ql (ta:TE):TE:=fun σ H Q=>ta σ H fun x H1=>Q (.bl (decide (x=.af))) H1
def Qe (ta:TE):TE:=fun σ H Q=>ta σ H fun x H1=>Q (.bl (!decide (x=.af))) H1
theorem RelV.Ib (r:RelV x v):(v==Value.none)=decide (x=.af):=by
 cases x with
 |af=>cases r;rfl
 |bl _=>cases r;rfl
 |int _=>obtain⟨t,rfl⟩:=r;rfl
 |str _=>obtain⟨t,rfl⟩:=r;rfl
 |j4 _=>obtain⟨t,rfl⟩:=r;rfl
 |kT _=>obtain⟨t,rfl⟩:=r;rfl
 |ref _=>cases r;rfl
 |ty _=>cases r;rfl
theorem WU {j pos'}(ha:PE X a ta):PC X .Is a (.Constant .none j pos') (Ql ta):=by intro pins s σ H Q I h;refine aH (ha pins s σ H _ I h) fun v s1 ⟨x,H1,I1,r1,q1⟩=>?_;exact Constant_none (is_none_gen ⟨.bl _,H1,I1,by rw[r1.Ib];rfl,q1⟩)
theorem Ji {j pos'}(ha:PE X a ta):PC X .IsNot a (.Constant .none j pos') (Qe ta):=by intro pins s σ H Q I h;refine aH (ha pins s σ H _ I h) fun v s1 ⟨x,H1,I1,r1,q1⟩=>?_;exact Constant_none (isnot_none_gen ⟨.bl _,H1,I1,by rw[r1.Ib];rfl,q1⟩)
inductive uB (Q:Bool->Hp->Prop) (x:V) (H:Hp):Prop
 |mk (c:_) (c0:x=.bl c) (c1:Q c H)
def tB (t:TE):TT:=fun σ H Q=>t σ H (uB Q)
theorem AD (h:PC X op a b t)(h1:behindInMarks op b=false:=by first|exact Ic _ .d .d|rfl):PE X (.Compare a [op] [b] pos) t:=fun pins s σ H Q I hw=>wpAny_Compare1 (h pins s σ H Q I hw) h1
theorem Jb {op:CmpOp}{t:TE}(h:PC X op a b t)(h1:behindInMarks op b=false:=by first|exact Ic _ .d .d|rfl):PT X (.Compare a [op] [b] pos) (tB t):=by intro pins s σ H Q I hw;refine wpAny_isTrue_Compare1 (aH (h pins s σ H _ I hw) fun v s1 h1=>aH h1 fun u s2 h2=>aH h2 fun c s3 ⟨x,H1,I1,r1,q1⟩=>?_) h1;obtain⟨d,rfl,q⟩:=q1;cases r1;exact ZcP ⟨H1,I1,q⟩
theorem Z1 {e:Expr}{t:TE}(h:PE X e t)(he:∀whole,isTrue e X.env whole=(do let v <-whole;standAt e.pos;holding [v] (truthy v)):=by intro _;rfl):PT X e (tB t):=by intro pins s σ H Q I hw;refine isTrue_plain (aH (h pins s σ H _ I hw) fun v s1 ⟨x,H1,I1,r1,q1⟩=>?_) (he _);obtain⟨d,rfl,q⟩:=q1;cases r1;exact ZcP ⟨H1,I1,q⟩
variable {tA yy:TT}{rest:List Expr}
def Qv (t u:TT):TT:=fun σ H Q=>t σ H fun c H1=>if c=true then u σ H1 Q else Q false H1
def GW (t u:TT):TT:=fun σ H Q=>t σ H fun c H1=>if c=true then Q true H1 else u σ H1 Q
def Qf (t:TT):TT:=fun σ H Q=>t σ H fun c H1=>Q (!c) H1
theorem Y5 (ha:PT X a tA):PW X (.BoolOp .And [a] pos) tA:=by
 intro wh pins s σ H Q I h;refine isTrue_and (aH (ha pins s σ H Q I h) fun c s1 e=>?_);cases c with
 |true=>exact isTrue_and_nil e
 |false=>exact e
theorem JG (ha:PT X a tA):PW X (.BoolOp .Or [a] pos) tA:=by
 intro wh pins s σ H Q I h;refine isTrue_or (aH (ha pins s σ H Q I h) fun c s1 e=>?_);cases c with
 |false=>exact isTrue_or_nil e
 |true=>exact e
theorem Jt (ha:PT X a tA)(hb:PW X (.BoolOp .And (b::rest) pos) yy):PW X (.BoolOp .And (a::b::rest) pos) (Qv tA yy):=by
 intro wh pins s σ H Q I h;refine isTrue_and (aH (ha pins s σ H _ I h) fun c s1 ⟨H1,I1,q1⟩=>?_);cases c with
 |true=>exact hb wh pins s1 σ H1 Q I1 q1
 |false=>exact⟨H1,I1,q1⟩
theorem JB (ha:PT X a tA)(hb:PW X (.BoolOp .Or (b::rest) pos) yy):PW X (.BoolOp .Or (a::b::rest) pos) (GW tA yy):=by
 intro wh pins s σ H Q I h;refine isTrue_or (aH (ha pins s σ H _ I h) fun c s1 ⟨H1,I1,q1⟩=>?_);cases c with
 |true=>exact⟨H1,I1,q1⟩
 |false=>exact hb wh pins s1 σ H1 Q I1 q1
theorem Yh (ha:PT X a tA):PT X (.UnaryOp .Not a pos) (Qf tA):=by intro pins s σ H Q I h;exact isTrue_not (ha pins s σ H (fun c H1=>Q (!c) H1) I h)
def Ba (ta tb:TE):TE:=fun σ H Q=>ta σ H (uB fun c H1=>if c=true then tb σ H1 Q else Q (.bl false) H1)
def Qc (ta tb:TE):TE:=fun σ H Q=>ta σ H (uB fun c H1=>if c=true then Q (.bl true) H1 else tb σ H1 Q)
def Qd (ta:TE):TE:=fun σ H Q=>ta σ H (uB fun c H1=>Q (.bl (!c)) H1)
theorem YJ {op}(h:PE X a t):PE X (.BoolOp op [a] pos) t:=fun pins s σ H Q I hw=>BoolOp_one (h pins s σ H Q I hw)
theorem Yw (ha:PE X a ta)(hb:PE X (.BoolOp .And (b::rest) pos) tb):PE X (.BoolOp .And (a::b::rest) pos) (Ba ta tb):=by
 intro pins s σ H Q I h;refine BoolOp_and (aH (ha pins s σ H _ I h) fun v s1 ⟨x,H1,I1,r1,q1⟩=>?_);obtain⟨c,rfl,q1⟩:=q1;cases r1;refine ZcP ?_;cases c with
 |true=>exact hb pins s1 σ H1 Q I1 q1
 |false=>exact⟨.bl false,H1,I1,rfl,q1⟩
theorem Mi (ha:PE X a ta)(hb:PE X (.BoolOp .Or (b::rest) pos) tb):PE X (.BoolOp .Or (a::b::rest) pos) (Qc ta tb):=by
 intro pins s σ H Q I h;refine BoolOp_or (aH (ha pins s σ H _ I h) fun v s1 ⟨x,H1,I1,r1,q1⟩=>?_);obtain⟨c,rfl,q1⟩:=q1;cases r1;refine ZcP ?_;cases c with
 |false=>exact hb pins s1 σ H1 Q I1 q1
 |true=>exact⟨.bl true,H1,I1,rfl,q1⟩
theorem MK (ha:PE X a ta):PE X (.UnaryOp .Not a pos) (Qd ta):=by intro pins s σ H Q I h;refine UnaryOp_ (aH (ha pins s σ H _ I h) fun v s1 ⟨x,H1,I1,r1,q1⟩=>?_);obtain⟨c,rfl,q1⟩:=q1;cases r1;exact not_of (ZcP ⟨.bl (!c),H1,I1,rfl,q1⟩)
def uU (t:TT)(ta tb:TE):TE:=fun σ H Q=>t σ H fun c H1=>if c=true then ta σ H1 Q else tb σ H1 Q
theorem Jd {c:Expr}(hc:PT X c tA)(ha:PE X a ta)(hb:PE X b tb):PE X (.IfExp c a b pos) (uU tA ta tb):=by
 intro pins s σ H Q I h;refine wpAny_IfExp (aH (hc pins s σ H _ I h) fun d s1 ⟨H1,I1,q1⟩=>?_);cases d with
 |true=>exact ha pins s1 σ H1 Q I1 q1
 |false=>exact hb pins s1 σ H1 Q I1 q1
end
def ak (K:Zke)(H:Hp)(a:Addr)(xs:List V):Prop:=
 Rd H a (.lst xs)∨
  ∃(o:Obj) (aa:Array Value) (n:Nat),K.lookup a=some o/\o.cls=.type "list" /\o.dict=none/\o.data=.seq aa n/\aa.size<=sizeLine/\Vals xs aa.toList
def ah (K:Zke)(H:Hp)(a:Addr)(xs:List V):Prop:=
 Rd H a (.tup xs)∨
  (∃(o:Obj) (aa:Array Value) (n:Nat),K.lookup a=some o/\o.cls=.type "tuple" /\o.data=.seq aa n/\aa.size<=sizeLine/\Vals xs aa.toList)∨H a=some (.par xs)
def aaL:Value->Option V
 | .none=>some .af
 | .bool b=>some (.bl b)
 | .int i _=>some (.int i)
 | .str x _=>some (.str x)
 | .bytes b _=>some (.j4 b)
 | .float b _=>some (.kT b)
 | .ref a=>some (.ref a)
 | .type n=>some (.ty n)
 |_=>none
theorem RelV.abs (r:RelV x u):aaL u=some x:=by
 cases x with
 |af=>cases r;rfl
 |bl _=>cases r;rfl
 |int _=>obtain⟨t,rfl⟩:=r;rfl
 |str _=>obtain⟨t,rfl⟩:=r;rfl
 |j4 _=>obtain⟨t,rfl⟩:=r;rfl
 |kT _=>obtain⟨t,rfl⟩:=r;rfl
 |ref _=>cases r;rfl
 |ty _=>cases r;rfl
theorem RelV.inj (r:RelV x u)(q:RelV y u):x=y:=Za3 (r.abs.symm.trans q.abs)
theorem Vals.inj:∀{xs ys:List V}{us:List Value},Vals xs us->Vals ys us->xs=ys
 |_,_,_,.nil,.nil=>rfl
 |_,_,_,.cons r t,.cons r' t'=>by rw[r.inj r',Vals.inj t t']
section
variable {a:Addr}{xs ys:List V}
theorem ak.of {K:Zke}(h:H a=some (.lst xs)):ak K H a xs:=.inl (.inl h)
theorem ah.of {K:Zke}(h:H a=some (.tup xs)):ah K H a xs:=.inl (.inl h)
theorem ah.vO {K:Zke}(h:H a=some (.par xs)):ah K H a xs:=.inr (.inr h)
theorem ag.list (I:ag X pins σ H s)(h:ak X.K H a xs):∃aa:List Value,Vals xs aa/\PlainL s.heap a aa.toArray/\xs.length<=sizeLine:=by
 rcases h with h|⟨o,aa,n,hk,hc,hd,hs,hz,r⟩
 ·obtain⟨z,aa,n,r,e⟩:=h.ok I.au;exact⟨aa,r,⟨_,n,e,rfl,rfl,rfl⟩,z⟩
 ·refine⟨aa.toList,r,⟨o,n,I.cK a o hk,hc,hd,by simpa using hs⟩,?_⟩;have e:=r.length;simp only[ZaT]at e
  lia
theorem ag.tuple (I:ag X pins σ H s)(h:ah X.K H a xs):∃aa:List Value,Vals xs aa/\IsTup s.heap a aa.toArray/\xs.length<=sizeLine:=by
 rcases h with h|⟨o,aa,n,hk,hc,hs,hz,r⟩|h
 ·obtain⟨z,aa,r,p,_⟩:=h.ok I.au;exact⟨aa,r,p,z⟩
 rotate_left
 ·obtain⟨z,aa,r,p⟩:=(show bI X.prog X.w H s.heap a (.par xs) from I.au a _ h);exact⟨aa,r,p,z⟩
 ·refine⟨aa.toList,r,⟨o,I.cK a o hk,hc,n,by simpa using hs⟩,?_⟩;have e:=r.length;simp only[ZaT]at e;omega
theorem ag.vV (I:ag X pins σ H s)(h:ak X.K H a xs)(h':ak X.K H a ys):xs=ys:=by
 obtain⟨aa,r,⟨o,n,e,_,_,d⟩,_⟩:=I.list h;obtain⟨its',r',⟨o',n',e',_,_,d'⟩,_⟩:=I.list h';rw[e]at e';cases e';rw[d]at d';injection d' with d1 _;have:aa=its':=by simpa using congrArg Array.toList d1
 subst this;exact r.inj r'
theorem ag.AZ (I:ag X pins σ H s)(h:ah X.K H a xs)(h':ah X.K H a ys):xs=ys:=by
 obtain⟨aa,r,⟨o,e,_,n,d⟩,_⟩:=I.tuple h;obtain⟨its',r',⟨o',e',_,n',d'⟩,_⟩:=I.tuple h';rw[e]at e';cases e';rw[d]at d';injection d' with d1 _;have:aa=its':=by simpa using congrArg Array.toList d1
 subst this;exact r.inj r'
end
abbrev Cx.jI (X:Cx)(E:Value->Shared->Prop):Cx:= {X with xe:=E}
abbrev Cx.oJ (X:Cx):Cx:=X.jI fun _ _=>False
theorem Cx.Ok.jI (ok:X.Ok)(E:Value->Shared->Prop):(X.jI E).Ok:=
 ⟨ok.mod,ok.kind,ok.glob,ok.blt,ok.above,ok.inj,ok.has,ok.pH,ok.hd,ok.frames,ok.sH,ok.ui,ok.bs,ok.mC,ok.qG,ok.rH,ok.fN,ok.jX⟩
theorem Cx.Ok.mM (ok:(X.jI E).Ok):X.Ok:=
 ⟨ok.mod,ok.kind,ok.glob,ok.blt,ok.above,ok.inj,ok.has,ok.pH,ok.hd,ok.frames,ok.sH,ok.ui,ok.bs,ok.mC,ok.qG,ok.rH,ok.fN,ok.jX⟩
theorem ag.jI (I:ag X pins σ H s)(E:Value->Shared->Prop):ag (X.jI E) pins σ H s:=⟨I.ok.jI E,I.os,I.bare,I.base,I.loc,I.cell,I.free,I.iY,I.pin,I.au,I.len⟩
theorem ag.mM (I:ag (X.jI E) pins σ H s):ag X pins σ H s:=⟨I.ok.mM,I.os,I.bare,I.base,I.loc,I.cell,I.free,I.iY,I.pin,I.au,I.len⟩
theorem SP.mM {D:Ends}{f:Flow}(h:SP (X.jI E) pins D f s'):SP X pins D f s':=by
 cases f with
 |next=>obtain⟨ao,H',I,q⟩:=h;exact⟨ao,H',I.mM,q⟩
 |brk=>obtain⟨ao,H',I,q⟩:=h;exact⟨ao,H',I.mM,q⟩
 |cont=>obtain⟨ao,H',I,q⟩:=h;exact⟨ao,H',I.mM,q⟩
 |ret u=>obtain⟨v,ao,H',I,r,q⟩:=h;exact⟨v,ao,H',I.mM,r,q⟩
theorem cO.oJ {st:List Stmt}{t:TS}(h:cO X.oJ st t):cO X st t:=fun pins s σ H D I hw=>
 ZbR (h pins s σ H D (I.jI _) hw) (fun _ _ q=>q.mM) fun _ _ z=>False.elim z
section
variable {st:Stmt}{rest:List Stmt}{t u:TS}{e:Expr}{te:TE}
theorem aK (h:Nat.ble n 100=true:=by rfl):n<=sizeLine:=by rw[ZaH];exact Zbb (Nat.le_of_ble_eq_true h) .d
def GX:TS:=fun D σ H=>D.nx σ H
def ay (t u:TS):TS:=fun D σ H=>t {D with nx:=u D} σ H
theorem Zs:cO X [] GX:=fun _ _ σ H _ I h=>Zjm ⟨σ,H,I,h⟩
theorem Zd (h1:PS X st t)(h2:cO X rest u):cO X (st::rest) (ay t u):=by
 intro pins s σ H D I h;refine Zi9 (aH (h1 pins s σ H {D with nx:=u D} I h) fun f s1 q=>?_);cases f with
 |next=>obtain⟨ao,H',I',q⟩:=q;exact h2 pins s1 ao H' D I' q
 |ret v=>exact q
 |brk=>exact q
 |cont=>exact q
theorem Zk (h1:PS X st t):cO X [st] t:=by
 intro pins s σ H D I h;refine Zi9 (aH (h1 pins s σ H D I h) fun f s1 q=>?_);cases f with
 |next=>exact Zjm q
 |ret v=>exact q
 |brk=>exact q
 |cont=>exact q
theorem ag.quiet (I:ag X pins σ H s):interactive X.env=false:=by simp[interactive,I.ok.kind]
def Qq (te:TE):TS:=fun D σ H=>te σ H fun _ H1=>D.nx σ H1
theorem YI (he:PE X e te)(hs:swapsWith e none pos.line X.env=pure false:=by rfl):PS X (.Expr e pos) (Qq te):=by intro pins s σ H D I h;exact wpAny_Expr_any (aH (he pins s σ H _ I h) fun v s1 ⟨x,H1,I1,r1,q1⟩=>⟨σ,H1,I1,q1⟩) I.quiet hs
def P7 (te:TE):TS:=fun D σ H=>te σ H D.rt
theorem Zr (he:PE X e te):PS X (.Return (some e) pos) (P7 te):=by intro pins s σ H D I h;exact wpAny_Return_some (aH (he pins s σ H _ I h) fun v s1 ⟨x,H1,I1,r1,q1⟩=>⟨x,σ,H1,I1,r1,q1⟩)
def Qm (c:TT)(t u:TS):TS:=fun D σ H=>c σ H fun b H1=>if b=true then t D σ H1 else u D σ H1
theorem ZP {c:Expr}{a b:List Stmt}{tc:TT}(hc:PT X c tc)(ha:cO X a t)(hb:cO X b u):PS X (.If c a b pos) (Qm tc t u):=by
 intro pins s σ H D I h;refine wpAny_If (aH (hc pins s σ H _ I h) fun d s1 ⟨H1,I1,q1⟩=>?_);cases d with
 |true=>exact ha pins s1 σ H1 D I1 q1
 |false=>exact hb pins s1 σ H1 D I1 q1
def Qg:TS:=fun _ _ _=>False
theorem ZF :cO X QA Qg:=fun _ _ _ _ _ _ h=>h.elim
end
abbrev TG:=V->St->Hp->(St->Hp->Prop)->Prop
abbrev uA:=List V->St->Hp->(St->Hp->Prop)->Prop
def PG (X:Cx)(target:Expr)(t:TG):Prop:=
 ∀(pins:List (Addr×Obj)) (s:Shared) (σ:St) (H:Hp) (v:V) (u:Value) (Q:St->Hp->Prop),ag X pins σ H s->RelV v u->t v σ H Q->
  wpAny (model X.prog X.w) X.A (assign target X.env u) (fun _ s'=> ∃ao H',ag X pins ao H' s'/\Q ao H') X.xe s
def AF (X:Cx)(ts:List Expr)(t:uA):Prop:=
 ∀(pins:List (Addr×Obj)) (s:Shared) (σ:St) (H:Hp) (vs:List V) (us:List Value) (Q:St->Hp->Prop),ag X pins σ H s->Vals vs us->t vs σ H Q->
  wpAny (model X.prog X.w) X.A (assignInOrder ((assignEach ts X.env).map (·.2)) us) (fun _ s'=> ∃ao H',ag X pins ao H' s'/\Q ao H') X.xe s
abbrev FT:=V->V->V->Hp->(Hp->Prop)->Prop
def O4 (X:Cx)(t:FT):Prop:=
 ∀(pins:List (Addr×Obj)) (s:Shared) (σ:St) (H:Hp) (o i v:V) (ov iv u:Value) (Q:Hp->Prop),ag X pins σ H s->RelV o ov->RelV i iv->RelV v u->t o i v H Q->
  wpAny (model X.prog X.w) X.A (setItem ov iv u) (fun _ s'=> ∃H',ag X pins σ H' s'/\Q H') X.xe s
def cH (i:Nat):TG:=fun v σ H Q=>Q (σ.set i (some v)) H
theorem ZE (hN:X.N.Nodup)(hi:X.N[i]?=some x:=by rfl)(hx:Loc X.env.scope x:=by first|exact .inl rfl|exact .inr rfl)(hf:X.fn x=true∨X.env.scope.names.lookup x=some .local:=by first|exact .inl rfl|exact .inr rfl|assumption):PG X (.Name x pos) (cH i):=by intro pins s σ H v u Q I r h;exact wpAny_assign_Name (YS I hN hi hx r (fun s' I'=>⟨_,H,I',h⟩) hf)
def mn:uA:=fun vs σ H Q=>vs=[]/\Q σ H
inductive dC (t:TG) (u:uA) (vs:List V) (σ:St) (H:Hp) (Q:(St->Hp->Prop)):Prop
 |mk (v r:_) (c0:vs=v::r) (c1:t v σ H fun ao H'=>u r ao H' Q)
theorem Z4:AF X [] mn:=by intro pins s σ H vs us Q I r h;obtain⟨e,h⟩:=h;subst e;cases r;exact ZiQ ⟨σ,H,I,h⟩
theorem Zo {e:Expr}{t:TG}{u:uA}(h1:PG X e t)(h2:AF X es u)
  (hs:(assignEach (e::es) X.env).map (·.2)=assign e X.env::(assignEach es X.env).map (·.2):=by rfl):AF X (e::es) (dC t u):=by
 intro pins s σ H vs us Q I r h;obtain⟨v,vr,e1,h⟩:=h;subst e1;cases r with
 |cons r rr=>rw[hs];refine Zdn (aH (h1 pins s σ H _ _ _ I r h) fun _ s1 ⟨Po,H1,I1,q1⟩=>?_);exact h2 pins s1 Po H1 _ _ Q I1 rr q1
inductive mj (K:Zke) (n:Nat) (t:uA) (v:V) (σ:St) (H:Hp) (Q:(St->Hp->Prop)):Prop
 |mk (a xs:_) (c0:v=.ref a) (c1:ah K H a xs) (c2:xs.length=n) (c3:t xs σ H Q)
theorem Yk {k:Nat}(hc:X.calm=true)(h:AF X es t)
  (hn:(assignEach es X.env).length=n:=by rfl) (jR:(assignEach es X.env).findIdx? (·.1)=none:=by rfl):PG X (.Tuple es k pos) (mj X.K n t):=by
 intro pins s σ H v u Q I r hw;obtain⟨a,xs,e1,hq,hl,hw⟩:=hw;subst e1;cases r;obtain⟨aa,rv,ht,hz⟩:=I.tuple hq;refine assign_Tuple_tuple (I.ok.hd hc) ht (by simp[hn,<-hl,rv.length]) jR fun h' hx=>?_;have I1:ag X pins σ H {s with heap:=h'} :=I.kept (t':=s.toks) fun b o e=>hx b o (ZaR (ZaA e)) e;exact h pins _ σ H xs _ Q I1 (by simpa using rv) hw
def aap (to ti:TE)(t:FT):TG:=fun v σ H Q=>to σ H fun o H1=>ti σ H1 fun i H2=>t o i v H2 fun H3=>Q σ H3
theorem MM {o i:Expr}{to ti:TE}{t:FT}(ho:PE X o to)(hi:PE X i ti)(hs:O4 X t)
    (ha:∀v,assign (.Subscript o i pos) X.env v=(do
      let ov <-holding [v] (eval o X.env)
      let iv <-holding [v,ov] (eval i X.env)
      standAt pos
      holding [v,ov,iv] (setItem ov iv v)
      release [v,ov,iv] []):=by intro _;rfl):PG X (.Subscript o i pos) (aap to ti t):=by
  intro pins s σ H v u Q I r h;rw[ha];refine gc (ZcT (aH (ho pins s σ H _ I h) fun ov s1 ⟨x,H1,I1,r1,q1⟩=>?_));refine gc (ZcT (aH (hi pins s1 σ H1 _ I1 q1) fun iv s2 ⟨y,H2,I2,r2,q2⟩=>?_));refine gc (Zee (gc (ZcT (aH (hs pins s2 σ H2 x y v ov iv u _ I2 r1 r2 r q2) fun _ s3 ⟨H3,I3,q3⟩=>?_))));exact wpAny_release ⟨σ,H3,I3,q3⟩
def p7 (te:TE)(g:TG):TS:=fun D σ H=>te σ H fun x H1=>g x σ H1 D.nx
theorem Ju {tg e:Expr}{te:TE}{g:TG}(he:PE X e te)(hg:PG X tg g)(hs:swapsWithSole [tg] e pos.line X.env=pure false:=by rfl)(hw:swappedStores [tg] e X.env=pure none:=by rfl)
  (h1:(assignEach [tg] X.env).map (·.2)=[assign tg X.env]:=by rfl):PS X (.Assign [tg] e pos) (p7 te g):=by
 intro pins s σ H D I h;refine wpAny_Assign_stores (aH (he pins s σ H _ I h) fun v s1 ⟨x,H1,I1,r1,q1⟩=>?_) hs hw;rw[h1];exact aH (hg pins s1 σ H1 x v _ I1 r1 q1) fun _ s2 q=>q
theorem Zq {i:Nat}{x:Str}{e:Expr}{te:TE}{pos':Pos}(hN:X.N.Nodup)(he:PE X e te)(hi:X.N[i]?=some x:=by rfl)(hx:Loc X.env.scope x:=by first|exact .inl rfl|exact .inr rfl)(hs:swapsWith e (some (.Name x pos')) pos.line X.env=pure false:=by rfl)(hf:X.fn x=true∨X.env.scope.names.lookup x=some .local:=by first|exact .inl rfl|exact .inr rfl|assumption):
  PS X (.Assign [.Name x pos'] e pos) (p7 te (cH i)):=by
 intro pins s σ H D I h;refine wpAny_Assign_Name (aH (he pins s σ H _ I h) fun v s1 ⟨y,H1,I1,r1,q1⟩=>?_) hs;exact YS I1 hN hi hx r1 (fun s2 I2=>⟨_,H1,I2,q1⟩) hf
def Qb (i j:Nat)(ta:TA):TS:=fun D σ H=>ta σ H fun vs H1=> ∃v w,vs=[v,w]/\D.nx ((σ.set i (some v)).set j (some w)) H1
theorem UB {i j:Nat}{x y:Str}{a b:Expr}{ta:TA}{px py pt:Pos}{kt k2 qB}(hc:X.calm=true)(hN:X.N.Nodup)(hi:X.N[i]?=some x)(hj:X.N[j]?=some y)(iU:i≠j)
  (hx:X.env.scope.names.lookup x=some .local) (hy:X.env.scope.names.lookup y=some .local) (ha:PA X [a,b] ta)
  (hw:swappedStores [.Tuple [.Name x px,.Name y py] kt pt] (.Tuple [a,b] k2 qB) X.env=pure (some [x,y]))
  (hs:swapsWithSole [.Tuple [.Name x px,.Name y py] kt pt] (.Tuple [a,b] k2 qB) pos.line X.env=pure false:=by rfl):
  PS X (.Assign [.Tuple [.Name x px,.Name y py] kt pt] (.Tuple [a,b] k2 qB) pos) (Qb i j ta):=by
 intro pins s σ H D I h;rw[exec_Assign_arm];refine gc (Zee ?_);rw[hs];refine gc (Zav ?_);rw[ZaN .d];refine gc (Tuple_ (aH (ha _ pins s σ H _ I h) fun us s1 ⟨vs,H1,I1,r1,q1⟩=>?_));obtain⟨v,w,e1,q1⟩:=q1;subst e1;obtain⟨u1,u2,rfl,rv,ko⟩:∃u1 u2,us=[u1,u2]/\RelV v u1/\RelV w u2:=by
  cases r1 with
  |cons p q=>
   cases q with
   |cons p' q'=>cases q';exact⟨_,_,rfl,p,p'⟩
 refine Zbm ?_ aK;have I2:ag X pins σ H1 {s1 with heap:=s1.heap.push {cls:=.type "tuple",data:=.seq [u1,u2].toArray} } :=I1.kept (t':=s1.toks) fun b o e=>Zan _ e;rw[hw];refine gc (Zav ?_);show wpAny (model X.prog X.w) X.A (do rule "assign.swapped-stores";let items <-unpackItems (.ref s1.heap.objs.size) 2 none;assignInOrder [fun v=>bindName X.env y v,fun v=>bindName X.env x v] items.reverse;pure Flow.next) _ _ _;refine gc (Zdc (gc (unpackItems_tuple (items:= #[u1,u2]) (I.ok.hd hc) (Zjn s1.heap _) fun h' fK=>?_)));have I3:=I2.kept (h':=h') (t':=s1.toks) fun b o e=>fK b o (ZaR (ZaA e)) e;show wpAny _ _ (assignInOrder [fun v=>bindName X.env y v,fun v=>bindName X.env x v] [u2,u1] >>=fun _=>pure Flow.next) _ _ _;refine gc (Zdn (Zh1 (YS I3 hN hj (.inl hy) ko (fun s2 I4=>?_) (.inr hy))));refine Zdn (Zh1 (YS I4 hN hi (.inl hx) rv (fun s3 I5=>ZiQ (Zav ?_)) (.inr hx)));rw[List.set_comm _ _ (Ze4 iU)]at I5;exact⟨_,H1,I5,q1⟩
structure It where
 go:Nat->Hp->Prop
 uM:Nat->Hp->V->Hp->Prop
 stop:Nat->Hp->Prop
def cI (X:Cx)(pins:List (Addr×Obj))(H:Hp)(b:Addr):Prop:=
 H b=none/\b≠X.env.locals/\b∉X.fs/\(b∈X.ex∨X.cR.heap.objs.size<=b)/\(∀x c,X.env.cells.lookup x=some c->c≠b)/\∀p∈X.pn++pins,p.1≠b
theorem ag.pC {H':Hp}{b:Addr}(I:ag X pins σ H s)(hb:s.heap.objs.size<=b)(hn:H' b=none):cI X pins H' b:=by
 refine⟨hn,Zh6 (ZaG I.lt hb),I.SH hb,.inr (Zbb I.sz hb),fun x c e z=>?_,fun p hp z=>?_⟩
 ·obtain⟨v,q⟩:=I.cell x c e;exact absurd (ZaG q.lt (by rw[z];exact hb)) (ZbM _)
 ·exact absurd (ZaG (ZaA (I.pin p hp).1) (by rw[z];exact hb)) (ZbM _)
structure Turn (P:Program)(w:World)(K:Zke)(tg:Expr)(J:It)(fp:List Addr)(it:Addr)(tn:Nat->Heap->Prop):Prop where
 mem:it∈fp
 obj:∀i h,tn i h->∀b∈fp,∃o,h.get? b=some o/\∀v,o.data≠.cell v
 keep:∀i h h',tn i h->(∀b∈fp,∀o,h.get? b=some o->h'.get? b=some o)->tn i h'
 item:∀(X:Cx),X.prog=P->X.w=w->X.K=K->X.calm=true->∀(i:Nat) (pins:List (Addr×Obj)) (s:Shared) (σ:St) (H:Hp) (E:Value->Shared->Prop),ag X pins σ H s->(∀b∈fp,cI X pins H b)->tn i s.heap->J.go i H->
  wpAny (model P w) X.A (pyNext (.ref it)) (fun r s1=> ∃u,r=some u/\
   wpAny (model P w) X.A (letOwnedTupleGo tg (.ref it) u) (fun _ s2=> ∃x H',ag X pins σ H' s2/\RelV x u/\J.uM i H x H'/\tn (i+1) s2.heap/\∀b∈fp,H' b=none) E s1) E s
 done:∀(X:Cx),X.prog=P->X.w=w->X.K=K->X.calm=true->∀(i:Nat) (pins:List (Addr×Obj)) (s:Shared) (σ:St) (H:Hp) (E:Value->Shared->Prop),ag X pins σ H s->(∀b∈fp,cI X pins H b)->tn i s.heap->J.stop i H->
  wpAny (model P w) X.A (pyNext (.ref it)) (fun r s1=>r=none/\ag X pins σ H s1) E s
 self:∀(A:Around) (i:Nat) (s:Shared) (Q:Value->Shared->Prop) (E:Value->Shared->Prop),tn i s.heap->Q (.ref it) s->wpAny (model P w) A (pyIter (.ref it)) Q E s
abbrev TI:=St->Hp->(It->Hp->Prop)->Prop
def O5 (X:Cx)(pins:List (Addr×Obj))(σ:St)(tg:Expr)(R:It->Hp->Prop)(qL:Value)(s2:Shared):Prop:=
 ∃(it:Addr) (fp:List Addr) (tn:Nat->Heap->Prop) (J:It) (H':Hp),qL=.ref it/\ag X pins σ H' s2/\Turn X.prog X.w X.K tg J fp it tn/\tn 0 s2.heap/\(∀b∈fp,cI X pins H' b)/\R J H'
def PI (X:Cx)(tg iter:Expr)(wi:TI):Prop:=
 ∀(pins:List (Addr×Obj)) (s:Shared) (σ:St) (H:Hp) (R:It->Hp->Prop),ag X pins σ H s->wi σ H R->
  wpAny (model X.prog X.w) X.A (eval iter X.env) (fun v s1=>wpAny (model X.prog X.w) X.A (pyIter v) (O5 X pins σ tg R) X.xe s1) X.xe s
theorem E8 {o:Obj}{vs:Array Value}{Q:Unit->Shared->Prop}(ho:s.heap.get? it=some o)(hc:o.cls=.type n)(hd:o.data=.fields vs)
    (hn:["enumerate","zip","dict_itemiterator","dict_reverseitemiterator","odict_iterator","itertools.zip_longest","itertools.pairwise"].contains n=false) (hQ:Q () s):wpAny M A (letOwnedTupleGo tg (.ref it) u) Q E s:=by
  unfold letOwnedTupleGo;cases tg<;>first
    |exact Zav hQ
    |(cases u<;>first
        |exact Zav hQ
        |(refine gc (wpAny_load ho ?_)
          rw[hc,hd];show wpAny M A (if (["enumerate","zip","dict_itemiterator","dict_reverseitemiterator","odict_iterator","itertools.zip_longest","itertools.pairwise"].contains n&&vs[0]?==some (rawInt _))=true then _ else _) Q E s;rw[ZaN (by intro h;rw[hn,Zbd]at h;cases h)];exact Zav hQ))
def AI (K:Zke)(a:Addr):It:=
 ⟨fun i H=> ∃xs x,ak K H a xs/\xs[i]?=some x,fun i H x H'=>H'=H/\∀xs,ak K H a xs->xs[i]?=some x,fun i H=> ∃xs,ak K H a xs/\xs.length<=i⟩
def F2 (K:Zke)(a:Addr):It:=
 ⟨fun i H=> ∃xs x,ah K H a xs/\xs[i]?=some x,fun i H x H'=>H'=H/\∀xs,ah K H a xs->xs[i]?=some x,fun i H=> ∃xs,ah K H a xs/\xs.length<=i⟩
def xY (lo:Int)(n:Nat):It:=⟨fun i _=>i<n,fun i H x H'=>H'=H/\x=.int (lo+i),fun i _=>n<=i⟩
theorem Zdv {P:Program}{K:Zke}{tg:Expr}(a it:Addr):Turn P w K tg (AI K a) [it] it (fun i h=>h.IsListIter it a i) where
 mem:=.s
 obj:=fun i h st b hb=>by
  have e:b=it:=by simpa using hb
  subst e;obtain⟨o,e,c,d⟩:=st;exact⟨o,e,fun v z=>by rw[d]at z;cases z⟩
 keep:=fun i h h' st k=>st.at fun o e=>k it .s o e
 item:=by intro X hP hw hK hc i pins s σ H E I hf st hg;subst hP hw hK;obtain⟨xs,x,hq,hx⟩:=hg;obtain⟨aa,rv,p,hz⟩:=I.list hq;obtain⟨u,hu,ru⟩:=rv.get hx;obtain⟨f0,f1,f2,f3,f4,f5⟩:=hf it .s;refine wpAny_pyNext_list_item st p.isList (x:=u) (by simpa using hu) fun h' ai sb=>?_;have I1:ag X pins σ H {s with heap:=h'} :=I.turned (t':=s.toks) (fun b o hb e=>(sb.2 b hb).trans e) f0 f1 f3 f4 f5;obtain⟨o,e,c,d⟩:=id ai;exact⟨u,rfl,E8 (s:= {s with heap:=h'}) e c d .d ⟨x,H,I1,ru,⟨rfl,fun ys hy=>by rw[I.vV hy hq];exact hx⟩,ai,fun b hb=>(hf b hb).1⟩⟩
 done:=by intro X hP hw hK hc i pins s σ H E I hf st hg;subst hP hw hK;obtain⟨xs,hq,hx⟩:=hg;obtain⟨aa,rv,p,hz⟩:=I.list hq;obtain⟨f0,f1,f2,f3,f4,f5⟩:=hf it .s;have hl:=rv.length;exact wpAny_pyNext_list_end (I.ok.hd hc) st p.isList (by simp;lia) fun h' eb=>⟨rfl,I.turned (t':=s.toks) (fun b o hb e=>eb b o hb e) f0 f1 f3 f4 f5⟩
 self:=fun _ _ _ _ _ st h=>wpAny_pyIter_listiter st h
theorem Zcl {P:Program}{K:Zke}{tg:Expr}(a it:Addr):Turn P w K tg (F2 K a) [it] it (fun i h=>h.IsTupleIter it a i) where
 mem:=.s
 obj:=fun i h st b hb=>by
  have e:b=it:=by simpa using hb
  subst e;obtain⟨o,e,c,d⟩:=st;exact⟨o,e,fun v z=>by rw[d]at z;cases z⟩
 keep:=fun i h h' st k=>st.at fun o e=>k it .s o e
 item:=by intro X hP hw hK hc i pins s σ H E I hf st hg;subst hP hw hK;obtain⟨xs,x,hq,hx⟩:=hg;obtain⟨aa,rv,p,hz⟩:=I.tuple hq;obtain⟨u,hu,ru⟩:=rv.get hx;obtain⟨f0,f1,f2,f3,f4,f5⟩:=hf it .s;refine wpAny_pyNext_tuple_item st (show s.heap.IsTuple a aa.toArray from p) (x:=u) (by simpa using hu) fun h' ai sb=>?_;have I1:ag X pins σ H {s with heap:=h'} :=I.turned (t':=s.toks) (fun b o hb e=>(sb.2 b hb).trans e) f0 f1 f3 f4 f5;obtain⟨o,e,c,d⟩:=id ai;exact⟨u,rfl,E8 (s:= {s with heap:=h'}) e c d .d ⟨x,H,I1,ru,⟨rfl,fun ys hy=>by rw[I.AZ hy hq];exact hx⟩,ai,fun b hb=>(hf b hb).1⟩⟩
 done:=by intro X hP hw hK hc i pins s σ H E I hf st hg;subst hP hw hK;obtain⟨xs,hq,hx⟩:=hg;obtain⟨aa,rv,p,hz⟩:=I.tuple hq;obtain⟨f0,f1,f2,f3,f4,f5⟩:=hf it .s;have hl:=rv.length;exact wpAny_pyNext_tuple_end (I.ok.hd hc) st (show s.heap.IsTuple a aa.toArray from p) (by simp;omega) fun h' eb=>⟨rfl,I.turned (t':=s.toks) (fun b o hb e=>eb b o hb e) f0 f1 f3 f4 f5⟩
 self:=fun _ _ _ _ _ st h=>wpAny_pyIter_tupleiter st h
theorem Zcm {P:Program}{K:Zke}{tg:Expr}(it:Addr)(lo:Int)(n:Nat):Turn P w K tg (xY lo n) [it] it (fun i h=>IsRangeIter h it (lo+(i:Nat)*1) ((n:Int)-(i:Nat)) 1) where
 mem:=.s
 obj:=fun i h st b hb=>by
  have e:b=it:=by simpa using hb
  subst e;exact⟨_,st,fun v z=>by have z':Data.fields _=Data.cell v:=z;cases z'⟩
 keep:=fun i h h' st k=>k it .s _ st
 item:=by intro X hP hw hK hc i pins s σ H E I hf st hg;subst hP hw hK;obtain⟨f0,f1,f2,f3,f4,f5⟩:=hf it .s;have W:=Walks.range (prog:=X.prog) (w:=X.w) (I.ok.hd hc) it lo 1 n;refine W.item i s _ _ hg st fun v h' tk hv ai kk=>?_;obtain⟨t,rfl⟩:=hv;have I1:ag X pins σ H {s with heap:=h',toks:=tk} :=I.turned (fun b o hb e=>kk b o (by simpa using hb) e) f0 f1 f3 f4 f5;refine⟨_,rfl,E8 (s:= {s with heap:=h',toks:=tk}) (n:= "range_iterator") ai rfl rfl .d ⟨.int (lo+i),H,I1,⟨t,?_⟩,⟨rfl,rfl⟩,ai,fun b hb=>(hf b hb).1⟩⟩;rw[Int.mul_one]
 done:=by intro X hP hw hK hc i pins s σ H E I hf st hg;subst hP hw hK;obtain⟨f0,f1,f2,f3,f4,f5⟩:=hf it .s;exact wpAny_pyNext_range_end (I.ok.hd hc) st (by have:n<=i:=hg;omega) fun h' eb=>⟨rfl,I.turned (t':=s.toks) (fun b o hb e=>eb b o hb e) f0 f1 f3 f4 f5⟩
 self:=fun _ _ _ _ _ st h=>wpAny_pyIter_rangeiter st h
section
variable {tg:Expr}
def IA (K:Zke)(tl:TE):TI:=fun σ H R=>tl σ H fun x H1=> ∃a,x=.ref a/\(∃xs,ak K H1 a xs)/\R (AI K a) H1
def Vf (K:Zke)(tl:TE):TI:=fun σ H R=>tl σ H fun x H1=> ∃a,x=.ref a/\(∃xs,ah K H1 a xs)/\R (F2 K a) H1
theorem Yi {l:Expr}{tl:TE}(hl:PE X l tl):PI X tg l (IA X.K tl):=by
 intro pins s σ H R I h;refine aH (hl pins s σ H _ I h) fun v s1 ⟨x,H1,I1,r1,q1⟩=>?_;obtain⟨a,e,⟨xs,hq⟩,q⟩:=q1;subst e;cases r1;obtain⟨aa,rv,p,hz⟩:=I1.list hq;refine ZhT p.isList ?_;refine⟨s1.heap.objs.size,[s1.heap.objs.size],_,_,H1,rfl,I1.kept (t':=s1.toks) fun b o e=>Zan _ e,Zdv a _,⟨_,ZaD _ rfl,rfl,rfl⟩,fun b hb=>?_,q⟩;have e:b=s1.heap.objs.size:=by simpa using hb
 subst e;exact I1.pC (Zal _) (I1.au.fresh (Zal _))
theorem Wk {l:Expr}{tl:TE}(hl:PE X l tl):PI X tg l (Vf X.K tl):=by
 intro pins s σ H R I h;refine aH (hl pins s σ H _ I h) fun v s1 ⟨x,H1,I1,r1,q1⟩=>?_;obtain⟨a,e,⟨xs,hq⟩,q⟩:=q1;subst e;cases r1;obtain⟨aa,rv,p,hz⟩:=I1.tuple hq;refine ZiD (show s1.heap.IsTuple a aa.toArray from p) ?_;refine⟨s1.heap.objs.size,[s1.heap.objs.size],_,_,H1,rfl,I1.kept (t':=s1.toks) fun b o e=>Zan _ e,Zcl a _,⟨_,ZaD _ rfl,rfl,rfl⟩,fun b hb=>?_,q⟩;have e:b=s1.heap.objs.size:=by simpa using hb
 subst e;exact I1.pC (Zal _) (I1.au.fresh (Zal _))
theorem Zet {R:It->Hp->Prop}{lo hi:Int}{t u v:Tok}{tk:Nat}(I:ag X pins σ H s)(h1: -(2^62)<=lo)(h2:lo<2^62)(h3: -(2^62)<=hi)(h4:hi<2^62)
  (q:R (xY lo (hi-lo).toNat) H):wpAny (model X.prog X.w) X.A (pyIter (.ref s.heap.objs.size)) (O5 X pins σ tg R) E {s with heap:=s.heap.push {cls:=.type "range",data:=.fields #[.int lo t,.int hi u,.int 1 v]},toks:=tk} :=by
 refine wpAny_pyIter_range (IsRange.new ..) (small_one h1 h2 h3 h4) ?_;have I1:ag X pins σ H {s with heap:=s.heap.push {cls:=.type "range",data:=.fields #[.int lo t,.int hi u,.int 1 v]},toks:=tk} :=I.kept fun b o e=>Zan _ e;refine⟨(s.heap.push {cls:=.type "range",data:=.fields #[.int lo t,.int hi u,.int 1 v]}).objs.size,[(s.heap.push {cls:=.type "range",data:=.fields #[.int lo t,.int hi u,.int 1 v]}).objs.size],_,_,H,rfl,
  I1.kept (t':=tk) fun b o e=>Zan _ e,Zcm _ lo (hi-lo).toNat,?_,fun b hb=>?_,q⟩
 ·have e1:lo+((0:Nat):Int)*1=lo:=.s;have e2:(((hi-lo).toNat:Nat):Int)-((0:Nat):Int)=Builtin.Range.rangeSize lo hi 1:=by rw[rangeSize_one];split<;>omega
  show IsRangeIter _ _ (lo+((0:Nat):Int)*1) ((((hi-lo).toNat:Nat):Int)-((0:Nat):Int)) 1;rw[e1,e2];exact ZaD _ rfl
 ·have e:b=(s.heap.push {cls:=.type "range",data:=.fields #[.int lo t,.int hi u,.int 1 v]}).objs.size:=by simpa using hb
  subst e;exact I1.pC (Zal _) (I1.au.fresh (Zal _))
def Vg (ta:TA):TI:=fun σ H R=>ta σ H fun vs H1=> ∃j:Int,vs=[.int j]/\ -(2^62)<=j/\j<2^62/\R (xY 0 j.toNat) H1
theorem Z3 {a:Expr}{ta:TA}{p:Pos}(hg:Gl X "range")(hm:X.mg "range" =none)(ha:PA X [a] ta)(hs:starEach [a] X.env=[(false,eval a X.env)]:=by rfl):PI X tg (.Call (.Name "range" p) [a] [] pos) (Vg ta):=by
 intro pins s σ H R I h;refine Call_ (Jx I hg hm boot_range (Zca (aH (ha pos pins s σ H _ I h) fun us s1 ⟨vs,H1,I1,r1,q1⟩=>?_) hs rfl));obtain⟨j,e,q1,q2,q⟩:=q1;subst e;cases r1 with
 |cons r rr=>cases rr;obtain⟨t,rfl⟩:=r;exact call_range_1 (Zet I1 .l .l q1 q2 (by simpa using q))
def ye (J:It)(g:TG)(tb:TS)(D:Ends)(σ:St)(H1:Hp):Prop:=∃W:Nat->Nat->St->Hp->Prop,(∃m,W 0 m σ H1)/\∀i m σ H,W i m σ H->
 (J.stop i H/\D.nx σ H)∨(J.go i H/\∃N:St->Hp->Prop,(∀ao H',N ao H'->∃m',m'<m/\W (i+1) m' ao H')/\∀x H',J.uM i H x H'->g x σ H' fun bB H2=>tb {D with nx:=N,ct:=N,bk:=D.nx} bB H2)
def Qo (wi:TI)(g:TG)(tb:TS):TS:=fun D σ H=>wi σ H fun J H1=>ye J g tb D σ H1
def ng (fp:List Addr)(h:Heap):List (Addr×Obj):=fp.filterMap fun b=>(h.get? b).map fun o=>(b,o)
theorem Yn {fp:List Addr}{h:Heap}{b:Addr}(hb:b∈fp)(e:h.get? b=some o):(b,o)∈ng fp h:=Zb7.mpr ⟨b,hb,by rw[e];rfl⟩
theorem WY {h:Heap}{p:Addr×Obj}(hp:p∈ng fp h):p.1∈fp/\h.get? p.1=some p.2:=by
 obtain⟨b,hb,e⟩:=Zb7.mp hp;cases q:h.get? b with
 |none=>rw[q]at e;cases e
 |some o=>rw[q]at e;have e':(b,o)=p:=Za3 e;subst e';exact⟨hb,q⟩
theorem ag.pinned {fp:List Addr}(I:ag X pins σ H s)(hf:∀b∈fp,cI X pins H b)(ho:∀b∈fp,∃o,s.heap.get? b=some o/\∀v,o.data≠.cell v):ag X (pins++ng fp s.heap) σ H s:=
 I.HR fun p hp=>(Zay.mp hp).elim (fun z=>I.pin p (Zaw _ z)) fun z=>by obtain⟨hb,e⟩:=WY z;obtain⟨f0,f1,f2,_⟩:=hf p.1 hb;obtain⟨o,e',d⟩:=ho p.1 hb;rw[e]at e';cases e';exact⟨e,f0,f1,f2,d⟩
theorem ag.lF {pl:List (Addr×Obj)}(I:ag X (pins++pl) σ H s):ag X pins σ H s:=I.HR fun p hp=>I.pin p (Zaw _ (ZaS _ hp))
theorem YY {iter:Expr}{body:List Stmt}{wi:TI}{g:TG}{tb:TS}(hp:PassesOwn (model X.prog X.w) X.A X.env X.xe)(hc:X.calm=true)(hi:PI X tg iter wi)(hg:PG X tg g)(hb:cO X body tb)
  (hs:∀x,foldedSetIterable iter X.env x=pure x:=by intro _;rfl):PS X (.For tg iter body [] pos) (Qo wi g tb):=by
 intro pins s σ H D I h;refine wpAny_For (aH (hi pins s σ H _ I h) fun v s1 h1=>aH h1 fun qL s2 h2=>?_) hs;obtain⟨it,fp,tn,J,H2,e,I2,T,aF,f2,W,⟨m0,w0⟩,turn⟩:=h2;subst e;have stat:∀{H':Hp},(∀b∈fp,H' b=none)->∀b∈fp,cI X pins H' b:=fun hn b hb=>⟨hn b hb,(f2 b hb).2⟩;refine codeAny_forLoop_any (fun n s'=> ∃i ao H',ag X pins ao H' s'/\tn i s'.heap/\(∀b∈fp,H' b=none)/\W i n ao H') ?_ m0 ⟨0,σ,H2,I2,aF,fun b hb=>(f2 b hb).1,w0⟩;rintro n s3 ⟨i,j9,H3,I3,bw,Ac,w3⟩;rcases turn i n j9 H3 w3 with ⟨stop,qn⟩|⟨go,N,hN,step⟩
 ·refine Zgv hp (aH (T.done X rfl rfl rfl hc i pins s3 j9 H3 X.xe I3 (stat Ac) bw stop) fun r s4 ⟨hr,I4⟩=>?_);subst hr;exact Zjm ⟨j9,H3,I4,qn⟩
 ·refine Zgv hp (aH (T.item X rfl rfl rfl hc i pins s3 j9 H3 X.xe I3 (stat Ac) bw go) fun r s4 ⟨u,hr,h4⟩=>?_);subst hr;refine Zgv hp (aH h4 fun _ s5 ⟨x,H5,I5,r5,y5,cg,Ez⟩=>?_);have F6:=I5.pinned (stat Ez) (T.obj _ _ cg);refine Zgv hp (aH (hg _ s5 j9 H5 x u _ F6 r5 (step x H5 y5)) fun _ s6 ⟨uK,H6,I6,q6⟩=>?_);refine Zgv hp (aH (hb _ s6 uK H6 _ I6 q6) fun f s7 q7=>?_);have again:∀{fU:St}{H7:Hp},ag X (pins++ng fp s5.heap) fU H7 s7->N fU H7->∃m,m<n/\∃i ao H',ag X pins ao H' s7/\tn i s7.heap/\(∀b∈fp,H' b=none)/\W i m ao H':=fun {fU H7} I7 n7=>by obtain⟨m',hm,w7⟩:=hN fU H7 n7;refine⟨m',hm,i+1,fU,H7,I7.lF,T.keep _ _ _ cg fun b hb o e=>(I7.pin (b,o) (Zaw _ (Zaw _ (Yn hb e)))).1,fun b hb=>?_,w7⟩;obtain⟨o,e,d⟩:=T.obj _ _ cg b hb;exact(I7.pin (b,o) (Zaw _ (Zaw _ (Yn hb e)))).2.1
  cases f with
  |next=>obtain⟨fU,H7,I7,n7⟩:=q7;exact again I7 n7
  |cont=>obtain⟨fU,H7,I7,n7⟩:=q7;exact again I7 n7
  |brk=>obtain⟨fU,H7,I7,q7⟩:=q7;exact⟨fU,H7,I7.lF,q7⟩
  |ret v=>obtain⟨x7,fU,H7,I7,r7,q7⟩:=q7;exact⟨x7,fU,H7,I7.lF,r7,q7⟩
end
theorem E5 {J:It}{n:Nat}{g:TG}{D:Ends}(Pv:Nat->St->Hp->Prop)(h0:Pv 0 σ H)(go:∀i σ H,i<n->Pv i σ H->J.go i H)(sp:∀σ H,Pv n σ H->J.stop n H/\D.nx σ H)
  (hs:∀i σ H x H',i<n->Pv i σ H->J.uM i H x H'->g x σ H' fun bB H2=>tb {D with nx:=Pv (i+1),ct:=Pv (i+1),bk:=D.nx} bB H2):ye J g tb D σ H:=by
 refine⟨fun i m σ H=>m=n-i/\i<=n/\Pv i σ H,⟨n,rfl,ZaJ _,h0⟩,?_⟩;rintro i m σ H ⟨rfl,hi,p⟩;by_cases bj:i<n
 ·exact .inr ⟨go i σ H bj p,Pv (i+1),fun ao H' p'=>⟨n-(i+1),Nat.sub_lt_sub_left bj (Zib i),rfl,bj,p'⟩,fun x H' y=>hs i σ H x H' bj p y⟩
 ·obtain rfl:i=n:=Ze6 hi (Zja bj);exact .inl (sp σ H p)
theorem WJ {K:Zke}{a:Addr}{xs:List V}{g:TG}{tb:TS}{D:Ends}(Pv:Nat->St->Hp->Prop)(h0:Pv 0 σ H)(hl:∀i σ H,i<=xs.length->Pv i σ H->ak K H a xs)
  (hs:∀i x σ H,xs[i]?=some x->Pv i σ H->g x σ H fun bB H2=>tb {D with nx:=Pv (i+1),ct:=Pv (i+1),bk:=D.nx} bB H2) (hd:∀σ H,Pv xs.length σ H->D.nx σ H):
  ye (AI K a) g tb D σ H:=E5 Pv h0 (fun i σ H h p=>⟨xs,xs[i],hl i σ H (Zbl h) p,Zaj h⟩) (fun σ H p=>⟨⟨xs,hl _ σ H (Zal _) p,Zal _⟩,hd σ H p⟩) fun i σ H x H' h p ⟨e,y⟩=>by
 subst e;exact hs i x σ _ (y xs (hl i σ _ (Zbl h) p)) p
theorem Y0 {lo:Int}{n:Nat}{g:TG}{D:Ends}(Pv:Nat->St->Hp->Prop)(h0:Pv 0 σ H)
  (hs:∀i σ H,i<n->Pv i σ H->g (.int (lo+i)) σ H fun bB H2=>tb {D with nx:=Pv (i+1),ct:=Pv (i+1),bk:=D.nx} bB H2) (hd:∀σ H,Pv n σ H->D.nx σ H):
  ye (xY lo n) g tb D σ H:=E5 Pv h0 (fun i σ H h p=>h) (fun σ H p=>⟨Zal _,hd σ H p⟩) fun i σ H x H' h p ⟨e,y⟩=>by
 subst e y;exact hs i σ _ h p
abbrev R2:=V->V->Hp->VK->Prop
def bf (X:Cx)(f:Value->Value->Sem Value)(r:R2):Prop:=
 ∀(pins:List (Addr×Obj)) (s:Shared) (σ:St) (H:Hp) (x y:V) (v u:Value) (Q:VK),ag X pins σ H s->RelV x v->RelV y u->r x y H Q->
  wpAny (model X.prog X.w) X.A (f v u) (EP X pins σ Q) X.xe s
def FQ (X:Cx)(f:Value->Sem Value)(r:V->Hp->VK->Prop):Prop:=
 ∀(pins:List (Addr×Obj)) (s:Shared) (σ:St) (H:Hp) (x:V) (v:Value) (Q:VK),ag X pins σ H s->RelV x v->r x H Q->
  wpAny (model X.prog X.w) X.A (f v) (EP X pins σ Q) X.xe s
def fh (X:Cx)(f:Value)(r:List V->Hp->VK->Prop):Prop:=
 ∀(pins:List (Addr×Obj)) (s:Shared) (σ:St) (H:Hp) (xs:List V) (us:List Value) (Q:VK),ag X pins σ H s->Vals xs us->r xs H Q->
  wpAny (model X.prog X.w) X.A (call f us) (EP X pins σ Q) X.xe s
def dW (r:R2)(ta tb:TE):TE:=fun σ H Q=>ta σ H fun x H1=>tb σ H1 fun y H2=>r x y H2 Q
def A6 (r:V->Hp->VK->Prop)(ta:TE):TE:=fun σ H Q=>ta σ H fun x H1=>r x H1 Q
inductive rI (C:Int->Int->Prop) (g:Int->Int->V) (x:V) (y:V) (H:Hp) (Q:VK):Prop
 |mk (i j:_) (c0:x=.int i) (c1:y=.int j) (c2:C i j) (c3:Q (g i j) H)
inductive m6 (g:Int->Int->V) (x:V) (y:V) (H:Hp) (Q:VK):Prop
 |mk (i j:_) (c0:x=.int i) (c1:y=.int j) (c2:Q (g i j) H)
inductive rU (g:Int->V) (x:V) (H:Hp) (Q:VK):Prop
 |mk (i:_) (c0:x=.int i) (c1:Q (g i) H)
section
variable {a b c:Expr}{ta tb tc:TE}
theorem EO (ha:PE X a ta)(hb:PE X b tb){R:V->V->Hp->Prop}(I:ag X pins σ H s)
  (h:ta σ H fun x H1=>tb σ H1 fun y H2=>R x y H2) {Q:Value->Shared->Prop}{f:Value->Value->Sem Value}
  (hf:∀v u s2 x y H2,ag X pins σ H2 s2->RelV x v->RelV y u->R x y H2->wpAny (model X.prog X.w) X.A (f v u) Q X.xe s2):
  wpAny (model X.prog X.w) X.A (eval a X.env) (fun v br=>wpAny (model X.prog X.w) X.A (eval b X.env) (fun u Bc=>wpAny (model X.prog X.w) X.A (f v u) Q X.xe Bc) X.xe br) X.xe s:=by
 refine aH (ha pins s σ H _ I h) fun v s1 ⟨x,H1,I1,r1,q1⟩=>?_;refine aH (hb pins s1 σ H1 _ I1 q1) fun u s2 ⟨y,H2,I2,r2,q2⟩=>?_;exact hf v u s2 x y H2 I2 r1 r2 q2
theorem Zl {op:Operator}{r:R2}(ho:bf X (binaryOp op) r)(ha:PE X a ta)(hb:PE X b tb):PE X (.BinOp a op b pos) (dW r ta tb):=by intro pins s σ H Q I h;exact wpAny_BinOp (EO ha hb I h fun v u s2 x y H2 I2 rx ry q=>ho pins s2 σ H2 x y v u Q I2 rx ry q)
theorem uu {op:UnaryOp}{r:V->Hp->VK->Prop}(ho:FQ X (unaryOp op) r)(ha:PE X a ta):PE X (.UnaryOp op a pos) (A6 r ta):=by intro pins s σ H Q I h;exact UnaryOp_ (aH (ha pins s σ H _ I h) fun v s1 ⟨x,H1,I1,r1,q1⟩=>ho pins s1 σ H1 x v Q I1 r1 q1)
theorem zg {f:Value->Value->Sem Value}{C:Int->Int->Prop}{g:Int->Int->Int}
  (rule:∀(i j:Int) (t u:Tok) (s:Shared) (Q:Value->Shared->Prop) (E:Value->Shared->Prop),C i j->Q (.int (g i j) s.toks) {s with toks:=s.toks+1}->wpAny (model X.prog X.w) X.A (f (.int i t) (.int j u)) Q E s):
  bf X f (rI C fun i j=>.int (g i j)):=by
 intro pins s σ H x y v u Q I rx ry h;obtain⟨i,j,rfl,rfl,hc,q⟩:=h;obtain⟨t,rfl⟩:=rx;obtain⟨t',rfl⟩:=ry;exact rule i j t t' s _ _ hc ⟨.int (g i j),H,I.tok _,⟨_,rfl⟩,q⟩
theorem HZ {f:Value->Value->Sem Value}{g:Int->Int->Int}
  (rule:∀(i j:Int) (t u:Tok) (s:Shared) (Q:Value->Shared->Prop) (E:Value->Shared->Prop),Q (.int (g i j) s.toks) {s with toks:=s.toks+1}->wpAny (model X.prog X.w) X.A (f (.int i t) (.int j u)) Q E s):
  bf X f (m6 fun i j=>.int (g i j)):=by
 intro pins s σ H x y v u Q I rx ry h;obtain⟨i,j,rfl,rfl,q⟩:=h;obtain⟨t,rfl⟩:=rx;obtain⟨t',rfl⟩:=ry;exact rule i j t t' s _ _ ⟨.int (g i j),H,I.tok _,⟨_,rfl⟩,q⟩
theorem zh {f:Value->Value->Sem Value}{g:Int->Int->Bool}
  (rule:∀(i j:Int) (t u:Tok) (s:Shared) (Q:Value->Shared->Prop) (E:Value->Shared->Prop),Q (.bool (g i j)) s->wpAny (model X.prog X.w) X.A (f (.int i t) (.int j u)) Q E s):
  bf X f (m6 fun i j=>.bl (g i j)):=by
 intro pins s σ H x y v u Q I rx ry h;obtain⟨i,j,rfl,rfl,q⟩:=h;obtain⟨t,rfl⟩:=rx;obtain⟨t',rfl⟩:=ry;exact rule i j t t' s _ _ ⟨.bl (g i j),H,I,rfl,q⟩
def aaS (i j:Int):Prop:=0<j/\j<1073741824
def aaR (i j:Int):Prop:=0<=j/\j<=1000000/\i.natAbs<2^64
def Gw (i j:Int):Prop:=(-(2^64)<i/\i<2^64)∨(-(2^64)<j/\j<2^64)
theorem Gw.ok (h:Gw i j):IntMulOk i j:=by
 rcases h with ⟨h1,h2⟩|⟨h1,h2⟩
 ·exact .of_left (intBits_le_64 h1 h2)
 ·exact .of_right (intBits_le_64 h1 h2)
theorem Ya:bf X (binaryOp .Add) (m6 fun i j=>.int (i+j)):=HZ fun _ _ _ _ _ _ _ q=>add_int q
theorem Yx:bf X (binaryOp .Sub) (m6 fun i j=>.int (i-j)):=HZ fun _ _ _ _ _ _ _ q=>sub_int q
theorem UD:bf X (binaryOp .Mult) (rI Gw fun i j=>.int (i*j)):=zg fun _ _ _ _ _ _ _ hc q=>mul_int q hc.ok
theorem Nz:bf X (binaryOp .FloorDiv) (rI aaS fun i j=>.int (i/j)):=zg fun i j _ _ _ _ _ hc q=>by have h1:(0:Int)<j:=hc.1;have h2:j<1073741824:=hc.2;exact floordiv_int .l (by rw[Int.fdiv_eq_ediv_of_nonneg i .l];exact q) (.inl (PyProof.noPylong_small .o))
theorem YV:bf X (binaryOp .Mod) (rI (fun _ j=>0<j) fun i j=>.int (i%j)):=zg fun i j _ _ _ _ _ hc q=>by have h1:(0:Int)<j:=hc;exact mod_int' .o (by rw[Int.fmod_eq_emod_of_nonneg i .l];exact q)
theorem Fj:bf X (binaryOp .Pow) (rI aaR fun i j=>.int (i^j.toNat)):=zg fun _ _ _ _ _ _ _ hc q=>pow_int_small hc.1 hc.2.1 hc.2.2 q
theorem PF {f:Value->Sem Value}{g:Int->Int}
  (rule:∀(i:Int) (t:Tok) (s:Shared) (Q:Value->Shared->Prop) (E:Value->Shared->Prop),Q (.int (g i) s.toks) {s with toks:=s.toks+1}->wpAny (model X.prog X.w) X.A (f (.int i t)) Q E s):
  FQ X f (rU fun i=>.int (g i)):=by
 intro pins s σ H x v Q I rx h;obtain⟨i,rfl,q⟩:=h;obtain⟨t,rfl⟩:=rx;exact rule i t s _ _ ⟨.int (g i),H,I.tok _,⟨_,rfl⟩,q⟩
theorem WO:FQ X (unaryOp .USub) (rU fun i=>.int (-i)):=PF fun _ _ _ _ _ q=>neg_int q
end
def oo:V->V->Bool
 | .af,.af=>true | .af,.int _=>true | .int _,.af=>true | .af,.bl _=>true | .bl _,.af=>true | .af,.str _=>true | .str _,.af=>true
 | .int _,.int _=>true | .bl _,.bl _=>true | .str _,.str _=>true | .j4 _,.j4 _=>true
 | .int _,.str _=>true | .str _,.int _=>true | .bl _,.str _=>true | .str _,.bl _=>true
 |_,_=>false
inductive RH (x:V) (y:V) (H:Hp) (Q:VK):Prop
 |mk (c0:oo x y=true) (c1:Q (.bl (decide (x=y))) H)
inductive Rx (x:V) (y:V) (H:Hp) (Q:VK):Prop
 |mk (c0:oo x y=true) (c1:Q (.bl (!decide (x=y))) H)
theorem MY :decide (V.int i=V.int j)=(i==j):=by rw[Zcc];simp
theorem Mo :decide (V.bl i=V.bl j)=(i==j):=by rw[Zcc];simp
theorem MZ :decide (V.str i=V.str j)=(i==j):=by rw[Zcc];simp
theorem MX {i j:Array UInt8} :decide (V.j4 i=V.j4 j)=(i.toList==j.toList):=by rw[Zcc];cases i;cases j;simp
section
variable {a b c:Expr}{ta tb tc:TE}
theorem Z0 {Q:VK}(I:ag X pins σ H s)(q:Q (.bl k) H)(e:k=k'):EP X pins σ Q (.bool k') s:=by subst e;exact⟨.bl k,H,I,rfl,q⟩
theorem Jl:bf X (compareOp .Eq) RH:=by
 intro pins s σ H x y v u Q I rx ry h;obtain⟨hs,q⟩:=h;cases x with
 |af=>
  cases rx;cases y with
  |af=>cases ry;exact PySem.EqNone.eq_none_none (Z0 I q .s)
  |bl j=>cases ry;exact PySem.EqNone.eq_none_bool (Z0 I q .s)
  |int j=>obtain⟨t',rfl⟩:=ry;exact PySem.EqNone.eq_none_int (Z0 I q .s)
  |str j=>obtain⟨t',rfl⟩:=ry;exact ZiR (Z0 I q .s)
  |_=>exact absurd (show false=true from hs) Zam
 |bl i=>
  cases rx;cases y with
  |af=>cases ry;exact PySem.EqNone.eq_bool_none (Z0 I q .s)
  |bl j=>cases ry;exact eq_bool (Z0 I q Mo)
  |str j=>obtain⟨t',rfl⟩:=ry;exact ZiJ (Z0 I q .s)
  |_=>exact absurd (show false=true from hs) Zam
 |int i=>
  obtain⟨t,rfl⟩:=rx;cases y with
  |af=>cases ry;exact PySem.EqNone.eq_int_none (Z0 I q .s)
  |int j=>obtain⟨t',rfl⟩:=ry;exact eq_int (Z0 I q MY)
  |str j=>obtain⟨t',rfl⟩:=ry;exact ZiS (Z0 I q .s)
  |_=>exact absurd (show false=true from hs) Zam
 |str i=>
  obtain⟨t,rfl⟩:=rx;cases y with
  |af=>cases ry;exact PySem.EqNone.eq_str_none (Z0 I q .s)
  |bl j=>cases ry;exact PySem.EqMixed.eq_str_bool (Z0 I q .s)
  |int j=>obtain⟨t',rfl⟩:=ry;exact PySem.EqMixed.eq_str_int (Z0 I q .s)
  |str j=>obtain⟨t',rfl⟩:=ry;exact eq_str (Z0 I q MZ)
  |_=>exact absurd (show false=true from hs) Zam
 |j4 i=>
  obtain⟨t,rfl⟩:=rx;cases y with
  |j4 j=>obtain⟨t',rfl⟩:=ry;exact PySem.W.eq_bytes (Z0 I q MX)
  |_=>exact absurd (show false=true from hs) Zam
 |_=>cases y<;>exact absurd (show false=true from hs) Zam
theorem xQ:bf X (compareOp .NotEq) Rx:=by
 intro pins s σ H x y v u Q I rx ry h;obtain⟨hs,q⟩:=h;cases x with
 |af=>
  cases rx;cases y with
  |af=>cases ry;exact PySem.EqNone.ne_none_none (Z0 I q .s)
  |bl j=>cases ry;exact PySem.EqNone.ne_none_bool (Z0 I q .s)
  |int j=>obtain⟨t',rfl⟩:=ry;exact PySem.EqNone.ne_none_int (Z0 I q .s)
  |str j=>obtain⟨t',rfl⟩:=ry;exact PySem.EqNone.ne_none_str (Z0 I q .s)
  |_=>exact absurd (show false=true from hs) Zam
 |bl i=>
  cases rx;cases y with
  |af=>cases ry;exact PySem.EqNone.ne_bool_none (Z0 I q .s)
  |bl j=>cases ry;exact ne_bool (Z0 I q (ZbT not Mo))
  |str j=>obtain⟨t',rfl⟩:=ry;exact PySem.EqMixed.ne_bool_str (Z0 I q .s)
  |_=>exact absurd (show false=true from hs) Zam
 |int i=>
  obtain⟨t,rfl⟩:=rx;cases y with
  |af=>cases ry;exact PySem.EqNone.ne_int_none (Z0 I q .s)
  |int j=>obtain⟨t',rfl⟩:=ry;exact ne_int (Z0 I q (ZbT not MY))
  |str j=>obtain⟨t',rfl⟩:=ry;exact PySem.EqMixed.ne_int_str (Z0 I q .s)
  |_=>exact absurd (show false=true from hs) Zam
 |str i=>
  obtain⟨t,rfl⟩:=rx;cases y with
  |af=>cases ry;exact PySem.EqNone.ne_str_none (Z0 I q .s)
  |bl j=>cases ry;exact PySem.EqMixed.ne_str_bool (Z0 I q .s)
  |int j=>obtain⟨t',rfl⟩:=ry;exact PySem.EqMixed.ne_str_int (Z0 I q .s)
  |str j=>obtain⟨t',rfl⟩:=ry;exact ne_str (Z0 I q (ZbT not MZ))
  |_=>exact absurd (show false=true from hs) Zam
 |j4 i=>
  obtain⟨t,rfl⟩:=rx;cases y with
  |j4 j=>obtain⟨t',rfl⟩:=ry;exact PySem.W.ne_bytes (Z0 I q (ZbT not MX))
  |_=>exact absurd (show false=true from hs) Zam
 |_=>cases y<;>exact absurd (show false=true from hs) Zam
theorem W6:bf X (compareOp .Lt) (m6 fun i j=>.bl (decide (i<j))):=zh fun _ _ _ _ _ _ _ q=>lt_int q
theorem Ax:bf X (compareOp .LtE) (m6 fun i j=>.bl (decide (i<=j))):=zh fun _ _ _ _ _ _ _ q=>le_int q
theorem Aw:bf X (compareOp .Gt) (m6 fun i j=>.bl (decide (j<i))):=zh fun _ _ _ _ _ _ _ q=>gt_int q
theorem Fe:bf X (compareOp .GtE) (m6 fun i j=>.bl (decide (j<=i))):=zh fun _ _ _ _ _ _ _ q=>ge_int q
theorem bf.or {f:Value->Value->Sem Value}(h:bf X f r)(h':bf X f r'):bf X f (fun x y H Q=>r x y H Q∨r' x y H Q):=by
 intro pins s σ H x y v u Q I rx ry q;rcases q with q|q
 ·exact h pins s σ H x y v u Q I rx ry q
 ·exact h' pins s σ H x y v u Q I rx ry q
theorem iO (b:Expr)(h:op≠.In:=by decide)(h2:op≠.NotIn:=by decide):behindInMarks op b=false:=by
 have e1:(op==CmpOp.In)=false:=by cases op<;>first|rfl|exact absurd rfl h
 have e2:(op==CmpOp.NotIn)=false:=by cases op<;>first|rfl|exact absurd rfl h2
 cases b<;>simp[behindInMarks,e1,e2]
theorem YA {op:CmpOp}{r:R2}(ho:bf X (compareOp op) r)(ha:PE X a ta)(hb:PE X b tb)(hm:behindInMarks op b=false):PE X (.Compare a [op] [b] pos) (dW r ta tb):=by intro pins s σ H Q I h;exact wpAny_Compare1 (EO ha hb I h fun v u s2 x y H2 I2 rx ry q=>ho pins s2 σ H2 x y v u Q I2 rx ry q) hm
def P2 (t:TE):TT:=fun σ H Q=>t σ H (uB Q)
theorem Zp {op:CmpOp}{r:R2}(ho:bf X (compareOp op) r)(ha:PE X a ta)(hb:PE X b tb)(hm:behindInMarks op b=false:=by first|rfl|exact iO _):PT X (.Compare a [op] [b] pos) (P2 (dW r ta tb)):=by
 intro pins s σ H Q I h;refine wpAny_isTrue_Compare1 (aH (ha pins s σ H _ I h) fun v s1 ⟨x,H1,I1,r1,q1⟩=>aH (hb pins s1 σ H1 _ I1 q1) fun u s2 ⟨y,H2,I2,r2,q2⟩=>
  aH (ho pins s2 σ H2 x y v u _ I2 r1 r2 q2) fun c s3 ⟨z,H3,I3,r3,k,e,q3⟩=>?_) hm
 subst e;cases r3;exact ZcP ⟨H3,I3,q3⟩
def Qu (r r':R2)(ta tb tc:TE):TE:=fun σ H Q=>ta σ H fun x H1=>tb σ H1 fun y H2=>r x y H2 (uB fun k H3=>if k=true then tc σ H3 fun w' H4=>r' y w' H4 Q else Q (.bl false) H3)
theorem N7 {op CJ:CmpOp}{r r':R2}(ho:bf X (compareOp op) r)(fb:bf X (compareOp CJ) r')(ha:PE X a ta)(hb:PE X b tb)(hc:PE X c tc)
  (hm:lastMarks [op,CJ] [b,c]=false:=by with_unfolding_all rfl):PE X (.Compare a [op,CJ] [b,c] pos) (Qu r r' ta tb tc):=by
 intro pins s σ H Q I h;refine Compare_chain (aH (ha pins s σ H _ I h) fun v s1 ⟨x,H1,I1,r1,q1⟩=>chain_link (aH (hb pins s1 σ H1 _ I1 q1) fun u s2 ⟨y,H2,I2,r2,q2⟩=>
  aH (ho pins s2 σ H2 x y v u _ I2 r1 r2 q2) fun d s3 ⟨z,H3,I3,r3,k,e,q3⟩=>?_)) hm
 subst e;cases r3;refine ZcP ?_;cases k with
 |false=>exact ite_ff ⟨.bl false,H3,I3,rfl,q3⟩
 |true=>exact ite_tt (chain_last (aH (hc pins s3 σ H3 _ I3 q3) fun w' s4 ⟨z',H4,I4,r4,q4⟩=>fb pins s4 σ H4 y z' u w' Q I4 r2 r4 q4))
theorem zu:(sizeLine:Nat)<2^63:=by rw[ZaH];decide
theorem Zji (r:Vals [x] us):∃u,us=[u]/\RelV x u:=by
 cases r with
 |cons r1 r2=>cases r2;exact⟨_,rfl,r1⟩
theorem vals2 (r:Vals [x,y] us):∃u w',us=[u,w']/\RelV x u/\RelV y w':=by
 cases r with
 |cons r1 r2=>
  cases r2 with
  |cons r3 r4=>cases r4;exact⟨_,_,rfl,r1,r3⟩
inductive RA (xs:List V) (H:Hp) (Q:VK):Prop
 |mk (i j:_) (c0:xs=[.int i,.int j]) (c1:Q (.int (if j>i then j else i)) H)
theorem W4 (hc:X.calm=true):fh X (.builtin "max") RA:=by
 intro pins s σ H xs us Q I r h;obtain⟨i,j,rfl,q⟩:=h;obtain⟨u,w',rfl,⟨t,rfl⟩,⟨t',rfl⟩⟩:=vals2 r;refine max_two_ints (I.ok.hd hc) fun h' tk k=>⟨_,H,I.kept k,?_,q⟩;by_cases hj:j>i
 ·rw[ZaQ hj,ZaQ hj];exact⟨_,rfl⟩
 ·rw[ZaN hj,ZaN hj];exact⟨_,rfl⟩
inductive Rz (xs:List V) (H:Hp) (Q:VK):Prop
 |mk (i j:_) (c0:xs=[.int i,.int j]) (c1:Q (.int (if j<i then j else i)) H)
theorem OP (hc:X.calm=true):fh X (.builtin "min") Rz:=by
 intro pins s σ H xs us Q I r h;obtain⟨i,j,rfl,q⟩:=h;obtain⟨u,w',rfl,⟨t,rfl⟩,⟨t',rfl⟩⟩:=vals2 r;refine min_two_ints (I.ok.hd hc) fun h' tk k=>⟨_,H,I.kept k,?_,q⟩;by_cases hj:j<i
 ·rw[ZaQ hj,ZaQ hj];exact⟨_,rfl⟩
 ·rw[ZaN hj,ZaN hj];exact⟨_,rfl⟩
end
structure FV (h:Heap)(x dx C:Addr)(mA:Str->Option Value):Prop where
 obj:h.get? x=some (PySem.W.instObj C dx)
 ns:h.Ns1 dx mA
 ne:dx≠x
theorem ZdQ {h:Heap}(n:h.Ns1 dx mA):∃od,h.get? dx=some od/\∀name,PySem.W.lookIn name od=some (mA name):=by
 obtain⟨o,es,ep,ho,hd,hk,_,hm⟩:=n;refine⟨o,ho,fun name=>?_⟩;have e:=hm name;unfold nsFind findBy at e;rw[<-Array.find?_toList]at e;unfold PySem.W.lookIn;rw[hd];dsimp only;split
 ·rename_i y q;rw[q]at e;exact ZbT some e
 ·rename_i q;rw[q]at e;have a:es.toList.any (·.refKey)=false:=by rw[List.any_eq_false];intro y hy;obtain⟨z,t,Xu⟩:=hk y (Array.mem_toList_iff.mp hy);simp[DictEntry.refKey,Xu]
  have a':¬es.toList.any (·.refKey)=true:=by rw[a];exact Zam
  rw[ZaN a'];exact ZbT some e
theorem FV.look {h:Heap}(I:FV h x dx C mA):∃od,PySem.W.InstAt h x (PySem.W.instObj C dx) C (some od)/\∀name,PySem.W.lookIn name od=some (mA name):=
 let ⟨od,ho,hl⟩:=ZdQ I.ns
 ⟨od,⟨I.obj,rfl,rfl,ho⟩,hl⟩
section
variable {P:Program}{H':Hp}{h h':Heap}{a C dx:Addr}{fs fs':List (Str×V)}
theorem Zgo (au:bK P w H h)(e:H a=some (.ins C dx fs)):∃mA,FV h a dx C mA/\(∀f,rW (fs.lookup f) (mA f))/\PySem.Within mA (fs.map (·.1))/\fs.length<=1000/\H dx=some (.own a):=by obtain⟨d,z,ne,ob,mA,n,r,q⟩:=(show bI P w H h a (.ins C dx fs) from au a _ e);exact⟨mA,⟨ob,n,ne⟩,r,q,z,d⟩
end
structure Gu (K:Zke)(C:Addr):Prop where
 pg:PySem.W.plainGet K C Str.empty=true
 hd:PySem.W.hasDictIn K C=true
 po:PySem.W.plainOver K C=true
 sa:PySem.W.findIn K (.ref C) "__setattr__" =some (some (.builtin "object.__setattr__"))
theorem Gu.get {K:Zke}{C:Addr}(c:Gu K C)(f:Str):PySem.W.plainGet K C f=true:=c.pg
section
variable {Q:Value->Shared->Prop}{c:Value}{b:Bool}
inductive fF (K:Zke) (H:Hp):V->Value->Prop where
 |af:fF K H .af (.type "NoneType")
 |bl (x:Bool):fF K H (.bl x) (.type "bool")
 |int (i:Int):fF K H (.int i) (.type "int")
 |str (x:Str):fF K H (.str x) (.type "str")
 |kT (x:UInt64):fF K H (.kT x) (.type "float")
 |lst {a:Addr}{xs:List V} (e:H a=some (.lst xs)):fF K H (.ref a) (.type "list")
 |de {a:Addr}{o:Obj}{xs:List V} (e:H a=some (.de o (.lst xs))):fF K H (.ref a) (.type "list")
 |tup {a:Addr}{xs:List V} (e:H a=some (.tup xs)):fF K H (.ref a) (.type "tuple")
 |dK {a:Addr}{kvs:List (Key×V)} (e:H a=some (.dK kvs)):fF K H (.ref a) (.type "dict")
 |dT {a:Addr}{kvs:List (List Key×V)} (e:H a=some (.dT kvs)):fF K H (.ref a) (.type "dict")
 |ins {a C dx:Addr}{fs:List (Str×V)} (e:H a=some (.ins C dx fs)) (cl:Gu K C) (ha:PySem.W.findIn K (.ref C) "__class__" =some (some (.builtin "object.__class__")))
  (hn:PySem.W.specialIn K (.builtin "object.__class__") "__get__" =some (some (.builtin "getset_descriptor.__get__"))) (II:PySem.W.takesIn K (.builtin "object.__class__")=some true)
  (hm:PySem.W.mroIn K C (.type "object")=some true):fF K H (.ref a) (.ref C)
theorem ZdV (I:ag X pins σ H s)(rx:RelV x u)(ty:fF X.K H x t)(e:PySem.W.kitOne X.K t c=some b)(h:∀tk,Q (.bool b) {s with toks:=tk}):
  wpAny (model X.prog X.w) A (call (.builtin "isinstance") [u,c]) Q E s:=by
 cases ty with
 |af=>cases (show u=Value.none from rx);exact Zcd PySem.W.kitx_none I.cK True.intro e (fun z=>nomatch z) h
 |bl y=>cases (show u=Value.bool y from rx);exact Zcd PySem.W.kitx_bool I.cK True.intro e (fun z=>nomatch z) h
 |int i=>obtain⟨t,q⟩:=(show ∃t,u=Value.int i t from rx);cases q;exact Zcd PySem.W.kitx_int I.cK True.intro e (fun z=>nomatch z) h
 |str y=>obtain⟨t,q⟩:=(show ∃t,u=Value.str y t from rx);cases q;exact Zcd PySem.W.kitx_str I.cK True.intro e (fun z=>nomatch z) h
 |kT y=>obtain⟨t,q⟩:=(show ∃t,u=Value.float y t from rx);cases q;exact Zcd PySem.W.kitx_float I.cK True.intro e (fun z=>nomatch z) h
 | @lst a xs ea=>cases (show u=Value.ref a from rx);obtain⟨_,_,n,_,h1⟩:=(show bI X.prog X.w H s.heap a (.lst xs) from I.au a _ ea);exact Zcd ZiT I.cK ⟨_,h1,rfl⟩ e (fun z=>nomatch z) h
 | @de a ob xs ea=>cases (show u=Value.ref a from rx);obtain⟨_,_,_,n,_,h1⟩:=(show bI X.prog X.w H s.heap a (.de ob (.lst xs)) from I.au a _ ea);exact Zcd ZiT I.cK ⟨_,h1,rfl⟩ e (fun z=>nomatch z) h
 | @tup a xs ea=>cases (show u=Value.ref a from rx);obtain⟨_,_,_,p,_⟩:=(show bI X.prog X.w H s.heap a (.tup xs) from I.au a _ ea);obtain⟨o,h1,h2,_⟩:=p;exact Zcd PySem.W.kitx_tuple I.cK ⟨o,h1,h2⟩ e (fun z=>nomatch z) h
 | @dK a kvs ea=>cases (show u=Value.ref a from rx);obtain⟨_,_,vs,_,p⟩:=(show bI X.prog X.w H s.heap a (.dK kvs) from I.au a _ ea);obtain⟨o,es,ep,h1,h2,_⟩:=p;exact Zcd PySem.W.kitx_dict I.cK ⟨o,h1,h2.1⟩ e (fun z=>nomatch z) h
 | @dT a kvs ea=>cases (show u=Value.ref a from rx);obtain⟨_,_,xs,_,o,es,ep,h1,h2,_⟩:=(show bI X.prog X.w H s.heap a (.dT kvs) from I.au a _ ea);exact Zcd PySem.W.kitx_dict I.cK ⟨o,h1,h2.1⟩ e (fun z=>nomatch z) h
 | @ins a C dx fs ea cl ha hn II hm=>cases (show u=Value.ref a from rx);obtain⟨mA,O,_⟩:=Zgo I.au ea;obtain⟨od,J,_⟩:=O.look;exact Zcd (PySem.W.kitx_own (cl.get _) cl.hd ha hn II hm) I.cK J e (fun z=>nomatch z) h
end
structure bO (k:Nat)(A:Around):Prop where
 hd:A.handled=none
 dp:A.depth+3*k+5<recursionLimit
 un:A.units+16*k+200<cLine
 gd:A.guards=some []
theorem bO.mono {j k:Nat}(r:bO k A)(h:j<=k):bO j A:=⟨r.hd,by have:=r.dp;omega,by have:=r.un;omega,r.gd⟩
theorem bO.deeper {k:Nat}(r:bO (k+1) A)(env:Env):bO k (A.deeper env):=
 ⟨r.hd,by have:=r.dp;show A.depth+1+3*k+5<_;lia,by have:=r.un;show A.units+3+16*k+200<_;lia,r.gd⟩
theorem bO.depth (r:bO k A):A.depth<recursionLimit:=by have:=r.dp;omega
theorem bO.units (r:bO k A):A.units+64<cLine:=by have:=r.un;omega
theorem bO.mO (r:bO k A):A.units<cLine:=by have:=r.un;omega
def bD:TA:=fun _ H Q=>Q [] H
def aI (ta:TE)(tr:TA):TA:=fun σ H Q=>ta σ H fun x H1=>tr σ H1 fun xs H2=>Q (x::xs) H2
section
variable {e:Expr}{te:TE}{t:TA}
theorem Zb:PA X [] bD:=fun _ _ _ _ H Q I h=>Calls.spliced_nil ⟨[],H,I,.nil,h⟩
theorem Za (ha:PE X e te)(hr:PA X es t)(hs:starEach (e::es) X.env=(false,eval e X.env)::starEach es X.env:=by rfl):PA X (e::es) (aI te t):=by intro pos pins s σ H Q I h;rw[hs];show wpAny _ _ (spliced ((false,eval e X.env)::backTo pos (starEach es X.env))) _ _ s;refine Calls.spliced_cons (aH (ha pins s σ H _ I h) fun u s1 ⟨x,H1,I1,r1,q1⟩=>?_);exact aH (hr pos pins s1 σ H1 _ I1 q1) fun us s2 ⟨xs,H2,I2,r2,q2⟩=>⟨x::xs,H2,I2,.cons r1 r2,q2⟩
inductive O6 (Q:VK) (xs:List V) (H1:Hp):Prop
 |mk (c0:xs.length<=sizeLine) (c1:∀p,H1 p=none->Q (.ref p) (upd H1 p (.tup xs)))
def cX (t:TA):TE:=fun σ H Q=>t σ H (O6 Q)
inductive O8 (Q:VK) (xs:List V) (H1:Hp):Prop
 |mk (c0:xs.length<=sizeLine) (c1:∀p,H1 p=none->Q (.ref p) (upd H1 p (.lst xs)))
def oh (t:TA):TE:=fun σ H Q=>t σ H (O8 Q)
theorem Zj {x1}(h:PA X es t):PE X (.Tuple es x1 pos) (cX t):=by intro pins s σ H Q I hq;refine wpAny_Tuple_spliced (aH (h pos pins s σ H _ I hq) fun us s1 ⟨xs,H1,I1,r,z,q⟩=>⟨by rw[<-r.length];exact z,?_⟩);have hf:H1 s1.heap.objs.size=none:=I1.au.fresh (Zal _);refine⟨.ref s1.heap.objs.size,upd H1 s1.heap.objs.size (.tup xs),I1.laid (t':=s1.toks) (fun b u e=>Zan _ e) (Zal _) ?_,rfl,q _ hf⟩;exact⟨z,us,r,⟨_,ZaD _ rfl,rfl,_,rfl⟩,_,ZaD _ rfl,rfl⟩
theorem ZC (h:PA X es t):PE X (.List es pos) (oh t):=by intro pins s σ H Q I hq;refine wpAny_List_spliced (aH (h pos pins s σ H _ I hq) fun us s1 ⟨xs,H1,I1,r,z,q⟩=>⟨by rw[<-r.length];exact z,?_⟩);have hf:H1 s1.heap.objs.size=none:=I1.au.fresh (Zal _);refine⟨.ref s1.heap.objs.size,upd H1 s1.heap.objs.size (.lst xs),I1.laid (t':=s1.toks) (fun b u e=>Zan _ e) (Zal _) ?_,rfl,q _ hf⟩;exact⟨z,us,0,r,ZaD _ rfl⟩
end
abbrev Sp:=List V->Hp->VK->XK->Prop
abbrev j8:=List Env->Hp->Shared->XK->Value->Shared->Prop
structure yf (P:Program)(w:World)(K:Zke)(mg:Str->Option Value)(base:Heap)(A:Around)(outer:List Env)(s:Shared)(H:Hp):Prop where
 frames:A.frames=some outer
 mod:Mod K mg base
 bs:∀b o,base.get? b=some o->s.heap.get? b=some o/\H b=none
 mC:base.objs.size<=s.heap.objs.size
 fN:s.heap.FunFrames base outer
 jX:∀b∈bz outer,H b=none
 au:bK P w H s.heap
 bare:AllBare s.gens
def CE (outer:List Env)(P:Program)(w:World)(H:Hp)(s:Shared)(Q:VK)(u:Value)(s':Shared):Prop:=
 ∃v H',s'.os=s.os/\AllBare s'.gens/\Un (bz outer) [] H H' s.heap s'.heap/\bK P w H' s'.heap/\RelV v u/\Q v H'
def CR (CX:j8)(outer:List Env)(P:Program)(w:World)(H:Hp)(s:Shared)(Q:VK)(E:XK)(r:Result)(s':Shared):Prop:=
 match r with
 | .ok (.ret u)=>CE outer P w H s Q u s'
 | .ok _=>False
 | .error e=>CX outer H s E e s'
structure aJ (P:Program)(w:World)(K:Zke)(mg:Str->Option Value)(base:Heap)(CX:j8)(k:Nat)(f:Addr)(fd:FuncData)(ps:List Str)(sp:Sp):Prop where
 len:∀vs H Q E,sp vs H Q E->vs.length=ps.length
 run:∀(A:Around) (outer:List Env) (s:Shared) (H:Hp) (args:Args) (us:List Value) (vs:List V) (Q:VK) (E:XK),bO k A->yf P w K mg base A outer s H->BindsTo s fd args (ps.zip us)->Vals vs us->sp vs H Q E->
  codeAny (model P w) A (.call (.ref f) args) (CR CX outer P w H s Q E) s
section
variable {s':Shared}
theorem ag.Lv (I:ag X pins σ H s):yf X.prog X.w X.K X.mg X.base X.A X.stack s H:=
 ⟨I.ok.frames,I.ok.mod,I.bs,Zbb I.ok.mC I.sz,I.stack,I.uX,I.au,I.bare⟩
theorem ag.after (I:ag X pins σ H s)(h:CE X.stack X.prog X.w H s Q u s'):EP X pins σ Q u s':=by obtain⟨v,H',os,bare,un,au,r,q⟩:=h;obtain⟨hh,g,d,t,R4⟩:=s';obtain rfl:R4=s.os:=os;exact⟨v,H',I.call (h':=hh) (g':=g) (d':=d) (t':=t) (ch:=[]) un au bare (fun b z=>absurd z .s),r,q⟩
end
def mS (sp:Sp)(jA:List V)(E:XK)(t:TA):TE:=fun σ H Q=>t σ H fun vs H1=>sp (vs++jA) H1 Q E
def Binds (K:Zke)(fd:FuncData)(ps:List Str)(ds:List Value):Prop:=
 ∀(s:Shared) (us:List Value),K.In s.heap->(us++ds).length=ps.length->BindsTo s fd ⟨us,[]⟩ (ps.zip (us++ds))
theorem Binds.all {K:Zke}{fd:FuncData}{ps:List Str}(h:∀us:List Value,us.length=ps.length->bindArgs fd ⟨us,[]⟩=pure (ps.zip us)):Binds K fd ps []:=fun s us _ hl=>by rw[Zbi]at hl |-;exact .of_eq (h us hl)
def Passes (CX:j8)(X:Cx)(E:XK):Prop:=∀(pins:List (Addr×Obj)) (σ:St) (H:Hp) (s:Shared) (e:Value) (s':Shared),ag X pins σ H s->CX X.stack H s E e s'->X.xe e s'
section
variable {CX:j8}{k:Nat}{f C:Addr}{fd:FuncData}{ps:List Str}{sp:Sp}{jA:List V}{ds:List Value}{E:XK}{x m:Str}{p apos:Pos}{e o:Expr}{ta:TE}{t:TA}
theorem Fn {vs:List V}(F:aJ X.prog X.w X.K X.mg X.base CX k f fd ps sp)(hr:bO k X.A)(hb:Binds X.K fd ps ds)(hd:Vals jA ds)(hx:Passes CX X E)
  (I:ag X pins σ H s) (r:Vals vs us) (h:sp (vs++jA) H Q E):wpAny (model X.prog X.w) X.A (call (.ref f) us) (EP X pins σ Q) X.xe s:=by
 have r2:Vals (vs++jA) (us++ds):=r.append hd;have hl:(us++ds).length=ps.length:=by rw[<-r2.length];exact F.len _ _ _ _ h
 refine wpAny_call (ZfG (F.run X.A X.stack s H ⟨us,[]⟩ (us++ds) (vs++jA) Q E hr I.Lv (hb s us I.cK hl) r2 h) fun r s' hq=>?_);cases r with
 |error e=>exact hx pins σ H s e s' I hq
 |ok fl=>
  cases fl with
  |ret u=>exact I.after hq
  |next=>exact False.elim hq
  |brk=>exact False.elim hq
  |cont=>exact False.elim hq
theorem FK (F:aJ X.prog X.w X.K X.mg X.base CX k f fd ps sp)(hr:bO k X.A)(hg:Gl X x)(hm:X.mg x=some (.ref f))(hk:PySem.W.keepIn X.K (.ref f)=true)(hb:Binds X.K fd ps ds)(hd:Vals jA ds)(hx:Passes CX X E)
  (ha:PA X (e::es) t) (gn:(x==("__debug__" :Str))=false:=by decide) (he:starEach (e::es) X.env=(false,eval e X.env)::starEach es X.env:=by rfl) (cG:(backTo pos (starEach es X.env)).any (·.1)=false:=by rfl):
  PE X (.Call (.Name x p) (e::es) [] pos) (mS sp jA E t):=by
 intro pins s σ H Q I h;refine ZcU (JZ I hg hm ?_ gn);refine ZiE (h₀:=X.base) I.ok.mod.qI hk (aH (ha pos pins s σ H _ I h) fun us s1 ⟨vs,H1,I1,r,q⟩=>⟨I1.cK,?_⟩) he cG;exact Fn F hr hb hd hx I1 r q
theorem ZeG (F:aJ X.prog X.w X.K X.mg X.base CX k f fd ps sp)(hr:bO k X.A)(hg:Gl X x)(hm:X.mg x=some (.ref f))(hk:PySem.W.keepIn X.K (.ref f)=true)(hb:Binds X.K fd ps ds)(hd:Vals jA ds)(hx:Passes CX X E)
  (gn:(x==("__debug__" :Str))=false:=by decide):PE X (.Call (.Name x p) [] [] pos) (mS sp jA E bD):=by
 intro pins s σ H Q I h;refine ZcU (JZ I hg hm ?_ gn);exact PySem.W.callWith_K0 I.cK hk (Fn (us:=[]) F hr hb hd hx I .nil h)
end
def PK (X:Cx)(vX:List Keyword)(t:TA):Prop:=
 ∀(pos:Pos) (pins:List (Addr×Obj)) (s:Shared) (σ:St) (H:Hp) (Q:List V->Hp->Prop),ag X pins σ H s->t σ H Q->wpAny (model X.prog X.w) X.A (evalAll ((backToKw pos (keywordEach vX X.env)).map (·.2))) (AP X pins σ Q) X.xe s
section
variable {CX:j8}{k:Nat}{f C:Addr}{fd:FuncData}{ps ks:List Str}{sp:Sp}{E:XK}{x m:Str}{p apos vY:Pos}{e o:Expr}{vX:List Keyword}{te ta:TE}{t tk:TA}{nm:Option Str}
theorem ZgM:PK X [] bD:=fun _ _ _ _ H Q I h=>wpAny_evalAll_nil ⟨[],H,I,.nil,h⟩
theorem ZfU (ha:PE X e te)(hr:PK X vX t):PK X (⟨nm,e,vY⟩::vX) (aI te t):=by intro pos pins s σ H Q I h;show wpAny _ _ (evalAll ((do let v <-eval e X.env;standAt pos;pure v)::(backToKw pos (keywordEach vX X.env)).map (·.2))) _ _ s;refine wpAny_evalAll_cons (gc (aH (ha pins s σ H _ I h) fun u s1 ⟨x,H1,I1,r1,q1⟩=>gc (Zee (Zav ?_))));exact aH (hr pos pins s1 σ H1 _ I1 q1) fun us s2 ⟨xs,H2,I2,r2,q2⟩=>⟨x::xs,H2,I2,.cons r1 r2,q2⟩
variable {g:List Value->List Value->List Value}{gV:List V->List V->List V}
end
structure bo (N P:List Str)(sc:Scope):Prop where
 kind:sc.kind=.function
 co:sc.isCoroutine=false
 gen:sc.isGenerator=false
 nd:N.Nodup
 pre:N.take P.length=P
 par:∀x∈P,sc.names.lookup x=some .local∨sc.names.lookup x=some .cell
 SJ:∀y∈sc.names,y.2≠.free
def Q4 (N P:List Str)(sc:Scope):Bool:=decide (sc.kind=.function/\sc.isCoroutine=false/\sc.isGenerator=false/\N.Nodup/\N.take P.length=P/\(∀x∈P,sc.names.lookup x=some .local∨sc.names.lookup x=some .cell)/\∀y∈sc.names,y.2≠.free)
theorem ZU {N P:List Str}{sc:Scope}(h:Q4 N P sc=true):bo N P sc:=let ⟨a,b,c,d,e,f,g⟩:=ZbP h;⟨a,b,c,d,e,f,g⟩
theorem OO {kindOf:Str->Option NameKind}{x:Str} :∀{binds:List (Str×Value)}{m:Str->Option Value},(∀v,(x,v)∉binds)->bindL kindOf binds m x=m x
 | [],_,_=>rfl
 |(n,v)::r,m,h=>by
  unfold bindL;rw[OO fun w hw=>h w (Zaq _ hw)];split
  ·have:x≠n:=by rintro rfl;exact h v Zaz
   simp[this]
  ·rfl
theorem OM {kindOf:Str->Option NameKind}{x:Str} :∀{binds:List (Str×Value)}{m:Str->Option Value},(∀v,(x,v)∉binds)->bindC kindOf binds m x=m x
 | [],_,_=>rfl
 |(n,v)::r,m,h=>by
  unfold bindC;rw[OM fun w hw=>h w (Zaq _ hw)];split
  ·rfl
  ·have:x≠n:=by rintro rfl;exact h v Zaz
   simp[this]
theorem ON {kindOf:Str->Option NameKind} :∀{P:List Str}{vs:List Value}{i:Nat}{m:Str->Option Value},P.Nodup->P[i]?=some x->vs[i]?=some v->kindOf x=some .local->
  bindL kindOf (P.zip vs) m x=some v
 | [],_,_,_,_,h,_,_=>by simp at h
 |_::_,[],_,_,_,_,h,_=>by simp at h
 |p::P,w::vs,0,m,nd,h1,h2,hk=>by simp at h1 h2;subst h1;subst h2;show bindL kindOf ((p,w)::P.zip vs) m p=_;unfold bindL;rw[OO fun v hv=>(ZcV.mp nd).1 (Zjo hv).1,ZaQ hk];simp
 |p::P,w::vs,i+1,m,nd,h1,h2,hk=>by show bindL kindOf ((p,w)::P.zip vs) m x=_;unfold bindL;exact ON (i:=i) (ZcV.mp nd).2 (by simpa using h1) (by simpa using h2) hk
theorem OL {kindOf:Str->Option NameKind} :∀{P:List Str}{vs:List Value}{i:Nat}{m:Str->Option Value},P.Nodup->P[i]?=some x->vs[i]?=some v->kindOf x≠some .local->
  bindC kindOf (P.zip vs) m x=some v
 | [],_,_,_,_,h,_,_=>by simp at h
 |_::_,[],_,_,_,_,h,_=>by simp at h
 |p::P,w::vs,0,m,nd,h1,h2,hk=>by simp at h1 h2;subst h1;subst h2;show bindC kindOf ((p,w)::P.zip vs) m p=_;unfold bindC;rw[OM fun v hv=>(ZcV.mp nd).1 (Zjo hv).1,ZaN hk];simp
 |p::P,w::vs,i+1,m,nd,h1,h2,hk=>by show bindC kindOf ((p,w)::P.zip vs) m x=_;unfold bindC;exact OL (i:=i) (ZcV.mp nd).2 (by simpa using h1) (by simpa using h2) hk
def start (N:List Str)(vs:List V):St:=vs.map some++List.replicate (N.length-vs.length) none
def eU (CX:j8)(P:Program)(w:World)(K:Zke)(mg:Str->Option Value)(base:Heap)(N:List Str)(qual:Str)(scope:Scope)(f:Addr)(cd:Value)(A:Around)(outer:List Env)(s:Shared)(H:Hp)(E:XK):Cx where
 prog:=P
 w:=w
 K:=K
 mg:=mg
 base:=base
 A:=A.deeper (envOfC qual scope s.heap.objs.size f cd)
 N:=N
 cR:=s
 nZ:=H
 env:=envOfC qual scope s.heap.objs.size f cd
 outer:=outer
 stack:=envOfC qual scope s.heap.objs.size f cd::outer
 ex:=[]
 calm:=true
 fn:=fun _=>true
 pn:=[]
 xe:=fun e s'=>wpAny (model P w) (A.deeper (envOfC qual scope s.heap.objs.size f cd)) (leaving (envOfC qual scope s.heap.objs.size f cd) e) (fun _ jh=>CX outer H s E e jh) (fun e' jh=>CX outer H s E e' jh) s'
theorem Ni {sc:Scope}(h:sc.names.lookup x=some .cell):∃c,(cellsFrom n sc.names []).lookup x=some c:=by have q:=PySem.W.cellsFrom_some sc.names n [] (.inl h);exact Zc5.mp q
theorem ZdW {CX:j8}{P:Program}{K:Zke}{base:Heap}{N ps:List Str}{qual:Str}{scope:Scope}{f:Addr}{cd:Value}{outer:List Env}{s1:Shared}{E:XK}{vs:List V}
  (S:bo N ps scope) (hd:A.handled=none) (e0:yf P w K mg base A outer s H) (hl:vs.length=ps.length) (r:Vals vs us)
  (x:InCallC s s.heap.objs.size (bindL (envOfC qual scope s.heap.objs.size f cd).kindOf (ps.zip us) fun _=>none) (cellsFrom (s.heap.objs.size+1) scope.names []) (bindC (envOfC qual scope s.heap.objs.size f cd).kindOf (ps.zip us) fun _=>none) s1):
  ag (eU CX P w K mg base N qual scope f cd A outer s H E) [] (start N vs) H s1:=by
 have cG:ps.length<=N.length:=by have:=ZbT List.length S.pre;rw[ZaB]at this;lia
 obtain⟨h1,tk,rfl,hk⟩:=x.done;have kr:∀b:Addr,b∉(eU CX P w K mg base N qual scope f cd A outer s H E).ex:=fun b z=>absurd (show b∈([]:List Addr) from z) .s;refine⟨⟨e0.mod,S.kind,rfl,rfl,Zal _,fun y z c h1 h2=>?_,fun y hy=>?_,fun y c _ h=>?_,fun _=>hd,Around.frames_deeper e0.frames,.inr ⟨rfl,rfl⟩,fun b z=>absurd z (kr b),e0.bs,e0.mC,fun b _ _=>kr b,fun b z=>absurd z (kr b),e0.fN,e0.jX⟩,
  rfl,e0.bare,Un.kept hk,⟨_,x.toInCall.ns,fun i y v h1 h2 h3=>?_⟩,fun y c h=>⟨_,x.cell y c h⟩,e0.au.fresh (Zal _),fun y c h=>?_,fun p hp=>absurd (show p∈([]:List (Addr×Obj)) from hp) .s,e0.au.kept hk,?_⟩
 ·exact name_of_addr x.apart (ZcF h1) (ZcF h2)
 ·have hy:scope.names.lookup y=some .cell∨scope.names.lookup y=some .free:=hy;rcases hy with hy|hy
  ·exact Ni hy
  ·exact absurd rfl (S.SJ _ (ZcF hy))
 ·exact Zbl (x.above y c (ZcF h))
 ·have hi:i<vs.length:=by
   unfold start at h2;by_cases hi:i<vs.length
   ·exact hi
   ·rw[Zbt (by simpa using hi)]at h2;rw[Zef]at h2;split at h2<;>cases h2
  have ha:vs[i]?=some v:=by
   unfold start at h2;rw[Zbw (by simpa using hi),Zby]at h2;cases e:vs[i]? with
   |none=>rw[e]at h2;cases h2
   |some a=>rw[e]at h2;cases h2;rfl
  obtain⟨u,hu,rv⟩:=r.get ha;have hp:ps[i]?=some y:=by rw[<-S.pre,Zb9 .o];exact h1
  have Ih:ps.Nodup:=by rw[<-S.pre];exact S.nd.sublist (Zd8 _ _)
  refine⟨u,rv,?_⟩;rcases S.par y (Zao hp) with k|k
  ·exact .inl ⟨k,ON Ih hp hu k⟩
  ·obtain⟨c,e⟩:=Ni (n:=s.heap.objs.size+1) k;refine .inr ⟨.inl k,c,e,?_⟩;have q:=x.cell y c e;rw[OL Ih hp hu (by show scope.names.lookup y≠_;rw[k];decide)]at q;exact q
 ·exact e0.au.fresh (Zbl (x.above y c (ZcF h)))
 ·unfold start;show _=N.length;rw[Zak,Zat,Ze7];omega
theorem EZ {CX:j8}{P:Program}{K:Zke}{base:Heap}{k:Nat}{f:Addr}{name qual:Str}{params:Arguments}{body:List Stmt}{scope:Scope}{dV kV doc pm aw ct oc:Value}{an od:Option Addr}
    {hZ:Array (Option Value)}{N ps:List Str}{sp:Sp} (lk:K.lookup f=some ⟨oc,od,.func (PySem.W.fnOf name qual params body scope dV kV doc pm an aw ct),hZ⟩) (cq:PySem.W.codeIn K aw qual=true) (S:bo N ps scope)
    (len:∀vs H Q E,sp vs H Q E->vs.length=ps.length)
    (Ed:∀(A:Around) (outer:List Env) (s:Shared) (H:Hp) (vs:List V) (Q:VK) (E:XK),bO k (A.deeper (envOfC qual scope s.heap.objs.size f aw))->sp vs H Q E->
      ∃t,cO (eU CX P w K mg base N qual scope f aw A outer s H E) body t/\t {nx:=fun _ H'=>Q .af H',rt:=Q} (start N vs) H):
    aJ P w K mg base CX (k+1) f (PySem.W.fnOf name qual params body scope dV kV doc pm an aw ct) ps sp:=by
  refine⟨len,fun A outer s H args us vs Q E hr e0 hb r fA=>?_⟩;have hl:=len _ _ _ _ fA;have KX:K.In s.heap:=e0.mod.qI.keeps fun b o e=>(e0.bs b o e).1;have lim:s.heap.NoLimit:=e0.mod.nolimit.keeps fun b o e=>(e0.bs b o e).1;have Xt:∀y∈ps.zip us,scope.names.lookup y.1=some .local∨(scope.names.lookup y.1=some .cell/\((cellsFrom (s.heap.objs.size+1) scope.names []).lookup y.1).isSome=true):=fun⟨n,v⟩ hy=>by
    rcases S.par n (Zjo hy).1 with q|q
    · exact .inl q
    · exact .inr ⟨q,PySem.W.cellsFrom_some _ _ _ (.inl q)⟩
  refine codeAny_call_function hr.depth (KX _ _ lk) rfl S.co S.gen rfl (PySem.W.codeRec_of KX cq) (hb _ _ _ _ ?_);refine wpAny_newFunctionEnv_cells S.kind Xt fun env he s1 x=>?_;subst he;refine⟨lim.keeps x.toInCall.keep,codeAny_func ?_⟩;obtain⟨t,ht,hq⟩:=Ed A outer s H vs Q E (hr.deeper _) fA;have I:ag (eU CX P w K mg base N qual scope f aw A outer s H E) [] (start N vs) H s1:=ZdW S hr.hd e0 hl r x;refine ZbR (ht [] s1 (start N vs) H _ I hq) (fun fl s' hs=>?_) fun e s' hs=>hs;have fin:∀{ao:St}{H':Hp}{v:V}{u:Value},ag (eU CX P w K mg base N qual scope f aw A outer s H E) [] ao H' s'->RelV v u->Q v H'->CE outer P w H s Q u s':=
    fun {ao H' v u} J rv q=>⟨v,H',J.os,J.bare,J.base,J.au,rv,q⟩
  cases fl with
  |ret u=>obtain⟨v,ao,H',J,rv,q⟩:=hs;exact fin J rv q
  |next=>obtain⟨ao,H',J,q⟩:=hs;exact fin (v:=V.af) (u:=Value.none) J rfl q
  |brk=>obtain⟨_,_,_,q⟩:=hs;exact False.elim q
  |cont=>obtain⟨_,_,_,q⟩:=hs;exact False.elim q
section
variable {x:Str}{p:Pos}{e:Expr}{t:TA}{id T:String}{r:List V->Hp->VK->Prop}
def A9 (r:List V->Hp->VK->Prop)(t:TA):TE:=fun σ H Q=>t σ H fun vs H1=>r vs H1 Q
theorem Zm (hc:fh X (.builtin id) r)(hg:Gl X x)(hm:X.mg x=none)(hv:bootBuiltins x=some (.builtin id))(ha:PA X (e::es) t)(hn:x≠ "__name__" :=by decide)(gn:(x==("__debug__" :Str))=false:=by decide)
  (he:starEach (e::es) X.env=(false,eval e X.env)::starEach es X.env:=by rfl) (cG:(backTo pos (starEach es X.env)).any (·.1)=false:=by rfl):PE X (.Call (.Name x p) (e::es) [] pos) (A9 r t):=by
 intro pins s σ H Q I h;refine ZcU (Jx I hg hm hv ?_ hn gn);exact PyProof.Rows.callWith_builtin1 (aH (ha pos pins s σ H _ I h) fun us s1 ⟨vs,H1,I1,r1,q1⟩=>hc pins s1 σ H1 vs us Q I1 r1 q1) he cG
theorem Yd (hc:fh X (.type T) r)(hg:Gl X x)(hm:X.mg x=none)(hv:bootBuiltins x=some (.type T))(ha:PA X (e::es) t)(hn:x≠ "__name__" :=by decide)(gn:(x==("__debug__" :Str))=false:=by decide)
  (he:starEach (e::es) X.env=(false,eval e X.env)::starEach es X.env:=by rfl) (cG:(backTo pos (starEach es X.env)).any (·.1)=false:=by rfl):PE X (.Call (.Name x p) (e::es) [] pos) (A9 r t):=by
 intro pins s σ H Q I h;refine ZcU (Jx I hg hm hv ?_ hn gn);exact Zca (aH (ha pos pins s σ H _ I h) fun us s1 ⟨vs,H1,I1,r1,q1⟩=>hc pins s1 σ H1 vs us Q I1 r1 q1) he cG
end
end L2
open PySem in abbrev al:List PySem.Str:=["board","lay","thing"]
open PySem in abbrev am:List PySem.Str:=["_law_state_here","_law_board","_law_lay_here"]
open PySem in abbrev bi:List PySem.Str:=["_law_board","_law_lay_here","_law_thing"]
open PySem in abbrev bv:List PySem.Str:=["board","lay"]
open PySem in abbrev cr:List PySem.Str:=["_law_state_here","_law_wide","_law_paper_here"]
open PySem in abbrev db:List PySem.Str:=["_law_state_here","_law_many"]
open PySem in abbrev dL:List PySem.Str:=["board","lay","paper"]
open PySem in abbrev ii:List PySem.Str:=["_law_lay_here"]
open PySem in abbrev im:List PySem.Str:=["_law_board","_law_lay_here","_law_line"]
open PySem in abbrev io:List PySem.Str:=["lay","thing"]
open PySem in abbrev lc:List PySem.Str:=["_law_state_here","_law_board"]
open PySem in abbrev lm:List PySem.Str:=["_law_thing","_law_least","_law_upto"]
open PySem in abbrev lw:List PySem.Str:=["_law_script","_law_k"]
open PySem in abbrev mo:List PySem.Str:=["thing","word","many"]
open PySem in abbrev nw:List PySem.Str:=["thing","least","most"]
open PySem in abbrev on:List PySem.Str:=["board","lay","line"]
open PySem in abbrev pp:List PySem.Str:=["_law_found","_law_due"]
open PySem in abbrev rc:List PySem.Str:=["_law_board","_law_lay_here"]
open PySem in abbrev re:List PySem.Str:=["lay","line","row"]
open PySem in abbrev ss:List PySem.Str:=["thing","many"]
open PySem in abbrev sK:List PySem.Str:=["_law_state_here"]
open PySem in abbrev tz:List PySem.Str:=["board","thing"]
variable {X:L2.Cx}{xs vs ys:List L2.V}{s:PySem.Shared}{H H1 H':L2.Hp}{σ:L2.St}{A:PySem.Around}{w:PySem.World}{E:PySem.Value->PySem.Shared->Prop}{h h' base:PySem.Heap}{us:List PySem.Value}{pos:PySem.Pos}{scope:PySem.Scope}{prog:PySem.Program}{pins:List (PySem.Addr×PySem.Obj)}{D:L2.Ends}{es elts:List PySem.Expr}{kk:Nat}{N:List PySem.Str}{qual:PySem.Str}{outer:List PySem.Env}{te:L2.TE}{mg:PySem.Str->Option PySem.Value}
namespace HT
open PySem PyProof.Rows
def lexLt:List Int->List Int->Bool
 | [],[]=>false
 | [],_::_=>true
 |_::_,[]=>false
 |x::xs,y::ys=>if x=y then lexLt xs ys else decide (x<y)
theorem Ir (x y:Int)(xs ys:List Int):lexLt (x::xs) (y::ys)=if x=y then lexLt xs ys else decide (x<y):=rfl
theorem Zae:lexLt [] []=false:=rfl
theorem UK (y:Int)(ys:List Int):lexLt [] (y::ys)=true:=rfl
theorem UL (x:Int)(xs:List Int):lexLt (x::xs) []=false:=rfl
theorem Zfs (A:Around)(s:Shared)(a:Int)(t:Tok)(c:Int)(u:Tok):∃e,SeqAt.EqAt A s (.int a t) (.int c u) e/\(e=true↔a=c):=
 ⟨(a==c),ZcW a t c u,.s⟩
theorem Zes (A:Around)(s:Shared)(a:Int)(t:Tok)(c:Int)(u:Tok)(prog:Program)(w:World)(E:Value->Shared->Prop)(Q:Value->Shared->Prop)(h:Q (.bool (decide (a<c))) s):
  wpAny (model prog w) A (richCompare .Lt (.int a t) (.int c u)) Q E s:=
 (PyProof.Rows.lt_int h:wpAny (model prog w) A (compareOp .Lt (.int a t) (.int c u)) Q E s)
section
open PySem.SeqAt
open PySem.AutoSeq1 (wpAny_loadPart')
open PySem.MeetsSeq PySem.MeetsSeq2 PySem.MeetsSeq3
theorem U0 (l b:Addr)(items items2:Array Value)(n n2:Nat)(dd pF:Option Addr)(sl kj:Array (Option Value))(ns ms:List Int)(hi:IntsAre items.toList ns)(hj:IntsAre items2.toList ms):
  Meets (Builtin.«tuple.__lt__» ⟨[.ref l,.ref b],[]⟩)
   (fun _ R s=>s.heap.get? l=some {cls:=.type "tuple",dict:=dd,data:=.seq items n,slots:=sl}/\s.heap.get? b=some {cls:=.type "tuple",dict:=pF,data:=.seq items2 n2,slots:=kj}/\
    R (.ok (.ret (.bool (lexLt ns ms)))) s):=
 .of_wp fun prog w A R s h=>by
  obtain⟨hp,g,d,tk,os⟩:=s;obtain⟨hl,hb,h⟩:=h;have f2:=AutoSeq1.sub_tuple_tuple;have z1:items.size=ns.length:=by rw[<-hi.length];simp
  have z2:items2.size=ms.length:=by rw[<-hj.length];simp
  wp_walk using wpAny_loadPart' hl,PySem.wpAny_loadPart' hb,wpAny_forIn_list _ (fun rest b s'=>b.1=none/\s'=⟨hp,g,d,tk,os⟩/\∃(vs ws:List Value) (tG tH:List Int),rest=vs.zip ws/\
   IntsAre vs tG/\IntsAre ws tH/\tG.length+items2.size=tH.length+items.size/\R (.ok (.ret (.bool (lexLt tG tH)))) ⟨hp,g,d,tk,os⟩) _
  case turn=>
   rintro⟨y,x⟩ rest b s' ⟨cj,rfl,vs,ws,tG,tH,hz,tQ,zB,hlen,hR⟩;cases tQ with
   |nil=>rw[List.zip_nil_left]at hz;cases hz
   |cons a t Vt=>
    cases zB with
    |nil=>rw[List.zip_nil_right]at hz;cases hz
    |cons c u Vp=>
     rw[ZeI]at hz;injection hz with Vl VQ;injection Vl with hy hx;subst hy hx;rw[Ir]at hR;simp only[ZaU]at hlen;obtain⟨e,he,Kx⟩:=Zfs A.in1 ⟨hp,g,d,tk,os⟩ a t c u;refine gc (he prog w _ _ ?_);cases e with
     |true=>
      rw[ZaQ (Kx.mp rfl)]at hR
      wp_walk
      exact⟨rfl,rfl,_,_,_,_,VQ,Vt,Vp,.l,hR⟩
     |false=>
      rw[ZaN (fun q=>absurd (Kx.mpr q) Zam)]at hR;have wD:=Zes A.in1 ⟨hp,g,d,tk,os⟩ a t c u prog w
      wp_walk using wD
      exact⟨_,rfl,by simpa using hR⟩
  case fin=>
   rintro⟨b1,b2⟩ s' ⟨cj,rfl,vs,ws,tG,tH,hz,tQ,zB,hlen,hR⟩;simp only at cj;subst cj;have hv:lexLt tG tH=decide (items.size<items2.size):=by
    cases tQ with
    |nil=>
     cases zB with
     |nil=>simp only[Zdg]at hlen;rw[Zae];exact(Zax .l).symm
     |cons c u hw=>simp only[Zdg,ZaU]at hlen;rw[UK];exact(Zau .l).symm
    |cons a t hv=>
     cases zB with
     |nil=>simp only[Zdg,ZaU]at hlen;rw[UL];exact(Zax .l).symm
     |cons c u hw=>rw[ZeI]at hz;cases hz
   rw[hv]at hR
   wp_walk
   exact⟨_,rfl,by simpa[Builtin.Tuple.tupleCompareSizes] using hR⟩
  case h=>exact⟨rfl,rfl,items.toList,items2.toList,ns,ms,rfl,hi,hj,.l,h⟩
end
theorem zt {items items2:Array Value}{Q:Value->Shared->Prop}(hl:IsTup s.heap l items)(hb:IsTup s.heap b items2)(hi:IntsAre items.toList ns)(hj:IntsAre items2.toList ms)
  (hu:A.units<cLine) (h:Q (.bool (lexLt ns ms)) s):wpAny (model prog w) A (compareOp .Lt (.ref l) (.ref b)) Q E s:=by
 obtain⟨⟨cls,dd,data,sl⟩,ho,hc,n,hd⟩:=id hl;obtain⟨⟨LK,pF,data2,kj⟩,lV,eQ,n2,hd2⟩:=id hb;simp only at hc hd eQ hd2;subst hc hd eQ hd2;exact richCompare_meets_room (op:=.Lt) ⟨_,ho,rfl⟩ ⟨_,lV,rfl⟩ PySem.F.slot_tuple_lt PySem.F.entry_tuple_lt (PySem.F.args_tuple_lt_2 _ _) (U0 l b items items2 n n2 dd pF sl kj ns ms hi hj)
  ⟨ho,lV,show Value.bool (lexLt ns ms)≠Value.notImplemented/\Q (.bool (lexLt ns ms)) s from ⟨(fun x=>nomatch x),h⟩⟩ hu
theorem aaE {vs ws:List Value}{Q:Value->Shared->Prop}(ht:IsTup s.heap t vs.toArray)(hb:IsTup s.heap b ws.toArray)(hv:vs≠[])
  (h1:ws=[]->Q (.ref t) s) (h2:ws≠[]->Q (.ref s.heap.objs.size) {s with heap:=s.heap.push {cls:=.type "tuple",data:=.seq (vs++ws).toArray} })
  (hsz:vs.length+ws.length<=sizeLine):wpAny (model prog w) A (binaryOp .Add (.ref t) (.ref b)) Q E s:=by
 obtain⟨⟨cls,dd,data,sl⟩,ho,hc,n,hd⟩:=id ht;obtain⟨⟨LK,pF,data2,kj⟩,lV,eQ,n2,hd2⟩:=id hb;simp only at hc hd eQ hd2;subst hc hd eQ hd2;have e:vs.toArray++ws.toArray=(vs++ws).toArray:=.s;by_cases hw:ws=[]
 ·exact concat_meets ⟨_,ho,rfl⟩ ⟨_,lV,rfl⟩ Zjb ZjR ZhQ Zgw (Zgt _ _)
   (tuple_addW1 t b vs.toArray ws.toArray n n2 dd pF sl kj (by simpa using hv) (by simp[hw])) ⟨ho,lV,h1 hw⟩
 ·refine concat_meets ⟨_,ho,rfl⟩ ⟨_,lV,rfl⟩ Zjb ZjR ZhQ Zgw (Zgt _ _)
   (tuple_addW2 t b vs.toArray ws.toArray n n2 dd pF sl kj (by simpa using hv) (by simpa using hw) (by rw[Zar,Zar];exact hsz)) ⟨ho,lV,?_⟩
  rw[e];exact h2 hw
def aX (n d:Nat):Option Int->Nat
 |none=>d
 |some v=>if v<0 then (v+(n:Int)).toNat else min v.toNat n
theorem yX (n d:Nat):aX n d none=d:=rfl
theorem oz (n d k:Nat):aX n d (some (k:Int))=min k n:=by show(if (k:Int)<0 then ((k:Int)+(n:Int)).toNat else min (k:Int).toNat n)=min k n;rw[ZaN .l,Zb2]
theorem ZgJ (n d:Nat)(hd:d<=n)(o:Option Int):aX n d o<=n:=by
 cases o with
 |none=>exact hd
 |some v=>
  show(if v<0 then (v+(n:Int)).toNat else min v.toNat n)<=n;by_cases hv:v<0
  ·rw[ZaQ hv];lia
  ·rw[ZaN hv];exact Zjc _ _
theorem MV (v:Int)(n d:Nat):(if v<0 then max (v+(n:Int)) 0 else min v (n:Int))=((aX n d (some v):Nat):Int):=by
 show(if v<0 then max (v+(n:Int)) 0 else min v (n:Int))=(((if v<0 then (v+(n:Int)).toNat else min v.toNat n):Nat):Int);by_cases hv:v<0
 ·simp only[ZaQ hv];lia
 ·simp only[ZaN hv];omega
theorem ZcQ (lo hi:Option Int)(n:Nat):Builtin.Slice.sliceAdjust lo hi 1 (n:Int)=(((aX n 0 lo:Nat):Int),((aX n n hi:Nat):Int)):=by
 have h1:¬((1:Int)<0):=.l;unfold Builtin.Slice.sliceAdjust;simp only[h1,Zh2];refine Prod.ext ?_ ?_
 ·cases lo with
  |none=>rfl
  |some v=>exact MV v n 0
 ·cases hi with
  |none=>rfl
  |some v=>exact MV v n n
theorem Zct (i j:Nat):Builtin.Slice.slicePlaces (i:Int) (j:Int) 1=j-i:=by unfold Builtin.Slice.slicePlaces;have h1:(1:Int)>0:=.l;simp only[h1,Zgx,Int.ediv_one];split<;>lia
theorem Uv {Q:Option Int->Shared->Prop}(p:IsPart v o)(h:Q o s):wpAny (model prog w) A (Builtin.Slice.slicePartIndex v) Q E s:=by
 cases p with
 |none=>exact slicePart_none h
 |int i t=>exact Zi1 h
theorem Hi {sl:Addr}{vl vu:Value}{lo hi:Option Int}{n:Nat}{Q:Int×Int×Nat->Shared->Prop}(hs:s.heap.IsSliceOf sl vl vu .none)(pl:IsPart vl lo)(pu:IsPart vu hi)
  (h:Q (((aX n 0 lo:Nat):Int),1,aX n n hi-aX n 0 lo) s):wpAny (model prog w) A (Builtin.Slice.sliceApplied (.ref sl) (pure (n:Int))) Q E s:=by
 obtain⟨os,jT,ud,nK⟩:=id hs;unfold Builtin.Slice.sliceApplied Builtin.Slice.sliceFields;refine gc (gc (ZbF jT nK (x:=vl) rfl (gc (ZbF jT nK (x:=vu) rfl (gc (ZbF jT nK (x:=.none) rfl (Zav ?_)))))));refine gc (slicePart_none ?_);show wpAny _ _ (if ((1:Int)==0)=true then _ else _) _ _ s;rw[ZaN .d];refine gc (Uv pl (gc (Uv pu (gc (Zav ?_)))));show wpAny _ _ (match Builtin.Slice.sliceAdjust lo hi 1 (n:Int) with|(lo,hi)=>pure (lo,(1:Int),Builtin.Slice.slicePlaces lo hi 1)) _ _ s;rw[ZcQ lo hi n];show wpAny _ _ (pure (((aX n 0 lo:Nat):Int),(1:Int),Builtin.Slice.slicePlaces ((aX n 0 lo:Nat):Int) ((aX n n hi:Nat):Int) 1)) _ _ s;rw[Zct];exact Zav h
theorem ZeC (xs:Array Value)(i k:Nat):((List.range k).filterMap fun(m:Nat)=>xs[((i:Int)+(m:Int)*1).toNat]?).toArray=((xs.toList.drop i).take k).toArray:=by
 have e:(fun(m:Nat)=>xs[((i:Int)+(m:Int)*1).toNat]?)=fun m=>xs[i+m]? :=by funext m;have:((i:Int)+(m:Int)*1).toNat=i+m:=.l;rw[this]
 rw[e];have:=pick_run xs i k;rw[List.filterMap_map]at this;have e2:((fun x=>xs[x]?)∘fun x=>i+x)=fun m=>xs[i+m]? :=rfl;rw[e2]at this;rw[this]
theorem aan {t sl:Addr}{items:Array Value}{vl vu:Value}{lo hi:Option Int}{Q:Value->Shared->Prop}(ht:IsTup s.heap t items)(hs:s.heap.IsSliceOf sl vl vu .none)(pl:IsPart vl lo)(pu:IsPart vu hi)
  (hw:¬(aX items.size 0 lo=0/\aX items.size items.size hi=items.size))
  (h:Q (.ref s.heap.objs.size) {s with heap:=s.heap.push {cls:=.type "tuple",data:=.seq ((items.toList.drop (aX items.size 0 lo)).take (aX items.size items.size hi-aX items.size 0 lo)).toArray} })
  (hsz:items.size<=sizeLine):wpAny (model prog w) A (getItem (.ref t) (.ref sl)) Q E s:=by
 have nD:sizeOk (.seq ((items.toList.drop (aX items.size 0 lo)).take (aX items.size items.size hi-aX items.size 0 lo)).toArray):=by show((items.toList.drop (aX items.size 0 lo)).take (aX items.size items.size hi-aX items.size 0 lo)).toArray.size<=sizeLine;rw[Zar,ZaB,Za5,ZaT];omega
 have hj:aX items.size items.size hi<=items.size:=ZgJ _ _ (Zal _) hi;obtain⟨os,jT,ud,nK⟩:=id hs;have dz:s.TypeIs (.ref sl) "slice" :=⟨os,jT,ud⟩;unfold getItem
 try with_reducible refine ZcT ?_
 first|refine gc (Zav ?_)|skip
 refine gc (ZiU ht.typeIs .d ?_);refine gc (ZbC (name:=Str.ofString "__getitem__") ht.typeIs Za6
  (ZcD Za6 ht.typeIs Zir ?_ (ZiF _ _)))
 show wpAny _ _ (Builtin.Tuple.tupleItemsOf (.ref t) >>=_) _ _ s;refine gc (Zi2 ht ?_);refine gc (Zjq dz ?_);rw[ZaQ .d];refine gc (Hi hs pl pu ?_);have jU:¬((((aX items.size 0 lo:Nat):Int)==0&&(1:Int)==1&&(aX items.size items.size hi-aX items.size 0 lo)==items.size)=true):=by intro q;rw[Zap,Zap]at q;have q1:((aX items.size 0 lo:Nat):Int)=0:=eq_of_beq q.1.1;have q2:aX items.size items.size hi-aX items.size 0 lo=items.size:=eq_of_beq q.2;exact hw ⟨.o,.o⟩
 show wpAny _ _ (if (((aX items.size 0 lo:Nat):Int)==0&&(1:Int)==1&&(aX items.size items.size hi-aX items.size 0 lo)==items.size)=true then _ else _) _ _ s;rw[ZaN jU,ZeC]
 first
  |exact gc (m:=Builtin.Tuple.tupleExact _) (Zbm (Zav ⟨_,rfl,Zav h⟩) nD)
  |exact gc (m:=Builtin.Tuple.tupleExact _) (Zbm (gc (Zav (Zav ⟨_,rfl,Zav h⟩))) nD)
  |exact gc (gc (m:=Builtin.Tuple.tupleExact _) (Zbm (Zav (Zav ⟨_,rfl,Zav h⟩)) nD))
  |exact gc (gc (m:=Builtin.Tuple.tupleExact _) (Zbm (Zav ⟨_,rfl,Zav h⟩) nD))
end HT
namespace L2
open PySem PySem.Spec PyProof.Rows
abbrev TO:=St->Hp->(Option Int->Hp->Prop)->Prop
def PO (X:Cx)(e:Option Expr)(t:TO):Prop:=
 ∀(pins:List (Addr×Obj)) (s:Shared) (σ:St) (H:Hp) (Q:Option Int->Hp->Prop),ag X pins σ H s->t σ H Q->
  wpAny (model X.prog X.w) X.A (evalPart e X.env) (fun u s'=> ∃o H',ag X pins σ H' s'/\IsPart u o/\Q o H') X.xe s
def uT:TO:=fun _ H Q=>Q none H
def uS (t:TE):TO:=fun σ H Q=>t σ H fun x H1=> ∃i,x=.int i/\Q (some i) H1
theorem YL {ns:List Int} :∀{us:List Value},Vals (ns.map V.int) us->IntsAre us ns:=by
 induction ns with
 |nil=>intro us r;rw[Zh7]at r;cases r;exact .nil
 |cons n ns ih=>
  intro us r;rw[Zbv]at r;cases r with
  |cons r1 r2=>obtain⟨t,e⟩:=r1;subst e;exact .cons n t (ih r2)
section
variable {e:Expr}{lo hi:Option Expr}{tl th:TO}{p2:Pos}
theorem ZH:PO X none uT:=by intro pins s σ H Q I h;rw[evalPart_none];exact Zav ⟨none,H,I,.none,h⟩
theorem ZD (h:PE X e te):PO X (some e) (uS te):=by intro pins s σ H Q I hw;rw[Zi3];refine aH (h pins s σ H _ I hw) fun u s1 ⟨x,H1,I1,r1,q1⟩=>?_;obtain⟨i,rfl,q⟩:=q1;obtain⟨t,rfl⟩:=r1;exact⟨some i,H1,I1,.int i t,q⟩
def pP (X:Cx)(r:V->Option Int->Option Int->Hp->VK->Prop):Prop:=
 ∀(pins:List (Addr×Obj)) (s:Shared) (σ:St) (H:Hp) (x:V) (v vl vu:Value) (lo hi:Option Int) (sl:Addr) (Q:VK),ag X pins σ H s->RelV x v->s.heap.IsSliceOf sl vl vu .none->IsPart vl lo->IsPart vu hi->r x lo hi H Q->
  ∃T id,typeLookup (.type T) "__getitem__" =pure (some (.builtin id))/\s.TypeIs v T/\wpAny (model X.prog X.w) X.A (getItem v (.ref sl)) (EP X pins σ Q) X.xe s
def uR (r:V->Option Int->Option Int->Hp->VK->Prop)(te:TE)(tl th:TO):TE:=fun σ H Q=>te σ H fun x H1=>tl σ H1 fun l H2=>th σ H2 fun u H3=>r x l u H3 Q
theorem Zz (hr:pP X r)(he:PE X e te)(hl:PO X lo tl)(hu:PO X hi th):PE X (.Subscript e (.Slice lo hi none p2) pos) (uR r te tl th):=by intro pins s σ H Q I h;refine Subscript_ (aH (he pins s σ H _ I h) fun v s1 ⟨x,H1,I1,r1,q1⟩=>?_);refine wpAny_Slice (aH (hl pins s1 σ H1 _ I1 q1) fun vl s2 ⟨l,H2,I2,pl,q2⟩=>aH (hu pins s2 σ H2 _ I2 q2) fun vu s3 ⟨u,H3,I3,pu,q3⟩=>?_);rw[evalPart_none];refine Zav ?_;have I4:ag X pins σ H3 {s3 with heap:=s3.heap.push {cls:=.type "slice",data:=.fields #[vl,vu,.none]} } :=I3.kept (t':=s3.toks) fun b ob q=>Zan _ q;obtain⟨T,id,hT,ht,hg⟩:=hr pins {s3 with heap:=s3.heap.push {cls:=.type "slice",data:=.fields #[vl,vu,.none]} } σ H3 x v vl vu l u s3.heap.objs.size Q I4 r1 (Heap.IsSliceOf.new ..) pl pu q3;show wpAny (model X.prog X.w) X.A (subscriptTail e (.Slice lo hi none p2) v (.ref s3.heap.objs.size)) (EP X pins σ Q) X.xe {s3 with heap:=s3.heap.push {cls:=.type "slice",data:=.fields #[vl,vu,.none]} };exact tail_any (ops:=[.ref s3.heap.objs.size,v]) ht hT hg (by with_unfolding_all rfl)
def dI (xs:List V)(lo hi:Option Int):List V:=(xs.drop (HT.aX xs.length 0 lo)).take (HT.aX xs.length xs.length hi-HT.aX xs.length 0 lo)
theorem JP (xs:List V)(lo hi:Option Int):(dI xs lo hi).length<=xs.length:=by unfold dI;rw[ZaB,Za5];omega
inductive oD (K:Zke) (x:V) (lo hi:Option Int) (H:Hp) (Q:VK):Prop
 |mk (a xs:_) (c0:x=.ref a) (c1:ah K H a xs) (c2:¬(HT.aX xs.length 0 lo=0/\HT.aX xs.length xs.length hi=xs.length)) (c3:∀p,H p=none->Q (.ref p) (upd H p (.tup (dI xs lo hi))))
theorem JE:pP X (oD X.K):=by
 intro pins s σ H x v vl vu lo hi sl Q I rx hs pl pu h;obtain⟨a,xs,rfl,hx,hw,q⟩:=h;cases rx;obtain⟨aa,r,ht,hz⟩:=I.tuple hx;have hlen:aa.toArray.size=xs.length:=by rw[Zar];exact r.length.symm
 refine⟨"tuple",_,Za6.lookup,ht.typeIs,?_⟩;refine HT.aan ht hs pl pu (by rw[hlen];exact hw) ?_ (by rw[hlen];exact hz);rw[hlen];refine⟨.ref s.heap.objs.size,_,I.laid (t':=s.toks) (o:=.tup (dI xs lo hi)) (fun b ob q=>Zan _ q) (Zal _) ?_,rfl,q _ (I.au.fresh (Zal _))⟩;exact⟨Zbb (JP xs lo hi) hz,_,(r.drop (HT.aX xs.length 0 lo)).take (HT.aX xs.length xs.length hi-HT.aX xs.length 0 lo),Zjn _ _,_,ZaD _ rfl,rfl⟩
inductive RB (K:Zke) (x:V) (y:V) (H:Hp) (Q:VK):Prop
 |mk (a b ns ms:_) (c0:x=.ref a) (c1:y=.ref b) (c2:ah K H a (ns.map V.int)) (c3:ah K H b (ms.map V.int)) (c4:Q (.bl (HT.lexLt ns ms)) H)
theorem ZgR (hu:X.A.units<cLine):bf X (compareOp .Lt) (RB X.K):=by intro pins s σ H x y v u Q I rx ry h;obtain⟨a,b,ns,ms,rfl,rfl,ha,hb,q⟩:=h;cases rx;cases ry;obtain⟨aa,r1,p1,_⟩:=I.tuple ha;obtain⟨iQ,r2,p2,_⟩:=I.tuple hb;have i1:IntsAre aa.toArray.toList ns:=YL r1;have i2:IntsAre iQ.toArray.toList ms:=YL r2;exact HT.zt p1 p2 i1 i2 hu ⟨.bl (HT.lexLt ns ms),H,I,rfl,q⟩
inductive HF (K:Zke) (x:V) (y:V) (H:Hp) (Q:VK):Prop
 |mk (a b xs ys:_) (c0:x=.ref a) (c1:y=.ref b) (c2:ah K H a xs) (c3:ah K H b ys) (c4:xs≠[]) (c5:xs.length+ys.length<=sizeLine) (c6:(ys=[]->Q (.ref a) H)) (c7:(ys≠[]->∀p,H p=none->Q (.ref p) (upd H p (.tup (xs++ys)))))
theorem Vals.CU (r:Vals xs us):us=[]↔xs=[]:=by
 cases r with
 |nil=>simp
 |cons _ _=>simp
theorem Zf3:bf X (binaryOp .Add) (HF X.K):=by intro pins s σ H x y v u Q I rx ry h;obtain⟨a,b,xs,ys,rfl,rfl,ha,hb,hx,hz,q1,q2⟩:=h;cases rx;cases ry;obtain⟨aa,r1,p1,_⟩:=I.tuple ha;obtain⟨iQ,r2,p2,_⟩:=I.tuple hb;refine HT.aaE p1 p2 (fun z=>hx (r1.CU.mp z)) (fun z=>⟨.ref a,H,I,rfl,q1 (r2.CU.mp z)⟩) (fun z=>?_) (by rw[<-r1.length,<-r2.length];exact hz);refine⟨.ref s.heap.objs.size,_,I.laid (t':=s.toks) (o:=.tup (xs++ys)) (fun b ob q=>Zan _ q) (Zal _) ?_,rfl,q2 (fun w=>z (r2.CU.mpr w)) _ (I.au.fresh (Zal _))⟩;exact⟨by rw[Zak];exact hz,_,r1.append r2,Zjn _ _,_,ZaD _ rfl,rfl⟩
end
def nq (n:Nat)(i:Int):Option Nat:=if 0<=i then (if i<n then some i.toNat else none) else if -(n:Int)<=i then some (i+n).toNat else none
def dj {α:Type}(xs:List α)(i:Int):Option α:=(nq xs.length i).bind fun j=>xs[j]?
theorem Fz (h:nq n i=some j):seqIndex? i n=some j/\j<n/\ -(n:Int)<=i/\i<n:=by
 unfold nq at h;by_cases h0:0<=i
 ·rw[ZaQ h0]at h;by_cases h1:i<n
  ·rw[ZaQ h1]at h;have e:i.toNat=j:=Za3 h;exact⟨by rw[seqIndex_of h0 h1,e],.o,.o,h1⟩
  ·rw[ZaN h1]at h;cases h
 ·rw[ZaN h0]at h;by_cases h1: -(n:Int)<=i
  ·rw[ZaQ h1]at h;have e:(i+n).toNat=j:=Za3 h;exact⟨by rw[seqIndex_neg .l h1,e],.o,h1,.o⟩
  ·rw[ZaN h1]at h;cases h
theorem MR {xs:List α}(h:dj xs i=some v):∃j,seqIndex? i xs.length=some j/\xs[j]?=some v/\j<xs.length/\ -(xs.length:Int)<=i/\i<xs.length:=by
 unfold dj at h;cases e:nq xs.length i with
 |none=>rw[e]at h;cases h
 |some j=>rw[e]at h;obtain⟨h1,h2,h3,h4⟩:=Fz e;exact⟨j,h1,h,h2,h3,h4⟩
theorem ZJ {α:Type}{xs:List α}{j:Nat}{v:α}(h:xs[j]?=some v):dj xs (j:Int)=some v:=by
 have hj:j<xs.length:=(Zai.mp h).1;have e:nq xs.length (j:Int)=some j:=by unfold nq;rw[ZaQ .l,ZaQ .o];simp
 unfold dj;rw[e];exact h
def aaP (b:Expr):Prop:=∀o i,subscripted b false o i=operate [o,i] (getItem o i)
def j6 (X:Cx)(r:R2):Prop:=
 ∀(value slice:Expr) (pins:List (Addr×Obj)) (s:Shared) (σ:St) (H:Hp) (x y:V) (v u:Value) (Q:VK),ag X pins σ H s->RelV x v->RelV y u->r x y H Q->
  subscripted slice false v u=operate [v,u] (getItem v u)->wpAny (model X.prog X.w) X.A (subscriptTail value slice v u) (EP X pins σ Q) X.xe s
def O7 (X:Cx)(id:String)(r:V->List V->Hp->VK->Prop):Prop:=
 ∀(pins:List (Addr×Obj)) (s:Shared) (σ:St) (H:Hp) (x:V) (xs:List V) (v:Value) (us:List Value) (Q:VK),ag X pins σ H s->RelV x v->Vals xs us->r x xs H Q->
  wpAny (model X.prog X.w) X.A (call (.builtin id) (v::us)) (EP X pins σ Q) X.xe s
section
variable {a b:Expr}{ta tb:TE}
theorem ZV (hr:j6 X r)(ha:PE X a ta)(hb:PE X b tb)(hs:aaP b:=by exact fun _ _=>rfl):PE X (.Subscript a b pos) (dW r ta tb):=by intro pins s σ H Q I h;exact Subscript_ (EO ha hb I h fun v u s2 x y H2 I2 rx ry q=>hr a b pins s2 σ H2 x y v u Q I2 rx ry q (hs _ _))
inductive HE (K:Zke) (x:V) (y:V) (H:Hp) (Q:VK):Prop
 |mk (p xs i v:_) (c0:x=.ref p) (c1:y=.int i) (c2:ak K H p xs) (c3:dj xs i=some v) (c4:Q v H)
inductive gF (K:Zke) (x:V) (y:V) (H:Hp) (Q:VK):Prop
 |mk (p xs i v:_) (c0:x=.ref p) (c1:y=.int i) (c2:ah K H p xs) (c3:dj xs i=some v) (c4:Q v H)
theorem Z2:j6 X (HE X.K):=by
 intro value slice pins s σ H x y v u Q I rx ry h hs;obtain⟨p,xs,i,z,rfl,rfl,hq,he,q⟩:=h;cases rx;obtain⟨t,rfl⟩:=ry;obtain⟨aa,r,pl,hz⟩:=I.list hq;obtain⟨j,h1,h2,h3,h4,h5⟩:=MR he;obtain⟨w,ew,ko⟩:=r.get h2;have hl:=r.length;have hn:=zu;have fin:EP X pins σ Q w s:=⟨z,H,I,ko,q⟩;by_cases h0:0<=i
 ·have hj:i.toNat=j:=by rw[seqIndex_of h0 h5]at h1;exact Za3 h1
  exact item_listR pl.isList h0 .l (by rw[hj];simpa using ew) fin hs
 ·have hj:(i+(aa.toArray.size:Int)).toNat=j:=by rw[seqIndex_neg .l h4]at h1;rw[Zar,<-hl];exact Za3 h1
  exact subscriptTail_builtinR (x:=w) pl.isList.typeIs slot_list_getitem.lookup
   (wpAny_getItem_list_neg (Q:=fun r s'=>r=w/\EP X pins σ Q r s') pl.isList .o (by rw[Zar]<;>lia) .l (by rw[hj];simpa using ew) ⟨rfl,fin⟩) hs
theorem Yb:j6 X (gF X.K):=by
 intro value slice pins s σ H x y v u Q I rx ry h hs;obtain⟨p,xs,i,z,rfl,rfl,hq,he,q⟩:=h;cases rx;obtain⟨t,rfl⟩:=ry;obtain⟨aa,r,pl,hz⟩:=I.tuple hq;obtain⟨j,h1,h2,h3,h4,h5⟩:=MR he;obtain⟨w,ew,ko⟩:=r.get h2;have hl:=r.length;have hn:=zu;have fin:EP X pins σ Q w s:=⟨z,H,I,ko,q⟩;exact subscriptTail_builtinR (x:=w) pl.typeIs slot_tuple_getitem.lookup
  (getItem_tuple (j:=j) (Q:=fun r s'=>r=w/\EP X pins σ Q r s') pl .l .l (by rw[Zar,<-hl];exact h1) (by simpa using ew) ⟨rfl,fin⟩) hs
theorem ZcA (aa:List Value)(n j:Nat)(u:Value):Obj.mapSeq (·.setIfInBounds j u) {cls:=.type "list",data:=.seq aa.toArray n} = {cls:=.type "list",data:=.seq (aa.set j u).toArray n} :=by simp[Obj.mapSeq]
theorem ag.lst {σ:St}(I:ag X pins σ H s)(h:H p=some (.lst xs)):
  ∃(aa:List Value) (n:Nat),Vals xs aa/\s.heap.get? p=some {cls:=.type "list",data:=.seq aa.toArray n}/\xs.length<=sizeLine:=by
 obtain⟨z,aa,n,r,e⟩:=I.au p _ h;exact⟨aa,n,r,e,z⟩
theorem ag.TL {σ:St}{aa its':List Value}{n n':Nat}{f:Obj->Obj}(I:ag X pins σ H s)(h:H p=some (.lst xs))
  (ho:s.heap.get? p=some {cls:=.type "list",data:=.seq aa.toArray n}) (hf:f {cls:=.type "list",data:=.seq aa.toArray n} = {cls:=.type "list",data:=.seq its'.toArray n'}) (r:Vals ys its') (hz:ys.length<=sizeLine) (t:Nat):
  ag X pins σ (upd H p (.lst ys)) {s with heap:=s.heap.update p f,toks:=t} :=by
 have e:(s.heap.update p f).get? p=some {cls:=.type "list",data:=.seq its'.toArray n'} :=by rw[Zdo f ho (by rw[hf]<;>rfl),hf]
 refine I.write (x:=p) (e:=p) (by rw[h];trivial) (.inl rfl) (fun b u hb q=>(Zb4 _ _ (Ze4 hb)).trans q) ⟨_,e⟩ ?_;exact⟨hz,its',n',r,e⟩
def Rq:V->V->V->Hp->(Hp->Prop)->Prop:=fun o i v H Q=> ∃p xs k j,o=.ref p/\i=.int k/\H p=some (.lst xs)/\nq xs.length k=some j/\Q (upd H p (.lst (xs.set j v)))
theorem NJ:O4 X Rq:=by
 intro pins s σ H o i v ov iv u Q I ro ri rv h;obtain⟨p,xs,k,j,rfl,rfl,hp,hj,q⟩:=h;cases ro;obtain⟨t,rfl⟩:=ri;obtain⟨aa,n,r,ho,hz⟩:=I.lst hp;obtain⟨h1,h2,h3,h4⟩:=Fz hj;have hl:=r.length;have hn:=zu;have I':ag X pins σ (upd H p (.lst (xs.set j v))) {s with heap:=s.heap.update p (Obj.mapSeq (·.setIfInBounds j u))} :=
  I.TL hp ho (ZcA aa n j u) (r.set rv j) (by rw[Zgy];exact hz) s.toks
 by_cases h0:0<=k
 ·have hk:k.toNat=j:=by rw[seqIndex_of h0 h4]at h1;exact Za3 h1
  exact PySem.W.ki_setAt ho h0 .l (by rw[Zar,<-hl];exact h4) (by rw[hk];exact⟨_,I',q⟩)
 ·have hk:(k+(aa.toArray.size:Int)).toNat=j:=by rw[seqIndex_neg .l h3]at h1;rw[Zar,<-hl];exact Za3 h1
  exact PySem.W.ki_setBack ho .o (by rw[Zar,<-hl];exact h3) .l (by rw[hk];exact⟨_,I',q⟩)
theorem ZaY (lo hi:Option Int)(n:Nat):(sliceBounds lo hi none n).1=((HT.aX n 0 lo:Nat):Int)/\(sliceBounds lo hi none n).2.1=((HT.aX n n hi:Nat):Int)/\(sliceBounds lo hi none n).2.2=1:=by
 refine⟨?_,?_,rfl⟩
 ·cases lo with
  |none=>simp[sliceBounds,HT.aX]
  |some i=>
   simp only[sliceBounds,HT.aX,Option.getD_none,show(1:Int)>0 by decide,Zgx];by_cases h:i<0
   ·simp only[h,Zgx]<;>lia
   ·simp only[h,Zh2]<;>omega
 ·cases hi with
  |none=>simp[sliceBounds,HT.aX]
  |some i=>
   simp only[sliceBounds,HT.aX,Option.getD_none,show(1:Int)>0 by decide,Zgx];by_cases h:i<0
   ·simp only[h,Zgx]<;>omega
   ·simp only[h,Zh2]<;>omega
theorem Zab (aa:List Value)(lo hi:Option Int):slicePick aa.toArray lo hi none=((aa.drop (HT.aX aa.length 0 lo)).take (HT.aX aa.length aa.length hi-HT.aX aa.length 0 lo)).toArray:=by obtain⟨h1,h2,h3⟩:=ZaY lo hi aa.toArray.size;unfold slicePick;rw[h1,h2,h3];simp only[sliceRange_one,pick_run,Zar]<;>rfl
inductive Rp (K:Zke) (x:V) (lo hi:Option Int) (H:Hp) (Q:VK):Prop
 |mk (a xs:_) (c0:x=.ref a) (c1:ak K H a xs) (c2:∀p,H p=none->Q (.ref p) (upd H p (.lst (dI xs lo hi))))
theorem Nq:pP X (Rp X.K):=by intro pins s σ H x v vl vu lo hi sl Q I rx hs pl pu h;obtain⟨a,xs,rfl,hx,q⟩:=h;cases rx;obtain⟨aa,r,ht,hz⟩:=I.list hx;have hlen:=r.length;refine⟨"list",_,slot_list_getitem.lookup,ht.isList.typeIs,?_⟩;refine wpAny_getItem_list_slice ht.isList hs pl pu .none .s ?_ (by rw[Zar]<;>lia);rw[Zab,<-hlen];refine⟨.ref s.heap.objs.size,_,I.laid (t':=s.toks) (o:=.lst (dI xs lo hi)) (fun b ob q=>Zan _ q) (Zal _) ?_,rfl,q _ (I.au.fresh (Zal _))⟩;exact⟨Zbb (JP xs lo hi) hz,_,0,(r.drop (HT.aX xs.length 0 lo)).take (HT.aX xs.length xs.length hi-HT.aX xs.length 0 lo),ZaD _ rfl⟩
def iA:V->Bool
 | .af=>true
 | .bl _=>true
 | .int _=>true
 | .str _=>true
 |_=>false
def dg:V->V->Bool
 | .af,.af=>true
 | .bl a,.bl b=>a==b
 | .bl a,.int b=>(if a then 1 else 0)==b
 | .int a,.bl b=>a==(if b then 1 else 0)
 | .int a,.int b=>a==b
 | .str a,.str b=>a==b
 |_,_=>false
theorem Mp (ry:RelV y u)(rx:RelV x v)(fy:iA y=true)(fx:iA x=true):SeqAt.EqAt A s u v (dg y x):=by
 cases y with
 |af=>
  cases ry;cases x with
  |af=>cases rx;exact SeqAt.EqAt.same _
  |bl b=>cases rx;exact SeqAt.EqAt.none_bool b
  |int b=>obtain⟨t,rfl⟩:=rx;exact SeqAt.EqAt.none_int b t
  |str b=>obtain⟨t,rfl⟩:=rx;exact SeqAt.EqAt.none_str b t
  |_=>exact absurd (show false=true from fx) Zam
 |bl a=>
  cases ry;cases x with
  |af=>cases rx;exact SeqAt.EqAt.bool_none a
  |bl b=>cases rx;exact SeqAt.EqAt.bool_bool a b
  |int b=>obtain⟨t,rfl⟩:=rx;exact SeqAt.EqAt.bool_int a b t
  |str b=>obtain⟨t,rfl⟩:=rx;exact SeqAt.EqAt.bool_str a b t
  |_=>exact absurd (show false=true from fx) Zam
 |int a=>
  obtain⟨t',rfl⟩:=ry;cases x with
  |af=>cases rx;exact SeqAt.EqAt.int_none a t'
  |bl b=>cases rx;exact SeqAt.EqAt.int_bool a t' b
  |int b=>obtain⟨t,rfl⟩:=rx;exact ZcW a t' b t
  |str b=>obtain⟨t,rfl⟩:=rx;exact SeqAt.EqAt.int_str a t' b t
  |_=>exact absurd (show false=true from fx) Zam
 |str a=>
  obtain⟨t',rfl⟩:=ry;cases x with
  |af=>cases rx;exact SeqAt.EqAt.str_none a t'
  |bl b=>cases rx;exact SeqAt.EqAt.str_bool a t' b
  |int b=>obtain⟨t,rfl⟩:=rx;exact SeqAt.EqAt.str_int a t' b t
  |str b=>obtain⟨t,rfl⟩:=rx;exact SeqAt.EqAt.str_str a t' b t
  |_=>exact absurd (show false=true from fx) Zam
 |_=>exact absurd (show false=true from fy) Zam
def nW (x:V)(u:Value):Bool:=match u with
 | .none=>dg .af x
 | .bool b=>dg (.bl b) x
 | .int i _=>dg (.int i) x
 | .str z _=>dg (.str z) x
 |_=>false
theorem Mq (r:RelV y u)(f:iA y=true):nW x u=dg y x:=by
 cases y with
 |af=>cases r;rfl
 |bl b=>cases r;rfl
 |int i=>obtain⟨t,rfl⟩:=r;rfl
 |str z=>obtain⟨t,rfl⟩:=r;rfl
 |_=>exact absurd (show false=true from f) Zam
theorem Fv {x:V} :∀{xs:List V}{us:List Value},Vals xs us->xs.all iA=true->us.any (nW x)=xs.any fun y=>dg y x
 |_,_,.nil,_=>rfl
 |y::xs,u::us,.cons r t,f=>by rw[Zcf,Zap]at f;rw[Zgz,Zgz,Mq r f.1,Fv t f.2]
theorem UI {x:V}{v:Value}(rx:RelV x v)(fx:iA x=true):∀{xs:List V}{us:List Value},Vals xs us->xs.all iA=true->∀u∈us,SeqAt.EqAt A s u v (nW x u)
 |_,_,.nil,_=>fun u hu=>by cases hu
 |y::xs,u::us,.cons r t,f=>fun u' hu=>by
  rw[Zcf,Zap]at f;rcases Zas.mp hu with rfl|hu
  ·rw[Mq r f.1];exact Mp r rx f.1 fx
  ·exact UI rx fx t f.2 u' hu
def aZ (x:V)(xs:List V):Bool:=xs.any fun y=>dg y x
inductive vH (K:Zke) (neg:Bool) (x:V) (y:V) (H:Hp) (Q:VK):Prop
 |mk (p xs:_) (c0:y=.ref p) (c1:(ak K H p xs∨ah K H p xs)) (c2:iA x=true) (c3:xs.all iA=true) (c4:Q (.bl (if neg then !aZ x xs else aZ x xs)) H)
theorem YT:bf X (compareOp .NotIn) (vH X.K true):=by
 intro pins s σ H x y v u Q I rx ry h;obtain⟨p,xs,rfl,hq,fx,fs,q⟩:=h;cases ry;rcases hq with hq|hq
 ·obtain⟨aa,r,pl,hz⟩:=I.list hq;refine SeqAt.notIn_listAt (nW x) pl.isList (fun w hw=>UI rx fx r fs w (by simpa using hw)) ⟨.bl _,H,I,rfl,?_⟩;rw[show aa.toArray.any (nW x)=aa.any (nW x) by simp,Fv r fs];exact q
 ·obtain⟨aa,r,pl,hz⟩:=I.tuple hq;refine SeqAt.notIn_tupleAt (nW x) pl (fun w hw=>UI rx fx r fs w (by simpa using hw)) ⟨.bl _,H,I,rfl,?_⟩;rw[show aa.toArray.any (nW x)=aa.any (nW x) by simp,Fv r fs];exact q
inductive HD (K:Zke) (xs:List V) (H:Hp) (Q:VK):Prop
 |mk (p ys:_) (c0:xs=[.ref p]) (c1:(ak K H p ys∨ah K H p ys)) (c2:Q (.int ys.length) H)
theorem Zx:fh X (.builtin "len") (HD X.K):=by
 intro pins s σ H xs us Q I r h;obtain⟨p,ys,rfl,hq,q⟩:=h;obtain⟨u,rfl,rx⟩:=Zji r;cases rx;have hn:=zu;rcases hq with hq|hq
 ·obtain⟨aa,r',pl,hz⟩:=I.list hq;have hlen:=r'.length;exact Calls.call_len_list pl.isList (by simp only[Zar]<;>omega) ⟨.int ys.length,H,I.tok _,⟨s.toks+1,by rw[Zar,hlen]⟩,q⟩
 ·obtain⟨aa,r',pl,hz⟩:=I.tuple hq;have hlen:=r'.length;exact len_tuple pl (by simp only[Zar]<;>omega) ⟨.int ys.length,H,I.tok _,⟨s.toks+1,by rw[Zar,hlen]⟩,q⟩
inductive HC (K:Zke) (xs:List V) (H:Hp) (Q:VK):Prop
 |mk (p ys:_) (c0:xs=[.ref p]) (c1:(ak K H p ys∨ah K H p ys)) (c2:∀l,H l=none->Q (.ref l) (upd H l (.lst ys)))
theorem Jz:fh X (.type "list") (HC X.K):=by
 intro pins s σ H xs us Q I r h;obtain⟨p,ys,rfl,hq,q⟩:=h;obtain⟨u,rfl,rx⟩:=Zji r;cases rx;have fin:∀(aa:List Value),Vals ys aa->ys.length<=sizeLine->∀(h':Heap) (c':Nat),(∀b o',s.heap.get? b=some o'->h'.get? b=some o')->
   h'.get? s.heap.objs.size=some {cls:=.type "list",dict:=none,data:=.seq aa.toArray c',slots:= #[]}->EP X pins σ Q (.ref s.heap.objs.size) {s with heap:=h'} :=fun aa r' hz h' c' kp e=>
  ⟨.ref s.heap.objs.size,_,I.laid (t':=s.toks) kp (Zal _) (show bI X.prog X.w _ h' _ (.lst ys) from ⟨hz,aa,c',r',e⟩),rfl,q _ (I.au.fresh (Zal _))⟩
 rcases hq with hq|hq
 ·obtain⟨aa,r',pl,hz⟩:=I.list hq;have hlen:=r'.length;obtain⟨o,ho,hc,n,hd⟩:=pl.isList;exact call_list_seq p (.inl rfl) ho hc hd (fun h' c' kp e=>fin aa r' hz h' c' kp e) (by simp only[Zar]<;>omega)
 ·obtain⟨aa,r',pl,hz⟩:=I.tuple hq;have hlen:=r'.length;obtain⟨o,ho,hc,n,hd⟩:=pl;exact call_list_seq p (.inr rfl) ho hc hd (fun h' c' kp e=>fin aa r' hz h' c' kp e) (by simp only[Zar]<;>omega)
theorem Y2:fh X (.type "tuple") (fun xs H Q=> ∃p ys,xs=[.ref p]/\((ak X.K H p ys/\∀l,H l=none->Q (.ref l) (upd H l (.tup ys)))∨(ah X.K H p ys/\Q (.ref p) H))):=by
 intro pins s σ H xs us Q I r h;obtain⟨p,ys,rfl,h⟩:=h;obtain⟨u,rfl,rx⟩:=Zji r;cases rx;rcases h with ⟨hq,q⟩|⟨hq,q⟩
 ·obtain⟨aa,r',pl,hz⟩:=I.list hq;have hlen:=r'.length;refine call_tuple_list pl.isList (fun h' kp=>?_) (by simp only[Zar]<;>omega);have I1:ag X pins σ H {s with heap:=h'} :=I.kept (t':=s.toks) kp;have I2:ag X pins σ (upd H h'.objs.size (.tup ys)) {s with heap:=h'.push {cls:=.type "tuple",data:=.seq aa.toArray} } :=
   I1.laid (t':=s.toks) (fun b o e=>Zan _ e) (Zal _) (show bI X.prog X.w _ _ _ (.tup ys) from ⟨hz,aa,r',Zjn _ _,_,ZaD _ rfl,rfl⟩)
  exact⟨.ref h'.objs.size,_,I2,rfl,q _ (I1.au.fresh (Zal _))⟩
 ·obtain⟨aa,r',pl,hz⟩:=I.tuple hq;exact call_tuple_same pl ⟨.ref p,H,I,rfl,q⟩
def GO (K:Zke)(T:String)(x:V)(H:Hp):Prop:=match x with
 | .str _=>T= "str"
 | .int _=>T= "int"
 | .ref p=>(T= "list" /\∃xs,ak K H p xs)∨(T= "tuple" /\((∃o,K.lookup p=some o/\o.cls=.type "tuple" /\o.dict=none)∨∃xs,H p=some (.tup xs)))∨
   (T= "dict" /\((∃kvs,H p=some (.dK kvs))∨∃kvs,H p=some (.dT kvs)))∨(T= "set" /\∃S n,H p=some (.set S n))
 |_=>False
theorem ZgD {σ:St}(I:ag X pins σ H s)(r:RelV x v)(ty:GO X.K T x H):
  s.TypeIs v T/\∀a,v=.ref a->∃ob,s.heap.get? a=some ob/\ob.dict=none:=by
 cases x with
 |str z=>obtain⟨t,rfl⟩:=r;cases (show T= "str" from ty);exact⟨typeIs_str s z t,fun _ e=>nomatch e⟩
 |int i=>obtain⟨t,rfl⟩:=r;cases (show T= "int" from ty);exact⟨typeIs_int s i t,fun _ e=>nomatch e⟩
 |ref p=>
  cases r;rcases ty with ⟨rfl,xs,hq⟩|⟨rfl,⟨o,hk,hc,hd⟩|⟨xs,hx⟩⟩|⟨rfl,hk⟩|⟨rfl,S,n,hk⟩
  ·obtain⟨aa,_,pl,_⟩:=I.list hq;refine⟨pl.isList.typeIs,fun a e=>?_⟩;cases e;obtain⟨o,n,e,c,hd,_⟩:=pl;exact⟨o,e,hd⟩
  ·refine⟨⟨o,I.cK p o hk,hc⟩,fun a e=>?_⟩;cases e;exact⟨o,I.cK _ o hk,hd⟩
  ·obtain⟨_,_,_,⟨o,e,c,_⟩,o2,e2,hd⟩:=(show bI X.prog X.w H s.heap p (.tup xs) from I.au p _ hx);refine⟨⟨o,e,c⟩,fun a e3=>?_⟩;cases e3;exact⟨o2,e2,hd⟩
  ·have z:∃o,s.heap.get? p=some o/\o.ExactDict:=by
    rcases hk with ⟨kvs,hk⟩|⟨kvs,hk⟩
    ·obtain⟨_,_,_,_,o,_,_,e,ex,_⟩:=I.au p _ hk;exact⟨o,e,ex⟩
    ·obtain⟨_,_,_,_,o,_,_,e,ex,_⟩:=I.au p _ hk;exact⟨o,e,ex⟩
   obtain⟨o,e,ex⟩:=z;refine⟨⟨o,e,ex.1⟩,fun a e2=>?_⟩;cases e2;exact⟨o,e,ex.2.1⟩
  ·obtain⟨o,_,_,_,e,ex,_⟩:=I.au p _ hk;refine⟨⟨o,e,ex.1⟩,fun a e2=>?_⟩;cases e2;exact⟨o,e,ex.2.1⟩
 |_=>exact False.elim ty
def G0 (K:Zke)(T:String)(r:V->List V->Hp->VK->Prop)(to:TE)(t:TA):TE:=fun σ H Q=>to σ H fun x H1=>GO K T x H1/\t σ H1 fun xs H2=>r x xs H2 Q
variable {o e:Expr}{to:TE}{t:TA}{name:Str}{apos iB:Pos}{T id:String}{r:V->List V->Hp->VK->Prop}
theorem WA (pa:PlainAttrs T)(slot:Slot T name id)(VA:typeOf (.builtin id)=pure (.type "method_descriptor"))(hm:O7 X id r)(ho:PE X o to)(ha:PA X (e::es) t)
    (aae:attributeBase o name X.env (eval o X.env)=eval o X.env:=by rfl)
    (XN:((backTo iB (starEach (e::es) X.env)).all (fun x=>!x.1)&&(backToKw iB (keywordEach [] X.env)).all (fun x=>x.1.isSome)
      &&decide ((e::es).length+([]:List Keyword).length+(if ([]:List Keyword).isEmpty then 0 else 1)<30))=true:=by rfl)
    (Xk:(apos.endLine==iB.line)=true:=by rfl) (hs:starEach (e::es) X.env=(false,eval e X.env)::starEach es X.env:=by rfl) (VX:(backTo iB (starEach es X.env)).any (·.1)=false:=by rfl):
    PE X (.Call (.Attribute o name apos) (e::es) [] iB) (G0 X.K T r to t):=by
  intro pins s σ H Q I h;refine wpAny_Call_method_late aae XN Xk rfl (aH (ho pins s σ H _ I h) fun v s1 ⟨x,H1,I1,r1,ty,q1⟩=>?_);obtain⟨h1,h2⟩:=ZgD I1 r1 ty;refine⟨T,id,pa,slot,VA,h1,h2,?_⟩;have hA:=ha iB pins s1 σ H1 _ I1 q1;rw[hs]at hA |-;refine Calls.callWith_builtin (by show(false||(backTo iB (starEach es X.env)).any (·.1))=false;rw[VX]<;>rfl) (Calls.evalArgs_plain ?_);exact aH hA fun us s2 ⟨vs,H2,I2,r2,q2⟩=>hm pins s2 σ H2 x vs v us Q I2 r1 r2 q2
end
def FW (X:Cx)(id:String)(r:V->List V->Hp->VK->Prop):Prop:=
 ∀(pins:List (Addr×Obj)) (s:Shared) (σ:St) (H:Hp) (x:V) (xs:List V) (v:Value) (us:List Value) (Q:VK),ag X pins σ H s->RelV x v->Vals xs us->r x xs H Q->
  wpAny (model X.prog X.w) X.A (call (.builtin id) (v::us)) (EP X pins σ Q) X.xe s
theorem Vals.one:∀{x:V}{us:List Value},Vals [x] us->∃u,us=[u]/\RelV x u
 |_,_,.cons r .nil=>⟨_,rfl,r⟩
theorem Vals.eraseIdx:∀{xs:List V}{us:List Value}(i:Nat),Vals xs us->Vals (xs.eraseIdx i) (us.eraseIdx i)
 |_,_,_,.nil=>.nil
 |_,_,0,.cons _ t=>t
 |_,_,i+1,.cons r t=>.cons r (Vals.eraseIdx i t)
theorem Vals.rep (h:Vals xs us):∀k:Nat,Vals (List.replicate k xs).flatten (List.replicate k us).flatten
 |0=>.nil
 |k+1=>by rw[ZcZ,ZcZ,Zfa,Zfa];exact Vals.append h (Vals.rep h k)
theorem Oq {α:Type} :∀(l:List α) (i:Nat),(l.eraseIdx i).length<=l.length
 | [],_=>Zal _
 |_::_,0=>ZhU _
 |_::r,i+1=>Nat.succ_le_succ (Oq r i)
theorem OY (aa:List Value):∀(k:Nat) (acc:List Value),
  List.foldl (fun x1 x2=>x1++x2) acc.toArray (List.replicate k aa.toArray)=(acc++(List.replicate k aa).flatten).toArray
 |0,acc=>.s
 |k+1,acc=>by
  have e:acc.toArray++aa.toArray=(acc++aa).toArray:=.s;have e2:(acc++aa)++(List.replicate k aa).flatten=acc++(List.replicate (k+1) aa).flatten:=by rw[ZcZ,Zfa,ZaP]
  rw[<-e2,<-OY aa k (acc++aa),<-e,ZcZ,ZgA]
section
variable {σ:St}{l b:Addr}{zs:List V}
theorem ag.C3 {aa its':List Value}{n:Nat}{f:Array Value->Array Value}{t':Nat}(I:ag X pins σ H s)(hH:H l=some (.lst xs))
  (e:s.heap.get? l=some {cls:=.type "list",data:=.seq aa.toArray n}) (hf:f aa.toArray=its'.toArray) (hv:Vals ys its') (hz:ys.length<=sizeLine):
  ag X pins σ (upd H l (.lst ys)) {s with heap:=s.heap.update l (Obj.mapSeq f),toks:=t'} :=by
 have q:=PySem.IsL.update e f;rw[hf]at q;refine I.write (x:=l) (e:=l) (by rw[hH];exact trivial) (.inl rfl) (fun b' u hb hu=>(Zb4 s.heap (Obj.mapSeq f) (Ze4 hb)).trans hu) ⟨_,q⟩ ?_;exact⟨hz,its',_,hv,q⟩
theorem ag.TR {t':Nat}(I:ag X pins σ H s)(hv:Vals ys aa)(hz:ys.length<=sizeLine):
  ag X pins σ (upd H s.heap.objs.size (.lst ys)) {s with heap:=s.heap.push {cls:=.type "list",data:=.seq aa.toArray},toks:=t'} :=
 I.laid (fun _ _ q=>Zan _ q) (Zal _) ⟨hz,aa,0,hv,ZaD _ rfl⟩
theorem ag.fresh (I:ag X pins σ H s):H s.heap.objs.size=none:=I.au.fresh (Zal _)
theorem ag.tI (I:ag X pins σ H s)(hH:H l=some (.lst xs)):xs.length<=sizeLine/\∃(aa:List Value) (n:Nat),Vals xs aa/\xs.length=aa.length/\s.heap.get? l=some {cls:=.type "list",data:=.seq aa.toArray n} :=by obtain⟨z,aa,n,r,e⟩:=I.au l _ hH;exact⟨z,aa,n,r,r.length,e⟩
theorem SE {n:Nat}(h:n<=sizeLine):Builtin.List.listTooLong n=false:=by unfold Builtin.List.listTooLong;exact Zax .o
end
inductive HH (x:V) (vs:List V) (H:Hp) (Q:VK):Prop
 |mk (l xs y:_) (c0:x=.ref l) (c1:vs=[y]) (c2:H l=some (.lst xs)) (c3:xs.length<sizeLine) (c4:Q .af (upd H l (.lst (xs++[y]))))
theorem Jn:FW X "list.append" HH:=by
 intro pins s σ H x vs v us Q I rx rv h;obtain⟨l,xs,y,rfl,rfl,hH,hz,q⟩:=h;cases rx;obtain⟨u,rfl,ru⟩:=rv.one;obtain⟨z,aa,n,r,hl,e⟩:=I.tI hH;refine ZhV F.slot_list_append ⟨_,e,rfl⟩ F.entry_list_append (F.args_list_append_2 _ _) (PySem.list_append l aa.toArray n u (by rw[Zar];omega)) ⟨e,?_⟩;refine⟨.af,_,I.C3 (its':=aa++[u]) hH e .s (r.append (.cons ru .nil)) ?_,rfl,q⟩;rw[Zak,List.length_singleton]
 lia
inductive RE (x:V) (vs:List V) (H:Hp) (Q:VK):Prop
 |mk (l b xs zs:_) (c0:x=.ref l) (c1:vs=[.ref b]) (c2:H l=some (.lst xs)) (c3:H b=some (.lst zs)) (c4:xs.length+zs.length<=sizeLine) (c5:Q .af (upd H l (.lst (xs++zs))))
theorem Ot:FW X "list.extend" RE:=by
 intro pins s σ H x vs v us Q I rx rv h;obtain⟨l,b,xs,zs,rfl,rfl,hH,hB,hz,q⟩:=h;cases rx;obtain⟨u,rfl,ru⟩:=rv.one;cases ru;obtain⟨z,aa,n,r,hl,e⟩:=I.tI hH;obtain⟨z2,iQ,n2,r2,bY,e2⟩:=I.tI hB;have hsz:aa.toArray.size+iQ.toArray.size<=sizeLine:=by rw[Zar,Zar];lia
 have Xi:¬(!aa.toArray.isEmpty&&Builtin.List.listTooLong (aa.toArray.size+iQ.toArray.size))=true:=by rw[SE hsz,Zc1];exact Zam
 refine ZhV F.slot_list_extend ⟨_,e,rfl⟩ F.entry_list_extend (F.args_list_extend_2 _ _)
  (AutoSeq1.list_extend_list_list_0 l aa.toArray n b iQ.toArray n2 Xi (by rw[Zar];omega) .l) ⟨e,e2,?_⟩
 refine⟨.af,_,I.C3 (its':=aa++iQ) hH e .s (r.append r2) ?_,rfl,q⟩;rw[Zak];omega
inductive Ru (x:V) (vs:List V) (H:Hp) (Q:VK):Prop
 |mk (l xs i k y:_) (c0:x=.ref l) (c1:vs=[.int i]) (c2:H l=some (.lst xs)) (c3: -(2^63)<=i) (c4:i<2^63) (c5:seqIndex? i xs.length=some k) (c6:xs[k]?=some y) (c7:Q y (upd H l (.lst (xs.eraseIdx k))))
theorem ZeX:FW X "list.pop" Ru:=by
 intro pins s σ H x vs v us Q I rx rv h;obtain⟨l,xs,i,k,y,rfl,rfl,hH,h1,h2,hk,hy,q⟩:=h;cases rx;obtain⟨u,rfl,ru⟩:=rv.one;obtain⟨t,rfl⟩:=ru;obtain⟨z,aa,n,r,hl,e⟩:=I.tI hH;obtain⟨w,hw,ko⟩:=r.get hy;refine ZhV F.slot_list_pop ⟨_,e,rfl⟩ F.entry_list_pop (F.args_list_pop_2 _ _)
  (MeetsSeq.list_pop_at l aa.toArray n i t k w (fitsIndex_both h1 h2) (by rw[Zar,<-hl];exact hk) (by rw[<-ZaZ];exact hw) (by rw[Zar];lia)) ⟨e,?_⟩
 refine⟨y,_,I.C3 (its':=aa.eraseIdx k) hH e ?_ (r.eraseIdx k) ?_,ko,q⟩
 ·show aa.toArray.eraseIdxIfInBounds k=(aa.eraseIdx k).toArray;rw[List.eraseIdxIfInBounds_toArray]
 ·have:=Oq xs k
  lia
inductive HG (x:V) (y:V) (H:Hp) (Q:VK):Prop
 |mk (l b xs zs:_) (c0:x=.ref l) (c1:y=.ref b) (c2:H l=some (.lst xs)) (c3:H b=some (.lst zs)) (c4:xs.length+zs.length<=sizeLine) (c5:∀p,H p=none->Q (.ref p) (upd H p (.lst (xs++zs))))
theorem YZ:bf X (binaryOp .Add) HG:=by intro pins s σ H x y v u Q I rx ry h;obtain⟨l,b,xs,zs,rfl,rfl,hH,hB,hz,q⟩:=h;cases rx;cases ry;obtain⟨z,aa,n,r,hl,e⟩:=I.tI hH;obtain⟨z2,iQ,n2,r2,bY,e2⟩:=I.tI hB;refine PySem.P.add_list e e2 ?_ (by rw[Zar,Zar];omega);have ea:aa.toArray++iQ.toArray=(aa++iQ).toArray:=.s;rw[ea];exact⟨.ref _,_,I.TR (t':=s.toks) (r.append r2) (by rw[Zak];omega),rfl,q _ I.fresh⟩
theorem M9 (xs:List α)(k:Nat):(List.replicate k xs).flatten.length=k*xs.length:=by
 induction k with
 |zero=>simp
 |succ k ih=>rw[ZcZ,Zfa,Zak,ih,Nat.succ_mul,Nat.add_comm]
end L2
namespace Pn
open PySem PySem.W PySem.Calls PyProof.Rows
theorem Ud {P:Params} :∀(ns:List Int) (vs:List Value),WellAll P h vs (ns.map WData.int)->IntsAre vs ns:=by
 intro ns
 induction ns with
 |nil=>intro vs w;rw[Zh7]at w;cases w;exact .nil
 |cons n ns ih=>
  intro vs w;rw[Zbv]at w;cases w with
  |cons a b=>cases a;exact .cons _ _ (ih _ b)
theorem ZdD {l:OpenLaw}(hn:l.most=some n){P:Params}
  (zF:l.row.toRowW.claim.pre args=true) (Ds:WellAll P h vals args):
  ∃a vs ns,vals=[Value.ref a]/\args=[WData.list (ns.map WData.int)]/\h.get? a=some {cls:=.type "list",data:=.seq vs.toArray}/\IntsAre vs ns/\ns.length<=n:=by
 have wC:WShape.hasAll [] args [.list .int]=true:=(pre_splitW zF).1;have hc:l.pre.holds [] {args:=args} =true:=(pre_splitW zF).2;obtain⟨d,r,rfl,h1,h2⟩:=hasAllW_cons wC;obtain rfl:=hasAllW_nil h2;obtain⟨xs,rfl,h3⟩:=hasW_list h1;obtain⟨ns,rfl⟩:=items_int h3;have hlen:ns.length<=n:=by
  unfold OpenLaw.pre at hc;have h4:(WTm.not (.lt (.lit (.int (n:Int))) (.len (.arg 0)))).holds [] {args:=[.list (ns.map .int)]} =true:=by have h4:=(holds_andW hc).1;rw[hn]at h4;exact h4
  have h5:=condW_of h4 (w_not (w_lt w_lit (w_len_list (w_arg rfl))));rw[Zat]at h5;refine Zja fun q=>?_;have q':(n:Int)< ((ns.length:Nat):Int):=.o
  first
   |(rw[Zau q']at h5;exact absurd h5 .d)
   |(simp at h5;omega)
 cases Ds with
 |cons w1 w2=>
  cases w2;cases w1 with
  |list ho dc=>exact⟨_,_,ns,rfl,rfl,ho,Ud ns _ dc,hlen⟩
theorem ZdE (l:OpenLaw)(args:List WData):l.row.toRowW.claim.post args (.bool true) args=true:=
 postW_of (r:=l.row.toRowW) (X:=(true==true))
  (show WShape.has [] (.bool true) .bool=true by first|rfl|decide|simp[WShape.has,WShape.arms,WShape.armsAll])
  (show(WTm.eq .res (.lit (.bool true))).value [] {args:=args,res:=some (.bool true),after:=args} =some (.bool (true==true)) from w_eq_bool (w_res rfl) w_lit) rfl
theorem aaI {l:OpenLaw}{YP:World->Heap->Prop}{d:DefRec}
    (hn:l.most=some n) (DX:d.params.defaults=[])
    (call:∀(w:World) (cR br:Shared) (mg mb:Str->Option Value) (fa:Addr) (o:Obj) (pm cd doc:Value) (a:Addr) (vs:List Value) (ns:List Int),
      Ground q loose [] XP w cR mg mb br.heap->YP w br.heap->
      br.heap.get? fa=some o->o.data=.func (docDef d.name d.params d.body d.scope pm cd doc)->br.heap.CodeRec cd d.name->mg d.name=some (.ref fa)->
      br.heap.get? a=some {cls:=.type "list",data:=.seq vs.toArray}->IntsAre vs ns->ns.length<=n->br.gens= #[]->
      codeAny (model l.prog w) callerA (.call (.ref fa) ⟨[.ref a],[]⟩) (fun r s'=>r=.ok (.ret (.bool true))/\OldK br.heap s'.heap/\s'.os=br.os/\AllBare s'.gens) br):
    WalkO q loose XP YP l.row.toRowW d [] (fun f vs=>PySem.call f vs):=by
  intro w cR br mg mb G Y fa o pm cd doc dV kV ho hd cq hD hmg hg args vals as zF aa7 hrd Ds zM;obtain rfl:dV=.none:=Dflts.none hD DX;obtain rfl:kV=.none:=Dflts.noKw hD;obtain⟨a,vs,ns,rfl,rfl,DG,hints,hlen⟩:=ZdD hn zF Ds;refine enter_call (ZfG (call w cR br mg mb fa o pm cd doc a vs ns G Y ho (fd_plain hd) cq hmg DG hints hlen hg) fun r s' hq=>?_);obtain⟨rfl,h2,h3,h4⟩:=hq;exact⟨.inl ⟨.bool true,.bool true,[],rfl,fun _=>rfl,.bool true,ZdE l _,fun _=>⟨List.Pairwise.nil,fun _ hm=>(nomatch hm)⟩⟩,h2,h3,h4⟩
end Pn
namespace L2
open PySem PySem.Spec PyProof.Rows
theorem OE:∀{vs:List Value}{ns:List Int},IntsAre vs ns->Vals (ns.map V.int) vs
 |_,_,.nil=>.nil
 |_,_,.cons n t h=>.cons ⟨t,rfl⟩ (OE h)
def iZ (s:Stmt):Arguments:=match s with
 | .FunctionDef _ a _ _ _ _ _ _ _ _=>a
 |_=> {posonlyargs:=[],args:=[],vararg:=none,kwonlyargs:=[],kw_defaults:=[],kwarg:=none,defaults:=[]}
def ck (s:Stmt):List Stmt:=match s with
 | .FunctionDef _ _ b _ _ _ _ _ _ _=>b
 |_=> []
def aR (s:Stmt):Scope:=match s with
 | .FunctionDef _ _ _ _ _ _ sc _ _ _=>sc
 |_=> {kind:=.function,names:=[],isGenerator:=false,isCoroutine:=false}
abbrev aS:j8:=fun _ _ _ _ _ _=>False
abbrev E0:XK:=fun _ _ _=>False
theorem HX :Passes aS X E0:=fun _ _ _ _ _ _ _ h=>h.elim
structure aO (K:Zke)(x qual:Str)(st:Stmt)(f:Addr)(fd:FuncData):Prop where
 ex:∃(oc:Value) (od:Option Addr) (kV doc pm:Value) (an:Option Addr) (aw ct:Value) (hZ:Array (Option Value)),
  fd=PySem.W.fnOf x qual (iZ st) (ck st) (aR st) .none kV doc pm an aw ct/\K.lookup f=some ⟨oc,od,.func fd,hZ⟩/\PySem.W.codeIn K aw qual=true
 kp:PySem.W.keepIn K (.ref f)=true
section
variable {P:Program}{K:Zke}
theorem aO.ok {x:Str}{st:Stmt}{f:Addr}{fd:FuncData}{ps:List Str}{k:Nat}{sp:Sp}(F:aO K x qual st f fd)(S:bo N ps (aR st))(len:∀vs H Q E,sp vs H Q E->vs.length=ps.length)
    (Ed:∀(aw:Value) (A:Around) (outer:List Env) (s:Shared) (H:Hp) (vs:List V) (Q:VK) (E:XK),bO k (A.deeper (envOfC qual (aR st) s.heap.objs.size f aw))->sp vs H Q E->
      ∃t,cO (eU aS P w K mg base N qual (aR st) f aw A outer s H E).oJ (ck st) t/\t {nx:=fun _ H'=>Q .af H',rt:=Q} (start N vs) H):aJ P w K mg base aS (k+1) f fd ps sp:=by
  obtain⟨oc,od,kV,doc,pm,an,aw,ct,hZ,rfl,lk,cq⟩:=F.ex;refine EZ lk cq S len fun A outer s H vs Q E hr fA=>?_;obtain⟨t,h,q⟩:=Ed aw A outer s H vs Q E hr fA;exact⟨t,h.oJ,q⟩
theorem aO.binds {x:Str}{st:Stmt}{f:Addr}{fd:FuncData}{ps:List Str}(F:aO K x qual st f fd)
  (h:∀(kV doc pm:Value) (an:Option Addr) (aw ct:Value) (us:List Value),us.length=ps.length->bindArgs (PySem.W.fnOf x qual (iZ st) (ck st) (aR st) .none kV doc pm an aw ct) ⟨us,[]⟩=pure (ps.zip us)):Binds K fd ps []:=by
 obtain⟨oc,od,kV,doc,pm,an,aw,ct,hZ,rfl,lk,cq⟩:=F.ex;exact .all (h kV doc pm an aw ct)
theorem Zhe {x:Str}{st:Stmt}{f:Addr}{oc:Value}{od an:Option Addr}{hZ:Array (Option Value)}{kV doc pm aw ct:Value}(l:K.lookup f=some ⟨oc,od,.func (PySem.W.fnOf x qual (iZ st) (ck st) (aR st) .none kV doc pm an aw ct),hZ⟩)
  (c:PySem.W.codeIn K aw qual=true) (k:PySem.W.keepIn K (.ref f)=true):aO K x qual st f (PySem.W.fnOf x qual (iZ st) (ck st) (aR st) .none kV doc pm an aw ct):=⟨⟨oc,od,kV,doc,pm,an,aw,ct,hZ,rfl,l,c⟩,k⟩
end
theorem Wg (hr:bO k A):A.units+1<cLine:=ZeJ (Zis (by decide:1<=64) _) hr.units
theorem Bx {n:Nat}(h:n<=1000):n<sizeLine:=ZeJ h .d
theorem pv (i:Nat)(hN:X.N[i]?=some x:=by rfl)(hv:pN X.env.scope x:=by first|exact Or.inl rfl|exact Or.inr (Or.inl rfl)|exact Or.inr (Or.inr rfl))(hd:(x==("__debug__" :Str))=false:=by decide)
  (cq:(x==("__classdict__" :Str))=false:=by decide):PE X (.Name x pos) (dA i):=JI hN hv hd cq
theorem Zv (i:Nat)(hN:X.N[i]?=some x:=by rfl)(hv:pN X.env.scope x:=by first|exact Or.inl rfl|exact Or.inr (Or.inl rfl)|exact Or.inr (Or.inr rfl))(hd:(x==("__debug__" :Str))=false:=by decide)
  (cq:(x==("__classdict__" :Str))=false:=by decide):PA X [.Name x pos] (aI (dA i) bD):=Za (pv i hN hv hd cq) Zb
theorem ZR (i:Nat){n:Int}{k}{p q:Pos}(hN:X.N[i]?=some x:=by rfl)(hv:pN X.env.scope x:=by first|exact Or.inl rfl|exact Or.inr (Or.inl rfl)|exact Or.inr (Or.inr rfl))(hd:(x==("__debug__" :Str))=false:=by decide)
  (cq:(x==("__classdict__" :Str))=false:=by decide):PE X (.Subscript (.Name x p) (.Constant (.int n) k q) pos) (dW (gF X.K) (dA i) (tC (.int n))):=ZV Yb (pv i hN hv hd cq) Zc
theorem ar {A B:Prop}(h:B):if false=true then A else B:=by rw[ZaN Zam];exact h
theorem aq {A B:Prop}(h:A):if true=true then A else B:=by rw[ZaQ rfl];exact h
theorem Dk {c A B:Prop}[Decidable c](h1:c->A)(h2:¬c->B):if c then A else B:=by
 by_cases h:c
 ·rw[ZaQ h];exact h1 h
 ·rw[ZaN h];exact h2 h
def ae (H H':Hp):Prop:=∀b o,H b=some o->H' b=some o
theorem ae.refl (H:Hp):ae H H:=fun _ _ h=>h
theorem ae.trans (a:ae H H1)(b:ae H1 H2):ae H H2:=fun c o h=>b c o (a c o h)
theorem ae.free (e:ae H H')(h:H' l=Option.none):H l=Option.none:=by
 cases q:H l with
 |none=>rfl
 |some o=>rw[e l o q]at h;cases h
section
variable {κ:Type} [DecidableEq κ]
def gW (kvs:List (κ×V))(k:κ):Option V:=(kvs.find? fun kv=>decide (kv.1=k)).map (·.2)
def putK (kvs:List (κ×V))(k:κ)(v:V):List (κ×V):=
 if (kvs.any fun kv=>decide (kv.1=k))=true then kvs.map (fun kv=>if kv.1=k then (kv.1,v) else kv) else kvs++[(k,v)]
theorem Ur {p:κ×V}{r:List (κ×V)}{k:κ}(e:p.1=k):gW (p::r) k=some p.2:=by simp[gW,Ze9,e]
theorem Us {p:κ×V}{r:List (κ×V)}{k:κ}(e:¬p.1=k):gW (p::r) k=gW r k:=by simp[gW,Ze9,e]
theorem JD (k:κ):∀kvs:List (κ×V),(kvs.any fun kv=>decide (kv.1=k))=(gW kvs k).isSome
 | []=>rfl
 |p::r=>by
  rw[Zgz];by_cases e:p.1=k
  ·simp only[Ur e,Zau e,Bool.true_or,Option.isSome_some]
  ·rw[Us e,Zax e,Bool.false_or];exact JD k r
theorem W7 (kvs:List (κ×V))(k:κ)(v:V):(putK kvs k v).length<=kvs.length+1:=by
 unfold putK;split
 ·rw[Zat];lia
 ·rw[Zak,ZaU,Zdg];lia
theorem Zeu {kvs:List (κ×V)}{k:κ}(v:V)(h:gW kvs k=none):putK kvs k v=kvs++[(k,v)]:=by unfold putK;rw[JD,h];exact ZaN .d
theorem rW.Dl {o:Option V}{u:Option Value}(r:rW o u):o.isSome=u.isSome:=by
 cases o with
 |none=>cases u with
  |none=>rfl
  |some _=>exact(show False from r).elim
 |some _=>cases u with
  |none=>exact(show False from r).elim
  |some _=>rfl
theorem KV.val {kvs:List (κ×V)}{vs:List (κ×Value)}(r:KV kvs vs)(k:κ):rW (gW kvs k) (valueAt vs k):=by
 unfold KV at r
 induction r with
 |nil=>exact True.intro
 | @cons p q ps qs h t ih=>
  obtain⟨h1,h2⟩:=h;by_cases e:p.1=k
  ·have e':q.1=k:=h1.symm.trans e;have b:valueAt (q::qs) k=some q.2:=by simp[valueAt,Ze9,e']
   rw[Ur e,b];exact h2
  ·have e':¬q.1=k:=fun z=>e (h1.trans z);have b:valueAt (q::qs) k=valueAt qs k:=by simp[valueAt,Ze9,e']
   rw[Us e,b];exact ih
theorem KV.any {kvs:List (κ×V)}{vs:List (κ×Value)}(r:KV kvs vs)(k:κ):(kvs.any fun kv=>decide (kv.1=k))=vs.any fun kv=>decide (kv.1=k):=by
 unfold KV at r
 induction r with
 |nil=>rfl
 |cons h t ih=>rw[Zgz,Zgz,ih,h.1]
theorem KV.Cw {kvs:List (κ×V)}{vs:List (κ×Value)}(r:KV kvs vs)(k:κ)(ry:RelV y u):
  KV (kvs.map fun kv=>if kv.1=k then (kv.1,y) else kv) (vs.map fun kv=>if kv.1=k then (kv.1,u) else kv):=by
 unfold KV at r |-
 induction r with
 |nil=>exact .nil
 | @cons p q ps qs h t ih=>
  rw[Zbv,Zbv];refine .cons ?_ ih;obtain⟨h1,h2⟩:=h;by_cases e:p.1=k
  ·rw[ZaQ e,ZaQ (h1.symm.trans e)];exact⟨h1,ry⟩
  ·rw[ZaN e,ZaN (fun z=>e (h1.trans z))];exact⟨h1,h2⟩
theorem KV.put {vs:List (κ×Value)}(r:KV kvs vs)(k:κ)(ry:RelV y u):KV (putK kvs k y) (stored vs k u):=by
 unfold putK stored;rw[r.any k];by_cases e:(vs.any fun kv=>decide (kv.1=k))=true
 ·rw[ZaQ e,ZaQ e];exact r.Cw k ry
 ·rw[ZaN e,ZaN e];exact Zc9 r ⟨rfl,ry⟩
theorem KV.length {kvs:List (κ×V)}{vs:List (κ×Value)}(r:KV kvs vs):kvs.length=vs.length:=ZaM r
end
theorem Fg (r:RelV (kV k) u):(jm P w).is k u=true:=by
 cases k with
 |inl i=>obtain⟨t,e⟩:=(show ∃t,u=Value.int i t from r);subst e;exact ZbL P w i t
 |inr x=>obtain⟨t,e⟩:=(show ∃t,u=Value.str x t from r);subst e;exact ZbK P w x t
theorem Oo {P:Program} :∀{ks:List Key}{us:List Value},Vals (ks.map kV) us->ItemsAre (jm P w) ks us
 | [],_,r=>by rw[Zh7]at r;cases r;exact .nil
 |k::ks,_,r=>by
  rw[Zbv]at r;cases r with
  |cons h t=>exact .cons (Fg h) (Oo t)
abbrev KT (H:Hp):List (List Key×V)->List (List Key×Addr×Value)->Prop:=Paired fun p q=>p.1=q.1/\H q.2.1=some (.tup (p.1.map kV))/\RelV p.2 q.2.2
theorem KT.val {kvs:List (List Key×V)}{xs:List (List Key×Addr×Value)}(r:KT H kvs xs)(k:List Key):rW (gW kvs k) ((atKey xs k).map (·.2)):=by
 induction r with
 |nil=>exact True.intro
 | @cons p q ps qs h t ih=>
  obtain⟨h1,_,h2⟩:=h;by_cases e:p.1=k
  ·have e':q.1=k:=h1.symm.trans e;have b:atKey (q::qs) k=some q.2:=by simp[atKey,Ze9,e']
   rw[Ur e,b];exact h2
  ·have e':¬q.1=k:=fun z=>e (h1.trans z);have b:atKey (q::qs) k=atKey qs k:=by simp[atKey,Ze9,e']
   rw[Us e,b];exact ih
theorem KT.Cw {kvs:List (List Key×V)}{xs:List (List Key×Addr×Value)}(r:KT H kvs xs)(k:List Key)(ry:RelV y u):
  KT H (kvs.map fun kv=>if kv.1=k then (kv.1,y) else kv) (xs.map (putAt k u)):=by
 induction r with
 |nil=>exact .nil
 | @cons p q ps qs h t ih=>
  rw[Zbv,Zbv];refine .cons ?_ ih;obtain⟨h1,h2,h3⟩:=h;unfold putAt;by_cases e:p.1=k
  ·rw[ZaQ e,ZaQ (h1.symm.trans e)];exact⟨h1,h2,ry⟩
  ·rw[ZaN e,ZaN (fun z=>e (h1.trans z))];exact⟨h1,h2,h3⟩
theorem KT.put {xs:List (List Key×Addr×Value)}(r:KT H kvs xs)(k:List Key)(hb:H b=some (.tup (k.map kV)))(ry:RelV y u):
  KT H (putK kvs k y) (storedH xs k b u):=by
 have e:(kvs.any fun kv=>decide (kv.1=k))=(atKey xs k).isSome:=by rw[JD,(r.val k).Dl,Option.isSome_map]
 unfold putK storedH;rw[e];by_cases q:(atKey xs k).isSome=true
 ·rw[ZaQ q,ZaQ q];exact r.Cw k ry
 ·rw[ZaN q,ZaN q];exact Zc9 r ⟨rfl,hb,ry⟩
theorem KT.keeps {xs:List (List Key×Addr×Value)}(r:KT H kvs xs)(ht:∀b ys,H b=some (.tup ys)->H' b=some (.tup ys)):KT H' kvs xs:=
 Paired.bh r fun _ _ z=>⟨z.1,ht _ _ z.2.1,z.2.2⟩
section
variable {P:Program}{a:Addr}
theorem Ml (ok:bK P w H h)(e:Rd H a u):bI P w H h a u:=e.ok ok
theorem Mn {kvs:List (Key×V)}(ok:bK P w H h)(e:Rd H a (.dK kvs)):kvs.length<=sizeLine/\(a==sysModules)=false/\∃vs,KV kvs vs/\h.DictOf (jm P w) a vs:=
 show bI P w H h a (.dK kvs) from Ml ok e
theorem ZhH {kvs:List (Key×V)}(ok:bK P w H h)(e:H a=some (.dK kvs)):kvs.length<=sizeLine/\(a==sysModules)=false/\∃vs,KV kvs vs/\h.DictOf (jm P w) a vs:=Mn ok (.inl e)
theorem Ft {ks:List Key}(ok:bK P w H h)(e:H a=some (.tup (ks.map kV))):(tupleKind (jm P w)).is h ks a:=by obtain⟨_,aa,r,⟨o,h1,h2,n,h3⟩,_⟩:=(show bI P w H h a (.tup (ks.map kV)) from ok a _ e);exact⟨o,aa.toArray,n,h1,h2,h3,by simpa using Oo r⟩
theorem Mg {kvs:List (List Key×V)}(ok:bK P w H h)(e:Rd H a (.dT kvs)):kvs.length<=sizeLine/\(a==sysModules)=false/\
  ∃xs,KT H kvs xs/\h.DictOfH (tupleKind (jm P w)) a xs:=by
 obtain⟨z,y,xs,r,o,es,ep,h1,h2,h3,h4,h5⟩:=(show bI P w H h a (.dT kvs) from Ml ok e);refine⟨z,y,xs,r,o,es,ep,h1,h2,h3,h4,fun x hx=>?_,h5⟩;have all:∀{l:List (List Key×V)}{m:List (List Key×Addr×Value)},KT H l m->∀x∈m,(tupleKind (jm P w)).is h x.1 x.2.1:=by
  intro l m q
  induction q with
  |nil=>intro x hx;exact nomatch hx
  | @cons p q ps qs hq t ih=>
   intro x hx;rcases Zas.mp hx with e|hx
   ·subst e;exact Ft ok (by rw[<-hq.1];exact hq.2.1)
   ·exact ih x hx
 exact all r x hx
theorem ZhG {kvs:List (List Key×V)}(ok:bK P w H h)(e:H a=some (.dT kvs)):kvs.length<=sizeLine/\(a==sysModules)=false/\
  ∃xs,KT H kvs xs/\h.DictOfH (tupleKind (jm P w)) a xs:=Mg ok (.inl e)
end
def yk (H:Hp)(a:Addr)(y:V)(r:Option V):Prop:=
 (∃kvs k,Rd H a (.dK kvs)/\y=kV k/\r=gW kvs k)∨∃kvs k b,Rd H a (.dT kvs)/\y=.ref b/\H b=some (.tup (k.map kV))/\r=gW kvs k
def yh (H:Hp)(a:Addr)(y v:V)(H':Hp):Prop:=
 (∃kvs k,H a=some (.dK kvs)/\y=kV k/\kvs.length<sizeLine/\H'=upd H a (.dK (putK kvs k v)))∨
 ∃kvs k b,H a=some (.dT kvs)/\y=.ref b/\H b=some (.tup (k.map kV))/\kvs.length<sizeLine/\H'=upd H a (.dT (putK kvs k v))
theorem yk.t {k:List Key}(e:H a=some (.dT kvs))(eb:H b=some (.tup (k.map kV))):yk H a (.ref b) (gW kvs k):=.inr ⟨kvs,k,b,.inl e,rfl,eb,rfl⟩
theorem yh.t {kvs:List (List Key×V)}{k:List Key}(e:H a=some (.dT kvs))(eb:H b=some (.tup (k.map kV)))(hl:kvs.length<sizeLine):
  yh H a (.ref b) v (upd H a (.dT (putK kvs k v))):=.inr ⟨kvs,k,b,e,rfl,eb,hl,rfl⟩
section
variable {σ:St}{a:Addr}{y v:V}{u r:Value}{o:Option V}
theorem ag.big (I:ag X pins σ H s):sysModules<s.heap.objs.size:=by have h:mainGlobals<s.heap.objs.size:=(I.mod.glob.keeps I.bk).lt;exact Zjs .d h
theorem aaA {Q:Value->Shared->Prop}(hu:A.units+1<cLine)(I:ag X pins σ H s)(g:yk H a y o)(ry:RelV y u)(h:∀s',ag X pins σ H s'->Q (.bool o.isSome) s'):
  wpAny (model X.prog X.w) A (compareOp .In u (.ref a)) Q E s:=by
 rcases g with ⟨kvs,k,e,ey,l⟩|⟨kvs,k,b,e,ey,eb,l⟩
 ·subst ey;obtain⟨z,hd,vs,rel,dd⟩:=Mn I.au e;refine wpAny_in_of (Fg ry) hd dd.mapOf ?_;rw[<-(rel.val k).Dl,<-l];exact h _ (I.tok _)
 ·subst ey;cases (show u=Value.ref b from ry);obtain⟨z,hd,xs,rel,dd⟩:=Mg I.au e;refine wpAny_in_heap (tupleKind_room_in1 hu) (Ft I.au eb) hd dd ?_;have q:=(rel.val k).Dl;rw[Option.isSome_map]at q;rw[<-q,<-l];exact h _ (I.tok _)
theorem MW {t':Nat}(I:ag X pins σ H s)(mu:xX (H a))(hs:Heap.SameBut a s.heap h')(he:∃q,h'.get? a=some q)(new:bI X.prog X.w (upd H a ob) h' a ob):
  ag X pins σ (upd H a ob) {s with heap:=h',toks:=t'} :=
 I.write (x:=a) (e:=a) mu (.inl rfl) (fun b q hb z=>(hs.2 b hb).trans z) he new
theorem Zhh {kvs:List (Key×V)}{vs:List (Key×Value)}(z:kvs.length<=sizeLine)(hd:(a==sysModules)=false)(rel:KV kvs vs)(dd:h'.DictOf (jm P w) a vs):
  bI P w H' h' a (.dK kvs):=⟨z,hd,vs,rel,dd⟩
theorem Zd2 {Q:Unit->Shared->Prop}(hu:A.units+1<cLine)(I:ag X pins σ H s)(g:yh H a y v H')(ry:RelV y u)(rv:RelV v r)(h:∀s',ag X pins σ H' s'->Q () s'):
  wpAny (model X.prog X.w) A (setItem (.ref a) u r) Q E s:=by
 rcases g with ⟨kvs,k,e,ey,l,eH⟩|⟨kvs,k,b,e,ey,eb,l,eH⟩
 ·subst ey eH;obtain⟨z,hd,vs,rel,dd⟩:=ZhH I.au e;have hz:vs.length<=sizeLine:=by rw[<-rel.length];exact z
  have hl:(putK kvs k v).length<=sizeLine:=by have:=W7 kvs k v;lia
  refine wpAny_setItem_pairs (hsz:=hz) (Fg ry) dd fun h' Ak hs=>h _ ?_;have he:∃q,h'.get? a=some q:=let ⟨q,_,_,hq,_⟩:=Ak;⟨q,hq⟩;exact MW I (by rw[e];exact True.intro) hs he (Zhh hl hd (rel.put k rv) Ak)
 ·subst ey eH;cases (show u=Value.ref b from ry);obtain⟨z,hd,xs,rel,dd⟩:=ZhG I.au e;have hz:xs.length<=sizeLine:=by rw[<-ZaM rel];exact z
  have hl:(putK kvs k v).length<=sizeLine:=by have:=W7 kvs k v;lia
  refine wpAny_setItem_heap (hsz:=hz) (tupleKind_room_in1 hu) (Ft I.au eb) dd fun h' Ak hs=>h _ ?_;obtain⟨q,es,ep,hq,h2,h3,h4,_,h5⟩:=Ak;refine MW I (by rw[e];exact True.intro) hs ⟨q,hq⟩ ⟨hl,hd,_,(rel.put k eb rv).keeps fun c ys ec=>?_,q,es,ep,hq,h2,h3,h4,h5⟩;rw[Zh (YW ec e (fun z=>nomatch z))];exact ec
end
def Qt (ty td:TE):TE:=fun σ H Q=>ty σ H fun y H1=>td σ H1 fun x H2=> ∃a o,x=.ref a/\yk H2 a y o/\Q (.bl o.isSome) H2
def Q6 (td ty tv:TE):TS:=fun D σ H=>tv σ H fun v H1=>td σ H1 fun x H2=>ty σ H2 fun y H3=> ∃a H4,x=.ref a/\yh H3 a y v H4/\D.nx σ H4
section
variable {o i e value:Expr}{pos' aaT:Pos}{td ty tv:TE}
theorem ZgP (hu:X.A.units+1<cLine)(hi:PE X i ty)(ho:PE X o td):PC X .In i o (Qt ty td):=by intro pins s σ H Q I h;refine aH (hi pins s σ H _ I h) fun iv s1 ⟨y,H1,I1,ry,q1⟩=>aH (ho pins s1 σ H1 _ I1 q1) fun u s2 ⟨x,H2,I2,rx,a,ov,ex,g,q2⟩=>?_;subst ex;obtain rfl:u=Value.ref a:=rx;exact aaA hu I2 g ry fun s3 I3=>⟨.bl ov.isSome,H2,I3,rfl,q2⟩
theorem ZfT (hu:X.A.units+1<cLine)(ho:PE X o td)(hi:PE X i ty)(hv:PE X value tv)(hs:swapsWith value (some (.Subscript o i pos')) pos.line X.env=pure false):
  PS X (.Assign [.Subscript o i pos'] value pos) (Q6 td ty tv):=by
 intro pins s σ H D I h;refine wpAny_Assign_Subscript (aH (hv pins s σ H _ I h) fun r s1 ⟨v,H1,I1,rv,q1⟩=>aH (ho pins s1 σ H1 _ I1 q1) fun u s2 ⟨x,H2,I2,rx,q2⟩=>aH (hi pins s2 σ H2 _ I2 q2) fun iv s3 ⟨y,H3,I3,ry,a,H4,ex,g,q3⟩=>?_) hs;subst ex;obtain rfl:u=Value.ref a:=rx;exact Zd2 hu I3 g ry rv fun s4 I4=>⟨σ,H4,I4,q3⟩
end
theorem Zfv (h:Heap)(hb:sysModules<h.objs.size):bI P w H (h.push {cls:=.type "dict",data:=.dict #[]}) h.objs.size (.dK []):=
 ⟨ZaJ _,Zdf.mpr (Ze4 (ZaR hb)),[],.nil,Heap.DictOf.new h⟩
theorem Zfu (h:Heap)(hb:sysModules<h.objs.size):bI P w H (h.push {cls:=.type "dict",data:=.dict #[]}) h.objs.size (.dT []):=
 ⟨ZaJ _,Zdf.mpr (Ze4 (ZaR hb)),[],.nil,_,#[],0,ZaD _ rfl,⟨rfl,rfl,rfl⟩,rfl,rfl,ZjG⟩
def Qs:TE:=fun _ H Q=> ∀p,H p=none->Q (.ref p) (upd H p (.dK []))
def Qr:TE:=fun _ H Q=> ∀p,H p=none->Q (.ref p) (upd H p (.dT []))
theorem N8:PE X (.Dict [] [] pos) Qs:=fun pins s σ H Q I h=>
 wpAny_Dict_empty ⟨.ref s.heap.objs.size,_,I.laid (a:=s.heap.objs.size) (o:=.dK []) (t':=s.toks) (fun _ _ q=>Zan _ q) (Zal _) (Zfv s.heap I.big),rfl,h _ (I.au.fresh (Zal _))⟩
theorem ZeF:PE X (.Dict [] [] pos) Qr:=fun pins s σ H Q I h=>
 wpAny_Dict_empty ⟨.ref s.heap.objs.size,_,I.laid (a:=s.heap.objs.size) (o:=.dT []) (t':=s.toks) (fun _ _ q=>Zan _ q) (Zal _) (Zfu s.heap I.big),rfl,h _ (I.au.fresh (Zal _))⟩
section
variable {κ:Type} [DecidableEq κ]
theorem Zd9 {kvs:List (κ×V)}(h:gW kvs k=none):¬k∈kvs.map (·.1):=by intro m;obtain⟨p,hp,e⟩:=Za2.mp m;have q:(kvs.any fun kv=>decide (kv.1=k))=true:=Zda.mpr ⟨p,hp,Zau e⟩;rw[JD,h]at q;exact absurd q .s
theorem ZfK {kvs:List (κ×V)}(h:gW kvs k=some v):k∈kvs.map (·.1):=by
 have q:(kvs.any fun kv=>decide (kv.1=k))=true:=by
  rw[JD,h]
  all_goals rfl
 obtain⟨p,hp,e⟩:=Zda.mp q;exact Za2.mpr ⟨p,hp,ZbP e⟩
theorem FF:∀{l:List κ}{k:κ},l.Nodup->¬k∈l->(l++[k]).Nodup
 | [],k,_,_=>.s
 |a::r,k,h,hk=>by
  obtain⟨h1,h2⟩:=ZcV.mp h;show(a::(r++[k])).Nodup;refine ZcV.mpr ⟨fun m=>?_,FF h2 fun m=>hk (Zas.mpr (Or.inr m))⟩;rcases Zay.mp m with q|q
  ·exact h1 q
  ·exact hk (Zas.mpr (Or.inl (ZaE.mp q).symm))
end
def fO (scope:Scope)(env:Env):List (Str×Addr):=scope.names.foldl (fun cs y=>if y.2==.free then (y.1,(env.cells.lookup y.1).getD 0)::cs else cs) []
theorem Jk {env:Env}(h:∀y∈scope.names,y.2=.free->∃c,env.cells.lookup y.1=some c):closureFor scope env=pure (fO scope env):=by
 unfold closureFor fO;have key:∀(l:List (Str×NameKind)) (cs:List (Str×Addr)),(∀y∈l,y.2=.free->∃c,env.cells.lookup y.1=some c)->
   (forIn l cs (fun x r=>match x with|(name,kind)=>if (kind==NameKind.free)=true then do let c <-cellOf env name;pure (ForInStep.yield ((name,c)::r)) else pure (ForInStep.yield r)):Sem (List (Str×Addr)))
    =pure (l.foldl (fun cs y=>if y.2==.free then (y.1,(env.cells.lookup y.1).getD 0)::cs else cs) cs):=by
  intro l
  induction l with
  |nil=>intro cs _;rfl
  |cons y l ih=>
   intro cs hl;obtain⟨n,k⟩:=y;rw[Zit,ZgA];by_cases hk:k=.free
   ·subst hk;obtain⟨c,hc⟩:=hl (n,.free) Zaz rfl;have cW:env.cells.lookup n=some c:=hc;have e1:cellOf env n=pure c:=by unfold cellOf;rw[cW]
    simp only[Zjd,Zgx,e1,cW,Zic,pure_bind];exact ih _ fun y hy=>hl y (Zaq _ hy)
   ·have hb:(k==NameKind.free)=false:=by simpa using hk
    simp only[hb,ZcX,Zh2,pure_bind];exact ih _ fun y hy=>hl y (Zaq _ hy)
 simp only[key scope.names [] h,pure_bind]
 all_goals rfl
theorem Jr {env:Env}(h:(fO scope env).lookup x=some c):c=(env.cells.lookup x).getD 0/\(x,NameKind.free)∈scope.names:=by
 unfold fO at h;have key:∀(l:List (Str×NameKind)) (cs:List (Str×Addr)),(l.foldl (fun cs y=>if y.2==.free then (y.1,(env.cells.lookup y.1).getD 0)::cs else cs) cs).lookup x=some c->
   (c=(env.cells.lookup x).getD 0/\(x,NameKind.free)∈l)∨cs.lookup x=some c:=by
  intro l
  induction l with
  |nil=>intro cs h;exact .inr h
  |cons y l ih=>
   intro cs h;obtain⟨n,k⟩:=y;rw[ZgA]at h;rcases ih _ h with ⟨h1,h2⟩|h'
   ·exact .inl ⟨h1,Zaq _ h2⟩
   ·by_cases hk:k=.free
    ·subst hk;simp only[Zjd,Zgx]at h';rw[Zev]at h';cases hx:x==n with
     |true=>
      rw[hx]at h';have e:x=n:=by simpa using hx
      subst e;have e':(env.cells.lookup x).getD 0=c:=Za3 h';exact .inl ⟨e'.symm,Zaz⟩
     |false=>rw[hx]at h';exact .inr h'
    ·have hb:(k==NameKind.free)=false:=by simpa using hk
     simp only[hb,ZcX,Zh2]at h';exact .inr h'
 rcases key _ _ h with h|h
 ·exact h
 ·simp at h
theorem UT (h:(x,NameKind.free)∈scope.names):∃c,(fO scope env).lookup x=some c:=by
 unfold fO;have key:∀(l:List (Str×NameKind)) (cs:List (Str×Addr)),((x,NameKind.free)∈l∨∃c,cs.lookup x=some c)->∃c,(l.foldl (fun cs y=>if y.2==.free then (y.1,(env.cells.lookup y.1).getD 0)::cs else cs) cs).lookup x=some c:=by
  intro l
  induction l with
  |nil=>
   intro cs h;rcases h with h|h
   ·simp at h
   ·exact h
  |cons y l ih=>
   intro cs h;obtain⟨n,k⟩:=y;rw[ZgA];refine ih _ ?_;by_cases hk:k=.free
   ·subst hk;simp only[Zjd,Zgx];rw[Zev];cases hx:x==n with
    |true=>exact .inr ⟨_,rfl⟩
    |false=>
     rcases h with h|h
     ·rcases Zas.mp h with e|h
      ·have e1:x=n:=ZbT Prod.fst e;simp[e1]at hx
      ·exact .inl h
     ·exact .inr h
   ·have hb:(k==NameKind.free)=false:=by simpa using hk
    simp only[hb,ZcX,Zh2];rcases h with h|h
    ·rcases Zas.mp h with e|h
     ·exact absurd (ZbT Prod.snd e).symm hk
     ·exact .inl h
    ·exact .inr h
 exact key _ _ (.inl h)
def rl (env:Env)(y:Str×NameKind):Str×NameKind:=if (y.2==NameKind.free&&env.scope.kind==.function&&env.kindOf y.1==some .cell) then (y.1,NameKind.cell) else y
theorem MA (env:Env)(y:Str×NameKind):(rl env y).1=y.1:=by unfold rl;split<;>rfl
theorem ZfR (h:y.2=.free):(rl env y).2=.cell∨(rl env y).2=.free:=by
 unfold rl;split
 ·exact .inl rfl
 ·exact .inr h
theorem ZgK (h:y.2≠.free):rl env y=y:=by
 have hb:(y.2==NameKind.free)=false:=by simpa using h
 unfold rl;rw[hb];simp
theorem Wd (scope:Scope)(env:Env):(relabel scope env).names=scope.names.map (rl env):=rfl
theorem Za1 (hc:∀y∈scope.names,y.2≠.cell)(h:(relabel scope env).names.lookup x=some .cell∨(relabel scope env).names.lookup x=some .free):(x,NameKind.free)∈scope.names:=by
 rw[Wd]at h;have key:∀(l:List (Str×NameKind)),(∀y∈l,y.2≠.cell)->(∃k,(k=NameKind.cell∨k=.free)/\(l.map (rl env)).lookup x=some k)->(x,NameKind.free)∈l:=by
  intro l
  induction l with
  |nil=>rintro _ ⟨k,_,h⟩;simp at h
  |cons y l ih=>
   rintro hl ⟨k',bR,h⟩;obtain⟨n,k⟩:=y;have e1:(rl env (n,k))=(n,(rl env (n,k)).2):=Prod.ext (MA env _) rfl;rw[Zbv,e1,Zev]at h;cases hx:x==n with
   |true=>
    have e:x=n:=by simpa using hx
    subst e;by_cases hk:k=.free
    ·subst hk;exact Zaz
    ·rw[hx]at h;rw[ZgK (env:=env) (y:=(x,k)) hk]at h;have e:k=k':=Za3 h;subst e;rcases bR with z|z
     ·exact absurd z (hl _ Zaz)
     ·exact absurd z hk
   |false=>rw[hx]at h;exact Zaq _ (ih (fun y hy=>hl y (Zaq _ hy)) ⟨k',bR,h⟩)
 refine key _ hc ?_;rcases h with h|h
 ·exact⟨_,.inl rfl,h⟩
 ·exact⟨_,.inr rfl,h⟩
theorem Wc (h:scope.names.lookup x=some .free):(relabel scope env).names.lookup x=some .cell∨(relabel scope env).names.lookup x=some .free:=by
 rw[Wd];have key:∀(l:List (Str×NameKind)),l.lookup x=some .free->(l.map (rl env)).lookup x=some .cell∨(l.map (rl env)).lookup x=some .free:=by
  intro l
  induction l with
  |nil=>intro h;simp at h
  |cons y l ih=>
   intro h;obtain⟨n,k⟩:=y;have e1:(rl env (n,k))=(n,(rl env (n,k)).2):=Prod.ext (MA env _) rfl;rw[Zbv,e1,Zev];rw[Zev]at h;cases hx:x==n with
   |true=>
    rw[hx]at h;have e:k=.free:=Za3 h;rcases ZfR (env:=env) (y:=(n,k)) e with z|z
    ·exact .inl (ZbT some z)
    ·exact .inr (ZbT some z)
   |false=>rw[hx]at h;exact ih h
 exact key _ h
def aV (X:Cx)(N':List Str)(scope:Scope)(C:Addr)(s2:Shared)(H2:Hp)(fp:List Addr):Cx:=
 {X with N:=N',cR:=s2,nZ:=H2,env:=compEnvC scope (fO scope X.env) C X.env,outer:=X.stack,stack:=X.stack,ex:=fp,fn:=fun _=>false,pn:=[],xe:=fun _ _=>False}
def An (so si:Scope)(N N':List Str)(ts:Nat)(cA:List Nat):Bool:=
 decide (si.kind=.function)&&si.names.all (fun y=>y.2 !=.cell)&&si.names.all (fun y=>y.2 !=.local||si.names.lookup y.1==some .local)
 &&si.names.all (fun y=>y.2 !=.free||so.names.lookup y.1==some .cell||so.names.lookup y.1==some .free)
 &&decide N'.Nodup&&decide (N'.length=ts+cA.length)
 &&(List.range cA.length).all (fun k=>(N'[ts+k]?==(cA[k]?.bind fun j=>N[j]?))&&(N'[ts+k]?.isSome)&&(N'[ts+k]?.all fun x=>so.names.lookup x !=some .local&&si.names.lookup x==some .free))
def pG (ts:Nat)(cA:List Nat)(σ:St):St:=List.replicate ts none++cA.map fun j=>(σ[j]?).join
structure Gr (X:Cx)(N':List Str)(ts:Nat)(cA:List Nat)(scope:Scope):Prop where
 kind:scope.kind=.function
 lN:∀y∈scope.names,y.2≠.cell
 names:∀y∈scope.names,y.2=.local->scope.names.lookup y.1=some .local
 free:∀y∈scope.names,y.2=.free->X.env.kindOf y.1=some .cell∨X.env.kindOf y.1=some .free
 nd:N'.Nodup
 len:N'.length=ts+cA.length
 aaF:∀k j,cA[k]?=some j->∃x,N'[ts+k]?=some x/\X.N[j]?=some x/\X.env.kindOf x≠some .local/\scope.names.lookup x=some .free
theorem Wm :∀{l:List (Str×NameKind)},l.lookup x=some k->(x,k)∈l
 | [],h=>by simp at h
 |(n,j)::l,h=>by
  rw[Zev]at h;cases hx:x==n with
  |true=>
   rw[hx]at h;have e:x=n:=by simpa using hx
   have e':j=k:=Za3 h;subst e e';exact Zaz
  |false=>rw[hx]at h;exact Zaq _ (Wm h)
theorem Nj (h:An X.env.scope scope X.N N' ts cA=true):Gr X N' ts cA scope:=by
 unfold An at h;simp only[Zap]at h;obtain⟨⟨⟨⟨⟨⟨h1,h2⟩,h3⟩,h4⟩,h5⟩,h6⟩,h7⟩:=h;refine⟨ZbP h1,fun y hy z=>?_,fun y hy z=>?_,fun y hy z=>?_,ZbP h5,ZbP h6,fun k j hk=>?_⟩
 ·have q:=ZaK.mp h2 y hy;rw[z]at q;exact absurd q .d
 ·have q:=ZaK.mp h3 y hy;rw[z]at q;simpa using q
 ·have q:=ZaK.mp h4 y hy;rw[z]at q;simpa[Env.kindOf] using q
 ·have bj:k<cA.length:=(Zai.mp hk).1;have q:=ZaK.mp h7 k (Zbf.mpr bj);simp only[Zap]at q;obtain⟨⟨q1,q2⟩,q3⟩:=q;obtain⟨x,hx⟩:=Zc5.mp q2;rw[hx]at q1 q3;rw[hk]at q1;have e1:some x=X.N[j]? :=by simpa using q1
  have CF:(X.env.scope.names.lookup x !=some .local&&scope.names.lookup x==some .free)=true:=q3;simp only[Zap]at CF;refine⟨x,hx,e1.symm,?_,by simpa using CF.2⟩;have z:=CF.1;intro e;have e':X.env.scope.names.lookup x=some .local:=e;rw[e']at z;exact absurd z .d
section
variable {σ:St}
theorem Zgm {fp:List Addr}{t':Nat}{C:Addr}(S:Gr X N' ts cA scope)(I:ag X pins σ H s)(hf:∀b∈fp,cI X pins H b)
  (ho:∀b∈fp,∃o,s.heap.get? b=some o) (hC:s.heap.objs.size<=C) (hn:h'.Ns C m) (k:∀b o,s.heap.get? b=some o->h'.get? b=some o):
  ag (aV X N' scope C s H fp) [] (pG ts cA σ) H {s with heap:=h',toks:=t'} :=by
 have sub:∀x c,(fO scope X.env).lookup x=some c->X.env.cells.lookup x=some c:=fun x c e=>by obtain⟨e1,e2⟩:=Jr e;obtain⟨c',cW⟩:=I.ok.has x (S.free _ e2 rfl);rw[cW]at e1;rw[cW,e1];rfl
 have jM:∀b o,s.heap.get? b=some o->b≠C:=fun b o e=>ZaR (ZaG (ZaA e) hC);refine⟨⟨I.ok.mod,?_,I.ok.glob,I.ok.blt,hC,fun x y c e1 e2=>I.ok.inj x y c (sub x c e1) (sub y c e2),fun x hx=>?_,fun x c z _=>absurd z Zam,I.ok.hd,I.ok.frames,.inl rfl,fun b hb=>?_,fun b o e=>I.bs b o e,Zbb I.ok.mC I.sz,fun b o e hb=>?_,fun b hb=>?_,I.stack,I.uX⟩,
  rfl,I.bare,Un.kept k,⟨m,hn,fun i x v e1 e2 e3=>?_⟩,fun x c e=>?_,I.au.fresh hC,fun x c e=>I.iY x c (sub x c e),fun p hp=>absurd (show p∈([]:List (Addr×Obj)) from hp) .s,I.au.kept k,?_⟩
 ·show(relabel scope X.env).kind=.function;exact S.kind
 ·exact UT (Za1 S.lN hx)
 ·obtain⟨o,e⟩:=ho b hb;refine⟨jM b o e,fun x c ec=>?_⟩;exact(hf b hb).2.2.2.2.1 x c (sub x c ec)
 ·obtain⟨e1,e2⟩:=I.bs b o e;obtain⟨f0,f1,f2,f3,f4,f5⟩:=hf b hb;rcases f3 with z|z
  ·exact I.ok.qG b o e z
  ·exact absurd (ZaG (ZaA (I.ok.bs b o e).1) z) (ZbM _)
 ·intro z;obtain⟨f0,f1,f2,f3,f4,f5⟩:=hf b hb;rcases Zas.mp (I.yA b z) with q|q
  ·exact f1 q
  ·exact f2 q
 ·-- the aa1 values
  have hlen:¬i<ts:=fun bj=>by unfold pG at e2;rw[Zbw (by simpa using bj),Zef]at e2;split at e2<;>cases e2
  have xC:(cA.map fun j=>(σ[j]?).join)[i-ts]?=some (some v):=by unfold pG at e2;rw[Zbt (by simpa using hlen),Ze7]at e2;exact e2
  rw[Zby]at xC;cases hc:cA[i-ts]? with
  |none=>rw[hc]at xC;cases xC
  |some j=>
   rw[hc]at xC;have Ai:(σ[j]?).join=some v:=Za3 xC;have e4:σ[j]?=some (some v):=by
    cases q:σ[j]? with
    |none=>rw[q]at Ai;cases Ai
    |some o=>rw[q]at Ai;exact ZbT some Ai
   obtain⟨x',n1,n2,n3,n4⟩:=S.aaF _ _ hc;have ei:ts+(i-ts)=i:=.o;rw[ei]at n1;have ex:x=x':=by have mq:N'[i]?=some x:=e1;rw[n1]at mq;exact(Za3 mq).symm
   subst ex;obtain⟨mX,hnX,hl⟩:=I.loc;have Pz:pN X.env.scope x:=by
    rcases S.free _ (Wm n4) rfl with z|z
    ·exact .inr (.inl z)
    ·exact .inr (.inr z)
   obtain⟨u,ru,lk⟩:=hl j x v n2 e4 Pz;refine⟨u,ru,?_⟩;rcases lk with ⟨z,_⟩|⟨z,c,ec,o9⟩
   ·exact absurd z n3
   ·obtain⟨c',cW⟩:=UT (env:=X.env) (Wm n4);have:=sub x c' cW;rw[ec]at this;cases this;refine .inr ⟨?_,c,cW,o9.keeps k⟩;exact Wc n4
 ·obtain⟨v,z⟩:=I.cell x c (sub x c e);exact⟨v,z.keeps k⟩
 ·show(pG ts cA σ).length=N'.length;unfold pG;rw[Zak,Ze7,Zat,S.len]
end
def AccAt (h:Heap)(D:Addr)(ys:List V):Prop:=ys.length<=sizeLine/\∃(aa:List Value) (n:Nat),Vals ys aa/\h.get? D=some {cls:=.type "list",data:=.seq aa.toArray n}
theorem AccAt.keep {D:Addr}(a:AccAt h D ys)(k:∀o,h.get? D=some o->h'.get? D=some o):AccAt h' D ys:=by obtain⟨z,aa,n,r,e⟩:=a;exact⟨z,aa,n,r,k _ e⟩
abbrev TC:=List V->St->Hp->(List V->St->Hp->Prop)->Prop
def sd (Y:Cx)(D:Addr)(m:Sem PySem.Fin->Sem PySem.Fin)(t:TC):Prop:=
 ∀(pins:List (Addr×Obj)) (s:Shared) (σ:St) (H:Hp) (ys:List V) (Q:List V->St->Hp->Prop) (k:Sem PySem.Fin) (R:PySem.Fin->Shared->Prop),ag Y pins σ H s->cI Y pins H D->AccAt s.heap D ys->t ys σ H Q->
  (∀s' dn ao H',ag Y pins ao H' s'->cI Y pins H' D->AccAt s'.heap D dn->Q dn ao H'->wpAny (model Y.prog Y.w) Y.A k R (fun _ _=>False) s')->wpAny (model Y.prog Y.w) Y.A (m k) R (fun _ _=>False) s
def GQ (ifs:List Expr)(env:Env):Sem Bool:=forIn ifs true fun c r=>if r=true then do let ok <-isTrue c env (eval c env);pure (ForInStep.yield ok) else pure (ForInStep.yield r)
def rZ (Y:Cx)(ifs:List Expr)(t:TT):Prop:=
 ∀(pins:List (Addr×Obj)) (s:Shared) (σ:St) (H:Hp) (Q:Bool->Hp->Prop),ag Y pins σ H s->t σ H Q->wpAny (model Y.prog Y.w) Y.A (GQ ifs Y.env) (TP Y pins σ Q) Y.xe s
def pZ:TT:=fun _ H Q=>Q true H
section
variable {Y:Cx}{D:Addr}
theorem Ym:rZ Y [] pZ:=fun pins s σ H Q I h=>wpAny_tests_nil ⟨H,I,h⟩
theorem Ys (hc:PT Y c t):rZ Y [c] t:=fun pins s σ H Q I h=>wpAny_tests_one (hc pins s σ H Q I h)
def Qp (te:TE):TC:=fun ys σ H Q=>te σ H fun v H1=>ys.length<sizeLine/\Q (ys++[v]) σ H1
theorem AccAt.lN (a:AccAt h D ys):∀b∈[D],∃o,h.get? b=some o/\∀v,o.data≠.cell v:=fun b hb=>by
 have e:b=D:=by simpa using hb
 subst e;obtain⟨z,aa,n,r,e⟩:=a;exact⟨_,e,fun v z=>by have z':Data.seq aa.toArray n=Data.cell v:=z;cases z'⟩
theorem AccAt.through {s':Shared}(a:AccAt h D ys)(I:ag Y (pins++ng [D] h) ao H' s'):AccAt s'.heap D ys/\H' D=none:=by obtain⟨z,aa,n,r,e⟩:=a;have q:=I.pin (D,_) (Zaw _ (Zaw _ (Yn (ZaE.mpr rfl) e)));exact⟨⟨z,aa,n,r,q.1⟩,q.2.1⟩
theorem ZK (hx:Y.xe=fun _ _=>False)(he:PE Y elt te):
  sd Y D (fun k=>(do let _ <-call (.builtin "list.append") [.ref D,<-eval elt Y.env]) >>=fun _=>k) (Qp te):=by
 intro pins s σ H ys Q k R I f a h hk;refine gc (ZbR (Q:=fun _ s'=> ∃dn ao H',ag Y pins ao H' s'/\cI Y pins H' D/\AccAt s'.heap D dn/\Q dn ao H') ?_ (fun _ s' ⟨dn,ao,H',q1,q2,q3,q4⟩=>hk s' dn ao H' q1 q2 q3 q4) fun _ _ z=>z);have I':=I.pinned (fp:=[D]) (fun b hb=>by rw[ZaE.mp hb];exact f) a.lN;refine gc (ZbR (he _ s σ H _ I' h) (fun u s1 ⟨v,H1,I1,ru,hz,q⟩=>?_) fun e s1 z=>by rw[hx]at z;exact z);obtain⟨a1,n1⟩:=a.through I1;have f1:cI Y pins H1 D:=⟨n1,f.2⟩;obtain⟨z,aa,n,r,e⟩:=a1;have hl:=r.length;refine gc (ZhV F.slot_list_append ⟨_,e,rfl⟩ F.entry_list_append (F.args_list_append_2 _ _) (PySem.list_append D aa.toArray n u (by rw[Zar];omega)) ⟨e,Zav ?_⟩);have q2:=PySem.IsL.update e (·.push u);obtain⟨f0,g1,g2,g3,g4,g5⟩:=f1;have I2:ag Y pins σ H1 {s1 with heap:=s1.heap.update D (Obj.mapSeq (·.push u))} :=I1.lF.turned (t':=s1.toks) (it:=D) (fun b o hb eb=>(Zb4 s1.heap _ (Ze4 hb)).trans eb) f0 g1 g3 g4 g5;refine⟨ys++[v],σ,H1,I2,⟨f0,g1,g2,g3,g4,g5⟩,⟨by rw[Zak,List.length_singleton];omega,aa++[u],(if ((aa.toArray.push u).size==aa.toArray.size)=true then n else n+1),r.append (.cons ru .nil),?_⟩,q⟩;have e3:aa.toArray.push u=(aa++[u]).toArray:=.s;rw[<-e3];exact q2
def inner (elt:Expr)(gens:List Comprehension)(scope:Scope)(pos:Pos)(d:Nat)(acc:Value)(env:Env)(k:Sem PySem.Fin):Sem PySem.Fin:=
 match gens[d+1]? with
 |some g'=>eval g'.iter env >>=fun x=>standAt g'.iter.pos >>=fun _=>foldedSetIterable g'.iter env x >>=fun x=>holding [x] (pyIter x) >>=fun qL=>runOwn (.compStart (.ListComp elt gens scope pos) (d+1) qL acc env) env >>=fun _=>k
 |none=>(do let _ <-call (.builtin "list.append") [acc,<-eval elt env]) >>=fun _=>k
set_option maxHeartbeats 400000 in
theorem Zcb (elt tg iter:Expr)(ifs:List Expr)(gens:List Comprehension)(scope:Scope)(pos:Pos)(d:Nat)(it acc:Value)(env:Env)(hg:gens[d]?=some ⟨tg,iter,ifs,0⟩)(h2:∀g',gens[d+1]?=some g'->g'.is_async=0):
  compTurn (.ListComp elt gens scope pos) d it acc env=(standAt iter.pos >>=fun _=>pyNext it >>=fun r=>match r with
   |none=>pure (.done .next)
   |some v=>letOwnedTupleGo tg it v >>=fun _=>assign tg env v >>=fun _=>GQ ifs env >>=fun ok=>if ok=true then inner elt gens scope pos d acc env (again (.compLoop (.ListComp elt gens scope pos) d it acc env)) else again (.compLoop (.ListComp elt gens scope pos) d it acc env)):=by
 unfold compTurn inner;dsimp only;rw[hg];generalize hn:gens[d+1]?=o;cases o with
 |none=>rfl
 |some g'=>have e:=h2 g' hn;obtain⟨t',i',f',a'⟩:=g';have e':a'=0:=e;subst e';rfl
def ke (g:TG)(tt:TT)(ti:TC)(J:It):TC:=fun ys σ H Q=> ∃W:Nat->Nat->List V->St->Hp->Prop,(∃m,W 0 m ys σ H)/\∀i m ys σ H,W i m ys σ H->
 (J.stop i H/\Q ys σ H)∨(J.go i H/\∃N:List V->St->Hp->Prop,(∀dn ao H',N dn ao H'->∃m',m'<m/\W (i+1) m' dn ao H')/\
  ∀x H',J.uM i H x H'->g x σ H' fun bB H2=>tt bB H2 fun b H3=>if b=true then ti ys bB H3 N else N ys bB H3)
theorem W0 {J:It}{n:Nat}{g:TG}{σ:St}{Q:List V->St->Hp->Prop}(Pv:Nat->List V->St->Hp->Prop)(h0:Pv 0 ys σ H)(go:∀i ys σ H,i<n->Pv i ys σ H->J.go i H)(sp:∀ys σ H,Pv n ys σ H->J.stop n H/\Q ys σ H)
  (hs:∀i ys σ H x H',i<n->Pv i ys σ H->J.uM i H x H'->g x σ H' fun bB H2=>tt bB H2 fun b H3=>if b=true then ti ys bB H3 (Pv (i+1)) else Pv (i+1) ys bB H3):ke g tt ti J ys σ H Q:=by
 refine⟨fun i m ys σ H=>m=n-i/\i<=n/\Pv i ys σ H,⟨n,rfl,ZaJ _,h0⟩,?_⟩;rintro i m ys σ H ⟨rfl,hi,p⟩;by_cases bj:i<n
 ·exact .inr ⟨go i ys σ H bj p,Pv (i+1),fun dn ao H' p'=>⟨n-(i+1),Nat.sub_lt_sub_left bj (Zib i),rfl,bj,p'⟩,fun x H' y=>hs i ys σ H x H' bj p y⟩
 ·obtain rfl:i=n:=Ze6 hi (Zja bj);exact .inl (sp ys σ H p)
theorem OS {iter:Expr}{gens:List Comprehension}{σ:St}
  (hx:Y.xe=fun _ _=>False) (hc:Y.calm=true) (hg:gens[d]?=some ⟨tg,iter,ifs,0⟩) (T:Turn Y.prog Y.w Y.K tg J fp it tn) (hf:∀b∈fp,cI Y pins H b) (st:tn 0 s.heap) (hD:D∉fp)
  (h2:∀g',gens[d+1]?=some g'->g'.is_async=0) (pg:PG Y tg g) (pt:rZ Y ifs tt) (pi:sd Y D (inner elt gens scope pos d (.ref D) Y.env) ti)
  (I:ag Y pins σ H s) (f:cI Y pins H D) (a:AccAt s.heap D ys) (h:ke g tt ti J ys σ H Q):
  codeAny (model Y.prog Y.w) Y.A (.compLoop (.ListComp elt gens scope pos) d (.ref it) (.ref D) Y.env) (fun r s'=>match r with
   | .ok _=> ∃dn ao H',ag Y pins ao H' s'/\cI Y pins H' D/\AccAt s'.heap D dn/\Q dn ao H'
   | .error _=>False) s:=by
 obtain⟨W,⟨m0,w0⟩,turn⟩:=h;have stat:∀{H':Hp},(∀b∈fp,H' b=none)->∀b∈fp,cI Y pins H' b:=fun hn b hb=>⟨hn b hb,(hf b hb).2⟩;refine codeAny_loop rfl (fun n s'=> ∃i dn ao H',ag Y pins ao H' s'/\cI Y pins H' D/\AccAt s'.heap D dn/\tn i s'.heap/\(∀b∈fp,H' b=none)/\W i n dn ao H') (fun n s3 hI=>?_) m0 ⟨0,ys,σ,H,I,f,a,st,fun b hb=>(hf b hb).1,w0⟩;obtain⟨i,jc,j9,H3,I3,f3,a3,bw,Ac,w3⟩:=hI;show wpAny _ Y.A ((compTurn (.ListComp elt gens scope pos) d (.ref it) (.ref D) Y.env).onRaise (fun x=>do noteFrame x Y.env;theTreesLotGoes x)) _ _ s3;refine wpAny_noted (ZbR (E:=fun _ _=>False) ?_ (fun _ _ q=>q) fun _ _ z=>z.elim);rw[Zcb elt tg iter ifs gens scope pos d (.ref it) (.ref D) Y.env hg h2];refine gc (Zee (gc ?_));have aD:∀{h h':Heap},(∀b o,b∉fp->h.get? b=some o->h'.get? b=some o)->∀{zs},AccAt h D zs->AccAt h' D zs:=fun k _ q=>q.keep fun o e=>k D o hD e;have Pb:=I3.pinned (fp:=[D]) (fun b hb=>by rw[ZaE.mp hb];exact f3) a3.lN;have G4:∀b∈fp,cI Y (pins++ng [D] s3.heap) H3 b:=fun b hb=>by
  obtain⟨g0,g1,g2,g3,g4,g5⟩:=stat Ac b hb;refine⟨g0,g1,g2,g3,g4,fun p hp=>?_⟩;rcases Zay.mp hp with z|z
  ·exact g5 p (ZaS _ z)
  ·rcases Zay.mp z with z|z
   ·exact g5 p (Zaw _ z)
   ·intro q;have e:p.1=D:=by simpa using (WY z).1
    exact hD (by rw[<-e,q];exact hb)
 rcases turn i n jc j9 H3 w3 with ⟨stop,qn⟩|⟨go,N,hN,step⟩
 ·refine ZbR (T.done Y rfl rfl rfl hc i _ s3 j9 H3 (fun _ _=>False) Pb G4 bw stop) (fun r s4 ⟨hr,I4⟩=>?_) fun _ _ z=>z;subst hr;obtain⟨a4,n4⟩:=a3.through I4;exact Zav ⟨jc,j9,H3,I4.lF,f3,a4,qn⟩
 ·refine ZbR (T.item Y rfl rfl rfl hc i _ s3 j9 H3 (fun _ _=>False) Pb G4 bw go) (fun r s4 ⟨u,hr,h4⟩=>?_) fun _ _ z=>z;subst hr;refine gc (ZbR h4 (fun _ s5 ⟨x,H5,I5,r5,y5,cg,Ez⟩=>?_) fun _ _ z=>z);obtain⟨a5,n5⟩:=a3.through I5;have f5:cI Y pins H5 D:=⟨n5,f3.2⟩;have V6:∀b∈D::fp,∃o,s5.heap.get? b=some o/\∀v,o.data≠.cell v:=fun b hb=>by
   rcases Zas.mp hb with e|hb
   ·exact a5.lN b (by simp[e])
   ·exact T.obj _ _ cg b hb
  have F6:=I5.lF.pinned (fp:=D::fp) (fun b hb=>by
   rcases Zas.mp hb with e|hb
   ·rw[e];exact f5
   ·exact stat Ez b hb) V6
  refine gc (ZbR (pg _ s5 j9 H5 x u _ F6 r5 (step x H5 y5)) (fun _ s6 ⟨uK,H6,I6,q6⟩=>?_) fun _ _ z=>by rw[hx]at z;exact z);refine gc (ZbR (pt _ s6 uK H6 _ I6 q6) (fun b s7 ⟨H7,I7,q7⟩=>?_) fun _ _ z=>by rw[hx]at z;exact z);have HV:∀{fU:St}{H7:Hp}{s7:Shared},ag Y (pins++ng (D::fp) s5.heap) fU H7 s7->AccAt s7.heap D jc/\H7 D=none:=fun {fU H7 s7} J=>by obtain⟨z,aa,n,r,e⟩:=id a5;have q:=J.pin (D,_) (Zaw _ (Zaw _ (Yn Zaz e)));exact⟨⟨z,aa,n,r,q.1⟩,q.2.1⟩
  have HU:∀{fU:St}{H7:Hp}{s7:Shared},ag Y (pins++ng (D::fp) s5.heap) fU H7 s7->tn (i+1) s7.heap/\∀b∈fp,H7 b=none:=fun {fU H7 s7} J=>by refine⟨T.keep _ _ _ cg fun b hb o e=>(J.pin (b,o) (Zaw _ (Zaw _ (Yn (Zaq _ hb) e)))).1,fun b hb=>?_⟩;obtain⟨o,e,dd⟩:=T.obj _ _ cg b hb;exact(J.pin (b,o) (Zaw _ (Zaw _ (Yn (Zaq _ hb) e)))).2.1
  cases b with
  |false=>simp only[ZcX,Zh2]at q7 |-;obtain⟨m',hm,w7⟩:=hN _ _ _ q7;obtain⟨a7,n7⟩:=HV I7;obtain⟨t7,r7⟩:=HU I7;exact Zav ⟨rfl,m',hm,i+1,jc,uK,H7,I7.lF,⟨n7,f3.2⟩,a7,t7,r7,w7⟩
  |true=>
   simp only[Zgx]at q7 |-;obtain⟨a7,n7⟩:=HV I7;obtain⟨t7,r7⟩:=HU I7;have I7':=I7.lF.pinned (fp:=fp) (stat r7) (T.obj _ _ t7);have f7:cI Y (pins++ng fp s7.heap) H7 D:=by
    obtain⟨g0,g1,g2,g3,g4,g5⟩:=f3;refine⟨n7,g1,g2,g3,g4,fun p hp=>?_⟩;rcases Zay.mp hp with z|z
    ·exact g5 p (ZaS _ z)
    ·rcases Zay.mp z with z|z
     ·exact g5 p (Zaw _ z)
     ·intro q;exact hD (by rw[<-q];exact(WY z).1)
   refine pi _ s7 uK H7 jc N _ _ I7' f7 a7 q7 fun s8 mJ ym H8 I8 f8 a8 q8=>?_;obtain⟨m',hm,w8⟩:=hN _ _ _ q8;refine Zav ⟨rfl,m',hm,i+1,mJ,ym,H8,I8.lF,⟨f8.1,f3.2⟩,a8,T.keep _ _ _ t7 fun b hb o e=>(I8.pin (b,o) (Zaw _ (Zaw _ (Yn hb e)))).1,fun b hb=>?_,w8⟩;obtain⟨o,e,dd⟩:=T.obj _ _ t7 b hb;exact(I8.pin (b,o) (Zaw _ (Zaw _ (Yn hb e)))).2.1
theorem UR {elt tg iter:Expr}{ifs:List Expr}{gens:List Comprehension}{d:Nat}{it:Addr}{R:Result->Shared->Prop}{env:Env}{acc:Value}{fp:List Addr}{tn:Nat->Heap->Prop}{J:It}{K:Zke}
  (hg:gens[d]?=some ⟨tg,iter,ifs,0⟩) (T:Turn prog w K tg J fp it tn) {i:Nat} (st:tn i s.heap) (h:codeAny (model prog w) A (.compLoop (.ListComp elt gens scope pos) d (.ref it) acc env) R s):
  codeAny (model prog w) A (.compStart (.ListComp elt gens scope pos) d (.ref it) acc env) R s:=by
 refine codeAny_of_tree ?_;show wpAny _ _ ((compStart (.ListComp elt gens scope pos) d (.ref it) acc env).onRaise (fun x=>do noteFrame x env;standAt theWindowsPlace)) _ _ s;refine wpAny_notedAt ?_;have XJ:(clausesOf (.ListComp elt gens scope pos))[d]?=some ⟨tg,iter,ifs,0⟩:=hg;unfold compStart;rw[XJ];show wpAny _ _ (ask >>=_) _ _ s;refine gc (wpAny_askSetting (wpAny_ite ?_));split
 ·first
   |exact gc (Zav (Zav (And.intro rfl h)))
   |exact Zav (And.intro rfl h)
 ·refine gc (Zdc ?_);show wpAny _ _ (standAt iter.pos >>=_) _ _ s;exact gc (Zee (gc (T.self A i s _ _ st (Zav (And.intro rfl h)))))
def Qh (wi:TI)(g:TG)(tt:TT)(ti:TC):TC:=fun ys σ H Q=>wi σ H fun J H1=>ke g tt ti J ys σ H1 Q
theorem ZeB {elt tg iter:Expr}{ifs:List Expr}{gens:List Comprehension}{d:Nat}{wi:TI}{g:TG}{tt:TT}{ti:TC}
  (hx:Y.xe=fun _ _=>False) (hc:Y.calm=true) (hg:gens[d+1]?=some ⟨tg,iter,ifs,0⟩) (hi:PI Y tg iter wi) (pg:PG Y tg g) (pt:rZ Y ifs tt) (pi:sd Y D (inner elt gens scope pos (d+1) (.ref D) Y.env) ti)
  (hs:∀x,foldedSetIterable iter Y.env x=pure x) (h2:∀g',gens[d+1+1]?=some g'->g'.is_async=0):sd Y D (inner elt gens scope pos d (.ref D) Y.env) (Qh wi g tt ti):=by
 intro pins s σ H ys Q k R I f a h hk;unfold inner;rw[hg];have I':=I.pinned (fp:=[D]) (fun b hb=>by rw[ZaE.mp hb];exact f) a.lN;refine gc (ZbR (hi _ s σ H _ I' h) (fun v s1 h1=>?_) fun _ _ z=>by rw[hx]at z;exact z);refine gc (Zee (gc (ZjK (hs v) (gc (ZcT (ZbR h1 (fun qL s2 h2=>?_) fun _ _ z=>by rw[hx]at z;exact z))))));obtain⟨it,fp,tn,J,H2,e,I2,T,aF,f2,q2⟩:=h2;subst e;obtain⟨a2,n2⟩:=a.through I2;have fD:cI Y pins H2 D:=⟨n2,f.2⟩;have hD:D∉fp:=fun z=>by obtain⟨z1,aa,n,r,e⟩:=a;exact(f2 D z).2.2.2.2.2 (D,_) (Zaw _ (Zaw _ (Yn (ZaE.mpr rfl) e))) rfl
 have Lm:∀b∈fp,cI Y pins H2 b:=fun b hb=>by
  obtain⟨g0,g1,g2,g3,g4,g5⟩:=f2 b hb;exact⟨g0,g1,g2,g3,g4,fun p hp=>g5 p (by
   rcases Zay.mp hp with z|z
   ·exact ZaS _ z
   ·exact Zaw _ (ZaS _ z))⟩
 refine gc (wpAny_runOwn (ZfG (UR hg T aF (OS (Q:=Q) hx hc hg T Lm aF hD h2 pg pt pi I2.lF fD a2 q2)) fun r s' hr=>?_));cases r with
 |ok fl=>obtain⟨dn,ao,H',q1,q2,q3,q4⟩:=hr;exact hk s' dn ao H' q1 q2 q3 q4
 |error e=>exact hr.elim
end
section
variable {σ:St}{s':Shared}
theorem Nh {C D:Addr}{fp:List Addr}(I:ag X pins σ H s)(hf:∀b∈fp,cI X pins H b)(hC:s.heap.objs.size<=C)(hD:s.heap.objs.size<=D)(rD:D≠C)
  (J:ag (aV X N' scope C s H fp) pl ao H' s') (n:H' D=none) (a:AccAt s'.heap D ys) (sb:Heap.SameBut C s'.heap h'):ag X pins σ (upd H' D (.lst ys)) {s' with heap:=h'} :=by
 have jM:∀b o,s.heap.get? b=some o->b≠C:=fun b o e=>ZaR (ZaG (ZaA e) hC);have SW:∀b o,s.heap.get? b=some o->b≠D:=fun b o e=>ZaR (ZaG (ZaA e) hD);have CY:∀b o,H b=some o->b≠D:=fun b o e=>ZaR (ZaG (I.au.lt e) hD);have fC:H' C=none:=J.free;have u:Un (bz X.stack) fp H H' s.heap s'.heap:=J.base;refine I.LP (s':= {s' with heap:=h'}) (ch:=fp) J.os ⟨fun b o e nb hb hx=>(sb.2 b (jM b o e)).trans (u.keep b o e nb hb hx),fun b o e nb hb hx=>?_,fun b o e nb hx=>by rw[Zh (SW b o e)];exact u.free b o e nb hx,fun b o e hx=>?_,
  fun b xs e=>by rw[Zh (CY b _ e)];exact u.je b xs e,fun b o xs e=>by rw[Zh (CY b _ e)];exact u.iX b o xs e,fun b ps e=>by rw[Zh (CY b _ e)];exact u.iH b ps e⟩ (fun b v e=>?_) J.bare fun b hb=>?_
 ·obtain⟨sl,q⟩:=u.slot b o e nb hb hx;exact⟨sl,(sb.2 b (jM b o e)).trans q⟩
 ·obtain⟨o',q⟩:=u.there b o e hx;exact⟨o',(sb.2 b (jM b o e)).trans q⟩
 ·by_cases hb:b=D
  ·subst hb;rw[aj]at e;cases e;obtain⟨z,aa,k,r,q⟩:=a;exact⟨z,aa,k,r,(sb.2 b rD).trans q⟩
  ·rw[Zh hb]at e;refine(J.au b v e).cY (fun c w hc q=>(sb.2 c ?_).trans q) (fun c q=>by rw[Zh (Ze q n)];exact q) fun c xs q=>by rw[Zh (Ze q n)];exact q
   rcases hc with z|z
   ·rw[z];exact Ze e fC
   ·exact Ze z fC
 ·obtain⟨f0,f1,f2,f3,f4,f5⟩:=hf b hb;exact⟨f3,f1,f4,f5⟩
theorem US {elt tg iter:Expr}{ifs:List Expr}{rest:List Comprehension}{N':List Str}{ts:Nat}{cA:List Nat}{it:Addr}{fp:List Addr}{tn:Nat->Heap->Prop}{J:It}{g:TG}{tt:TT}{ti:TC}{Q:List V->Hp->Prop}{RR:Value->Addr->Result->Shared->Prop}
  (S:Gr X N' ts cA scope) (hc:X.calm=true) (I:ag X pins σ H s) (T:Turn X.prog X.w X.K tg J fp it tn) (st:tn 0 s.heap) (hf:∀b∈fp,cI X pins H b)
  (h2:∀g',(Comprehension.mk tg iter ifs 0::rest)[0+1]?=some g'->g'.is_async=0)
  (pg:∀C,PG (aV X N' scope C s H fp) tg g) (pt:∀C,rZ (aV X N' scope C s H fp) ifs tt)
  (pi:∀C D,sd (aV X N' scope C s H fp) D (inner elt (⟨tg,iter,ifs,0⟩::rest) scope pos 0 (.ref D) (aV X N' scope C s H fp).env) ti)
  (h:ke g tt ti J [] (pG ts cA σ) H fun ys _ H2=>Q ys H2)
  (hRR:∀C D s' ao H' ys fl,s.heap.objs.size<=C->s.heap.objs.size<=D->D≠C->ag (aV X N' scope C s H fp) [] ao H' s'->H' D=none->AccAt s'.heap D ys->Q ys H'->RR (.ref D) C (.ok fl) s'):
  wpAny (model X.prog X.w) X.A (newList []) (fun acc Qx=>wpAny (model X.prog X.w) X.A (newFunctionEnv scope X.env.globals (fO scope X.env) [] X.env.qual none .none (some X.env)) (fun LL Qw=>
   codeAny (model X.prog X.w) X.A (.compStart (.ListComp elt (⟨tg,iter,ifs,0⟩::rest) scope pos) 0 (.ref it) acc {LL with scope:=relabel scope X.env}) (RR acc LL.locals) Qw) E Qx) E s:=by
 refine Zbm (wpAny_newFunctionEnv S.lN (by intro y hy;simp at hy) (fun we DH zD=>?_) S.kind);dsimp only at DH zD |-;generalize ug:s.heap.push {cls:=.type "list",dict:=none,data:=.seq ([]:List Value).toArray} =h0 at DH zD |-;have hC:h0.objs.size=s.heap.objs.size+1:=by rw[<-ug,Zey]
 have rD:s.heap.objs.size≠h0.objs.size:=by rw[hC];exact ZaR (Zib _)
 have Es:s.heap.objs.size<=h0.objs.size:=by rw[hC];exact ZhU _
 have jM:∀b o,s.heap.get? b=some o->b≠h0.objs.size:=fun b o e=>ZaR (ZaG (ZaA e) Es);have old:∀b o,s.heap.get? b=some o->we.get? b=some o:=fun b o e=>zD.extBut b o (jM b o e) (Zan _ (ug▸Zan _ e));have Eg:we.get? s.heap.objs.size=some {cls:=.type "list",data:=.seq ([]:List Value).toArray 0} :=zD.extBut _ _ rD (Zan _ (ug▸ZaD _ rfl));have ho:∀b∈fp,∃o,s.heap.get? b=some o:=fun b hb=>let ⟨o,e,_⟩:=T.obj _ _ st b hb;⟨o,e⟩;have I1:ag (aV X N' scope h0.objs.size s H fp) [] (pG ts cA σ) H {s with heap:=we,toks:=s.toks+([]:List (Str×Value)).length} :=Zgm S I hf ho Es DH old;have fresh:=I.au.fresh (a:=s.heap.objs.size) (Zal _);have fpY:∀b∈fp,cI (aV X N' scope h0.objs.size s H fp) [] H b:=fun b hb=>by obtain⟨f0,f1,f2,f3,f4,f5⟩:=hf b hb;refine⟨f0,(I1.ok.ui b hb).1,I1.ok.rH b hb,.inl hb,(I1.ok.ui b hb).2,fun p hp=>absurd (show p∈([]:List (Addr×Obj)) from hp) .s⟩
 have fD:cI (aV X N' scope h0.objs.size s H fp) [] H s.heap.objs.size:=by
  refine⟨fresh,rD,fun z=>?_,.inr (Zal _),fun x c e z=>?_,fun p hp=>absurd (show p∈([]:List (Addr×Obj)) from hp) .s⟩
  ·obtain⟨_,o,fb,_⟩:=I.stack.mem z;exact absurd (ZaA fb) (ZbM _)
  ·obtain⟨e1,e2⟩:=Jr e;obtain⟨c',cW⟩:=I.ok.has x (S.free _ e2 rfl);obtain⟨v,q⟩:=I.cell x c' cW;rw[cW]at e1;have e3:c=c':=e1;have l:=q.lt;rw[<-e3,z]at l;exact absurd l (ZbM _)
 have aD:AccAt we s.heap.objs.size []:=⟨ZaJ _,[],0,.nil,Eg⟩;have hDf:s.heap.objs.size∉fp:=fun z=>by obtain⟨o,e⟩:=ho _ z;exact absurd (ZaA e) (ZbM _)
 have az:tn 0 we:=T.keep _ _ _ st fun b _ o e=>old b o e;have run:=UR (elt:=elt) (gens:=⟨tg,iter,ifs,0⟩::rest) (scope:=scope) (pos:=pos) (d:=0) rfl T az
  (OS (Y:=aV X N' scope h0.objs.size s H fp) (D:=s.heap.objs.size) (Q:=fun ys _ H2=>Q ys H2) (elt:=elt) (gens:=⟨tg,iter,ifs,0⟩::rest) (scope:=scope) (pos:=pos) (d:=0) rfl hc rfl T fpY az hDf h2 (pg _) (pt _) (pi _ _) I1 fD aD h)
 refine ZfG run fun r s' hr=>?_;cases r with
 |error e=>exact hr.elim
 |ok fl=>obtain⟨dn,ao,H',q1,q2,q3,q4⟩:=hr;exact hRR _ _ s' ao H' dn fl Es (Zal _) rD q1 q2.1 q3 q4
end
def GY (wi:TI)(ts:Nat)(cA:List Nat)(g:TG)(tt:TT)(ti:TC):TE:=fun σ H Q=>wi σ H fun J H1=>ke g tt ti J [] (pG ts cA σ) H1 fun ys _ H2=> ∀p,H2 p=none->Q (.ref p) (upd H2 p (.lst ys))
section
variable {elt tg iter:Expr}{ifs:List Expr}{rest:List Comprehension}{wi:TI}{g:TG}{tt:TT}{ti:TC}
theorem Z7 (N':List Str)(ts:Nat)(cA:List Nat)(hi:PI X tg iter wi)(pg:∀C s H fp,PG (aV X N' scope C s H fp) tg g)(pt:∀C s H fp,rZ (aV X N' scope C s H fp) ifs tt)
  (pi:∀C s H fp D,sd (aV X N' scope C s H fp) D (inner elt (⟨tg,iter,ifs,0⟩::rest) scope pos 0 (.ref D) (aV X N' scope C s H fp).env) ti)
  (ok:An X.env.scope scope X.N N' ts cA=true:=by rfl) (hc:X.calm=true:=by rfl) (h2:∀g',(Comprehension.mk tg iter ifs 0::rest)[0+1]?=some g'->g'.is_async=0:=by(intro g' h;cases h<;>rfl))
  (hs:∀x,foldedSetIterable iter X.env x=pure x:=by intro _;rfl):
  PE X (.ListComp elt (⟨tg,iter,ifs,0⟩::rest) scope pos) (GY wi ts cA g tt ti):=by
 intro pins s σ H Q I h;have S:=Nj ok;rw[eval_ListComp];refine ZiV (use:=none) rfl hs (Jk fun y hy e=>I.ok.has _ (S.free y hy e)) S.kind S.names (aH (hi pins s σ H _ I h) fun v s1 h1=>aH h1 fun qL s2 Eu=>?_);obtain⟨it,fp,tn,J,H2,e,I2,T,aF,f2,q2⟩:=Eu;subst e;refine US (RR:=fun acc C=>compPost (model X.prog X.w) X.A X.xe none _ acc C) S hc I2 T aF f2 h2 (fun C=>pg C _ _ _) (fun C=>pt C _ _ _) (fun C D=>pi C _ _ _ D) q2 ?_;intro C D s' ao H' ys fl hC hD rD J' n a q;obtain⟨m,hn,_⟩:=J'.loc;exact⟨m,hn,fun h' sb=>⟨.ref D,_,Nh I2 f2 hC hD rD J' n a sb,rfl,q D n⟩⟩
theorem Y6 (N':List Str)(ts:Nat)(cA:List Nat){i:Nat}{x:Str}{px G7:Pos}(hN:X.N.Nodup)(hi:PI X tg iter wi)(pg:∀C s H fp,PG (aV X N' scope C s H fp) tg g)(pt:∀C s H fp,rZ (aV X N' scope C s H fp) ifs tt)
  (pi:∀C s H fp D,sd (aV X N' scope C s H fp) D (inner elt (⟨tg,iter,ifs,0⟩::rest) scope pos 0 (.ref D) (aV X N' scope C s H fp).env) ti) (gQ:X.N[i]?=some x:=by rfl) (hx:Loc X.env.scope x:=by first|exact .inl rfl|exact .inr rfl)
  (Dy:swapsWith (.ListComp elt (⟨tg,iter,ifs,0⟩::rest) scope pos) (some (.Name x px)) G7.line X.env=pure true:=by rfl)
  (ok:An X.env.scope scope X.N N' ts cA=true:=by rfl) (hc:X.calm=true:=by rfl) (h2:∀g',(Comprehension.mk tg iter ifs 0::rest)[0+1]?=some g'->g'.is_async=0:=by(intro g' h;cases h<;>rfl))
  (hs:∀x,foldedSetIterable iter X.env x=pure x:=by intro _;rfl) (gm:X.fn x=true∨X.env.scope.names.lookup x=some .local:=by first|exact .inl rfl|exact .inr rfl|assumption):
  PS X (.Assign [.Name x px] (.ListComp elt (⟨tg,iter,ifs,0⟩::rest) scope pos) G7) (p7 (GY wi ts cA g tt ti) (cH i)):=by
 intro pins s σ H D I h;have S:=Nj ok;rw[exec_Assign_Name_used _ _ _ _ Dy];refine gc (Zee (gc ?_));show wpAny _ X.A (do let _ <-comprehension (.ListComp elt (⟨tg,iter,ifs,0⟩::rest) scope pos) scope X.env _ (newList []) false (eval iter X.env) (some (assign (.Name x px) X.env))) _ _ s;refine gc (ZbR (ZiV (use:=some (assign (.Name x px) X.env)) (Q:=fun _ s'=> ∃ao H',ag X pins ao H' s'/\D.nx ao H') rfl hs (Jk fun y hy e=>I.ok.has _ (S.free y hy e)) S.kind S.names
  (aH (hi pins s σ H _ I h) fun v s1 h1=>aH h1 fun qL s2 Eu=>?_)) (fun _ s' hq=>Zav (Zav hq)) fun _ _ e=>e)
 obtain⟨it,fp,tn,J,H2,e,I2,T,aF,f2,q2⟩:=Eu;subst e;refine US (RR:=fun acc C=>compPost (model X.prog X.w) X.A X.xe (some (assign (.Name x px) X.env)) _ acc C) S hc I2 T aF f2 h2 (fun C=>pg C _ _ _) (fun C=>pt C _ _ _) (fun C D=>pi C _ _ _ D) q2 ?_;intro C B s' ao H' ys fl hC hB K6 J' n a q;obtain⟨m,hn,_⟩:=J'.loc;have IX:ag X pins σ (upd H' B (.lst ys)) s':=Nh I2 f2 hC hB K6 J' n a (Heap.SameBut.refl C s'.heap);have fC:=I2.pC (H':=upd H' B (.lst ys)) (b:=C) hC (by rw[Zh (Ze4 K6)];exact J'.free);obtain⟨f0,f1,Lm,f3,f4,f5⟩:=fC;show wpAny _ X.A (assign (.Name x px) X.env (.ref B)) _ _ s';refine wpAny_assign_Name (Ox (v:=.ref B) (u:=.ref B) IX hN gQ hx rfl (fun jh I'' ⟨c,sb,me⟩=>?_) gm);have hCc:C≠c:=by
  rcases me with z|z
  ·rw[z];exact f1
  ·exact(f4 x c z).symm
 refine⟨m,Heap.Ns.sameBut hn sb hCc,fun h' Q5=>?_⟩;refine⟨σ.set i (some (.ref B)),_,I''.turned (t':=jh.toks) (it:=C) (fun b o hb e=>(Q5.2 b hb).trans e) f0 f1 f3 f4 f5,q B n⟩
end
inductive RC (K:Zke) (c:String) (xs:List V) (H:Hp) (Q:VK):Prop
 |mk (x t b:_) (c0:xs=[x,.ty c]) (c1:fF K H x t) (c2:PySem.W.kitOne K t (.type c)=some b) (c3:Q (.bl b) H)
theorem Z8 :fh X (.builtin "isinstance") (RC X.K c):=by intro pins s σ H xs us Q I r h;obtain⟨x,t,b,rfl,ty,e,q⟩:=h;obtain⟨u,v,rfl,ru,rv⟩:=vals2 r;cases rv;exact ZdV I ru ty e fun tk=>⟨.bl b,H,I.tok tk,rfl,q⟩
inductive CA (K:Zke) (xs:List V) (H:Hp) (Q:VK):Prop
 |mk (p:Addr) (bs:List Bool) (c0:xs=[.ref p]) (c1:ak K H p (bs.map V.bl)) (c2:Q (.bl (bs.all id)) H)
theorem JQ (hc:X.calm=true:=by rfl):fh X (.builtin "all") (CA X.K):=by
 intro pins s σ H xs us Q I r h;obtain⟨p,bs,rfl,hp,q⟩:=h;obtain⟨u,rfl,ru⟩:=Zji r;cases ru;obtain⟨aa,rv,pl,hz⟩:=I.list hp;have hb:∀(i:Nat) (v:Value),aa.toArray[i]?=some v->v=.bool (bs.getD i false):=fun i v e=>by
  have e':aa[i]?=some v:=by simpa using e
  have hl:=rv.length;have hi:i<aa.length:=(Zai.mp e').1;have bZ:i< (bs.map V.bl).length:=.l;obtain⟨u,hu,ru⟩:=rv.get (i:=i) (x:=(bs.map V.bl)[i]) .s;rw[e']at hu;cases hu;rw[List.getElem_map]at ru;have oZ:i<bs.length:=by simpa using bZ
  have e2:bs.getD i false=bs[i]:=by simp[Zci,oZ]
  rw[e2];exact ru
 refine call_all_walk (ZhT pl.isList ?_);have bN:p≠s.heap.objs.size:=ZaR (by obtain⟨o,n,e,_⟩:=pl;exact ZaA e);refine⟨s.heap.objs.size,_,_,_,_,_,fun i=>bs.getD i false,rfl,Walks.list (A:=X.A.in1) (show X.A.in1.handled=none from I.ok.hd hc) s.heap.objs.size p bN aa.toArray,⟨⟨_,ZaD _ rfl,rfl,rfl⟩,pl.isList.at fun o e=>Zan _ e⟩,fun i v s' Q' E' hP hQ=>?_,fun h' tk hk=>?_⟩
 ·rw[hb i v hP];exact ZcP hQ
 ·have e:(List.range aa.toArray.size).all (fun i=>bs.getD i false)=bs.all id:=by
   have hl:aa.toArray.size=bs.length:=by have:=rv.length;rw[Zat]at this;simpa using this.symm
   rw[hl,Zcc,ZaK,ZaK];constructor
   ·intro h b hb;obtain⟨i,hi,e⟩:=List.mem_iff_getElem.mp hb;have:=h i (Zbf.mpr hi);rw[Zci,Zaj hi,Zic,e]at this;exact this
   ·intro h i hi;have bZ:=Zbf.mp hi;rw[Zci,Zaj bZ,Zic];exact h _ (ZbA bZ)
  rw[e];refine⟨.bl (bs.all id),H,I.kept fun b o eb=>hk b o ?_ (Zan _ eb),rfl,q⟩;intro z;have e1:b=s.heap.objs.size:=by simpa using z
  exact absurd (ZaA eb) (by rw[e1];exact ZbM _)
def sW (ns:List Int):Nat:=(PyProof.Rows.firstMet (fun i=>ns.getD i 0) ns.length).length
theorem Zaf (hc:X.calm=true:=by rfl):fh X (.type "set") (fun xs H Q=> ∃(p:Addr) (ns:List Int),xs=[.ref p]/\ak X.K H p (ns.map V.int)/\ns.length<=1000/\∀q S,H q=none->Q (.ref q) (upd H q (.set S (sW ns)))):=by
 intro pins s σ H xs us Q I r h;obtain⟨p,ns,rfl,hp,hn,q⟩:=h;obtain⟨u,rfl,ru⟩:=Zji r;cases ru;obtain⟨aa,rv,pl,hz⟩:=I.list hp;have hl:=rv.length;rw[Zat]at hl;refine call_set_list (I.ok.hd hc) pl.isList (YL rv) (by rw[Zar,<-hl];unfold scanBound;lia) fun h' tk hs hk=>?_;have e:aa.toArray.size=ns.length:=by simp[hl]
 rw[e]at hs;exact⟨.ref s.heap.objs.size,_,I.laid (a:=s.heap.objs.size) (o:=.set _ (sW ns)) (fun b o eb=>hk b o (ZaA eb) eb) (Zal _) hs,rfl,q _ _ I.fresh⟩
theorem Zag:fh X (.builtin "len") (fun xs H Q=> ∃p S n,xs=[.ref p]/\H p=some (.set S n)/\Q (.int n) H):=by intro pins s σ H xs us Q I r h;obtain⟨p,S,n,rfl,hp,q⟩:=h;obtain⟨u,rfl,ru⟩:=Zji r;cases ru;obtain⟨o,es,ep,t,h1,h2,h3,h4,h5,h6,h7,h8⟩:=(show bI X.prog X.w H s.heap p (.set S n) from I.au p _ hp);refine call_len_set h1 h2 h3 h7 (by have:scanBound=4096:=rfl;lia) ⟨.int n,H,I.tok _,⟨_,by rw[h8]⟩,q⟩
theorem Ua:fh X (.type "range") (fun xs H Q=> ∃j:Int,xs=[.int j]/\∀q,H q=none->Q (.ref q) (upd H q (.jk 0 j))):=by intro pins s σ H xs us Q I r h;obtain⟨j,rfl,q⟩:=h;obtain⟨u,rfl,ru⟩:=Zji r;obtain⟨t,rfl⟩:=ru;refine call_range_1 ?_;exact⟨.ref s.heap.objs.size,_,I.laid (a:=s.heap.objs.size) (o:=.jk 0 j) (fun b o eb=>Zan _ eb) (Zal _) ⟨_,_,_,ZaD _ rfl⟩,rfl,q _ I.fresh⟩
def upTo (n:Nat):List V:=(List.range n).map fun(i:Nat)=>V.int (i:Int)
theorem Zbj {acc:Array Value}(h:ItemsOf (fun i v=> ∃t,v=.int (0+i*1) t) acc n):Vals (upTo n) acc.toList:=by
 obtain⟨h1,h2⟩:=h;obtain⟨l⟩:=acc;have h1:l.length=n:=h1;have h2:∀(j:Nat) (v:Value),l[j]?=some v->∃t,v=.int (j:Int) t:=fun j v e=>by obtain⟨t,q⟩:=h2 j v (by simpa using e);exact⟨t,by rw[q];congr 1;lia⟩
 have key:∀(l:List Value) (k:Nat),(∀(j:Nat) (v:Value),l[j]?=some v->∃t,v=.int ((k+j:Nat):Int) t)->Vals ((List.range' k l.length).map fun(i:Nat)=>V.int (i:Int)) l:=by
  intro l
  induction l with
  |nil=>intro k _;exact .nil
  |cons v l ih=>intro k h;rw[ZaU,List.range'_succ,Zbv];obtain⟨t,e⟩:=h 0 v rfl;refine .cons ⟨t,by rw[e];simp⟩ (ih (k+1) fun j w q=>?_);obtain⟨t',e'⟩:=h (j+1) w (by simpa using q);exact⟨t',by rw[e'];congr 1;lia⟩
 have:=key l 0 (fun j v e=>by simpa using h2 j v e);unfold upTo;rw[<-h1,Zik];exact this
theorem Wi (hc:X.calm=true:=by rfl):fh X (.type "list") (fun xs H Q=> ∃(p:Addr) (j:Int),xs=[.ref p]/\H p=some (.jk 0 j)/\0<=j/\j<=1000/\∀q,H q=none->Q (.ref q) (upd H q (.lst (upTo j.toNat)))):=by
 intro pins s σ H xs us Q I r h;obtain⟨p,j,rfl,hp,h0,h1,q⟩:=h;obtain⟨u,rfl,ru⟩:=Zji r;cases ru;obtain⟨t,u,v,e⟩:=(show bI X.prog X.w H s.heap p (.jk 0 j) from I.au p _ hp);refine call_list_range (n:=j.toNat) (I.ok.hd hc) e (small_one .l .l .l .l) (by rw[rangeSize_one];split<;>lia) .l fun h' tk acc c' hk hS Eg=>?_;have r2:=Zbj Eg;have hlen:(upTo j.toNat).length<=sizeLine:=by unfold upTo;rw[Zat,ZcR,ZaH];lia
 exact⟨.ref s.heap.objs.size,_,I.laid (a:=s.heap.objs.size) (o:=.lst (upTo j.toNat)) hk (Zal _) ⟨hlen,acc.toList,c',r2,by simpa using hS⟩,rfl,q _ I.fresh⟩
theorem ZeK:bf X (binaryOp .Add) (fun x y H Q=> ∃a b ys,x=.ref a/\y=.ref b/\ah X.K H a []/\ah X.K H b ys/\Q (.ref b) H):=by
 intro pins s σ H x y u v Q I rx ry h;obtain⟨a,b,ys,rfl,rfl,ha,hb,q⟩:=h;cases rx;cases ry;obtain⟨aa,rv,pl,hz⟩:=I.tuple ha;obtain⟨iQ,hJ,eI,dF⟩:=I.tuple hb;cases rv;obtain⟨⟨cls,dd,data,sl⟩,ho,md,n,hd⟩:=id pl;obtain⟨⟨LK,pF,data2,kj⟩,lV,eQ,n2,hd2⟩:=id eI;simp only at md hd eQ hd2;subst md hd eQ hd2;exact concat_meets ⟨_,ho,rfl⟩ ⟨_,lV,rfl⟩ Zjb ZjR ZhQ Zgw (Zgt _ _)
   (tuple_addW0 a b #[] iQ.toArray n n2 dd pF sl kj rfl) ⟨ho,lV,⟨.ref b,H,I,rfl,q⟩⟩
theorem Je {K:Zke}{a:Addr}{g:TG}{tt:TT}{ti:TC}{σ:St}{Q:List V->St->Hp->Prop}(Pv:Nat->List V->St->Hp->Prop)(h0:Pv 0 ys σ H)
  (hl:∀i ys σ H,i<=xs.length->Pv i ys σ H->ah K H a xs)
  (hs:∀i x ys σ H,xs[i]?=some x->Pv i ys σ H->g x σ H fun bB H2=>tt bB H2 fun b H3=>if b=true then ti ys bB H3 (Pv (i+1)) else Pv (i+1) ys bB H3)
  (hd:∀ys σ H,Pv xs.length ys σ H->Q ys σ H):ke g tt ti (F2 K a) ys σ H Q:=W0 Pv h0 (fun i ys σ H h p=>⟨xs,xs[i],hl i ys σ H (Zbl h) p,Zaj h⟩) (fun ys σ H p=>⟨⟨xs,hl _ ys σ H (Zal _) p,Zal _⟩,hd ys σ H p⟩) fun i ys σ H x H' h p ⟨e,y⟩=>by
 subst e;exact hs i x ys σ _ (y xs (hl i ys σ _ (Zbl h) p)) p
theorem Ye {K:Zke}{a:Addr}{g:TG}{tt:TT}{ti:TC}{σ:St}{Q:List V->St->Hp->Prop}(Pv:Nat->List V->St->Hp->Prop)(h0:Pv 0 ys σ H)
  (hl:∀i ys σ H,i<=xs.length->Pv i ys σ H->ak K H a xs)
  (hs:∀i x ys σ H,xs[i]?=some x->Pv i ys σ H->g x σ H fun bB H2=>tt bB H2 fun b H3=>if b=true then ti ys bB H3 (Pv (i+1)) else Pv (i+1) ys bB H3)
  (hd:∀ys σ H,Pv xs.length ys σ H->Q ys σ H):ke g tt ti (AI K a) ys σ H Q:=W0 Pv h0 (fun i ys σ H h p=>⟨xs,xs[i],hl i ys σ H (Zbl h) p,Zaj h⟩) (fun ys σ H p=>⟨⟨xs,hl _ ys σ H (Zal _) p,Zal _⟩,hd ys σ H p⟩) fun i ys σ H x H' h p ⟨e,y⟩=>by
 subst e;exact hs i x ys σ _ (y xs (hl i ys σ _ (Zbl h) p)) p
theorem YK {lo:Int}{n:Nat}{g:TG}{σ:St}{Q:List V->St->Hp->Prop}(Pv:Nat->List V->St->Hp->Prop)(h0:Pv 0 ys σ H)
  (hs:∀i ys σ H,i<n->Pv i ys σ H->g (.int (lo+i)) σ H fun bB H2=>tt bB H2 fun b H3=>if b=true then ti ys bB H3 (Pv (i+1)) else Pv (i+1) ys bB H3)
  (hd:∀ys σ H,Pv n ys σ H->Q ys σ H):ke g tt ti (xY lo n) ys σ H Q:=W0 Pv h0 (fun i ys σ H h p=>h) (fun ys σ H p=>⟨Zal _,hd ys σ H p⟩) fun i ys σ H x H' h p ⟨e,y⟩=>by
 subst e y;exact hs i ys σ _ h p
theorem pb {N':List Str}{C:Addr}{fp:List Addr}(i:Nat){x:Str}(hN:N'.Nodup:=by decide+kernel)(hi:N'[i]?=some x:=by rfl)(hx:(relabel scope X.env).names.lookup x=some .local:=by rfl):
  PG (aV X N' scope C s H fp) (.Name x pos) (cH i):=ZE (X:=aV X N' scope C s H fp) hN hi (.inl hx) (.inr hx)
def Def (P:Program)(w:World)(K:Zke)(mg:Str->Option Value)(base:Heap)(k:Nat)(x:Str)(ps:List Str)(sp:Sp):Prop:=
 ∃f fd,aJ P w K mg base aS k f fd ps sp/\mg x=some (.ref f)/\PySem.W.keepIn K (.ref f)=true/\Binds K fd ps []
section
variable {k:Nat}{x:Str}{ps:List Str}{sp:Sp}{e:Expr}{t:TA}{p:Pos}
theorem Zg (d:Def X.prog X.w X.K X.mg X.base k x ps sp)(hr:bO k X.A)(ha:PA X (e::es) t)(hg:Gl X x:=by rfl)(gn:(x==("__debug__" :Str))=false:=by decide)
  (he:starEach (e::es) X.env=(false,eval e X.env)::starEach es X.env:=by rfl) (cG:(backTo pos (starEach es X.env)).any (·.1)=false:=by rfl):
  PE X (.Call (.Name x p) (e::es) [] pos) (mS sp [] E0 t):=by
 obtain⟨f,fd,F,hm,hk,hb⟩:=d;exact FK F hr hg hm hk hb .nil HX ha gn he cG
end
def fG (K:Zke)(H:Hp)(x:V):Prop:=∃T,fF K H x (.type T)
def whole:V->Bool
 | .int _=>true
 |_=>false
def bQ:V->Int->Int->Bool
 | .int i,a,b=>decide (a<=i)&&decide (i<=b)
 |_,_,_=>false
def A0:Option HO->Option (List V)
 |some (.tup xs)=>some xs
 |_=>none
def bJ (H:Hp):V->Option (List V)
 | .ref a=>A0 (H a)
 |_=>none
theorem ZM :bJ H (.ref a)=A0 (H a):=rfl
theorem ZL (h:H a=some (.tup xs)):bJ H (.ref a)=some xs:=by rw[ZM,h];rfl
theorem Zdx (h:A0 o=some xs):o=some (.tup xs):=by
 cases o with
 |none=>cases h
 |some o=>cases o<;>first|(cases h;rfl)|cases h
theorem ZO (h:bJ H x=some xs):∃a,x=.ref a/\H a=some (.tup xs):=by
 cases x with
 |ref a=>exact⟨a,rfl,Zdx h⟩
 |_=>cases h
theorem ae.bJ (s:ae H H')(h:L2.bJ H x=some xs):L2.bJ H' x=some xs:=by obtain⟨a,rfl,q⟩:=ZO h;exact ZL (s _ _ q)
theorem ae.vM {K:Zke}(s:ae H H'){x:V}(h:fG K H x):fG K H' x:=by
 obtain⟨T,t⟩:=h;cases t with
 |af=>exact⟨_,.af⟩
 |bl y=>exact⟨_,.bl y⟩
 |int i=>exact⟨_,.int i⟩
 |str y=>exact⟨_,.str y⟩
 |kT y=>exact⟨_,.kT y⟩
 |lst e=>exact⟨_,.lst (s _ _ e)⟩
 |de e=>exact⟨_,.de (s _ _ e)⟩
 |tup e=>exact⟨_,.tup (s _ _ e)⟩
 |dK e=>exact⟨_,.dK (s _ _ e)⟩
 |dT e=>exact⟨_,.dT (s _ _ e)⟩
def Dm:V->Bool
 | .int _=>true
 | .bl _=>true
 |_=>false
def Iy:V->Bool
 | .bl _=>true
 |_=>false
theorem Zgk {K:Zke}{x:V}{T:String}(t:fF K H x (.type T)):PySem.W.kitOne K (.type T) (.type "int")=some (Dm x):=by cases t<;>rfl
theorem Ze3 {K:Zke}{x:V}{T:String}(t:fF K H x (.type T)):PySem.W.kitOne K (.type T) (.type "bool")=some (Iy x):=by cases t<;>rfl
theorem ZdS {K:Zke}{x:V}{T:String}(t:fF K H x (.type T)):PySem.W.kitOne K (.type T) (.type "tuple")=some (bJ H x).isSome:=by
 cases t with
 |tup e=>rw[ZL e];rfl
 |lst e=>rw[ZM,e];rfl
 |de e=>rw[ZM,e];rfl
 |dK e=>rw[ZM,e];rfl
 |dT e=>rw[ZM,e];rfl
 |_=>rfl
theorem ZbW (x:V):whole x=(Dm x&& !Iy x):=by cases x<;>rfl
def Qa (i j k:Nat)(ta:TA):TS:=fun D σ H=>ta σ H fun vs H1=> ∃v w z,vs=[v,w,z]/\D.nx (((σ.set k (some z)).set j (some w)).set i (some v)) H1
theorem FO {kt k2 qB}(hc:X.calm=true)(hN:X.N.Nodup)(hi:X.N[i]?=some x)(hj:X.N[j]?=some y)(hk:X.N[k]?=some z)
  (hx:X.env.scope.names.lookup x=some .local) (hy:X.env.scope.names.lookup y=some .local) (hz:X.env.scope.names.lookup z=some .local) (ha:PA X [a,b,c] ta)
  (hw:swappedStores [.Tuple [.Name x px,.Name y py,.Name z pz] kt pt] (.Tuple [a,b,c] k2 qB) X.env=pure (some [x,y,z]):=by rfl)
  (hs:swapsWithSole [.Tuple [.Name x px,.Name y py,.Name z pz] kt pt] (.Tuple [a,b,c] k2 qB) pos.line X.env=pure false:=by rfl):
  PS X (.Assign [.Tuple [.Name x px,.Name y py,.Name z pz] kt pt] (.Tuple [a,b,c] k2 qB) pos) (Qa i j k ta):=by
 intro pins s σ H D I h;rw[exec_Assign_arm];refine gc (Zee ?_);rw[hs];refine gc (Zav ?_);rw[ZaN .d];refine gc (Tuple_ (aH (ha _ pins s σ H _ I h) fun us s1 ⟨vs,H1,I1,r1,q1⟩=>?_));obtain⟨v,w,t,e1,q1⟩:=q1;subst e1;obtain⟨u1,u2,u3,rfl,rv,ko,rt⟩:∃u1 u2 u3,us=[u1,u2,u3]/\RelV v u1/\RelV w u2/\RelV t u3:=by
  cases r1 with
  |cons p q=>
   cases q with
   |cons p' q'=>
    cases q' with
    |cons RZ RL=>cases RL;exact⟨_,_,_,rfl,p,p',RZ⟩
 refine Zbm ?_ aK;have I2:ag X pins σ H1 {s1 with heap:=s1.heap.push {cls:=.type "tuple",data:=.seq [u1,u2,u3].toArray} } :=I1.kept (t':=s1.toks) fun b o e=>Zan _ e;rw[hw];refine gc (Zav ?_);show wpAny (model X.prog X.w) X.A (do rule "assign.swapped-stores";let items <-unpackItems (.ref s1.heap.objs.size) 3 none;assignInOrder [fun v=>bindName X.env z v,fun v=>bindName X.env y v,fun v=>bindName X.env x v] items.reverse;pure Flow.next) _ _ _;refine gc (Zdc (gc (unpackItems_tuple (items:= #[u1,u2,u3]) (I.ok.hd hc) (Zjn s1.heap _) fun h' fK=>?_)));have I3:=I2.kept (h':=h') (t':=s1.toks) fun b o e=>fK b o (ZaR (ZaA e)) e;show wpAny _ _ (assignInOrder [fun v=>bindName X.env z v,fun v=>bindName X.env y v,fun v=>bindName X.env x v] [u3,u2,u1] >>=fun _=>pure Flow.next) _ _ _;refine gc (Zdn (Zh1 (YS I3 hN hk (.inl hz) rt (fun s2 I4=>?_) (.inr hz))));refine Zdn (Zh1 (YS I4 hN hj (.inl hy) ko (fun s3 I5=>?_) (.inr hy)));refine Zdn (Zh1 (YS I5 hN hi (.inl hx) rv (fun s4 I6=>ZiQ (Zav ?_)) (.inr hx)));exact⟨_,H1,I6,q1⟩
def av (p:Addr)(H H':Hp):Prop:=∀b o,H b=some o->b≠p->H' b=some o
theorem av.refl (p:Addr)(H:Hp):av p H H:=fun _ _ h _=>h
theorem av.trans (a:av p H H1)(b:av p H1 H2):av p H H2:=fun c o h n=>b c o (a c o h n) n
theorem ae.x (a:ae H H1):av p H H1:=fun c o h _=>a c o h
theorem av.upd :av p H (L2.upd H p o):=fun b u h n=>by rw[Zh n];exact h
theorem newX (H:Hp)(p:Addr)(o:HO):∃H',upd H p o=H'/\av p H H':=⟨_,rfl,av.upd⟩
theorem cU {t:Addr}{o:HO}(h:H t=none):∃H',upd H t o=H'/\ae H H'/\H' t=some o:=⟨_,rfl,fun b u hb=>by rw[Zh (Ze hb h)];exact hb,aj⟩
inductive RG (K:Zke) (x:V) (y:V) (H:Hp) (Q:VK):Prop
 |mk (a b:Addr) (xs:List V) (c0:x=.ref a) (c1:y=.ref b) (c2:ak K H a xs) (c3:ak K H b []) (c4:Q (.bl xs.isEmpty) H)
theorem WX (hu:X.A.units<cLine):bf X (compareOp .Eq) (RG X.K):=by
 intro pins s σ H x y u v Q I rx ry h;obtain⟨a,b,xs,rfl,rfl,ha,hb,q⟩:=h;cases rx;cases ry;obtain⟨aa,rv,pl,hz⟩:=I.list ha;obtain⟨iQ,hJ,eI,dF⟩:=I.list hb;cases hJ;cases rv with
 |nil=>exact SeqAt.eq_listAt (e:=fun _=>true) pl.isList eI.isList rfl hu (fun j h1 h2=>absurd h2 .s) ⟨.bl true,H,I,rfl,q⟩
 |cons r t=>exact SeqAt.eq_list_lengthsAt pl.isList eI.isList .s hu ⟨.bl false,H,I,rfl,q⟩
inductive Rw (K:Zke) (x:V) (y:V) (H:Hp) (Q:VK):Prop
 |mk (a b:Addr) (xs:List V) (c0:x=.ref a) (c1:y=.ref b) (c2:ak K H a xs) (c3:ak K H b []) (c4:Q (.bl (!xs.isEmpty)) H)
theorem AB (hu:X.A.units<cLine):bf X (compareOp .NotEq) (Rw X.K):=by
 intro pins s σ H x y u v Q I rx ry h;obtain⟨a,b,xs,rfl,rfl,ha,hb,q⟩:=h;cases rx;cases ry;obtain⟨aa,rv,pl,hz⟩:=I.list ha;obtain⟨iQ,hJ,eI,dF⟩:=I.list hb;cases hJ;cases rv with
 |nil=>exact SeqAt.RcNeAt.lists (e:=fun _=>true) pl.isList eI.isList rfl hu (fun j h1 h2=>absurd h2 .s) _ _ _ _ ⟨.bl false,H,I,rfl,q⟩
 |cons r t=>exact SeqAt.RcNeAt.lists_lengths pl.isList eI.isList .s hu _ _ _ _ ⟨.bl true,H,I,rfl,q⟩
section
variable {σ:St}{fp:List Addr}{tk:Nat}
theorem Ui (hf:∀b∈fp,cI X pins H b)(b:Addr)(o:HO)(q:H b=some o):b∉fp:=fun hm=>by rw[(hf b hm).1]at q;cases q
theorem Um (I:ag X pins σ H s)(hf:∀b∈fp,cI X pins H b)(hk:∀b o,b∉fp->s.heap.get? b=some o->h'.get? b=some o):ag X pins σ H {s with heap:=h',toks:=tk} :=by
 refine I.call (g':=s.gens) (d':=s.drawn) (t':=tk) (h':=h') (ch:=fp) ⟨fun b o q _ _ hx=>hk b o hx q,fun b o q _ _ hx=>⟨o.slots,hk b o hx q⟩,fun b o q n hx=>n,fun b o q hx=>⟨o,hk b o hx q⟩,fun b ys q=>q,fun b o u q=>q,fun b ps q=>⟨#[],by rw[q];simp⟩⟩ (fun b o q=>?_) I.bare fun b hb=>?_
 ·refine(I.au b o q).cY (fun c ob cW q'=>hk c ob ?_ q') (fun _ q'=>q') fun _ _ q'=>q';rcases cW with z'|z'
  ·rw[z'];exact Ui hf b o q
  ·exact Ui hf c _ z'
 ·obtain⟨f0,f1,f2,f3,f4,f5⟩:=hf b hb;exact⟨f3,f1,f4,f5⟩
theorem WG {T:Addr}(I:ag X pins σ H s)(hf:∀b∈fp,cI X pins H b)(hk:∀b o,b∉fp->s.heap.get? b=some o->h'.get? b=some o)(dz:s.heap.objs.size<=T)(xg:h'.IsTuple T #[u,v])(ru:RelV x u)(rv:RelV y v):
  ag X pins σ (upd H T (.par [x,y])) {s with heap:=h',toks:=tk} :=by
 have hTn:H T=none:=I.au.fresh dz;have neT:∀b o,s.heap.get? b=some o->b≠T:=fun b o q=>ZaR (ZaG (ZaA q) dz);have vR:∀b o,H b=some o->b≠T:=fun b o q=>Ze q hTn;refine I.call (g':=s.gens) (d':=s.drawn) (t':=tk) (h':=h') (ch:=fp) ⟨fun b o q _ _ hx=>hk b o hx q,fun b o q _ _ hx=>⟨o.slots,hk b o hx q⟩,fun b o q n hx=>by rw[Zh (neT b o q)];exact n,fun b o q hx=>⟨o,hk b o hx q⟩,
  fun b ys q=>by rw[Zh (vR b _ q)];exact q,fun b o u q=>by rw[Zh (vR b _ q)];exact q,fun b ps q=>⟨#[],by rw[Zh (vR b _ q),q];simp⟩⟩ (fun b o q=>?_) I.bare fun b hb=>?_
 ·by_cases hb:b=T
  ·subst hb;rw[aj]at q;cases q;exact⟨aK,[u,v],.cons ru (.cons rv .nil),xg⟩
  ·rw[Zh hb]at q;refine(I.au b o q).cY (fun c ob cW q'=>hk c ob ?_ q') (fun c q'=>by rw[Zh (vR c _ q')];exact q') fun c ys q'=>by rw[Zh (vR c _ q')];exact q'
   rcases cW with z'|z'
   ·rw[z'];exact Ui hf b o q
   ·exact Ui hf c _ z'
 ·obtain⟨f0,f1,f2,f3,f4,f5⟩:=hf b hb;exact⟨f3,f1,f4,f5⟩
end
theorem Zcz {Q:Value->Shared->Prop}(h1:s.heap.IsTupleIter j t i)(h2:s.heap.IsTuple t aa)(hx:aa[i]?=some x)
  (k:∀h',h'.IsTupleIter j t (i+1)->Heap.SameBut j s.heap h'->Q x {s with heap:=h'}):wpAny (model prog w) A (Builtin.SmallTypes.nextOf (.ref j)) Q E s:=by
 obtain⟨o,eo,co,dO⟩:=id h1;obtain⟨ot,et,_,nt,dt⟩:=h2;unfold Builtin.SmallTypes.nextOf;refine gc (ZbC (name:=Str.ofString "__next__") h1.typeIs Zdk (ZcD Zdk h1.typeIs Ziu ?_ (Zin _)));show wpAny _ _ (field (.ref j) 0 >>=_) _ _ s;refine gc (ZbF eo dO (x:=.ref t) rfl ?_);show wpAny _ _ (if (Value.ref t==Value.none)=true then _ else _) _ _ s;rw[ZaN (show ¬((Value.ref t==Value.none)=true) from Zam)];show wpAny _ _ (field (.ref j) 1 >>=_) _ _ s;refine gc (ZbF eo dO (x:=.int i 0) rfl ?_);show wpAny _ _ (seqItems? (.ref t) >>=_) _ _ s;refine gc (Zcv et dt ?_);simp only[Zb2,hx];refine gc (ZiK eo dO .s (Zav ⟨x,rfl,Zav (k _ ⟨_,Zdo _ eo (Obj.isFreed_of_fields (ZhI dO _)),(Obj.cls_mapFields ..).trans co,?_⟩ (Zej ..))⟩));rw[ZhI dO];simp[rawInt]
theorem ZdK {Q:Value->Shared->Prop}(hh:A.handled=none)(h1:s.heap.IsTupleIter j t i)(h2:s.heap.IsTuple t aa)(hx:aa[i]?=none)
  (k:∀h' e,Heap.ExtBut j s.heap h'->(∃o,h'.get? e=some o/\o.cls=.type "StopIteration")->E (.ref e) {s with heap:=h'}):wpAny (model prog w) A (Builtin.SmallTypes.nextOf (.ref j)) Q E s:=by
 obtain⟨o,eo,co,dO⟩:=id h1;obtain⟨ot,et,_,nt,dt⟩:=h2;unfold Builtin.SmallTypes.nextOf;refine gc (ZbC (name:=Str.ofString "__next__") h1.typeIs Zdk (ZcD Zdk h1.typeIs Ziu ?_ (Zin _)));show wpAny _ _ (field (.ref j) 0 >>=_) _ _ s;refine gc (ZbF eo dO (x:=.ref t) rfl ?_);show wpAny _ _ (if (Value.ref t==Value.none)=true then _ else _) _ _ s;rw[ZaN (show ¬((Value.ref t==Value.none)=true) from Zam)];show wpAny _ _ (field (.ref j) 1 >>=_) _ _ s;refine gc (ZbF eo dO (x:=.int i 0) rfl ?_);show wpAny _ _ (seqItems? (.ref t) >>=_) _ _ s;refine gc (Zcv et dt ?_);simp only[Zb2,hx];refine gc (Zdc (gc (ZiK eo dO .s ?_)));show wpAny _ _ (newExc (.type "StopIteration") [] >>=_) _ _ _;refine gc ?_;simp only[newExc,newTuple];refine gc (Zbm ?_ (by size_fits));refine gc (m:=firstArgMember _ _) (ZjK (a:=Value.none) (by first|rfl|(simp only[firstArgMember];rfl)) (Zbm ?_ (by size_fits)));simp only[raiseNew];refine gc (wpAny_handled ?_)
 first|rw[show A.in1.handled=none from hh]|rw[hh]
 exact gc (Zav (wpAny_throw (k _ _ (((Zej ..).extBut.push _).push _) ⟨_,ZaD _ rfl,rfl⟩)))
theorem LG (hh:A.handled=none)(j t:Addr)(bN:t≠j)(aa:Array Value):
  Draws prog w A j [j,t] aa.size (fun i v=>aa[i]?=some v) (fun i h=>h.IsTupleIter j t i/\h.IsTuple t aa) where
 live:=fun _ _ st=>let ⟨o,ho,_⟩:=st.1;⟨o,ho⟩
 frame:=fun _ _ _ st hk=>⟨st.1.at fun o e=>hk j .s o e,st.2.at fun o e=>hk t .s o e⟩
 item:=fun i s Q E hi st hQ=>Zcz st.1 st.2 (x:=aa[i]) (by simp[hi]) fun h' a b=>hQ _ h' s.toks (by simp[hi]) ⟨a,st.2.extBut b.extBut bN⟩ b
 done:=fun s Q E st hE=>ZdK hh st.1 st.2 .s hE
theorem Zd1 (l:Addr)(aa:Array Value)(n:Nat)(gq:Option Addr)(sl:Array (Option Value)):
  Meets (Builtin.«enumerate.__new__» ⟨[.type "enumerate",.ref l],[]⟩) (fun _ R s=>s.heap.get? l=some {cls:=.type "tuple",dict:=gq,data:=.seq aa n,slots:=sl}/\
   R (.ok (.ret (.ref (s.heap.push {cls:=.type "tuple_iterator",data:=.fields #[.ref l,.int 0 0]}).objs.size)))
    {s with heap:=(s.heap.push {cls:=.type "tuple_iterator",data:=.fields #[.ref l,.int 0 0]}).push {cls:=.type "enumerate",data:=.fields #[.none,.bool false,.ref s.heap.objs.size,rawInt 0,.none,.none]} }):=
 .of_wp fun prog w A R s h=>by
  obtain⟨hp,g,d,tk,os⟩:=s;obtain⟨hl,h⟩:=h;have VJ:=sub_enumerate;have hL:Heap.IsTuple (Shared.heap ⟨hp,g,d,tk,os⟩) l aa:=⟨_,hl,rfl,n,rfl⟩
  wp_walk using AutoSeq1.wpAny_loadPart' hl
  refine wpAny_stack_any fun st=>Zav ?_;split
  ·rename_i c _ _ _ _ _;cases (c==Value.type "enumerate")<;> (wp_walk using AutoSeq1.wpAny_loadPart' hl,ZiD hL;exact⟨_,rfl,h⟩)
  ·wp_walk using AutoSeq1.wpAny_loadPart' hl,ZiD hL
   exact⟨_,rfl,h⟩
theorem ZcM {Q:Value->Shared->Prop}(hL:s.heap.IsTuple l aa)
  (h:∀h',IsEnum h' (s.heap.objs.size+1) s.heap.objs.size 0 .none->h'.IsTupleIter s.heap.objs.size l 0->(∀b o,s.heap.get? b=some o->h'.get? b=some o)->Q (.ref (s.heap.objs.size+1)) {s with heap:=h'}):
  wpAny (model prog w) A (call (.type "enumerate") [.ref l]) Q E s:=by
 obtain⟨⟨c,gq,dt,sl⟩,hl,hc,n,hd⟩:=hL;replace hc:c=.type "tuple" :=hc;replace hd:dt=.seq aa n:=hd;subst hc hd;refine callType_new F.called_enumerate .d (F.typeCall_enumerate_1 _) (F.newCall_enumerate_1 _) (fun obj=>F.args_object_init_2 obj _) F.entry_enumerate_new (Zd1 l aa n gq sl) ⟨hl,?_⟩;have hz:(s.heap.push {cls:=.type "tuple_iterator",data:=.fields #[.ref l,.int 0 0]}).objs.size=s.heap.objs.size+1:=Zey ..;show _/\_;rw[hz];have he:IsEnum ((s.heap.push {cls:=.type "tuple_iterator",data:=.fields #[.ref l,.int 0 0]}).push {cls:=.type "enumerate",data:=.fields #[.none,.bool false,.ref s.heap.objs.size,rawInt 0,.none,.none]}) (s.heap.objs.size+1) s.heap.objs.size 0 .none:=by have q:=ZaD (s.heap.push {cls:=.type "tuple_iterator",data:=.fields #[.ref l,.int 0 0]}) (o:= {cls:=.type "enumerate",data:=.fields #[.none,.bool false,.ref s.heap.objs.size,rawInt 0,.none,.none]}) rfl;rw[hz]at q;exact q
 exact⟨⟨_,he,rfl⟩,h _ he ⟨_,Zan _ (ZaD _ rfl),rfl,rfl⟩ fun b o x=>Zan _ (Zan _ x)⟩
def F4 (K:Zke)(t:Addr):It:=
 ⟨fun i H=> ∃xs x,ah K H t xs/\xs[i]?=some x,fun i H x H'=> ∃(T:Addr) (y:V),x=.ref T/\H T=none/\H'=upd H T (.par [.int (i:Int),y])/\∀xs,ah K H t xs->xs[i]?=some y,fun i H=> ∃xs,ah K H t xs/\xs.length=i⟩
theorem Zdw {P:Program}{K:Zke}(t e j:Addr)(nJ:e≠j)(wq:t≠e)(wo:t≠j):
  Turn P w K (.Tuple elts kk pos) (F4 K t) [e,j] e (fun i h=>(∃old,IsEnum h e j i old)/\h.IsTupleIter j t i) where
 mem:=.s
 obj:=fun i h st b hb=>by
  obtain⟨⟨old,he⟩,o,ho,hc,hd⟩:=st;rcases Zas.mp hb with rfl|hb
  ·exact⟨_,he,fun v z=>by cases z⟩
  ·rw[ZaE.mp hb];exact⟨o,ho,fun v z=>by rw[hd]at z;cases z⟩
 keep:=fun i h h' st k=>⟨let ⟨old,he⟩:=st.1;⟨old,k e .s _ he⟩,st.2.at fun o q=>k j .s o q⟩
 item:=by
  intro X hP hw hK hc i pins s σ H E I hf st hg;subst hP hw hK;obtain⟨xs,x,hq,hx⟩:=hg;obtain⟨aa,rv,p,hz⟩:=I.tuple hq;obtain⟨u,hu,ru⟩:=rv.get hx;have hl:=rv.length;have rb:i<aa.toArray.size:=by have:=(Zai.mp hu).1;simpa using this
  have W:=ZhW (prog:=X.prog) (w:=X.w) (A:=X.A) (LG (A:=X.A.in1) (show X.A.in1.handled=none from I.ok.hd hc) j t wo aa.toArray) e nJ (by simp[nJ,wq.symm]) .s;have hT:s.heap.IsTuple t aa.toArray:=p;refine W.item i s _ _ rb ⟨st.1,st.2,hT⟩ fun T vals h' tk hP dz rA kL hk=>⟨_,rfl,W.go elts kk pos i T _ _ _ kL fun gp eW gk=>?_⟩;obtain⟨A4,x2,nA,rfl⟩:=hP;have oV:aa[i]?=some x2:=by simpa using nA
  rw[hu]at oV;cases oV;have xf:T∉[e,j]:=W.apart _ _ _ kL;refine⟨.ref T,upd H T (.par [.int (i:Int),x]),WG (s:=s) (h':=gp) (tk:=tk) I hf (fun b o hb q=>gk b o hb (hk b o hb q)) dz (rA.at fun o q=>gk T o xf q) ⟨A4,rfl⟩ ru,rfl,⟨T,x,rfl,I.au.fresh dz,rfl,fun ys hy=>by rw[I.AZ hy hq];exact hx⟩,⟨eW.1,eW.2.1⟩,fun b hb=>?_⟩;rw[Zh (fun z=>xf (by rw[<-z];exact hb))];exact(hf b hb).1
 done:=by
  intro X hP hw hK hc i pins s σ H E I hf st hg;subst hP hw hK;obtain⟨xs,hq,hx⟩:=hg;obtain⟨aa,rv,p,hz⟩:=I.tuple hq;have hl:=rv.length;have W:=ZhW (prog:=X.prog) (w:=X.w) (A:=X.A) (LG (A:=X.A.in1) (show X.A.in1.handled=none from I.ok.hd hc) j t wo aa.toArray) e nJ (by simp[nJ,wq.symm]) .s;have hn:i=aa.toArray.size:=by rw[Zar];lia
  have hT:s.heap.IsTuple t aa.toArray:=p;rw[hn]at st;exact W.done s _ _ ⟨st.1,st.2,hT⟩ fun h' tk hk=>⟨rfl,Um (s:=s) (h':=h') (tk:=tk) I hf hk⟩
 self:=fun A i s Q E st h=>let ⟨old,he⟩:=st.1;ZhX he h
section
variable {tp:Pos}
def Vi (K:Zke)(ta:TA):TI:=fun σ H R=>ta σ H fun vs H1=> ∃t,vs=[.ref t]/\(∃xs,ah K H1 t xs)/\R (F4 K t) H1
theorem ZfX {a:Expr}{ta:TA}{p:Pos}(hg:Gl X "enumerate")(hm:X.mg "enumerate" =none)(ha:PA X [a] ta)(hs:starEach [a] X.env=[(false,eval a X.env)]:=by rfl):PI X (.Tuple elts kk tp) (.Call (.Name "enumerate" p) [a] [] pos) (Vi X.K ta):=by
 intro pins s σ H R I h;refine Call_ (Jx I hg hm boot_enumerate (Zca (aH (ha pos pins s σ H _ I h) fun us s1 ⟨vs,H1,I1,r1,q1⟩=>?_) hs rfl));obtain⟨t,e,⟨xs,hq⟩,q⟩:=q1;subst e;obtain⟨u,rfl,ru⟩:=Zji r1;cases ru;obtain⟨aa,rv,pl,hz⟩:=I1.tuple hq;have hT:s1.heap.IsTuple t aa.toArray:=pl;have ht:t<s1.heap.objs.size:=by obtain⟨o,ho,_⟩:=hT;exact ZaA ho
 refine ZcM hT fun h' he hj hk=>ZhX he ?_;have I2:ag X pins σ H1 {s1 with heap:=h'} :=I1.kept (t':=s1.toks) hk;refine⟨s1.heap.objs.size+1,[s1.heap.objs.size+1,s1.heap.objs.size],_,_,H1,rfl,I2,Zdw t _ _ (Nat.succ_ne_self _) (ZaR (Zfb ht)) (ZaR ht),⟨⟨_,he⟩,hj⟩,fun b hb=>?_,q⟩;have jy:s1.heap.objs.size<=b:=by
  rcases Zas.mp hb with z|z
  ·rw[z];exact ZhU _
  ·rw[ZaE.mp z];exact Zal _
 exact I1.pC jy (I1.au.fresh jy)
end
theorem ZdN {K:Zke}{a:Addr}{g:TG}{tt:TT}{ti:TC}{σ:St}{Q:List V->St->Hp->Prop}(Pv:Nat->List V->St->Hp->Prop)(h0:Pv 0 ys σ H)
  (hl:∀i ys σ H,i<=xs.length->Pv i ys σ H->ah K H a xs)
  (hs:∀i x T ys σ H,xs[i]?=some x->H T=none->Pv i ys σ H->g (.ref T) σ (upd H T (.par [.int (i:Int),x])) fun bB H2=>tt bB H2 fun b H3=>if b=true then ti ys bB H3 (Pv (i+1)) else Pv (i+1) ys bB H3)
  (hd:∀ys σ H,Pv xs.length ys σ H->Q ys σ H):ke g tt ti (F4 K a) ys σ H Q:=W0 Pv h0 (fun i ys σ H h p=>⟨xs,xs[i],hl i ys σ H (Zbl h) p,Zaj h⟩) (fun ys σ H p=>⟨⟨xs,hl _ ys σ H (Zal _) p,rfl⟩,hd ys σ H p⟩) fun i ys σ H x H' h p ⟨T,z,e1,e2,e3,e4⟩=>by
 subst e1 e3;exact hs i z T ys σ H (e4 xs (hl i ys σ _ (Zbl h) p)) e2 p
structure Fl (P:Program)(w:World)(outer:List Env)(H:Hp)(s:Shared)(e C:Addr)(H':Hp)(s':Shared):Prop where
 os:s'.os=s.os
 bare:AllBare s'.gens
 un:Un (bz outer) [] H H' s.heap s'.heap
 au:bK P w H' s'.heap
 EB:∃B a0,Heap.FlyingW B outer e (.ref C) a0 s'.heap/\(∀b o,s.heap.get? b=some o->b∉bz outer->∃u,B.get? b=some u)/\∀b o,H' b=some o->∃u,B.get? b=some u
def cJ (P:Program)(w:World):j8:=fun outer H s E ev s'=> ∃e C H',ev=.ref e/\Fl P w outer H s e C H' s'/\E (.ref e) (some C) H'
section
variable {P:Program}{env:Env}{s0 s1 s2:Shared}{H0 H2:Hp}{e C L:Addr}
theorem J8 {B h1 h2:Heap}(x:bK P w H h1)(cN:∀b o,H b=some o->∃u,B.get? b=some u)(k1:B.StaysIn h1)(k2:B.StaysIn h2):bK P w H h2:=fun a o ha=>
  (x a o ha).cY (fun b u hb hq=>by
    have:∃u',B.get? b=some u':=by
      rcases hb with rfl|hb
      · exact cN _ _ ha
      · exact cN _ _ hb
    obtain⟨u',hu⟩:=this;have e1:=k1 b u' hu;rw[hq]at e1;cases e1;exact k2 b _ hu) (fun _ q=>q) fun _ _ q=>q
theorem Ut {B:Heap}(u0:Un (bz outer) [] H0 H1 s0.heap s1.heap)(u1:Un (bz (env::outer)) [] H1 H2 s1.heap s2.heap)(hf:env.frame=some L)(ab:s0.heap.objs.size<=L)(fu:s0.heap.FunFrames base outer)(fz:∀b∈bz outer,H0 b=none)
  (cN:∀b o,s1.heap.get? b=some o->b∉bz (env::outer)->∃u,B.get? b=some u) (k1:B.StaysIn s2.heap) (k2:B.StaysIn h') (up:s2.heap.UpToSlots h'):Un (bz outer) [] H0 H2 s0.heap h':=by
 have js:∀b,b∈bz (env::outer)↔b=L∨b∈bz outer:=fun b=>by show b∈(env::outer).filterMap (·.frame)↔_;rw[Zeb (f:=fun(x:Env)=>x.frame) (a:=env) (b:=L) hf,Zas];exact Iff.rfl
 have out:∀b o,s0.heap.get? b=some o->b∉bz outer->b∉bz (env::outer):=fun b o hb hn hm=>by
  rcases (js b).mp hm with q|q
  ·rw[q]at hb;exact absurd (ZaG (ZaA hb) ab) (ZbM _)
  ·exact hn q
 have Dh:∀b o u,s2.heap.get? b=some o->B.get? b=some u->h'.get? b=some o:=fun b o u hb hu=>by have e1:=k1 b u hu;rw[hb]at e1;cases e1;exact k2 b _ hu
 have sV:∀b o,s0.heap.get? b=some o->b∈bz outer->∃sl,h'.get? b=some {o with slots:=sl} :=fun b o hb hm=>by obtain⟨_,o',fb,nf⟩:=fu.mem hm;rw[hb]at fb;cases fb;obtain⟨QE,e1⟩:=u0.slot b o hb (fz b hm) hm .s;have n1:=u0.free b o hb (fz b hm) .s;obtain⟨kj,e2⟩:=u1.slot b _ e1 n1 ((js b).mpr (.inr hm)) .s;obtain⟨QD,e3⟩:=up b _ e2 nf;exact⟨QD,e3⟩
 refine⟨fun b o hb hn I9 _=>?_,fun b o hb hn hm _=>sV b o hb hm,fun b o hb hn hx=>?_,fun b o hb _=>?_,fun b xs hb=>u1.je b xs (u0.je b xs hb),fun b o u hb=>u1.iX b o u (u0.iX b o u hb),fun b ps hb=>?_⟩
 ·have e1:=u0.keep b o hb hn I9 .s;have n1:=u0.free b o hb hn .s;have cj:=out b o hb I9;have e2:=u1.keep b o e1 n1 cj .s;obtain⟨u,hu⟩:=cN b o e1 cj;exact Dh b o u e2 hu
 ·obtain⟨o1,e1⟩:=u0.there b o hb .s;have n1:=u0.free b o hb hn .s;exact u1.free b o1 e1 n1 .s
 ·by_cases hm:b∈bz outer
  ·obtain⟨sl,q⟩:=sV b o hb hm;exact⟨_,q⟩
  ·obtain⟨o1,e1⟩:=u0.there b o hb .s;obtain⟨u,hu⟩:=cN b o1 e1 (out b o hb hm);exact⟨u,k2 b u hu⟩
 ·obtain⟨m1,q1⟩:=u0.iH b ps hb;obtain⟨m2,q2⟩:=u1.iH b _ q1;exact⟨m1++m2,by rw[q2,Array.append_assoc]⟩
end
theorem RU {P:Program}{K:Zke}{f:Addr}{cd:Value}{E:XK} :
  Passes (cJ P w) (eU (cJ P w) P w K mg base N qual scope f cd A outer s H E) E:=by
 intro pins σ H1 s1 ev s2 I h;obtain⟨e,C,H',rfl,F,hE⟩:=h;obtain⟨B,a0,fl,cN,i7⟩:=F.EB;refine wpAny_leaves_onW (L:=s.heap.objs.size) I.ok.frames rfl fl fun h' rE up=>?_;refine⟨e,C,H',rfl,⟨F.os.trans I.os,F.bare,Ut (base:=base) (L:=s.heap.objs.size) I.base F.un rfl (Zal _) I.ok.fN I.ok.jX cN fl.1 rE.1 up,J8 F.au i7 fl.1 rE.1,B,a0,rE,fun b o hb hn=>?_,i7⟩,hE⟩;obtain⟨o1,e1⟩:=I.base.there b o hb (by simp[eU]);refine cN b o1 e1 fun hm=>?_;have iT:b∈(envOfC qual scope s.heap.objs.size f cd::outer).filterMap (·.frame):=hm;rw[Zeb (f:=fun(x:Env)=>x.frame) (a:=envOfC qual scope s.heap.objs.size f cd) (b:=s.heap.objs.size) rfl]at iT;rcases Zas.mp iT with q|q
 ·rw[q]at hb;exact absurd (ZaA hb) (ZbM _)
 ·exact hn q
theorem Zgq {K:Zke}(X:K.In h)(q:PySem.W.excIn K C xI newId=true):
  ∃bm N nm qn bs hdct sn sub ab col dd k0 k1 k2 k3 k5 mN,h.get? C=some (excClassObj nm qn C N bs bm hdct sn sub ab col dd k0 k1 k2 k3 k5 newId)/\h.Ns N mN/\mN "__init__" =none/\OwnTail h xI bm:=by
 unfold PySem.W.excIn at q;split at q
 ·rename_i dd cd sl lk;split at q
  ·rename_i c2 bm j0 j1 j2 j3 nn j5 em es;rw[Zap,Zap,Zap,Zap,Zap]at q;obtain⟨⟨⟨⟨⟨q1,q2⟩,q3⟩,q4⟩,q5⟩,q6⟩:=q;have z1:=Zcr.mp q1;have z2:=Zcr.mp q2;have z6:=Zcr.mp q6;subst z1 z2;have ob:=X _ _ lk;have z3:cd.hasDel=false:=by revert q3;cases cd.hasDel<;>simp
   have zs:sl= #[j0,j1,j2,j3,some (.builtin nn),j5]:=by apply Array.toList_inj.mp;rw[es]
   refine⟨bm,cd.ns,cd.name,cd.qualname,cd.bases,cd.hasDict,cd.slotNames,cd.subclasses,cd.abstract,cd.collection,dd,j0,j1,j2,j3,j5,h.nsMap cd.ns,?_,.of_isNs (PySem.W.isNs_of_in X q5),PySem.W.nsMap_none_of_in X q5 z6,PySem.W.tail_of_in X q4⟩;rw[ob,zs];obtain⟨a1,a2,a3,a4,a5,a6,a7,a8,a9,a10,a11⟩:=cd;cases em;cases z3;rfl
  ·cases q
 ·cases q
def P9 (C:Addr)(E:XK)(ta:TA):TS:=fun _ σ H=>ta σ H fun vs H1=>vs.length<=sizeLine/\∀e,E (.ref e) (some C) H1
theorem ZbN {P:Program}{K:Zke}{f:Addr}{cd:Value}{s1:Shared}{E:XK}
  {pins:List (Addr×Obj)}{σ:St}{h':Heap}{e C:Addr}{vs:List Value} (I:ag (eU (cJ P w) P w K mg base N qual scope f cd A outer s H E) pins σ H1 s1) (mk:Heap.MadeExcOf s1.heap h' e (.ref C) vs) (hE:E (.ref e) (some C) H1):
  (eU (cJ P w) P w K mg base N qual scope f cd A outer s H E).xe (.ref e) {s1 with heap:=h'} :=by
 have oY:∀env∈(envOfC qual scope s.heap.objs.size f cd::outer),∀b,env.frame=some b->b∈bz (envOfC qual scope s.heap.objs.size f cd::outer):=fun env he b hb=>Zb7.mpr ⟨env,he,hb⟩;have st:=I.stack;refine wpAny_leaves_madeW (L:=s.heap.objs.size) (base:=PySem.W.hideAll s1.heap (bz (envOfC qual scope s.heap.objs.size f cd::outer))) (h:=s1.heap) I.ok.frames rfl (fun b o q=>Zgu _ q) (PySem.W.funFrames_hide st oY) mk fun h2 t fl tp _ up=>?_;have cN:∀b o,s1.heap.get? b=some o->b∉bz (envOfC qual scope s.heap.objs.size f cd::outer)->∃u,(PySem.W.hideAll s1.heap (bz (envOfC qual scope s.heap.objs.size f cd::outer))).get? b=some u:=fun b o hb hn=>⟨o,Ziq _ hb hn⟩;have i7:∀b o,H1 b=some o->∃u,(PySem.W.hideAll s1.heap (bz (envOfC qual scope s.heap.objs.size f cd::outer))).get? b=some u:=fun b o hb=>by
  have hl:=I.au.lt hb;have hx:∃u,s1.heap.get? b=some u:=by
   have ok:=I.au b o hb;cases o with
   |lst xs=>obtain⟨_,_,_,_,q⟩:=ok;exact⟨_,q⟩
   |tup xs=>obtain⟨_,_,_,⟨ob,q,_⟩,_⟩:=ok;exact⟨_,q⟩
   |par xs=>obtain⟨_,_,_,ob,q,_⟩:=ok;exact⟨_,q⟩
   |dK kvs=>obtain⟨_,_,_,_,ob,_,_,q,_⟩:=ok;exact⟨_,q⟩
   |dT kvs=>obtain⟨_,_,_,_,ob,_,_,q,_⟩:=ok;exact⟨_,q⟩
   |set S n=>obtain⟨ob,_,_,_,q,_⟩:=ok;exact⟨_,q⟩
   |ins C dx fs=>obtain⟨_,_,_,q,_⟩:=ok;exact⟨_,q⟩
   |own y=>exact ok
   |xd fs=>obtain⟨_,⟨_,_,_,q,_⟩,_⟩:=ok;exact⟨_,q⟩
   |jk lo hi=>obtain⟨_,_,_,q⟩:=ok;exact⟨_,q⟩
   |de ob u=>exact⟨_,ok.1⟩
   |cm ps=>exact⟨_,(show s1.heap.get? b=some _ from ok)⟩
   |met f y=>exact⟨_,(show s1.heap.get? b=some _ from ok)⟩
   |ext φ=>exact ok.2.1
  obtain⟨u,hu⟩:=hx;exact cN b u hu fun hm=>by have:=I.uX b hm;rw[this]at hb;cases hb
 have k1:Heap.StaysIn (PySem.W.hideAll s1.heap (bz (envOfC qual scope s.heap.objs.size f cd::outer))) h':=fun b o q=>mk.keeps b o (Zgu _ q);refine⟨e,C,H1,rfl,⟨I.os,I.bare,Ut (s1:=s1) (s2:= {s1 with heap:=h'}) (base:=base) (L:=s.heap.objs.size) I.base (Un.kept mk.keeps) rfl (Zal _) I.ok.fN I.ok.jX cN k1 fl.1 up,J8 (I.au.kept mk.keeps) i7 k1 fl.1,_,_,fl,fun b o hb hn=>?_,i7⟩,hE⟩;obtain⟨o1,e1⟩:=I.base.there b o hb (by simp[eU]);refine cN b o1 e1 fun hm=>?_;have iT:b∈(envOfC qual scope s.heap.objs.size f cd::outer).filterMap (·.frame):=hm;rw[Zeb (f:=fun(x:Env)=>x.frame) (a:=envOfC qual scope s.heap.objs.size f cd) (b:=s.heap.objs.size) rfl]at iT;rcases Zas.mp iT with q|q
 ·rw[q]at hb;exact absurd (ZaA hb) (ZbM _)
 ·exact hn q
theorem UA {P:Program}{K:Zke}{f:Addr}{cd:Value}{E:XK}{x:Str}{C:Addr}{B newId Va:String}{xI:List Value}
  {rG:Expr}{rest:List Expr}{np iB pos:Pos}{ta:TA} (FB:ExcBaseFacts B newId Va xI) (hmg:mg x=some (.ref C)) (hex:PySem.W.excIn K C xI newId=true) (hg:Gl (eU (cJ P w) P w K mg base N qual scope f cd A outer s H E) x)
  (ha:PA (eU (cJ P w) P w K mg base N qual scope f cd A outer s H E) (rG::rest) ta)
  (he:starEach (rG::rest) (envOfC qual scope s.heap.objs.size f cd)=(false,eval rG (envOfC qual scope s.heap.objs.size f cd))::starEach rest (envOfC qual scope s.heap.objs.size f cd):=by rfl)
  (cG:(backTo iB (starEach rest (envOfC qual scope s.heap.objs.size f cd))).any (·.1)=false:=by rfl) (hd:(x==("__debug__" :Str))=false:=by decide):
  PS (eU (cJ P w) P w K mg base N qual scope f cd A outer s H E) (.Raise (some (.Call (.Name x np) (rG::rest) [] iB)) none pos) (P9 C E ta):=by
 intro pins s1 σ H1 D I h;obtain⟨bm,Nn,nm,qn,bs,hdct,sn,sub,ab,col,dd,k0,k1,k2,k3,k5,mN,hC,hN,V8,T⟩:=Zgq I.mod.qI hex;refine wpAny_Raise_call_subT (C:=C) (nm:=nm) (q:=qn) (N:=Nn) (bs:=bs) (bm:=bm) (hdct:=hdct) (sn:=sn) (sub:=sub) (ab:=ab) (col:=col) (dd:=dd) (k0:=k0) (k1:=k1) (k2:=k2) (k3:=k3) (k5:=k5)
  FB (mN:=mN) (T.hasType FB.hasBase) (I.ok.hd rfl) ?_ V8 (JZ I hg hmg ⟨rfl,?_⟩ hd)
 ·show(backTo iB (starEach (rG::rest) (envOfC qual scope s.heap.objs.size f cd))).any (·.1)=false;rw[he];show(false||(backTo iB (starEach rest (envOfC qual scope s.heap.objs.size f cd))).any (·.1))=false;rw[cG];rfl
 ·have q:=ha iB pins s1 σ H1 _ I h;show wpAny _ _ (evalArgs (.ref C) true (backTo iB (starEach (rG::rest) (envOfC qual scope s.heap.objs.size f cd))) []) _ _ _;have q':wpAny (model P w) (A.deeper (envOfC qual scope s.heap.objs.size f cd)) (spliced (backTo iB (starEach (rG::rest) (envOfC qual scope s.heap.objs.size f cd)))) _ _ s1:=q;rw[he]at q' |-;refine Calls.evalArgs_plain (ZbR q' (fun us s2 h2=>?_) fun _ _ y=>y);obtain⟨vs,H2,I2,r,hz,hE⟩:=h2;refine⟨rfl,by rw[<-r.length];exact hz,I2.bk _ _ hC,hN.keeps I2.bk,T.keeps I2.bk,fun h' e mk=>?_⟩;exact ZbN I2 mk (hE e)
def Qn (ta tb:TE):TE:=fun σ H Q=>ta σ H fun v H1=> ∃x,v=.str x/\(Str.empty++x).length<=sizeLine/\tb σ H1 fun u H2=> ∃n:Int,u=.int n/\n.natAbs.log2<1920/\(Str.empty++x++(Str.ofString (toString n))).length<=sizeLine/\∀z,Q (.str z) H2
theorem ZfZ (ha:PE X a ta)(hb:PE X b tb):PE X (.JoinedStr [a,.FormattedValue b (-1) none p] pos) (Qn ta tb):=by intro pins s σ H Q I h;refine JoinedStr_many (joinParts_cons (ZbR (ha pins s σ H _ I h) (fun u s1 h1=>?_) fun _ _ y=>y));obtain⟨v,H1,I1,r1,x,rfl,hz,h2⟩:=h1;obtain⟨t,rfl⟩:=r1;refine⟨hz,joinParts_cons (FormattedValue_plain (ZbR (hb pins s1 σ H1 _ I1 h2) (fun u s2 h3=>?_) fun _ _ y=>y))⟩;obtain⟨v,H2,I2,r2,n,rfl,hn,dF,q⟩:=h3;obtain⟨t2,rfl⟩:=r2;refine formatField_int_small hn ⟨dF,?_⟩;refine joinParts_nil ?_ dF;exact⟨.str _,H2,(I2.tok _).tok _,⟨_,rfl⟩,q _⟩
section
variable {P:Program}{K:Zke}
theorem aO.tF {x:Str}{st:Stmt}{f:Addr}{fd:FuncData}{ps:List Str}{k:Nat}{sp:Sp}(F:aO K x qual st f fd)(S:bo N ps (aR st))(len:∀vs H Q E,sp vs H Q E->vs.length=ps.length)
    (hb:∀(aw:Value) (A:Around) (outer:List Env) (s:Shared) (H:Hp) (vs:List V) (Q:VK) (E:XK),bO k (A.deeper (envOfC qual (aR st) s.heap.objs.size f aw))->sp vs H Q E->
      ∃t,cO (eU (cJ P w) P w K mg base N qual (aR st) f aw A outer s H E) (ck st) t/\t {nx:=fun _ H'=>Q .af H',rt:=Q} (start N vs) H):aJ P w K mg base (cJ P w) (k+1) f fd ps sp:=by
  obtain⟨oc,od,kV,doc,pm,an,aw,ct,hZ,rfl,lk,cq⟩:=F.ex;exact EZ lk cq S len fun A outer s H vs Q E hr fA=>hb aw A outer s H vs Q E hr fA
def dD (P:Program)(w:World)(K:Zke)(mg:Str->Option Value)(base:Heap)(k:Nat)(x:Str)(ps:List Str)(sp:Sp):Prop:=
 ∃f fd,aJ P w K mg base (cJ P w) k f fd ps sp/\mg x=some (.ref f)/\PySem.W.keepIn K (.ref f)=true/\Binds K fd ps []
theorem Wz {E:XK}{p:Pos}
  (d:dD P w K mg base k x ps sp) (hr:bO k (A.deeper (envOfC qual scope s.heap.objs.size f cd))) (ha:PA (eU (cJ P w) P w K mg base N qual scope f cd A outer s H E) (e::es) t) (hg:Gl (eU (cJ P w) P w K mg base N qual scope f cd A outer s H E) x:=by rfl)
  (gn:(x==("__debug__" :Str))=false:=by decide)
  (he:starEach (e::es) (envOfC qual scope s.heap.objs.size f cd)=(false,eval e (envOfC qual scope s.heap.objs.size f cd))::starEach es (envOfC qual scope s.heap.objs.size f cd):=by rfl)
  (cG:(backTo pos (starEach es (envOfC qual scope s.heap.objs.size f cd))).any (·.1)=false:=by rfl):
  PE (eU (cJ P w) P w K mg base N qual scope f cd A outer s H E) (.Call (.Name x p) (e::es) [] pos) (mS sp [] E t):=by
 obtain⟨g,fd,F,hm,hk,hb⟩:=d;exact FK F hr hg hm hk hb .nil RU ha gn he cG
end
end L2
namespace L2
open PySem PySem.Spec PyProof.Rows PySem.Builtin PySem.Builtin.ObjectAttr PySem.Builtin.Getset_descriptor
def nV (e C:Addr):HO:=.ext fun h=> ∃o,h.get? e=some o/\o.cls=.ref C
structure sj (K:Zke)(C:Addr):Prop where
 ga:PySem.W.findIn K (.ref C) "__getattribute__" =some (some (.builtin "BaseException.__getattribute__"))
 hook:PySem.W.findIn K (.ref C) "__getattr__" =some none
 cl:PySem.W.findIn K (.ref C) "__class__" =some (some (.builtin "object.__class__"))
 ob:PySem.W.mroIn K C (.type "object")=some true
 bx:PySem.W.mroIn K C (.type "BaseException")=some true
 cls:(PySem.W.clsIn K C).isSome=true
section
variable {K:Zke}{e C:Addr}{o:Obj}{R:Result->Shared->Prop}
theorem W2 (hx:h.get? e=some o)(hc:o.cls=.ref C):PySem.W.Looks M h (typeOf (.ref e)) (.ref C):=hc▸(PySem.W.Looks.ld hx).andThen .now
theorem Zfn (X:K.In s.heap)(hx:s.heap.get? e=some o)(hc:o.cls=.ref C)(Z:sj K C)(h:R (.ok (.ret (.ref C))) s):
  codeAny (model prog w) A (.call (.builtin "getset_descriptor.__get__") ⟨[.builtin "object.__class__",.ref e,tp],[]⟩) R s:=by
 obtain⟨h0,g0,d0,t0,o0⟩:=s;have LT:=W2 (M:=model prog w) hx hc;have LM:=PySem.W.looks_mroIn (M:=model prog w) X Z.ob;refine codeAny_call_builtin PySem.W.KF.slot_gs.plain PySem.W.KF.entry_gs (PySem.W.KF.slot_gs.check _ _ _ _ _ _ _ _ PySem.W.KF.type_class (PySem.W.KF.args_gs _ _ _) ?_);unfold Builtin.«getset_descriptor.__get__» descrGet;rw[PySem.W.dga_obj];refine gc (Zav ?_);unfold descrGetter descrCheckInstance descrNameAndClass isInstance;simp only[PySem.W.KF.owner_class]
 repeat lk
 refine⟨Code.quiet_builtin _ .k,Ziv PySem.W.KF.entry_class ?_⟩;unfold Builtin.«object.__class__» shownTypeOf
 repeat lk
 exact h
theorem Zd0 {Q:PySem.Fin->Shared->Prop}(X:K.In s.heap)(hx:s.heap.get? e=some o)(hc:o.cls=.ref C)(Z:sj K C)(hq:Q (.done (.ret (.ref C))) s):
  wpAny (model prog w) A (Builtin.«object.__getattribute__» ⟨[.ref e,.str "__class__" tk],[]⟩) Q E s:=by
 obtain⟨h0,g0,d0,t0,o0⟩:=s;have LT:=W2 (M:=model prog w) hx hc;have LC:=Zil (M:=model prog w) X Z.cl;have Ei:(⟨h0,g0,d0,t0,o0⟩:Shared).TypeIs (.builtin "object.__class__") "getset_descriptor" :=F.typeOf_object_class;have f5:=F.typeOf_object_class;have f6:=F.slot_gs_get.lookup;have f7:=F.slot_gs_set.lookup
 repeat (any_goals (first|assumption|with_reducible refine LT.at ?_ |with_reducible refine LC.at ?_ |wp_step))
 refine Zfn (s:=⟨h0,g0,d0,t0,o0⟩) X hx hc Z ?_;exact Zav hq
theorem Zfo (X:K.In s.heap)(hx:s.heap.get? e=some o)(hc:o.cls=.ref C)(Z:sj K C)(hq:R (.ok (.ret (.ref C))) s):
  codeAny (model prog w) A (.call (.builtin "BaseException.__getattribute__") ⟨[.ref e,.str "__class__" tk],[]⟩) R s:=by
 refine codeAny_call_builtin F.attr_ValueError.ga.plain F.entry_bexc_ga ?_;obtain⟨h0,g0,d0,t0,o0⟩:=s;have LT:=W2 (M:=model prog w) hx hc;have LB:=PySem.W.looks_mroIn (M:=model prog w) X Z.bx;have hk:builtinKind "BaseException.__getattribute__" =some .slot:=.k;have fA:splitId "BaseException.__getattribute__" =some ("BaseException","__getattribute__"):=.k;have ha:=F.args_bexc_ga (.ref e) (.str "__class__" tk);simp only[checkBuiltinCall,hk,fA];have LI:PySem.W.Looks (model prog w) h0 (isInstance (.ref e) (.type "BaseException")) true:=LT.andThen LB;refine gc (LI.at ?_)
 repeat (first|exact Zd0 (s:=⟨h0,g0,d0,t0,o0⟩) X hx hc Z hq|assumption|wp_step)
theorem Zfp {Q:Option Value->Shared->Prop}(X:K.In s.heap)(hx:s.heap.get? e=some o)(hc:o.cls=.ref C)(Z:sj K C)(hq:Q (some (.ref C)) {s with toks:=s.toks+1}):
  wpAny (model prog w) A (getAttr? (.ref e) "__class__") Q E s:=by
 obtain⟨h0,g0,d0,t0,o0⟩:=s;have LT:=W2 (M:=model prog w) hx hc;have L1:=Zil (M:=model prog w) X Z.ga;have L2:=Zil (M:=model prog w) X Z.hook;have f3:=F.attr_ValueError.ga.bind (.ref e);have nA:(Value.builtin "BaseException.__getattribute__" ==Value.builtin "object.__getattribute__")=false:=.k;have qO:(onTheHeap (Value.ref C)&&Value.builtin "BaseException.__getattribute__" ==Value.builtin "object.__getattribute__")=false:=by rw[nA];rfl
 unfold getAttr? getAttrBy? getAttrBy;refine gc (wpAny_mkText (gc (Zi4 (ZcT (gc (LT.at (gc (L1.at ?_))))))))
 repeat (any_goals (first|assumption|with_reducible refine L2.at ?_ |wp_step))
 refine Zfo (s:=⟨h0,g0,d0,t0+1,o0⟩) X hx hc Z ?_
 repeat (any_goals (first|assumption|wp_step))
theorem Ze2 (Z:sj K C):PySem.W.KitX K (.ref e) (.ref C) (fun h=> ∃o,h.get? e=some o/\o.cls=.ref C) where
 ty:=fun M h _ ⟨o,hx,hc⟩=>W2 hx hc
 it:=fun M h X _=>by
  obtain⟨cd,cq⟩:=Zc5.mp Z.cls;unfold PySem.W.clsIn at cq;split at cq
  ·rename_i lk;intro A2 Q2 E2 s2 k q;unfold isType loadHead;exact gc (wpAny_loadPart (k _ _ (X _ _ lk)) (Zav q))
  ·cases cq
 ne:=fun h tp dd aa n sl X tT=>by
  obtain⟨cd,cq⟩:=Zc5.mp Z.cls;refine ZiW.mpr fun q=>?_;have z:C=tp:=Value.ref.inj (Zcr.mp q);rw[<-z]at tT;unfold PySem.W.clsIn at cq;split at cq
  ·rename_i lk;have y:=(X _ _ lk).symm.trans tT;cases y
  ·cases cq
 ca:=fun X ⟨o,hx,hc⟩ k=>Zfp X hx hc Z k
end
theorem WN:fh X (.builtin "isinstance") (fun xs H Q=> ∃e C y c b,xs=[.ref e,y]/\H e=some (nV e C)/\sj X.K C/\(∀u,RelV y u->u=c)/\PySem.W.kitOne X.K (.ref C) c=some b/\Q (.bl b) H):=by
 rintro pins s σ H vs us Q I r ⟨e,C,y,c,b,rfl,he,Z,hy,hk,q⟩;cases r with
 |cons r1 r2=>
  cases r2 with
  |cons r3 r4=>cases r4;rw[hy _ r3];rw[show _=Value.ref e from r1];obtain⟨p,_,_⟩:=(show bI X.prog X.w H s.heap e (nV e C) from I.au e _ he);exact Zcd (Ze2 Z) I.cK p hk (fun z=>nomatch z) fun tk=>⟨.bl b,H,I.tok _,rfl,q⟩
end L2
namespace L2
open PySem PySem.Spec PyProof.Rows
abbrev Cx.fc (X:Cx)(e:Value):Cx:= {X with A:=X.A.mark (some e),calm:=false,xe:=fun _ _=>False}
section
variable {σ:St}{s':Shared}
theorem ag.fc (I:ag X pins σ H s)(e:Value):ag (X.fc e) pins σ H s:=
 ⟨⟨I.ok.mod,I.ok.kind,I.ok.glob,I.ok.blt,I.ok.above,I.ok.inj,I.ok.has,I.ok.pH,fun h=>Bool.noConfusion h,I.ok.frames,I.ok.sH,I.ok.ui,I.ok.bs,I.ok.mC,I.ok.qG,I.ok.rH,I.ok.fN,I.ok.jX⟩,I.os,I.bare,I.base,I.loc,I.cell,I.free,I.iY,I.pin,I.au,I.len⟩
theorem ag.PD (I:ag (X.fc e) pins σ H s)(hd:X.calm=true->X.A.handled=none):ag X pins σ H s:=
 ⟨⟨I.ok.mod,I.ok.kind,I.ok.glob,I.ok.blt,I.ok.above,I.ok.inj,I.ok.has,I.ok.pH,hd,I.ok.frames,I.ok.sH,I.ok.ui,I.ok.bs,I.ok.mC,I.ok.qG,I.ok.rH,I.ok.fN,I.ok.jX⟩,I.os,I.bare,I.base,I.loc,I.cell,I.free,I.iY,I.pin,I.au,I.len⟩
theorem ag.LO {B:Heap}{o:Obj}(I:ag X pins σ H s)(un:Un (bz X.stack) [] H H' s.heap s'.heap)(os:s'.os=s.os)(bare:AllBare s'.gens)(au:bK X.prog X.w H' s'.heap)
  (cN:∀b o,s.heap.get? b=some o->b∉bz X.stack->∃u,B.get? b=some u) (i7:∀b o,H' b=some o->∃u,B.get? b=some u) (be:B.get? e=none) (k1:B.StaysIn s'.heap) (k2:B.StaysIn h') (up:s'.heap.UpToSlots h')
  (he:h'.get? e=some o) (hc:o.cls=.ref C) (hd:∃vs,o.data=.fields vs):ag X pins σ (upd H' e (nV e C)) {s' with heap:=h'}/\H' e=none:=by
 have n0:H' e=none:=by
  cases q:H' e with
  |none=>rfl
  |some u=>obtain⟨u',hu⟩:=i7 e u q;rw[be]at hu;cases hu
 have sV:∀b o,s.heap.get? b=some o->b∈bz X.stack->∃sl,h'.get? b=some {o with slots:=sl} :=fun b o hb hm=>by obtain⟨_,o',fb,nf⟩:=I.stack.mem hm;rw[hb]at fb;cases fb;obtain⟨QE,e1⟩:=un.slot b o hb (I.uX b hm) hm .s;obtain⟨kj,e2⟩:=up b _ e1 nf;exact⟨kj,e2⟩
 have SF:∀b u,s.heap.get? b=some u->b≠e:=fun b u hb z=>by
  rw[z]at hb;by_cases hm:e∈bz X.stack
  ·obtain⟨_,o',fb,nf⟩:=I.stack.mem hm;rw[hb]at fb;cases fb;obtain⟨sl,q⟩:=sV e u hb hm;rw[he]at q;cases q;obtain⟨vs,hv⟩:=hd;exact nf vs hv
  ·obtain⟨u',hu⟩:=cN e u hb hm;rw[be]at hu;cases hu
 have Dh:∀b o u,s'.heap.get? b=some o->B.get? b=some u->h'.get? b=some o:=fun b o u hb hu=>by have e1:=k1 b u hu;rw[hb]at e1;cases e1;exact k2 b _ hu
 refine⟨I.LP (s':= {s' with heap:=h'}) (ch:=[]) os ⟨fun b u hb hn hf _=>?_,fun b u hb hn hm _=>sV b u hb hm,fun b u hb hn _=>?_,fun b u hb _=>?_,fun b xs hb=>?_,fun b u v hb=>?_,fun b ps hb=>?_⟩ ?_ bare (fun b hb=>absurd hb .s),n0⟩
 ·have e1:=un.keep b u hb hn hf .s;obtain⟨u',hu⟩:=cN b u hb hf;exact Dh b u u' e1 hu
 ·rw[Zh (SF b u hb)];exact un.free b u hb hn .s
 ·by_cases hm:b∈bz X.stack
  ·obtain⟨sl,q⟩:=sV b u hb hm;exact⟨_,q⟩
  ·obtain⟨u',hu⟩:=cN b u hb hm;exact⟨u',k2 b u' hu⟩
 ·have q:=un.je b xs hb;rw[Zh (Ze q n0)];exact q
 ·have q:=un.iX b u v hb;rw[Zh (Ze q n0)];exact q
 ·obtain⟨m,q⟩:=un.iH b ps hb;exact⟨m,by rw[Zh (Ze q n0)];exact q⟩
 ·intro b u hb;by_cases mh:b=e
  ·subst mh;rw[aj]at hb;cases hb;refine⟨⟨o,he,hc⟩,⟨o,he⟩,fun h1 h2 p k=>?_⟩;obtain⟨o1,q1,q2⟩:=p;exact⟨o1,k _ q1,q2⟩
  ·rw[Zh mh]at hb;have x:=J8 au i7 k1 k2 b u hb;refine x.cY (fun c w' me q=>q) (fun c q=>?_) fun c xs q=>?_
   ·rw[Zh (Ze q n0)];exact q
   ·rw[Zh (Ze q n0)];exact q
end
def P1 (X:Cx)(ic ie:Nat)(cS:Addr)(k:Nat)(ts:TS):TS:=fun D σ H=> ∃f fd sp,σ[ic]?=some (some (.ref f))/\(∀s,bK X.prog X.w H s->PySem.W.FnAt f s)/\aJ X.prog X.w X.K X.mg X.base (cJ X.prog X.w) k f fd [] sp/\(∀s,BindsTo s fd ⟨[],[]⟩ [])/\
 sp [] H (fun _ _=>False) fun ev c H'=> ∃e C,ev=.ref e/\c=some C/\PySem.W.exmOne X.K (.ref C) (.ref cS)=some true/\(H' e=none->ts {nx:=fun ao H2=>D.nx (ao.set ie none) H2,rt:=fun _ _=>False} (σ.set ie (some (.ref e))) (upd H' e (nV e C)))
theorem Zcs {p1 p2 p3 p4 p5 p6:Pos}(KD:X.calm=true)(jR:X.stack=X.env::X.outer)(jx:X.env.frame=some X.env.locals)(hN:X.N.Nodup)(XA:X.N[ic]?=some c)(Vu:pN X.env.scope c)
  (zP:X.N[ie]?=some n) (kM:X.env.scope.names.lookup n=some .local) (hS:X.mg S=some (.ref cS)) (XH:Gl X S) (hr:bO k X.A) (VL:∀e,cO (X.fc (.ref e)) (b0::G2) ts)
  (XX:(c==("__debug__" :Str))=false:=by decide) (XW:(c==("__classdict__" :Str))=false:=by decide) (XY:(S==("__debug__" :Str))=false:=by decide)
  (Dy:swapsWith (.Call (.Name c p1) [] [] p2) none p3.line X.env=pure false:=by rfl):
  PS X (.Try [.Expr (.Call (.Name c p1) [] [] p2) p3] [.ExceptHandler (some (.Name S p4)) (some n) (b0::G2) p5] [] [] p6) (P1 X ic ie cS k ts):=by
 intro pins s σ H D I h;obtain⟨f,fd,sp,qN,gm,F,hb,fA⟩:=h;refine wpAny_Try_except ?_;refine Zi9 (wpAny_Expr_any ?_ I.quiet Dy);refine ZcU ?_;have nm:=JI (X:=X.jI (fun _ _=>False)) (i:=ic) (x:=c) (pos:=p1) XA Vu XX XW pins s σ H (fun v H2=>v=.ref f/\H2=H) (I.jI _) ⟨_,qN,rfl,rfl⟩;refine ZbR nm (fun u s1 h1=>?_) (fun _ _ z=>z.elim);obtain⟨v,H1,I1,r1,rfl,rfl⟩:=h1;have I1:=I1.mM;obtain rfl:u=Value.ref f:=r1;refine PySem.W.callWith_F0 (gm _ I1.au) ?_;refine wpAny_call (ZfG (F.run X.A X.stack s1 H1 ⟨[],[]⟩ [] [] _ _ hr I1.Lv (hb s1) .nil fA) fun r s2 hq=>?_);cases r with
 |ok fl=>
  cases fl with
  |ret u=>obtain⟨_,_,_,_,_,_,_,z⟩:=hq;exact z.elim
  |next=>exact hq.elim
  |brk=>exact hq.elim
  |cont=>exact hq.elim
 |error ev=>
  obtain⟨e,C,H2,rfl,FL,e',C',q1,q2,hx,hk⟩:=hq;cases q1;cases q2;obtain⟨B,a0,fl,cN,i7⟩:=FL.EB;rw[jR]at fl;show wpAny (model X.prog X.w) X.A (noteFrame (.ref e) X.env) _ X.xe s2;have EA:X.A.frames=some (X.env::X.outer):=by rw[<-jR];exact I.ok.frames
  refine wpAny_looks_onW (L:=X.env.locals) EA jx fl fun h4 held GL=>?_;refine wpAny_landsW held fun h5 EC GK=>?_;have jC:∃o vs,h5.get? e=some o/\o.cls=.ref C/\o.data=.fields vs:=by
   obtain⟨oe,vs,g1,g2,g3,_⟩:=EC.first
   exact⟨oe,vs,g1,g2,g3⟩
  obtain⟨o5,vs5,Lf,Le,g53⟩:=jC;have c5:=I1.LO (h':=h5) FL.un FL.os FL.bare FL.au cN i7 fl.2.1 fl.1 EC.1 (GL.trans GK) Lf Le ⟨_,g53⟩;have I5:=c5.1.fc (.ref e);refine wpAny_handleBy_cons (codeAny_handlers_test ?_) (by intro q;cases q);refine JZ (X:=X.fc (.ref e)) I5 XH hS ?_ XY;have LX:=PySem.W.exm_one (M:=model X.prog X.w) (c:=.ref cS) (e:=e) I5.cK (W2 Lf Le) hx;refine LX.at ?_;refine codeAny_handlers_suite_as ?_;refine lands_againW (s:= {s2 with heap:=h5}) EC fun h6 Lj PB=>?_;obtain⟨o6,vs6,g61,g62,g63,_⟩:=Lj.first
  obtain⟨I6,n6⟩:=I1.LO (h':=h6) FL.un FL.os FL.bare FL.au cN i7 fl.2.1 fl.1 Lj.1 ((GL.trans GK).trans PB) g61 g62 ⟨_,g63⟩;have I6:=I6.fc (.ref e);have tS:=hk n6;refine YS (X:=X.fc (.ref e)) (i:=ie) I6 hN zP (.inl kM) (v:=.ref e) (u:=.ref e) rfl (fun s7 I7=>?_) (.inr kM);refine ZbR (VL e pins s7 _ _ _ I7 tS) (fun fl8 s8 h8=>?_) fun _ _ z=>z.elim;cases fl8 with
  |ret u=>obtain⟨_,_,_,_,_,z⟩:=h8;exact z.elim
  |brk=>obtain⟨_,_,_,z⟩:=h8;exact z.elim
  |cont=>obtain⟨_,_,_,z⟩:=h8;exact z.elim
  |next=>
   obtain⟨ym,H8,I8,q8⟩:=h8;have I8:=I8.PD (fun z=>I.ok.hd z);obtain⟨m8,Kb,tX⟩:=I8.loc;have Ec:(X.env.scope.kind==.class||(X.env.scope.kind==.module&&X.env.locals !=X.env.globals))=false:=by rw[I8.ok.kind];rfl
   refine wpAny_nameGoes_keeps kM Kb Ec fun h9 v9 V9 qT=>?_;have st:=YS (M:=model X.prog X.w) (A:=X.A) (E:=fun _ _=>False) (X:=X) (i:=ie) I8 hN zP (.inl kM) (v:=.af) (u:=.none) rfl (Q:=fun _ _=>True) (fun _ _=>trivial) (.inr kM);refine⟨ym.set ie none,H8,?_,q8⟩;have bj:ie<ym.length:=by rw[I8.len];exact(Zai.mp zP).1
   obtain⟨oL,_,_,qW,_⟩:=id Kb;have jZ:=I8.jZ;refine⟨I8.ok,I8.os,I8.bare,⟨fun b o eb nb hb hx=>?_,fun b o eb nb hb hx=>?_,I8.base.free,fun b o eb hx=>?_,I8.base.je,I8.base.iX,I8.base.iH⟩,⟨_,V9,fun j y v' e1 e2 e3=>?_⟩,fun y cc ec=>?_,I8.free,I8.iY,fun p hp=>?_,fun b ob eb=>?_,by simpa using I8.len⟩
   ·exact(qT.2 b (ZaR (ZaG (ZaA eb) I8.ok.above))).trans (I8.base.keep b o eb nb hb hx)
   ·obtain⟨sl,q⟩:=I8.base.slot b o eb nb hb hx;exact⟨sl,(qT.2 b (ZaR (ZaG (ZaA eb) I8.ok.above))).trans q⟩
   ·obtain⟨o',q⟩:=I8.base.there b o eb hx;exact⟨o',(qT.2 b (ZaR (ZaG (ZaA eb) I8.ok.above))).trans q⟩
   ·by_cases hj:j=ie
    ·subst hj;rw[ZeD bj]at e2;cases e2
    ·rw[Zfd (Ze4 hj)]at e2;obtain⟨u',r',q⟩:=tX j y v' e1 e2 e3;refine⟨u',r',?_⟩;rcases q with ⟨kk,q⟩|⟨kk,c',ec,z⟩
     ·refine .inl ⟨kk,?_⟩;have ne:y≠n:=fun z=>hj (UF hN e1 (z▸zP));simp[ne,q]
     ·exact .inr ⟨kk,c',ec,z.sameBut qT (jZ y c' ec)⟩
   ·obtain⟨w',z⟩:=I8.cell y cc ec;exact⟨w',z.sameBut qT (jZ y cc ec)⟩
   ·obtain⟨e1,n1,ne1,SU,d1⟩:=I8.pin p hp;exact⟨(qT.2 p.1 ne1).trans e1,n1,ne1,SU,d1⟩
   ·refine(I8.au b ob eb).cY (fun cc w' me q=>(qT.2 cc ?_).trans q) (fun _ q=>q) fun _ _ q=>q;rintro rfl;rcases me with rfl|me
    ·rw[I8.free]at eb;cases eb
    ·rw[I8.free]at me;cases me
def jY (c:Addr)(q:Str):HO:=.ext fun h=>h.CodeRec (.ref c) q
def tM (f:Addr)(q:Str)(params:Arguments)(body:Expr)(scope:Scope)(cl:List (Str×Addr))(pm:Value)(c:Addr)(ct:Value):HO:=.ext fun h=>h.get? f=some (PySem.W.kla_obj "<lambda>" q params body scope cl pm c ct)
def FX (H:Hp)(f:Addr)(q:Str)(params:Arguments)(body:Expr)(scope:Scope)(cl:List (Str×Addr)):Prop:=∃pm c ct,H f=some (tM f q params body scope cl pm c ct)/\H c=some (jY c q)
def aaN (H:Hp)(q:Str)(ps:Array Value):Prop:=TriplesOk ps.toList/\∀pos cv,codeAmong pos ps.toList=some cv->∃c,cv=.ref c/\H c=some (jY c q)
def TabAt (H:Hp)(P:Addr)(q:Str):Prop:=∃ps,H P=some (.cm ps)/\aaN H q ps
theorem WK (x:h.CodeRec (.ref c) q)(k:∀o,h.get? c=some o->h'.get? c=some o):h'.CodeRec (.ref c) q:=by obtain⟨c2,oc,vs,tq,e,g1,g2,g3⟩:=x;cases e;exact⟨c,oc,vs,tq,rfl,k _ g1,g2,g3⟩
theorem Zfy (x:h.CodeRec (.ref c) q):bI P w H h c (jY c q):=by obtain⟨c2,oc,vs,tq,e,g1,g2,g3⟩:=id x;cases e;exact⟨x,⟨_,g1⟩,fun h1 h2 p k=>WK p k⟩
theorem M8 (x:h.get? f=some (PySem.W.kla_obj "<lambda>" q params body scope cl pm c ct)):
  bI P w H h f (tM f q params body scope cl pm c ct):=⟨x,⟨_,x⟩,fun h1 h2 p k=>k _ p⟩
theorem UX {p2:Pos} :∀(l:List Value),TriplesOk l->codeAmong p2 (l++[rawInt pos.line,rawInt pos.col,c])=some cv->codeAmong p2 l=some cv∨cv=c
 | [],_,h=>by
  have h':(if (pos.line:Int)==(p2.line:Int)&&(pos.col:Int)==(p2.col:Int) then some c else codeAmong p2 [])=some cv:=h;split at h'
  ·exact .inr (Za3 h').symm
  ·cases h'
 | .int a t:: .int b u::x::r,ht,h=>by
  have h':(if a==p2.line&&b==p2.col then some x else codeAmong p2 (r++[rawInt pos.line,rawInt pos.col,c]))=some cv:=h;show(if a==p2.line&&b==p2.col then some x else codeAmong p2 r)=some cv∨cv=c;split at h'
  ·rename_i hq;rw[ZaQ hq];exact .inl h'
  ·rename_i hq;rw[ZaN hq];exact UX r ht h'
theorem Wt {c:Value} :∀(l:List Value),TriplesOk l->TriplesOk (l++[rawInt pos.line,rawInt pos.col,c])
 | [],_=>trivial
 | .int _ _:: .int _ _::_::r,h=>Wt r h
structure O9 (X:Cx)(c P:Addr):Prop where
 code:X.env.code=.ref c
 hd:PySem.W.CodeHd X.base c P
 bm:∃bm ob,X.mg "__builtins__" =some (.ref bm)/\bm≠builtinsNs/\X.base.get? bm=some ob/\ob.cls=.type "module" /\ob.dict=some builtinsNs/\ob.data=.plain
def Qk (X:Cx)(P:Addr)(params:Arguments)(body:Expr)(scope:Scope):TE:=fun σ H Q=>TabAt H P (X.env.qual++ "<lambda>")/\∀f H',av P H H'->H f=none->TabAt H' P (X.env.qual++ "<lambda>")->FX H' f (X.env.qual++ "<lambda>") params body scope (fO scope X.env)->Q (.ref f) H'
theorem ZgO {c P:Addr}(L:O9 X c P)(DY:defaultsOf params X.env=([],[]))(jx:∀y∈scope.names,y.2=.free->X.env.kindOf y.1=some .cell∨X.env.kindOf y.1=some .free):
  PE X (.Lambda params body scope pos) (Qk X P params body scope):=by
 intro pins s σ H Q I h;obtain⟨⟨ps,hP,hT,hC⟩,q⟩:=h;have oP:s.heap.get? P=some (PySem.W.tabObj ps):=I.au P _ hP;have md:=Jk (scope:=scope) (env:=X.env) fun y hy e=>I.ok.has _ (jx y hy e);have zZ:s.heap.Ns mainGlobals X.mg:=I.mod.glob.keeps I.bk;obtain⟨bm,ob,b1,b2,b3,b4,b5,b6⟩:=L.bm;have XI:mainGlobals≠P:=fun z=>by obtain⟨o,es,ep,e,d,_⟩:=zZ;rw[z,oP]at e;cases e;cases d
 have rk:bm≠P:=fun z=>by have e:=I.bk _ _ b3;rw[z,oP]at e;cases e;cases b4
 have hbG:bm≠mainGlobals:=fun z=>by obtain⟨o,es,ep,e,d,_⟩:=zZ;have e2:=I.bk _ _ b3;rw[z,e]at e2;cases e2;rw[d]at b6;cases b6
 have BA:s.heap.BuiltinsAt X.mg P:=⟨bm,ob,b1,b2,hbG,rk,I.bk _ _ b3,b4,b5,b6⟩;refine PySem.W.kla_eval DY ?_;cases hf:codeAmong pos ps.toList with
 |some cv=>
  obtain⟨c',rfl,cW⟩:=hC pos cv hf;refine PySem.W.kla_makeFunctionHit md I.ok.glob zZ L.code (L.hd.keeps I.bk) oP hT hf BA fun rO h' tk hk hsz=>?_;have nf:H h'.objs.size=none:=I.au.fresh hsz;have s1:ae H (upd H h'.objs.size (tM h'.objs.size (X.env.qual++ "<lambda>") params body scope (fO scope X.env) ((X.mg "__name__").getD .none) c' rO)):=fun b o hb=>by rw[Zh (Ze hb nf)];exact hb
  refine⟨.ref h'.objs.size,_,I.laid (t':=tk) (a:=h'.objs.size) (fun b u e=>Zan _ (hk b u e)) hsz (M8 (ZaD _ rfl)),rfl,?_⟩;exact q _ _ (fun b o hb _=>s1 b o hb) nf ⟨ps,s1 _ _ hP,hT,fun p2 EM z=>by obtain⟨c2,e2,h2⟩:=hC p2 EM z;exact⟨c2,e2,s1 _ _ h2⟩⟩ ⟨_,c',rO,aj,s1 _ _ cW⟩
 |none=>
  refine PySem.W.kla_makeFunction md I.ok.glob zZ L.code (L.hd.keeps I.bk) oP hT hf XI BA fun c' rO h' tk hx fB bj VR wt=>?_;have TK:∀b o,s.heap.get? b=some o->b<c':=fun b o e=>ZaG (ZaA e) fB;have ltH:∀b o,H b=some o->b<c':=fun b o e=>ZaG (I.au.lt e) fB;have nc:H c'=none:=I.au.fresh fB;have nf:H h'.objs.size=none:=I.au.fresh (Zbb fB (Zbl bj));have RQ:P≠c':=Ze hP nc;have HP:P≠h'.objs.size:=Ze hP nf;have cnf:c'≠h'.objs.size:=ZaR bj;generalize Kz:h'.objs.size=f at nf HP cnf;generalize DB:ps++ #[rawInt pos.line,rawInt pos.col,Value.ref c']=qC at wt;generalize zM:tM f (X.env.qual++ "<lambda>") params body scope (fO scope X.env) ((X.mg "__name__").getD .none) c' rO=lo;have keep:∀b o,b≠P->s.heap.get? b=some o->(h'.push (PySem.W.kla_obj "<lambda>" (X.env.qual++ "<lambda>") params body scope (fO scope X.env) ((X.mg "__name__").getD .none) c' rO)).get? b=some o:=fun b o hb e=>Zan _ (hx b o hb e);have fQ:∀b o,H b=some o->b≠P->upd (upd (upd H P (.cm qC)) c' (jY c' (X.env.qual++ "<lambda>"))) f lo b=some o:=fun b o hb bN=>by rw[Zh (Ze hb nf),Zh (Ze hb nc),Zh bN];exact hb
  have ET:upd (upd (upd H P (.cm qC)) c' (jY c' (X.env.qual++ "<lambda>"))) f lo P=some (.cm qC):=by rw[Zh HP,Zh RQ,aj]
  have atC:upd (upd (upd H P (.cm qC)) c' (jY c' (X.env.qual++ "<lambda>"))) f lo c'=some (jY c' (X.env.qual++ "<lambda>")):=by rw[Zh cnf,aj]
  have Me:upd (upd (upd H P (.cm qC)) c' (jY c' (X.env.qual++ "<lambda>"))) f lo f=some lo:=aj;have J:ag X pins σ (upd (upd (upd H P (.cm qC)) c' (jY c' (X.env.qual++ "<lambda>"))) f lo) {s with heap:=h'.push (PySem.W.kla_obj "<lambda>" (X.env.qual++ "<lambda>") params body scope (fO scope X.env) ((X.mg "__name__").getD .none) c' rO),toks:=tk} :=by
   refine I.un (t':=tk) ⟨fun b o e n _ _=>keep b o (fun z=>by rw[z,hP]at n;cases n) e,fun b o e n _ _=>⟨o.slots,keep b o (fun z=>by rw[z,hP]at n;cases n) e⟩,fun b o e n _=>?_,fun b o e _=>?_,fun b xs e=>fQ b _ e (fun z=>by rw[z,hP]at e;cases e),fun b o u e=>fQ b _ e (fun z=>by rw[z,hP]at e;cases e),fun b qs e=>?_⟩ ?_
   ·have hl:=TK b o e;rw[Zh (by rw[<-Kz];exact ZaR (Zjs hl bj)),Zh (ZaR hl),Zh (fun z=>by rw[z,hP]at n;cases n)];exact n
   ·by_cases hb:b=P
    ·rw[hb];exact⟨_,Zan _ wt⟩
    ·exact⟨o,keep b o hb e⟩
   ·by_cases hb:b=P
    ·rw[hb,hP]at e;cases e;exact⟨_,by rw[hb,ET,DB]⟩
    ·exact⟨#[],by rw[fQ b _ e hb];simp⟩
   ·intro b o hb;by_cases h1:b=f
    ·rw[h1,Me]at hb;cases hb;rw[h1,<-zM];refine M8 ?_;rw[<-Kz];exact ZaD _ rfl
    ·by_cases h2:b=c'
     ·rw[h2,atC]at hb;cases hb;rw[h2];exact Zfy (WK VR fun o e=>Zan _ e)
     ·by_cases h3:b=P
      ·rw[h3,ET]at hb;cases hb;rw[h3];exact Zan _ wt
      ·have cj:H b=some o:=by rw[Zh h1,Zh h2,Zh h3]at hb;exact hb
       refine(I.au b o cj).cY (fun z u hz e=>keep z u ?_ e) (fun z e=>?_) fun z xs e=>?_
       ·rcases hz with hz|hz
        ·rw[hz];exact h3
        ·intro dF;rw[dF,hP]at hz;cases hz
       ·exact fQ z _ e fun dF=>by rw[dF,hP]at e;cases e
       ·exact fQ z _ e fun dF=>by rw[dF,hP]at e;cases e
  refine⟨.ref f,_,J,rfl,?_⟩;refine q f _ (fun b o hb bN=>fQ b o hb bN) nf ⟨qC,ET,?_,fun p2 EM z=>?_⟩ ⟨_,c',rO,by rw[Me,<-zM],atC⟩
  ·rw[<-DB,ZbU];exact Wt _ hT
  ·rw[<-DB,ZbU]at z;rcases UX _ hT z with z|z
   ·obtain⟨c2,e2,h2⟩:=hC p2 EM z;exact⟨c2,e2,fQ _ _ h2 fun dF=>by rw[dF,hP]at h2;cases h2⟩
   ·exact⟨c',z,atC⟩
theorem HW {E:XK}(Vn:∀e s',wpAny (model X.prog X.w) X.A (leaving X.env e) (fun _ jh=>cJ X.prog X.w X.outer X.nZ X.cR E e jh) (fun e' jh=>cJ X.prog X.w X.outer X.nZ X.cR E e' jh) s'->X.xe e s')
  (jR:X.stack=X.env::X.outer) (jx:X.env.frame=some X.env.locals) (hex:X.ex=[]):Passes (cJ X.prog X.w) X E:=by
 intro pins σ H1 s1 ev s2 I h;obtain⟨e,C,H',rfl,F,hE⟩:=h;obtain⟨B,a0,fl,cN,i7⟩:=F.EB;have un:=F.un;rw[jR]at fl cN un;have ib:Un (bz X.outer) [] X.nZ H1 X.cR.heap s1.heap:=by have:=I.base;rw[hex]at this;exact this
 have EA:X.A.frames=some (X.env::X.outer):=by rw[<-jR];exact I.ok.frames
 refine Vn _ _ (wpAny_leaves_onW (L:=X.env.locals) EA jx fl fun h' rE up=>?_);refine⟨e,C,H',rfl,⟨F.os.trans I.os,F.bare,Ut (base:=X.base) (L:=X.env.locals) ib un jx I.ok.above I.ok.fN I.ok.jX cN fl.1 rE.1 up,J8 F.au i7 fl.1 rE.1,B,a0,rE,fun b o hb hn=>?_,i7⟩,hE⟩;obtain⟨o1,e1⟩:=ib.there b o hb .s;refine cN b o1 e1 fun hm=>?_;have iT:b∈(X.env::X.outer).filterMap (·.frame):=hm;rw[Zeb (f:=fun(x:Env)=>x.frame) (a:=X.env) (b:=X.env.locals) jx]at iT;rcases Zas.mp iT with q|q
 ·rw[q]at hb;exact absurd (ZaG (ZaA hb) I.ok.above) (ZbM _)
 ·exact hn q
def rM (P:Program)(w:World)(K:Zke)(mg:Str->Option Value)(base:Heap)(N:List Str)(q:Str)(scope:Scope)(f:Addr)(cd:Value)(cl:List (Str×Addr))(A:Around)(outer:List Env)(s:Shared)(H:Hp)(E:XK):Cx where
 prog:=P
 w:=w
 K:=K
 mg:=mg
 base:=base
 A:=A.deeper (PySem.W.envX q scope s.heap.objs.size f cd cl)
 N:=N
 cR:=s
 nZ:=H
 env:=PySem.W.envX q scope s.heap.objs.size f cd cl
 outer:=outer
 stack:=PySem.W.envX q scope s.heap.objs.size f cd cl::outer
 ex:=[]
 calm:=true
 fn:=fun _=>false
 pn:=[]
 xe:=fun e s'=>wpAny (model P w) (A.deeper (PySem.W.envX q scope s.heap.objs.size f cd cl)) (leaving (PySem.W.envX q scope s.heap.objs.size f cd cl) e) (fun _ jh=>cJ P w outer H s E e jh) (fun e' jh=>cJ P w outer H s E e' jh) s'
theorem WI {b1 b2:Heap} :∀{l:List Env},h.FunFrames b1 l->(∀b∈bz l,b2.get? b=none)->h.FunFrames b2 l
 | [],_,_=>trivial
 |env::r,⟨hk,⟨L,o,hf,_,ho,hd⟩,hr⟩,hn=>⟨hk,⟨L,o,hf,hn L (Zb7.mpr ⟨env,.head _,hf⟩),ho,hd⟩,WI hr fun b hb=>hn b (by obtain⟨e,he,q⟩:=Zb7.mp hb;exact Zb7.mpr ⟨e,.tail _ he,q⟩)⟩
theorem ag.rebase {σ:St}(I:ag X pins σ H s):
  ∃fP,X.base.StaysIn fP/\yf X.prog X.w X.K X.mg fP X.A X.stack s H/\∀b o,s.heap.get? b=some o->H b=none->b∉bz X.stack->fP.get? b=some o:=by
 have cN:∀b o,s.heap.get? b=some o->H b=none->b∉bz X.stack->(PySem.W.hideAll (jV s.heap H) (bz X.stack)).get? b=some o:=fun b o e n hf=>Ziq _ (NQ e n) hf;have st:X.base.StaysIn (PySem.W.hideAll (jV s.heap H) (bz X.stack)):=fun b o e=>cN b o (I.bs b o e).1 (I.bs b o e).2 fun hm=>by have:=(I.stack.mem hm).1;rw[e]at this;cases this
 refine⟨_,st,⟨I.ok.frames,⟨I.mod.qI.keeps st,I.mod.glob.keeps st,?_,I.mod.nolimit.keeps st⟩,fun b o e=>Ny (Zgu _ e),?_,WI I.stack fun b hb=>PySem.W.hideAll_none _ hb,I.uX,I.au,I.bare⟩,cN⟩
 ·obtain⟨mb,h1,h2⟩:=I.mod.blt;exact⟨mb,h1.keeps st,h2⟩
 ·rw[PySem.W.hideAll_size,Ol];exact Zal _
def aaD:Const->Option V
 | .int n=>some (.int n)
 | .bool b=>some (.bl b)
 | .str x=>some (.str x)
 | .none=>some .af
 |_=>none
def vf:Expr->Option V
 | .Constant c _ _=>aaD c
 | .UnaryOp .USub (.Constant (.int n) _ _) _=>some (.int (-n))
 | .BinOp (.Constant (.int a) _ _) .Pow (.Constant (.int b) _ _) _=>if 0<=b/\b<=1000000/\a.natAbs<2^64 then some (.int (a^b.toNat)) else none
 |_=>none
def ve:List Expr->Option (List V)
 | []=>some []
 |e::r=>match vf e,ve r with
  |some v,some vs=>some (v::vs)
  |_,_=>none
inductive Lit where
 |sc (v:V)
 |tup (xs:List V)
 |lst (xs:List V)
 |gq
def ja (H:Hp)(v:V):Lit->Prop
 | .sc u=>v=u
 | .tup xs=> ∃a:Addr,v=.ref a/\H a=some (.tup xs)
 | .lst xs=> ∃a:Addr,v=.ref a/\H a=some (.lst xs)
 | .gq=> ∃a:Addr,v=.ref a/\H a=some (.dK [])
theorem ja.same {v:V} :∀{l:Lit},ja H v l->ae H H'->ja H' v l
 | .sc _,h,_=>h
 | .tup _,⟨a,e,h⟩,s=>⟨a,e,s _ _ h⟩
 | .lst _,⟨a,e,h⟩,s=>⟨a,e,s _ _ h⟩
 | .gq,⟨a,e,h⟩,s=>⟨a,e,s _ _ h⟩
def litOf:Expr->Option Lit
 | .Tuple es _ _=>match ve es with
  |some xs=>if xs.length<=1000 then some (.tup xs) else none
  |none=>none
 | .List es _=>match ve es with
  |some xs=>if xs.length<=1000 then some (.lst xs) else none
  |none=>none
 | .Dict [] [] _=>some .gq
 |e=>(vf e).map .sc
def litsOf:List Expr->Option (List Lit)
 | []=>some []
 |e::r=>match litOf e,litsOf r with
  |some v,some vs=>some (v::vs)
  |_,_=>none
theorem Mj (h:vf e=some v):PE X e (tC v)/\(∀es,starEach (e::es) X.env=(false,eval e X.env)::starEach es X.env)/\∀a:Addr,v≠.ref a:=by
 unfold vf at h;split at h
 ·rename_i c j p;cases c with
  |int n=>cases h;exact⟨Zc,fun _=>rfl,fun a z=>by cases z⟩
  |bool b=>cases h;exact⟨YC,fun _=>rfl,fun a z=>by cases z⟩
  |str x=>cases h;exact⟨ZA,fun _=>rfl,fun a z=>by cases z⟩
  |none=>cases h;exact⟨ZW,fun _=>rfl,fun a z=>by cases z⟩
  |_=>cases h
 ·cases h;refine⟨fun pins s σ H Q I q=>uu WO Zc pins s σ H Q I ⟨_,rfl,q⟩,fun _=>rfl,fun a z=>by cases z⟩
 ·split at h
  ·rename_i hc;cases h;refine⟨fun pins s σ H Q I q=>Zl Fj Zc Zc pins s σ H Q I ⟨_,_,rfl,rfl,hc,q⟩,fun _=>rfl,fun a z=>by cases z⟩
  ·cases h
 ·cases h
theorem Fm:∀{es:List Expr}{vs:List V},ve es=some vs->PA X es (fun _ H Q=>Q vs H)
 | [],vs,h=>by cases h;exact Zb
 |e::r,vs,h=>by
  unfold ve at h;split at h
  ·rename_i v ws h1 h2;cases h;obtain⟨p1,p2,_⟩:=Mj (X:=X) h1;exact fun pos pins s σ H Q I q=>Za p1 (Fm h2) (p2 r) pos pins s σ H Q I q
  ·cases h
theorem ZgN (h:litOf e=some l):PE X e (fun _ H Q=> ∀v H',ae H H'->ja H' v l->(∀a:Addr,v=.ref a->H a=none)->Q v H')/\∀es,starEach (e::es) X.env=(false,eval e X.env)::starEach es X.env:=by
 unfold litOf at h;split at h
 ·split at h
  ·rename_i xs hx;split at h
   ·rename_i hl;cases h;refine⟨fun pins s σ H Q I q=>Zj (Fm hx) pins s σ H Q I ⟨Zbl (Bx hl),fun p hp=>q _ _ (fun b o hb=>by rw[Zh (Ze hb hp)];exact hb) ⟨p,rfl,aj⟩ fun a z=>by cases z;exact hp⟩,fun _=>rfl⟩
   ·cases h
  ·cases h
 ·split at h
  ·rename_i xs hx;split at h
   ·rename_i hl;cases h;refine⟨fun pins s σ H Q I q=>ZC (Fm hx) pins s σ H Q I ⟨Zbl (Bx hl),fun p hp=>q _ _ (fun b o hb=>by rw[Zh (Ze hb hp)];exact hb) ⟨p,rfl,aj⟩ fun a z=>by cases z;exact hp⟩,fun _=>rfl⟩
   ·cases h
  ·cases h
 ·cases h;exact⟨fun pins s σ H Q I q=>N8 pins s σ H Q I fun p hp=>q _ _ (fun b o hb=>by rw[Zh (Ze hb hp)];exact hb) ⟨p,rfl,aj⟩ fun a z=>by cases z;exact hp,fun _=>rfl⟩
 ·rename_i x0 h1 h2 h3;cases hs:vf e with
  |none=>rw[hs]at h;cases h
  |some v=>rw[hs]at h;cases h;obtain⟨p1,p2,p3⟩:=Mj (X:=X) hs;exact⟨fun pins s σ H Q I q=>p1 pins s σ H Q I (q v H (ae.refl H) rfl fun a z=>absurd z (p3 a)),p2⟩
theorem WB:∀{es:List Expr}{ls:List Lit},litsOf es=some ls->PA X es (fun _ H Q=> ∀vs H',ae H H'->Paired (ja H') vs ls->(∀a,V.ref a∈vs->H a=none)->Q vs H')
 | [],ls,h=>by cases h;exact fun pos pins s σ H Q I q=>Zb pos pins s σ H Q I (q [] H (ae.refl H) .nil fun a z=>nomatch z)
 |e::r,ls,h=>by
  unfold litsOf at h;split at h
  ·rename_i v ws h1 h2;cases h;obtain⟨p1,p2⟩:=ZgN (X:=X) h1;exact fun pos pins s σ H Q I q=>Za p1 (WB h2) (p2 r) pos pins s σ H Q I fun v1 H1 s1 l1 n1 vs H2 s2 pr n2=>q (v1::vs) H2 (s1.trans s2) (.cons (l1.same s2) pr) fun a z=>by
    rcases Zas.mp z with z|z
    ·exact n1 a z.symm
    ·exact s1.free (n2 a z)
  ·cases h
theorem OF (n l1 l2:Nat)(h1:l1<n)(h2:l2<n):ZipApart (n+4) (n+2) (n+3) n (n+1) l1 l2:=by constructor<;>intro z<;>refine absurd (show @Eq Nat _ _ from z) ?_<;>lia
end L2
namespace L2
open PySem PySem.Spec PyProof.Rows SeqAt
def Dn (items:Array Value)(x:Value)(i:Nat)(_:Option PySem.Fin×Unit):Sem (ForInStep (Option PySem.Fin×Unit)):=
 match items[i]? with
 |some y=>(do
  let b <-eqBool y x
  if b=true then (do let v <-retInt (i:Int);pure (ForInStep.done (some v,()))) else pure (ForInStep.yield (none,())))
 |_=>pure (ForInStep.yield (none,()))
theorem NR {items:Array Value}{e:Value->Bool}{j:Nat}{Q:Option PySem.Fin×Unit->Shared->Prop}(hj:j<items.size)(hit:e items[j]=true)(jU:∀m (hm:m<items.size),m<j->e items[m]=false)
  (he:∀y,y∈items->EqAt A s y x (e y)) (h:Q (some (.done (.ret (.int j s.toks))),()) {s with toks:=s.toks+1}):
  ∀k i,i+k=items.size->i<=j->wpAny (model prog w) A (forIn (List.range' i k) ((none:Option PySem.Fin),()) (Dn items x)) Q E s
 |0,i,hk,hi=>.o
 |k+1,i,hk,hi=>by
  have bj:i<items.size:=.o;rw[List.range'_succ,Zit];refine gc ?_;unfold Dn;rw[Array.getElem?_eq_getElem bj];refine gc (he _ (Array.getElem_mem bj) prog w _ _ ?_);by_cases iU:i=j
  ·subst iU;rw[hit,ZaQ rfl];refine gc ?_
   wp_walk
   exact h
  ·rw[jU i bj .o,ZaN Zam];refine Zav ?_;exact NR hj hit jU he h k (i+1) .l .o
theorem Zaa (l:Addr)(items:Array Value)(n:Nat)(dd:Option Addr)(sl:Array (Option Value))(x:Value)(e:Value->Bool)(j:Nat)(hj:j<items.size)(hit:e items[j]=true)(jU:∀m (hm:m<items.size),m<j->e items[m]=false):
  Meets (Builtin.«tuple.index» ⟨[.ref l,x],[]⟩)
   (fun A R s=>s.heap.get? l=some {cls:=.type "tuple",dict:=dd,data:=.seq items n,slots:=sl}/\(∀y,y∈items->EqAt A.in1 s y x (e y))/\R (.ok (.ret (.int j s.toks))) {s with toks:=s.toks+1}):=
 .of_wp fun prog w A R s h=>by
  obtain⟨hp,g,d,tk,os⟩:=s;obtain⟨hl,he,h⟩:=h
  wp_walk using AutoSeq1.wpAny_loadPart' hl
  show wpAny (model prog w) A.in1 (forIn (m:=Sem) [:min items.size items.size] ((none:Option PySem.Fin),()) (Dn items x)) _ _ _;rw[Std.Legacy.Range.forIn_eq_forIn_range'];refine NR hj hit jU he ?_ _ _ (by simp[Std.Legacy.Range.size]) (ZaJ _);exact Zav ⟨_,rfl,h⟩
inductive Rn (K:Zke) (v:V) (vs:List V) (H:Hp) (Q:VK):Prop
 |mk (a:Addr) (xs:List V) (x:V) (j:Nat) (c0:v=.ref a) (c1:vs=[x]) (c2:ah K H a xs) (c3:iA x=true) (c4:xs.all iA=true) (c5:(∃y,xs[j]?=some y/\dg y x=true)) (c6:(∀m y,m<j->xs[m]?=some y->dg y x=false)) (c7:Q (.int (j:Int)) H)
theorem ZdO :O7 X "tuple.index" (Rn X.K):=by
 intro pins s σ H v vs u us Q I rv Rg h;obtain⟨a,xs,x,j,rfl,rfl,hq,fx,fs,⟨y,hy,ey⟩,jU,q⟩:=h;cases rv;obtain⟨ux,rfl,rx⟩:=Zji Rg;obtain⟨aa,r,pl,hz⟩:=I.tuple hq;obtain⟨o,ho,hc,n,hd⟩:=id pl;obtain⟨cls,dd,dt,sl⟩:=o;replace hc:cls=.type "tuple" :=hc;replace hd:dt=.seq aa.toArray n:=hd;subst hc hd;obtain⟨uy,Vy,ruy⟩:=r.get hy;have kO:j<aa.length:=(Zai.mp Vy).1;have xK:∀k (hk:k<aa.length),∃z,xs[k]?=some z/\RelV z aa[k]:=fun k hk=>by
  have jt:k<xs.length:=by rw[r.length];exact hk
  obtain⟨w,hw,ko⟩:=r.get (Zaj jt);rw[Zaj hk]at hw;cases hw;exact⟨_,Zaj jt,ko⟩
 have eqs:∀(A:Around) (k:Nat) (hk:k<aa.length) z,xs[k]?=some z->EqAt A s aa[k] ux (dg z x):=fun A k hk z oS=>by obtain⟨z',dF,rz⟩:=xK k hk;rw[oS]at dF;cases dF;exact Mp rz rx (ZaK.mp fs z (Zao oS)) fx
 have vd:∀k l' (hk:k<aa.length) (hl:l'<aa.length) zk zl,xs[k]?=some zk->xs[l']?=some zl->aa[k]=aa[l']->dg zk x=dg zl x:=fun k l' hk hl zk zl h1 h2 he=>by
  obtain⟨z1,e1,r1⟩:=xK k hk;obtain⟨z2,e2,r2⟩:=xK l' hl;rw[h1]at e1;rw[h2]at e2;cases e1;cases e2;rw[he]at r1;have f1:=ZaK.mp fs zk (Zao h1);have f2:=ZaK.mp fs zl (Zao h2);have:zk=zl:=by
   generalize aa[l']=val at r1 r2;cases zk<;>cases zl<;>first
    |rfl
    |(exact absurd f1 Zam)
    |(exact absurd f2 Zam)
    |(cases r1;cases r2;rfl)
    |(cases r1;cases r2;done)
    |(obtain⟨_,rfl⟩:=r1;obtain⟨_,e⟩:=r2;cases e;rfl)
    |(obtain⟨_,rfl⟩:=r1;obtain⟨_,e⟩:=r2;cases e;done)
    |(obtain⟨_,rfl⟩:=r1;cases r2;done)
    |(cases r1;obtain⟨_,e⟩:=r2;cases e;done)
  rw[this]
 classical
 refine ZhV F.slot_tuple_index ⟨_,ho,rfl⟩ F.entry_tuple_index (F.args_tuple_index_2 _ _)
  (Zaa a aa.toArray n dd sl ux (fun val=>decide (∃(k:Nat) (z:V),aa[k]?=some val/\xs[k]?=some z/\dg z x=true)) j (by simpa using kO) ?_ ?_) ⟨ho,fun val Vx=>?_,?_⟩
 ·refine Zau ⟨j,y,?_,hy,ey⟩;simp[kO]
 ·intro m hm Xc;refine Zax ?_;rintro⟨k,z,hk,oS,ez⟩;have iT:m<aa.length:=by simpa using hm
  obtain⟨zm,IC,_⟩:=xK m iT;have bR:=(Zai.mp hk);obtain⟨tY,wU⟩:=bR;have e2:=vd k m tY iT z zm oS IC (by rw[wU];simp);rw[ez,jU m zm Xc IC]at e2;cases e2
 ·have Vw:val∈aa:=by simpa using Vx
  obtain⟨k,tY,wU⟩:=Zek Vw;obtain⟨z,oS,rz⟩:=xK k tY;have ee:=eqs X.A.in1 k tY z oS;rw[wU]at ee;have:decide (∃(k:Nat) (z:V),aa[k]?=some val/\xs[k]?=some z/\dg z x=true)=dg z x:=by
   cases hb:dg z x with
   |true=>exact Zau ⟨k,z,by rw[Zaj tY,wU],oS,hb⟩
   |false=>refine Zax ?_;rintro⟨k2,z2,h1,h2,h3⟩;obtain⟨bY,l5⟩:=Zai.mp h1;have:=vd k2 k bY tY z2 z h2 oS (by rw[l5,wU]);rw[h3,hb]at this;cases this
  rw[this];exact ee
 ·exact⟨.int (j:Int),H,I.tok _,⟨_,rfl⟩,q⟩
theorem YO :∀{oN:List α}{oM:List β}{i:Nat}{x:α},Paired F oN oM->oN[i]?=some x->∃y,oM[i]?=some y/\F x y
 |_,_,_,_,.nil,h=>by simp at h
 |_,_,0,_,.cons r _,h=>by simp at h;subst h;exact⟨_,rfl,r⟩
 |_,_,i+1,_,.cons _ t,h=>by obtain⟨y,e,q⟩:=YO t (i:=i) (by simpa using h);exact⟨y,by simpa using e,q⟩
def F9 (K:Zke)(H:Hp)(x y:V):Prop:=(∃i:Int,x=.int i/\y=.int i)∨∃(a b:Addr) (ns:List Int),x=.ref a/\y=.ref b/\ak K H a (ns.map V.int)/\ak K H b (ns.map V.int)
theorem Zgn {ns:List Int}{vs:List Value}(A:Around)(r1:Vals (ns.map V.int) us)(r2:Vals (ns.map V.int) vs):∀j (h1:j<us.toArray.size) (h2:j<vs.toArray.size),EqAt A s us.toArray[j] vs.toArray[j] true:=fun j h1 h2=>by
 have l1:=r1.length;have hj:j<ns.length:=by simp at h1 l1;lia
 have e:(ns.map V.int)[j]?=some (V.int ns[j]):=by simp[hj]
 obtain⟨u,hu,ru⟩:=r1.get e;obtain⟨v,hv,rv⟩:=r2.get e;obtain⟨t1,rfl⟩:=ru;obtain⟨t2,rfl⟩:=rv;have e1:us.toArray[j]=Value.int ns[j] t1:=by simpa using (Zai.mp hu).2
 have e2:vs.toArray[j]=Value.int ns[j] t2:=by simpa using (Zai.mp hv).2
 rw[e1,e2];have z:=EqAt.int_int (A:=A) (s:=s) ns[j] t1 ns[j] t2;simpa using z
theorem Zhg {σ:St}(A:Around)(hu:A.units<cLine)(I:ag X pins σ H s)(h:F9 X.K H x y)(ru:RelV x u)(rv:RelV y v):EqAt A s u v true:=by
 rcases h with ⟨i,rfl,rfl⟩|⟨a,b,ns,rfl,rfl,ha,hb⟩
 ·obtain⟨t1,rfl⟩:=ru;obtain⟨t2,rfl⟩:=rv;have z:=EqAt.int_int (A:=A) (s:=s) i t1 i t2;simpa using z
 ·cases ru;cases rv;by_cases rm:a=b
  ·subst rm;exact EqAt.same _
  ·obtain⟨us,r1,p1,_⟩:=I.list ha;obtain⟨vs,r2,p2,_⟩:=I.list hb;have hsz:us.toArray.size=vs.toArray.size:=by have:=r1.length;have:=r2.length;simp at *;lia
   have z:=RcAt.lists (e:=fun _=>true) p1.isList p2.isList hsz hu (Zgn A.in1 r1 r2);have e:(List.range us.toArray.size).all (fun _=>true)=true:=.s;rw[e]at z;exact EqAt.of_refs rm z
inductive Rr (K:Zke) (r:Bool) (x:V) (y:V) (H:Hp) (Q:VK):Prop
 |mk (a b:Addr) (xs ys:List V) (c0:x=.ref a) (c1:y=.ref b) (c2:ak K H a xs) (c3:ak K H b ys) (c4:Paired (F9 K H) xs ys) (c5:Q (.bl r) H)
theorem Zhk {σ:St}{vs:List Value}(A:Around)(hu:A.units<cLine)(I:ag X pins σ H s)(pr:Paired (F9 X.K H) xs ys)(r1:Vals xs us)(r2:Vals ys vs):∀j (h1:j<us.toArray.size) (h2:j<vs.toArray.size),EqAt A s us.toArray[j] vs.toArray[j] true:=fun j h1 h2=>by
 have l1:=r1.length;have hj:j<xs.length:=by simp at h1;lia
 obtain⟨y,hy,e⟩:=YO pr (Zaj hj);obtain⟨u,tR,ru⟩:=r1.get (Zaj hj);obtain⟨v,ir,rv⟩:=r2.get hy;have e1:us.toArray[j]=u:=by simpa using (Zai.mp tR).2
 have e2:vs.toArray[j]=v:=by simpa using (Zai.mp ir).2
 rw[e1,e2];exact Zhg A hu I e ru rv
theorem MJ (hu:X.A.units+1<cLine):bf X (compareOp .NotEq) (Rr X.K false):=by
 intro pins s σ H x y u v Q I rx ry h;obtain⟨a,b,xs,ys,rfl,rfl,ha,hb,pr,q⟩:=h;cases rx;cases ry;obtain⟨us,r1,p1,_⟩:=I.list ha;obtain⟨vs,r2,p2,_⟩:=I.list hb;have hsz:us.toArray.size=vs.toArray.size:=by have:=r1.length;have:=r2.length;have:=ZaM pr;simp at *;lia
 refine RcNeAt.lists (e:=fun _=>true) p1.isList p2.isList hsz (Zdd hu) (Zhk X.A.in1 hu I pr r1 r2) _ _ _ _ ?_;have e:(List.range us.toArray.size).all (fun _=>true)=true:=.s;rw[e];exact⟨.bl false,H,I,rfl,q⟩
end L2
namespace L2
open PySem
def Lk (t:TS)(D:Ends)(U V:L2.St->Hp->Prop):Prop:=∀s p,t {D with nx:=U} s p->V s p
def Lz (t:TS)(D:Ends)(V:L2.St->Hp->Prop):Prop:=∀s p,t D s p->V s p
theorem jf {t1 t2:TS}(h:let D0:=D;∀U1,Lz t2 D0 U1->t1 {D0 with nx:=U1} σ H):ay t1 t2 D σ H:=h _ (fun _ _ x=>x)
theorem sy {t1 t2 t3:TS}(h:let D0:=D;∀U2,Lz t3 D0 U2->∀U1,Lk t2 D0 U2 U1->t1 {D0 with nx:=U1} σ H):ay t1 (ay t2 t3) D σ H:=h _ (fun _ _ x=>x) _ (fun _ _ x=>x)
theorem P5 {t1 t2 t3 t4:TS}(h:let D0:=D;∀U3,Lz t4 D0 U3->∀U2,Lk t3 D0 U3 U2->∀U1,Lk t2 D0 U2 U1->t1 {D0 with nx:=U1} σ H):ay t1 (ay t2 (ay t3 t4)) D σ H:=h _ (fun _ _ x=>x) _ (fun _ _ x=>x) _ (fun _ _ x=>x)
theorem A8 {t1 t2 t3 t4 t5:TS}(h:let D0:=D;∀U4,Lz t5 D0 U4->∀U3,Lk t4 D0 U4 U3->∀U2,Lk t3 D0 U3 U2->∀U1,Lk t2 D0 U2 U1->t1 {D0 with nx:=U1} σ H):ay t1 (ay t2 (ay t3 (ay t4 t5))) D σ H:=h _ (fun _ _ x=>x) _ (fun _ _ x=>x) _ (fun _ _ x=>x) _ (fun _ _ x=>x)
theorem P4 {t1 t2 t3 t4 t5 t6:TS}(h:let D0:=D;∀U5,Lz t6 D0 U5->∀U4,Lk t5 D0 U5 U4->∀U3,Lk t4 D0 U4 U3->∀U2,Lk t3 D0 U3 U2->∀U1,Lk t2 D0 U2 U1->t1 {D0 with nx:=U1} σ H):ay t1 (ay t2 (ay t3 (ay t4 (ay t5 t6)))) D σ H:=h _ (fun _ _ x=>x) _ (fun _ _ x=>x) _ (fun _ _ x=>x) _ (fun _ _ x=>x) _ (fun _ _ x=>x)
theorem tS7 {t1 t2 t3 t4 t5 t6 t7:TS}(h:let D0:=D;∀U6,Lz t7 D0 U6->∀U5,Lk t6 D0 U6 U5->∀U4,Lk t5 D0 U5 U4->∀U3,Lk t4 D0 U4 U3->∀U2,Lk t3 D0 U3 U2->∀U1,Lk t2 D0 U2 U1->t1 {D0 with nx:=U1} σ H):ay t1 (ay t2 (ay t3 (ay t4 (ay t5 (ay t6 t7))))) D σ H:=h _ (fun _ _ x=>x) _ (fun _ _ x=>x) _ (fun _ _ x=>x) _ (fun _ _ x=>x) _ (fun _ _ x=>x) _ (fun _ _ x=>x)
theorem GV {t1 t2 t3 t4 t5 t6 t7 t8:TS}(h:let D0:=D;∀U7,Lz t8 D0 U7->∀U6,Lk t7 D0 U7 U6->∀U5,Lk t6 D0 U6 U5->∀U4,Lk t5 D0 U5 U4->∀U3,Lk t4 D0 U4 U3->∀U2,Lk t3 D0 U3 U2->∀U1,Lk t2 D0 U2 U1->t1 {D0 with nx:=U1} σ H):ay t1 (ay t2 (ay t3 (ay t4 (ay t5 (ay t6 (ay t7 t8)))))) D σ H:=h _ (fun _ _ x=>x) _ (fun _ _ x=>x) _ (fun _ _ x=>x) _ (fun _ _ x=>x) _ (fun _ _ x=>x) _ (fun _ _ x=>x) _ (fun _ _ x=>x)
theorem A7 {t1 t2 t3 t4 t5 t6 t7 t8 t9:TS}(h:let D0:=D;∀U8,Lz t9 D0 U8->∀U7,Lk t8 D0 U8 U7->∀U6,Lk t7 D0 U7 U6->∀U5,Lk t6 D0 U6 U5->∀U4,Lk t5 D0 U5 U4->∀U3,Lk t4 D0 U4 U3->∀U2,Lk t3 D0 U3 U2->∀U1,Lk t2 D0 U2 U1->t1 {D0 with nx:=U1} σ H):ay t1 (ay t2 (ay t3 (ay t4 (ay t5 (ay t6 (ay t7 (ay t8 t9))))))) D σ H:=h _ (fun _ _ x=>x) _ (fun _ _ x=>x) _ (fun _ _ x=>x) _ (fun _ _ x=>x) _ (fun _ _ x=>x) _ (fun _ _ x=>x) _ (fun _ _ x=>x) _ (fun _ _ x=>x)
theorem aaY {t1 t2 t3 t4 t5 t6 t7 t8 t9 gX:TS}(h:let D0:=D;∀U9,Lz gX D0 U9->∀U8,Lk t9 D0 U9 U8->∀U7,Lk t8 D0 U8 U7->∀U6,Lk t7 D0 U7 U6->∀U5,Lk t6 D0 U6 U5->∀U4,Lk t5 D0 U5 U4->∀U3,Lk t4 D0 U4 U3->∀U2,Lk t3 D0 U3 U2->∀U1,Lk t2 D0 U2 U1->t1 {D0 with nx:=U1} σ H):ay t1 (ay t2 (ay t3 (ay t4 (ay t5 (ay t6 (ay t7 (ay t8 (ay t9 gX)))))))) D σ H:=h _ (fun _ _ x=>x) _ (fun _ _ x=>x) _ (fun _ _ x=>x) _ (fun _ _ x=>x) _ (fun _ _ x=>x) _ (fun _ _ x=>x) _ (fun _ _ x=>x) _ (fun _ _ x=>x) _ (fun _ _ x=>x)
theorem aaX {t1 t2 t3 t4 t5 t6 t7 t8 t9 gX iI:TS}(h:let D0:=D;∀lC,Lz iI D0 lC->∀U9,Lk gX D0 lC U9->∀U8,Lk t9 D0 U9 U8->∀U7,Lk t8 D0 U8 U7->∀U6,Lk t7 D0 U7 U6->∀U5,Lk t6 D0 U6 U5->∀U4,Lk t5 D0 U5 U4->∀U3,Lk t4 D0 U4 U3->∀U2,Lk t3 D0 U3 U2->∀U1,Lk t2 D0 U2 U1->t1 {D0 with nx:=U1} σ H):ay t1 (ay t2 (ay t3 (ay t4 (ay t5 (ay t6 (ay t7 (ay t8 (ay t9 (ay gX iI))))))))) D σ H:=h _ (fun _ _ x=>x) _ (fun _ _ x=>x) _ (fun _ _ x=>x) _ (fun _ _ x=>x) _ (fun _ _ x=>x) _ (fun _ _ x=>x) _ (fun _ _ x=>x) _ (fun _ _ x=>x) _ (fun _ _ x=>x) _ (fun _ _ x=>x)
theorem P6 {t1 t2 t3 t4 t5 t6 t7 t8 t9 gX iI kh:TS}(h:let D0:=D;∀pO,Lz kh D0 pO->∀lC,Lk iI D0 pO lC->∀U9,Lk gX D0 lC U9->∀U8,Lk t9 D0 U9 U8->∀U7,Lk t8 D0 U8 U7->∀U6,Lk t7 D0 U7 U6->∀U5,Lk t6 D0 U6 U5->∀U4,Lk t5 D0 U5 U4->∀U3,Lk t4 D0 U4 U3->∀U2,Lk t3 D0 U3 U2->∀U1,Lk t2 D0 U2 U1->t1 {D0 with nx:=U1} σ H):ay t1 (ay t2 (ay t3 (ay t4 (ay t5 (ay t6 (ay t7 (ay t8 (ay t9 (ay gX (ay iI kh)))))))))) D σ H:=h _ (fun _ _ x=>x) _ (fun _ _ x=>x) _ (fun _ _ x=>x) _ (fun _ _ x=>x) _ (fun _ _ x=>x) _ (fun _ _ x=>x) _ (fun _ _ x=>x) _ (fun _ _ x=>x) _ (fun _ _ x=>x) _ (fun _ _ x=>x) _ (fun _ _ x=>x)
theorem aaW {t1 t2 t3 t4 t5 t6 t7 t8 t9 gX iI kh uW:TS}(h:let D0:=D;∀xS,Lz uW D0 xS->∀pO,Lk kh D0 xS pO->∀lC,Lk iI D0 pO lC->∀U9,Lk gX D0 lC U9->∀U8,Lk t9 D0 U9 U8->∀U7,Lk t8 D0 U8 U7->∀U6,Lk t7 D0 U7 U6->∀U5,Lk t6 D0 U6 U5->∀U4,Lk t5 D0 U5 U4->∀U3,Lk t4 D0 U4 U3->∀U2,Lk t3 D0 U3 U2->∀U1,Lk t2 D0 U2 U1->t1 {D0 with nx:=U1} σ H):ay t1 (ay t2 (ay t3 (ay t4 (ay t5 (ay t6 (ay t7 (ay t8 (ay t9 (ay gX (ay iI (ay kh uW))))))))))) D σ H:=h _ (fun _ _ x=>x) _ (fun _ _ x=>x) _ (fun _ _ x=>x) _ (fun _ _ x=>x) _ (fun _ _ x=>x) _ (fun _ _ x=>x) _ (fun _ _ x=>x) _ (fun _ _ x=>x) _ (fun _ _ x=>x) _ (fun _ _ x=>x) _ (fun _ _ x=>x) _ (fun _ _ x=>x)
theorem aaV {t1 t2 t3 t4 t5 t6 t7 t8 t9 gX iI kh uW G1:TS}(h:let D0:=D;∀O0,Lz G1 D0 O0->∀xS,Lk uW D0 O0 xS->∀pO,Lk kh D0 xS pO->∀lC,Lk iI D0 pO lC->∀U9,Lk gX D0 lC U9->∀U8,Lk t9 D0 U9 U8->∀U7,Lk t8 D0 U8 U7->∀U6,Lk t7 D0 U7 U6->∀U5,Lk t6 D0 U6 U5->∀U4,Lk t5 D0 U5 U4->∀U3,Lk t4 D0 U4 U3->∀U2,Lk t3 D0 U3 U2->∀U1,Lk t2 D0 U2 U1->t1 {D0 with nx:=U1} σ H):ay t1 (ay t2 (ay t3 (ay t4 (ay t5 (ay t6 (ay t7 (ay t8 (ay t9 (ay gX (ay iI (ay kh (ay uW G1)))))))))))) D σ H:=h _ (fun _ _ x=>x) _ (fun _ _ x=>x) _ (fun _ _ x=>x) _ (fun _ _ x=>x) _ (fun _ _ x=>x) _ (fun _ _ x=>x) _ (fun _ _ x=>x) _ (fun _ _ x=>x) _ (fun _ _ x=>x) _ (fun _ _ x=>x) _ (fun _ _ x=>x) _ (fun _ _ x=>x) _ (fun _ _ x=>x)
theorem cw {K:Zke}{E:XK} :(eU CX P w K mg base N qual scope f cd A outer s H E).oJ.K=K:=rfl
end L2
namespace L2
open PySem PySem.Spec PyProof.Rows SeqAt
theorem J6 {ns:List Int}(r:Vals (ns.map V.int) us)(j:Nat)(h:j<us.length):∃t,us[j]=.int (ns.getD j 0) t:=by have hl:=r.length;rw[Zat]at hl;have hj:j<ns.length:=.o;obtain⟨u,hu,t,ru⟩:=r.get (i:=j) (x:=.int ns[j]) (by rw[Zby,Zaj hj];rfl);rw[Zaj h]at hu;cases hu;exact⟨t,by rw[ru];simp[hj]⟩
end L2
namespace L2
open PySem PySem.Spec PyProof.Rows
structure Src (prog:Program)(w:World)(i l:Addr)(n:Nat)(f:Nat->Value)(S:Nat->Heap->Prop):Prop where
 here:∀k h,S k h->∃o,h.get? i=some o
 cY:∀k h h',S k h->(∀c,c=i∨c=l->∀o,h.get? c=some o->h'.get? c=some o)->S k h'
 item:∀(A:Around) k (s:Shared) (Q:Value->Shared->Prop) (E:Value->Shared->Prop),k<n->S k s.heap->(∀h',S (k+1) h'->Heap.SameBut i s.heap h'->Q (f k) {s with heap:=h'})->wpAny (model prog w) A (Builtin.SmallTypes.nextOf (.ref i)) Q E s
 stop:∀(A:Around) (s:Shared) (Q:Value->Shared->Prop) (E:Value->Shared->Prop),A.handled=none->S n s.heap->(∀h' e,Heap.ExtBut i s.heap h'->(∃o,h'.get? e=some o/\o.cls=.type "StopIteration")->E (.ref e) {s with heap:=h'})->wpAny (model prog w) A (Builtin.SmallTypes.nextOf (.ref i)) Q E s
theorem Ow (prog:Program)(w:World)(aa:Array Value)(bN:l≠i):Src prog w i l aa.size (fun k=>aa.getD k .none) (fun k h=>IsTupIter h i l k/\IsTup h l aa) where
 here:=fun k h ⟨⟨o,ho,_⟩,_⟩=>⟨o,ho⟩
 cY:=fun k h h' ⟨⟨o,ho,r⟩,⟨u,hu,r'⟩⟩ st=>⟨⟨o,st i (.inl rfl) o ho,r⟩,⟨u,st l (.inr rfl) u hu,r'⟩⟩
 item:=fun A k s Q E hk ⟨hi,ht⟩ q=>by
  obtain⟨oi,gi,ci,di⟩:=id hi;obtain⟨ot,gt,ct,nt,dt⟩:=id ht;have hx:aa[k]?=some (aa.getD k .none):=by simp[hk]
  unfold Builtin.SmallTypes.nextOf;refine gc (ZbC (name:=Str.ofString "__next__") hi.typeIs Zfr (ZcD Zfr hi.typeIs entry_tupleiter_next ?_ (args_tupleiter_next _)));refine(show wpAny _ _ (field (.ref i) 0 >>=_) _ _ s from gc (ZbF gi di (x:=.ref l) rfl ?_));refine(show wpAny _ _ (if (Value.ref l==Value.none)=true then _ else _) _ _ s from ?_);rw[ZaN (by exact Zam)];refine(show wpAny _ _ (field (.ref i) 1 >>=_) _ _ s from gc (ZbF gi di (x:=.int k 0) rfl ?_));refine(show wpAny _ _ (seqItems? (.ref l) >>=_) _ _ s from gc (Zcv gt dt ?_));simp only[Zb2,hx];refine gc (ZiK gi di .s (Zav ⟨_,rfl,Zav (q _ ⟨⟨_,Zdo _ gi (Obj.isFreed_of_fields (ZhI di _)),(Obj.cls_mapFields ..).trans ci,?_⟩,?_⟩ (Zej ..))⟩))
  ·rw[ZhI di];simp[rawInt]
  ·exact⟨ot,(Zej ..).extBut _ _ bN gt,ct,nt,dt⟩
 stop:=fun A s Q E hh ⟨hi,ht⟩ q=>by
  obtain⟨oi,gi,ci,di⟩:=id hi;obtain⟨ot,gt,ct,nt,dt⟩:=id ht;have hx:aa[aa.size]?=none:=.s;unfold Builtin.SmallTypes.nextOf;refine gc (ZbC (name:=Str.ofString "__next__") hi.typeIs Zfr (ZcD Zfr hi.typeIs entry_tupleiter_next ?_ (args_tupleiter_next _)));refine(show wpAny _ _ (field (.ref i) 0 >>=_) _ _ s from gc (ZbF gi di (x:=.ref l) rfl ?_));refine(show wpAny _ _ (if (Value.ref l==Value.none)=true then _ else _) _ _ s from ?_);rw[ZaN (by exact Zam)];refine(show wpAny _ _ (field (.ref i) 1 >>=_) _ _ s from gc (ZbF gi di (x:=.int aa.size 0) rfl ?_));refine(show wpAny _ _ (seqItems? (.ref l) >>=_) _ _ s from gc (Zcv gt dt ?_));simp only[Zb2,hx];refine gc (Zdc (gc (ZiK gi di .s ?_)));refine(show wpAny _ _ (newExc (.type "StopIteration") [] >>=_) _ _ _ from gc ?_);simp only[newExc,newTuple];refine gc (Zbm ?_ (by size_fits));refine gc (m:=firstArgMember _ _) (ZjK (a:=Value.none) (by first|rfl|(simp only[firstArgMember];rfl)) ?_);refine Zbm ?_ (by size_fits);simp only[raiseNew];refine gc (wpAny_handled ?_)
  first|rw[show A.in1.handled=none from hh]|rw[hh]
  refine gc (Zav (wpAny_throw ?_));exact q _ _ (((Zej ..).extBut.push _).push _) ⟨_,ZaD _ rfl,rfl⟩
section
variable {z TI TO i1 i2 l1 l2:Addr}{n k:Nat}{f g:Nat->Value}{S1 S2:Nat->Heap->Prop}
theorem ZfH {Q:Value->Shared->Prop}(U1:Src prog w i1 l1 n f S1)(U2:Src prog w i2 l2 n g S2)(D:ZipApart z TI TO i1 i2 l1 l2)(hk:k<n)(hz:IsZip s.heap z TI TO .none)(hI:IsPair s.heap TI (.ref i1) (.ref i2))(hO:IsPair s.heap TO a b)(h1:S1 k s.heap)(h2:S2 k s.heap)
    (q:∀h',IsZip h' z TI TO (rawInt s.heap.objs.size)->IsPair h' TO (f k) (g k)->S1 (k+1) h'->S2 (k+1) h'->IsPair h' s.heap.objs.size (f k) (g k)->h'.objs.size=s.heap.objs.size+1->
      (∀c o,c≠z->c≠TO->c≠i1->c≠i2->s.heap.get? c=some o->h'.get? c=some o)->Q (.ref s.heap.objs.size) {s with heap:=h'}):
    wpAny (model prog w) A (Builtin.«zip.__next__» ⟨[.ref z],[]⟩) (fun fin s'=> ∃v,fin=.done (.ret v)/\Q v s') E s:=by
  refine(show wpAny _ _ (field (.ref z) 2 >>=_) _ _ _ from gc (ZbF hz rfl (x:=.bool false) rfl ?_));refine(show wpAny _ _ (field (.ref z) 3 >>=_) _ _ _ from gc (ZbF hz rfl (x:=.ref TI) rfl (gc (Zcv hI rfl ?_))));refine(show wpAny _ _ (Builtin.SmallTypes.ownedTupleIsFree (.ref z) >>=_) _ _ _ from gc ?_);unfold Builtin.SmallTypes.ownedTupleIsFree;refine gc (ZbF hz rfl (x:=.none) rfl (Zav ?_));simp only[Zgx];refine gc (Zdc (gc (ZbF hz rfl (x:=.ref TO) rfl (gc (ZeV hz .s fun m1 pV e1=>?_)))));replace pV:IsZip m1 z TI TO .ellipsis:=pV;have b1:=e1.extBut;refine gc ?_;simp only[Zje,List.zipIdx_nil,Zit,List.forIn_nil];refine gc (gc (ZjT ?_));have az:S1 k m1:=U1.cY _ _ _ h1 fun c hc o ho=>by rcases hc with rfl|rfl<;>first|exact b1 _ _ D.i1z ho|exact b1 _ _ D.l1z ho
  refine(show wpAny _ _ (Builtin.SmallTypes.nextOf (.ref i1) >>=_) _ _ _ from gc (U1.item _ k _ _ _ hk az fun m2 aF e2=>Zav ?_));have b2:=e2.extBut;have o2:IsPair m2 TO a b:=b2 _ _ D.TOi1 (b1 _ _ D.TOz hO);refine gc (Zcv o2 rfl (gc (wpAny_updateSeq_pair o2 fun m3 o3 e3=>?_)));replace o3:IsPair m3 TO (f k) b:=o3;have b3:=e3.extBut;refine gc (Ziw (Zav (gc (gc (ZjT ?_)))));have w3:S2 k m3:=U2.cY _ _ _ h2 fun c hc o ho=>by
    rcases hc with rfl|rfl
    · exact b3 _ _ D.TOi2.symm (b2 _ _ D.i12.symm (b1 _ _ D.i2z ho))
    · exact b3 _ _ D.l2TO (b2 _ _ D.l2i1 (b1 _ _ D.l2z ho))
  refine(show wpAny _ _ (Builtin.SmallTypes.nextOf (.ref i2) >>=_) _ _ _ from gc (U2.item _ k _ _ _ hk w3 fun m4 w4 e4=>Zav ?_));have b4:=e4.extBut;have o4:IsPair m4 TO (f k) b:=b4 _ _ D.TOi2 o3;refine gc (Zcv o4 rfl (gc (wpAny_updateSeq_pair o4 fun m5 o5 e5=>?_)));replace o5:IsPair m5 TO (f k) (g k):=o5;have b5:=e5.extBut;refine gc (Ziw (Zav (Zav (gc (Zcv o5 rfl (gc (wpAny_newTuple ?_)))))));have sz:m5.objs.size=s.heap.objs.size:=by rw[e5.1,e4.1,e3.1,e2.1,e1.1]
  have z5:IsZip m5 z TI TO .ellipsis:=b5 _ _ D.TOz.symm (b4 _ _ D.i2z.symm (b3 _ _ D.TOz.symm (b2 _ _ D.i1z.symm pV)));have kp:∀c o,c≠z->c≠TO->c≠i1->c≠i2->s.heap.get? c=some o->m5.get? c=some o:=fun c o c1 c2 c3 c4 e=>b5 _ _ c2 (b4 _ _ c4 (b3 _ _ c2 (b2 _ _ c3 (b1 _ _ c1 e))));have cg:S1 (k+1) m5:=U1.cY _ _ _ aF fun c hc o ho=>by
    rcases hc with rfl|rfl
    · exact b5 _ _ D.TOi1.symm (b4 _ _ D.i12 (b3 _ _ D.TOi1.symm ho))
    · exact b5 _ _ D.l1TO (b4 _ _ D.l1i2 (b3 _ _ D.l1TO ho))
  have w5:S2 (k+1) m5:=U2.cY _ _ _ w4 fun c hc o ho=>by rcases hc with rfl|rfl<;>first|exact b5 _ _ D.TOi2.symm ho|exact b5 _ _ D.l2TO ho
  have Gy:z<m5.objs.size:=ZaA z5;refine(show wpAny _ _ (Builtin.SmallTypes.ownedTupleHandOut (.ref z) (.ref m5.objs.size) >>=_) _ _ _ from gc ?_);unfold Builtin.SmallTypes.ownedTupleHandOut;have z6:IsZip (m5.push {cls:=.type "tuple",data:=.seq #[f k,g k]}) z TI TO .ellipsis:=Zan _ z5;refine gc (ZeV z6 .s fun m7 z7 e7=>?_);replace z7:IsZip m7 z TI TO (rawInt m5.objs.size):=z7;refine ZeV z7 .s fun m8 z8 e8=>?_;replace z8:IsZip m8 z TI TO (rawInt m5.objs.size):=z8;have up:∀c o,c≠z->m5.get? c=some o->m8.get? c=some o:=fun c o c1 e=>e8.extBut _ _ c1 (e7.extBut _ _ c1 (Zan _ e));have t8:IsPair m8 m5.objs.size (f k) (g k):=e8.extBut _ _ (Zh6 Gy) (e7.extBut _ _ (Zh6 Gy) (ZaD _ rfl));have s8:m8.objs.size=m5.objs.size+1:=by rw[e8.1,e7.1,Zey]
  rw[sz]at z8 t8 s8;refine Zav ⟨_,rfl,?_⟩;show Q (.ref m5.objs.size) _;rw[sz];refine q m8 z8 (up _ _ D.TOz o5) (U1.cY _ _ _ cg fun c hc o ho=>?_) (U2.cY _ _ _ w5 fun c hc o ho=>?_) t8 s8 fun c o c1 c2 c3 c4 e=>up c o c1 (kp c o c1 c2 c3 c4 e)
  · rcases hc with rfl|rfl<;>first|exact up _ _ D.i1z ho|exact up _ _ D.l1z ho
  · rcases hc with rfl|rfl<;>first|exact up _ _ D.i2z ho|exact up _ _ D.l2z ho
theorem ZgC {Q:PySem.Fin->Shared->Prop}(hh:A.handled=none)(U1:Src prog w i1 l1 n f S1)(D:ZipApart z TI TO i1 i2 l1 l2)(hz:IsZip s.heap z TI TO .none)(hI:IsPair s.heap TI (.ref i1) (.ref i2))(hO:IsPair s.heap TO a b)(h1:S1 n s.heap)
  (q:∀h' e,(∀c o,c≠z->c≠TO->c≠i1->c≠i2->s.heap.get? c=some o->h'.get? c=some o)->(∃o,h'.get? e=some o/\o.cls=.type "StopIteration")->E (.ref e) {s with heap:=h'}):
  wpAny (model prog w) A (Builtin.«zip.__next__» ⟨[.ref z],[]⟩) Q E s:=by
 refine(show wpAny _ _ (field (.ref z) 2 >>=_) _ _ _ from gc (ZbF hz rfl (x:=.bool false) rfl ?_));refine(show wpAny _ _ (field (.ref z) 3 >>=_) _ _ _ from gc (ZbF hz rfl (x:=.ref TI) rfl (gc (Zcv hI rfl ?_))));refine(show wpAny _ _ (Builtin.SmallTypes.ownedTupleIsFree (.ref z) >>=_) _ _ _ from gc ?_);unfold Builtin.SmallTypes.ownedTupleIsFree;refine gc (ZbF hz rfl (x:=.none) rfl (Zav ?_));simp only[Zgx];refine gc (Zdc (gc (ZbF hz rfl (x:=.ref TO) rfl (gc (ZeV hz .s fun m1 pV e1=>?_)))));replace pV:IsZip m1 z TI TO .ellipsis:=pV;have b1:=e1.extBut;refine gc ?_;simp only[Zje,List.zipIdx_nil,Zit,List.forIn_nil];refine gc (gc (ZjT ?_));have az:S1 n m1:=U1.cY _ _ _ h1 fun c hc o ho=>by rcases hc with rfl|rfl<;>first|exact b1 _ _ D.i1z ho|exact b1 _ _ D.l1z ho
 refine(show wpAny _ _ (Builtin.SmallTypes.nextOf (.ref i1) >>=_) _ _ _ from gc (U1.stop _ _ _ _ hh az fun m2 e e2 he=>?_));obtain⟨oe,ge,ce⟩:=he;have z2:IsZip m2 z TI TO .ellipsis:=e2 _ _ D.i1z.symm pV;have SV:e≠z:=fun y=>by subst y;rw[z2]at ge;cases ge;simp at ce
 refine ZeV z2 .s fun m3 _ e3=>q m3 e (fun c o c1 _ c3 _ x=>e3.extBut _ _ c1 (e2 _ _ c3 (b1 _ _ c1 x))) ⟨oe,e3.extBut _ _ SV ge,ce⟩
end
section
variable {z TI TO i1 i2 l1 l2:Addr}{n:Nat}{f g:Nat->Value}{S1 S2:Nat->Heap->Prop}
theorem NP (hh:A.handled=none)(U1:Src prog w i1 l1 n f S1)(U2:Src prog w i2 l2 n g S2)(D:ZipApart z TI TO i1 i2 l1 l2):
  WalksT prog w A z [z,TI,TO,i1,i2,l1,l2] [z,TO,i1,i2] n (fun k vals=>vals= #[f k,g k])
   (fun k h=>IsZip h z TI TO .none/\IsPair h TI (.ref i1) (.ref i2)/\(∃a b,IsPair h TO a b)/\S1 k h/\S2 k h)
   (fun k T h=>IsZip h z TI TO (rawInt T)/\IsPair h TI (.ref i1) (.ref i2)/\(∃a b,IsPair h TO a b)/\S1 (k+1) h/\S2 (k+1) h/\T∉[z,TO,i1,i2]) where
 sub:=fun c hc=>by simp only[Zas,Zbk,Zcp]at hc |-;rcases hc with rfl|rfl|rfl|rfl<;>simp
 frame:=fun k h h' ⟨a1,a2,⟨a,b,a3⟩,a4,a5⟩ kp=>⟨kp z .s _ a1,kp TI .s _ a2,⟨a,b,kp TO .s _ a3⟩,U1.cY _ _ _ a4 fun c hc o=>kp c (by rcases hc with rfl|rfl<;>simp) o,U2.cY _ _ _ a5 fun c hc o=>kp c (by rcases hc with rfl|rfl<;>simp) o⟩
 item:=fun k s Q E hk ⟨a1,a2,⟨a,b,a3⟩,a4,a5⟩ q=>by
  have ty:s.TypeIs (.ref z) "zip" :=⟨_,a1,rfl⟩;have ne:∀{c o},s.heap.get? c=some o->s.heap.objs.size≠c:=fun e=>Zh6 (ZaA e);obtain⟨o1,g1⟩:=U1.here _ _ a4;obtain⟨o2,g2⟩:=U2.here _ _ a5;unfold pyNext;refine gc (Zi4 (ZbC (name:=Str.ofString "__next__") ty Zix (ZcD Zix ty F.entry_zip_next (ZfH U1 U2 D hk a1 a2 a3 a4 a5 fun h' c1 c2 c3 c4 c5 c6 c7=>Zav ?_) (F.args_zip_next_1 _))));refine q s.heap.objs.size #[f k,g k] h' s.toks rfl (Zal _) ⟨_,c5,rfl,_,rfl⟩ ⟨c1,c7 _ _ D.TIz D.TITO D.TIi1 D.TIi2 a2,⟨_,_,c2⟩,c3,c4,fun m=>?_⟩ fun c o hc e=>c7 c o (fun x=>hc (by simp[x])) (fun x=>hc (by simp[x])) (fun x=>hc (by simp[x])) (fun x=>hc (by simp[x])) e;simp only[Zas,Zbk,Zcp]at m;rcases m with m|m|m|m
  ·exact ne a1 m
  ·exact ne a3 m
  ·exact ne g1 m
  ·exact ne g2 m
 go:=fun elts kk pos k T s Q E ⟨a1,a2,⟨a,b,a3⟩,a4,a5,_⟩ q=>wpAny_letOwnedTupleGo_zip a1 fun h' z' s'=>by
  have ex:=s'.extBut;refine q h' ⟨z',ex _ _ D.TIz a2,⟨a,b,ex _ _ D.TOz a3⟩,U1.cY _ _ _ a4 fun c hc o ho=>?_,U2.cY _ _ _ a5 fun c hc o ho=>?_⟩ fun c o hc e=>ex _ _ (fun x=>hc (by simp[x])) e
  ·rcases hc with rfl|rfl<;>first|exact ex _ _ D.i1z ho|exact ex _ _ D.l1z ho
  ·rcases hc with rfl|rfl<;>first|exact ex _ _ D.i2z ho|exact ex _ _ D.l2z ho
 apart:=fun k T h ⟨_,_,_,_,_,t⟩=>t
 done:=fun s Q E ⟨a1,a2,⟨a,b,a3⟩,a4,a5⟩ q=>by have ty:s.TypeIs (.ref z) "zip" :=⟨_,a1,rfl⟩;unfold pyNext;refine gc (Zi4 (ZbC (name:=Str.ofString "__next__") ty Zix (ZcD Zix ty F.entry_zip_next (ZgC hh U1 D a1 a2 a3 a4 fun h' e kp he=>?_) (F.args_zip_next_1 _))));obtain⟨o,ho,hc⟩:=he;refine gc (wpAny_isInstance (T:= "StopIteration") (b:=true) ⟨o,ho,hc⟩ isSubtype_stop (Zav (q _ s.toks fun c o hc e=>?_)));exact kp c o (fun x=>hc (by simp[x])) (fun x=>hc (by simp[x])) (fun x=>hc (by simp[x])) (fun x=>hc (by simp[x])) e
 self:=fun k s Q E st q=>Zfq st.1 q
end
theorem ZcE {xs:Array Value}(t:IsTup h l xs)(o:Obj):IsTup (h.push o) l xs:=let ⟨u,hu,r⟩:=t;⟨u,Zan _ hu,r⟩
section
variable {σ:St}{fp:List Addr}
theorem N6 {T:Addr}{o:HO}(hf:∀b∈fp,cI X pins H b)(dz:s.heap.objs.size<=T)(V3:∀b∈fp,∃o,s.heap.get? b=some o/\∀v,o.data≠.cell v)(b:Addr)(hb:b∈fp):upd H T o b=none:=by obtain⟨o,ho,_⟩:=V3 b hb;rw[Zh (ZaR (ZaG (ZaA ho) dz))];exact(hf b hb).1
end
theorem JR {z TI TO i1 i2 b:Addr}(hb:b∉[z,TI,TO,i1,i2]):b∉[z,TO,i1,i2]:=fun hm=>hb (by
 simp only[Zas,Zbk,Zcp]at hm |-;rcases hm with h|h|h|h
 ·exact .inl h
 ·exact .inr (.inr (.inl h))
 ·exact .inr (.inr (.inr (.inl h)))
 ·exact .inr (.inr (.inr (.inr h))))
theorem zr {z TI TO i1 i2:Addr}{P:Addr->Prop}(h1:P z)(h2:P TI)(h3:P TO)(h4:P i1)(h5:P i2):∀b∈[z,TI,TO,i1,i2],P b:=fun b hb=>by
 simp only[Zas,Zbk,Zcp]at hb;rcases hb with rfl|rfl|rfl|rfl|rfl
 ·exact h1
 ·exact h2
 ·exact h3
 ·exact h4
 ·exact h5
end L2
namespace L2
open PySem PySem.Spec PyProof.Rows SeqAt
theorem FH (hu:X.A.units<cLine):bf X (compareOp .Eq) (fun x y H Q=> ∃(a b:Addr) (ns ms:List Int),x=.ref a/\y=.ref b/\ah X.K H a (ns.map V.int)/\ah X.K H b (ms.map V.int)/\Q (.bl (decide (ns=ms))) H):=by
 intro pins s σ H x y u v Q I rx ry h;obtain⟨a,b,ns,ms,rfl,rfl,ha,hb,q⟩:=h;cases rx;cases ry;obtain⟨us,r1,p1,_⟩:=I.tuple ha;obtain⟨vs,r2,p2,_⟩:=I.tuple hb;have l1:=r1.length;have l2:=r2.length;rw[Zat]at l1 l2;refine eq_tupleAt (e:=fun j=>ns.getD j 0==ms.getD j 0) p1 p2 hu (fun j h1 h2=>?_) ?_
 ·obtain⟨t1,e1⟩:=J6 r1 j (by simpa using h1);obtain⟨t2,e2⟩:=J6 r2 j (by simpa using h2);rw[show us.toArray[j]=us[j]'(by simpa using h1) by simp,show vs.toArray[j]=vs[j]'(by simpa using h2) by simp,e1,e2];exact ZcW _ _ _ _
 ·have e:((List.range (min us.toArray.size vs.toArray.size)).all (fun j=>ns.getD j 0==ms.getD j 0)&&us.toArray.size==vs.toArray.size)=decide (ns=ms):=by
   rw[Zcc,Zap,ZaK,ZaF,Zcr,Zar,Zar];constructor
   ·rintro⟨h,hl⟩;refine Zjf .l fun i h1 h2=>?_;have:=h i (by rw[Zbf];lia);simpa[h1,h2] using this
   ·rintro rfl;exact⟨fun j _=>.s,.l⟩
  rw[e];exact⟨.bl _,H,I,rfl,q⟩
structure Cells (base:Heap)(scope:Scope)(cl:List (Str×Addr))(N:List Str)(vs:List V):Prop where
 len:vs.length=N.length
 only:∀z,scope.names.lookup z=some .cell∨scope.names.lookup z=some .free->z∈N
 at_:∀(i:Nat) x v,N[i]?=some x->vs[i]?=some v->scope.names.lookup x=some .free/\∃c u,cl.lookup x=some c/\base.IsCell c (some u)/\RelV v u
 mem:∀z c,cl.lookup z=some c->z∈N
 inj:∀x y c,cl.lookup x=some c->cl.lookup y=some c->x=y
theorem Zgj {P:Program}{K:Zke}{f:Addr}{q:Str}{params:Arguments}{body:Expr}{cl:List (Str×Addr)}{pm:Value}{c:Addr}{ct:Value}{k:Nat}{ws:List V}{sp:Sp}
    (T:Cells base scope cl N ws) (hk:scope.kind=.function) (X2:scope.isCoroutine=false) (XG:scope.isGenerator=false) (o9:∀z∈scope.names,z.2≠.cell)
    (fA:∀vs H Q E,sp vs H Q E->vs=[]/\H f=some (tM f q params body scope cl pm c ct)/\H c=some (jY c q))
    (hb:∀(A:Around) (outer:List Env) (s:Shared) (H:Hp) (Q:VK) (E:XK),bO k (A.deeper (PySem.W.envX q scope s.heap.objs.size f (.ref c) cl))->sp [] H Q E->
      ∃t,PE (rM P w K mg base N q scope f (.ref c) cl A outer s H E) body t/\t (ws.map some) H Q):
    aJ P w K mg base (cJ P w) (k+1) f (PySem.W.kla_fn "<lambda>" q params body scope cl pm (.ref c) ct) [] sp:=by
  refine⟨fun vs H Q E h=>by rw[(fA vs H Q E h).1];rfl,fun A outer s H args us vs Q E hr e0 w9 rv h=>?_⟩;obtain⟨rfl,hf,hc⟩:=fA _ _ _ _ h;have of:s.heap.get? f=some (PySem.W.kla_obj "<lambda>" q params body scope cl pm c ct):=(e0.au f _ hf).1;have oc:s.heap.CodeRec (.ref c) q:=(e0.au c _ hc).1;have lim:s.heap.NoLimit:=e0.mod.nolimit.keeps fun b o e=>(e0.bs b o e).1;refine PySem.W.kla_callFunE hr.depth of rfl X2 XG rfl oc (w9 _ _ _ _ ?_);refine wpAny_newFunctionEnv o9 (fun z hz=>by cases rv;exact absurd hz .s) (fun h1 wI VP=>?_) hk;have k1:∀b o,s.heap.get? b=some o->h1.get? b=some o:=fun b o e=>VP.extBut b o (ZaR (ZaA e)) (Zan _ e);refine⟨lim.keeps k1,?_⟩;show codeAny _ A (.expr body (PySem.W.envX q scope s.heap.objs.size f (.ref c) cl)) _ _;obtain⟨t,ht,hq⟩:=hb A outer s H Q E (hr.deeper _) h;have EN:∀{a:Addr}{v:Option Value},base.IsCell a v->h1.IsCell a v/\H a=none:=fun {a v} ⟨o,ho,hd⟩=>⟨⟨o,k1 _ _ (e0.bs _ _ ho).1,hd⟩,(e0.bs _ _ ho).2⟩;have Md:∀z,z∈N->∃c u,cl.lookup z=some c/\base.IsCell c (some u):=fun z hz=>by
    obtain⟨i,hi,e⟩:=Zek hz;have bZ:i<ws.length:=by rw[T.len];exact hi
    obtain⟨_,c,u,h1,h2,_⟩:=T.at_ i z ws[i] (by rw[<-e];exact Zaj hi) (Zaj bZ);exact⟨c,u,h1,h2⟩
  have cells:∀z a,cl.lookup z=some a->∃v,base.IsCell a v:=fun z a hz=>by obtain⟨c,u,h1,h2⟩:=Md z (T.mem z a hz);rw[hz]at h1;cases h1;exact⟨_,h2⟩
  have I:ag (rM P w K mg base N q scope f (.ref c) cl A outer s H E) [] (ws.map some) H {s with heap:=h1,toks:=s.toks+(([]:List Str).zip us).length} :=by
    refine⟨⟨e0.mod,hk,rfl,rfl,Zal _,fun a b cc h2 h3=>?_,fun a ha=>?_,fun a cc hn=>Bool.noConfusion hn,fun _=>hr.hd,Around.frames_deeper e0.frames,.inr ⟨rfl,rfl⟩,fun b z=>absurd (show b∈([]:List Addr) from z) .s,e0.bs,e0.mC,fun b _ _ z=>absurd (show b∈([]:List Addr) from z) .s,fun b z=>absurd (show b∈([]:List Addr) from z) .s,e0.fN,e0.jX⟩,
      rfl,e0.bare,Un.kept k1,⟨_,wI,fun i z v h2 h3 h4=>?_⟩,fun z a hz=>?_,e0.au.fresh (Zal _),fun z a hz=>?_,fun p hp=>absurd (show p∈([]:List (Addr×Obj)) from hp) .s,e0.au.kept k1,(by rw[Zat];exact T.len)⟩
    · have h2:cl.lookup a=some cc:=h2;have h3:cl.lookup b=some cc:=h3;exact T.inj _ _ _ h2 h3
    · obtain⟨c,_,h1,_⟩:=Md a (T.only a ha);exact⟨c,h1⟩
    · have K7:(ws.map some)[i]?=some (some v):=h3;rw[Zby]at K7;obtain⟨v',e',e''⟩:=Zbp.mp K7;cases e'';obtain⟨kx,c,u,h5,h6,h7⟩:=T.at_ i z v h2 e';exact⟨u,h7,.inr ⟨.inr kx,c,h5,(EN h6).1⟩⟩
    · obtain⟨v,b⟩:=cells z a hz;exact⟨v,(EN b).1⟩
    · obtain⟨v,b⟩:=cells z a hz;exact(EN b).2
  refine PySem.W.kla_codeExpr (ZbR (ht [] _ _ H _ I hq) (fun u s' hs=>?_) fun e s' hs=>hs);obtain⟨v,H',J,r,z⟩:=hs;exact⟨v,H',J.os,J.bare,J.base,J.au,r,z⟩
end L2
namespace L2
open PySem PySem.Spec PyProof.Rows
theorem WH {t sl:Addr}{items:Array Value}{vl vu:Value}{lo hi:Option Int}{Q:Value->Shared->Prop}(ht:IsTup s.heap t items)(hs:s.heap.IsSliceOf sl vl vu .none)(pl:IsPart vl lo)(pu:IsPart vu hi)
  (hw:HT.aX items.size 0 lo=0/\HT.aX items.size items.size hi=items.size) (h:Q (.ref t) s):wpAny (model prog w) A (getItem (.ref t) (.ref sl)) Q E s:=by
 obtain⟨os,jT,ud,nK⟩:=id hs;have PJ:s.TypeIs (.ref sl) "slice" :=⟨os,jT,ud⟩;unfold getItem
 try with_reducible refine ZcT ?_
 first|refine gc (Zav ?_)|skip
 refine gc (ZiU ht.typeIs .d (gc (ZbC (name:=Str.ofString "__getitem__") ht.typeIs Za6 (ZcD Za6 ht.typeIs Zir ?_ (ZiF _ _)))));refine(show wpAny _ _ (Builtin.Tuple.tupleItemsOf (.ref t) >>=_) _ _ s from gc (Zi2 ht (gc (Zjq PJ ?_))));rw[ZaQ .d];refine gc (HT.Hi hs pl pu ?_);rw[hw.1,hw.2];refine(show wpAny _ _ (if ((((0:Nat):Int)==0&&(1:Int)==1&&(items.size-0)==items.size)=true) then _ else _) _ _ s from ?_);rw[ZaQ .s];unfold Builtin.Tuple.tupleIsExact;refine gc ?_
 wp_walk using wpAny_typeOf ht.typeIs
 exact⟨_,rfl,Zav h⟩
def tD (K:Zke):V->Option Int->Option Int->Hp->VK->Prop:=fun x lo hi H Q=> ∃a xs,x=.ref a/\H a=some (.tup xs)/\∀(c:Addr) H',ae H H'->H' c=some (.tup (dI xs lo hi))->Q (.ref c) H'
theorem ZS:pP X (tD X.K):=by
 intro pins s σ H x v vl vu lo hi sl Q I rx hs pl pu h;obtain⟨a,xs,rfl,ha,q⟩:=h;have hx:ah X.K H a xs:=ah.of ha;by_cases hw:HT.aX xs.length 0 lo=0/\HT.aX xs.length xs.length hi=xs.length
 ·cases rx;obtain⟨aa,r,ht,hz⟩:=I.tuple hx;have hlen:aa.toArray.size=xs.length:=by rw[Zar];exact r.length.symm
  refine⟨"tuple",_,Za6.lookup,ht.typeIs,?_⟩;refine WH ht hs pl pu (by rw[hlen];exact hw) ⟨.ref a,H,I,rfl,q a H (ae.refl _) ?_⟩;rw[ha];unfold dI;rw[hw.1,hw.2,Zh3,Nat.sub_zero,ZaV]
 ·exact JE pins s σ H (.ref a) v vl vu lo hi sl Q I rx hs pl pu ⟨a,xs,rfl,hx,hw,fun p hp=>q p _ (fun b u hb=>by rw[Zh (Ze hb hp)];exact hb) aj⟩
theorem WZ:fillsNumberSlot (.type "tuple") "mul" =pure false:=
 PySem.fillsNumberSlot_seq (id:= "tuple.__mul__") (r:=some (.builtin "tuple.__rmul__")) ZeE.lookup .k PySem.F.slot_tuple_rmul.lookup .k
theorem Za0:seqRepeat? (.type "tuple")=pure (some (.builtin "tuple.__mul__")):=by unfold seqRepeat?;rw[PySem.seqSlot_of (T:= "tuple") (name:= "__mul__") (id:= "tuple.__mul__") ZeE.lookup .k,PySem.seqSlot_of (T:= "tuple") (name:= "__rmul__") (id:= "tuple.__rmul__") PySem.F.slot_tuple_rmul.lookup .k];rfl
theorem Uy (a:Int)(t:Tok)(l:Addr)(items:Array Value)(n:Nat)(d:Option Addr)(sl:Array (Option Value)):
  Meets (Builtin.«int.__rmul__» ⟨[.int a t,.ref l],[]⟩) (fun _ R s=>s.heap.get? l=some {cls:=.type "tuple",dict:=d,data:=.seq items n,slots:=sl}/\R (.ok (.ret Value.notImplemented)) s):=
 .of_wp fun prog w A R s h=>by obtain⟨hp,g,d,tk,os⟩:=s;obtain⟨hl,h⟩:=h;wp_walk;exact⟨_,rfl,h⟩
theorem Zad (l:Addr)(items:Array Value)(n:Nat)(d:Option Addr)(sl:Array (Option Value))(u:Tok):
  Meets (Builtin.«tuple.__mul__» ⟨[.ref l,.int 1 u],[]⟩) (fun _ R s=>s.heap.get? l=some {cls:=.type "tuple",dict:=d,data:=.seq items n,slots:=sl}/\R (.ok (.ret (.ref l))) s):=
 .of_wp fun prog w A R s h=>by
  obtain⟨hp,g,d,tk,os⟩:=s;obtain⟨hl,h⟩:=h
  wp_walk;exact⟨_,rfl,h⟩
theorem UG (l:Addr)(items:Array Value)(n:Nat)(d:Option Addr)(sl:Array (Option Value))(x:Int)(u:Tok)(h0:items.isEmpty=false)(h1:(x==1)=false)(h2:1<=x)(hs:items.size*x.toNat<=1000)(hx:x<=1000)(hz:(List.foldl (fun x1 x2=>x1++x2) #[] (List.replicate x.toNat items)).size<=sizeLine):
  Meets (Builtin.«tuple.__mul__» ⟨[.ref l,.int x u],[]⟩) (fun _ R s=>s.heap.get? l=some {cls:=.type "tuple",dict:=d,data:=.seq items n,slots:=sl}/\R (.ok (.ret (Value.ref s.heap.objs.size))) {s with heap:=s.heap.push {cls:=Value.type "tuple",data:=Data.seq (List.foldl (fun x1 x2=>x1++x2) #[] (List.replicate x.toNat items))},toks:=s.toks}):=
 .of_wp fun prog w A R s h=>by
  obtain⟨hp,g,d,tk,os⟩:=s;obtain⟨hl,h⟩:=h;have a1:decide (x< -(2^63))=false:=Zax .l;have a2:decide (x>=2^63)=false:=Zax .l;have a3:decide (x<=0)=false:=Zax .l;have hn:(items.size:Int)*x<=1000:=by
   have e:x=(x.toNat:Int):=.l;rw[e]
   exact_mod_cast hs
  have a4:¬((items.size:Int)*x> (2^63-1)/8):=.o;have a5:Builtin.Tuple.tupleTooMany ((items.size:Int)*x)=false:=by unfold Builtin.Tuple.tupleTooMany;have e:=ZaH;simp;omega
  wp_walk
  rw[ZaN (by rw[a1,a2];decide)];have ht:IsTup hp l items:=⟨_,hl,rfl,n,rfl⟩;refine gc (Zi2 ht ?_);dsimp only;rw[ZaN (by rw[h0,h1];decide),ZaN (by rw[a3,h0];decide),ZaN a4,a5,ZaN Zam]
  wp_walk;exact⟨_,rfl,h⟩
inductive Cz (x:V) (y:V) (H:Hp) (Q:VK):Prop
 |mk (a k xs:_) (c0:x=.ref a) (c1:y=.int k) (c2:H a=some (.tup xs)) (c3:xs≠[]) (c4:1<=k) (c5:k<=1000) (c6:xs.length*k.toNat<=1000) (c7:∀(c:Addr) H',ae H H'->H' c=some (.tup (List.replicate k.toNat xs).flatten)->Q (.ref c) H')
theorem NA:bf X (binaryOp .Mult) Cz:=by
  intro pins s σ H x y v u Q I rx ry h;obtain⟨l,k,xs,rfl,rfl,hH,bN,h1,h2,hz,q⟩:=h;cases rx;obtain⟨t,rfl⟩:=ry;obtain⟨aa,r,pl,_⟩:=I.tuple (ah.of hH);have hl:=r.length;obtain⟨⟨cls,dd,data,sl⟩,ho,md,n,hd⟩:=id pl;simp only at md hd;subst md hd;have f0:∀m:Nat,List.foldl (fun x1 x2=>x1++x2) #[] (List.replicate m aa.toArray)=(List.replicate m aa).flatten.toArray:=fun m=>by have:=OY aa m [];rw[Zdh]at this;exact this
  have hsz:aa.toArray.size*k.toNat<=1000:=by rw[Zar,<-hl];exact hz
  have h0:aa.toArray.isEmpty=false:=by
    cases aa with
    |nil=>
     cases xs with
     |nil=>exact absurd rfl bN
     |cons a b=>cases hl
    |cons a b=>rfl
  refine wpAny_binaryOp_repeat_ref (T:= "tuple") (U:= "int") .d ⟨_,ho,rfl⟩ (fun s'=>typeIs_int s' k t) WZ PySem.F.fills_int_mul PySem.F.slot_int_rmul Za0 PySem.F.slot_int_index.lookup
    (ZhV PySem.F.slot_int_rmul (typeIs_int s k t) PySem.F.entry_int_rmul (PySem.F.args_int_rmul_2 _ _) (Uy k t l aa.toArray n dd sl)
      ⟨ho,rfl,⟨_,ho,rfl⟩,?_⟩)
  by_cases hk:k=1
  · subst hk;refine ZhV ZeE ⟨_,ho,rfl⟩ PySem.F.entry_tuple_mul (ZiX _ _) (Zad l aa.toArray n dd sl t) ⟨ho,⟨.ref l,H,I,rfl,q l H (ae.refl _) ?_⟩⟩;rw[hH];simp
  · refine ZhV ZeE ⟨_,ho,rfl⟩ PySem.F.entry_tuple_mul (ZiX _ _) (UG l aa.toArray n dd sl k t h0 (by simpa using hk) h1 hsz h2 ?_) ⟨ho,?_⟩
    · rw[f0,Zar,M9,ZaH];rw[Zar,Nat.mul_comm]at hsz
      lia
    · rw[f0];refine⟨.ref s.heap.objs.size,upd H s.heap.objs.size (.tup (List.replicate k.toNat xs).flatten),?_,rfl,q _ _ (fun b o hb=>by rw[Zh (Ze hb I.fresh)];exact hb) aj⟩;refine I.laid (t':=s.toks) (fun b o e=>Zan _ e) (Zal _) ⟨by rw[M9,ZaH,Nat.mul_comm];lia,_,r.rep k.toNat,?_⟩;exact⟨⟨_,ZaD s.heap rfl,rfl,0,rfl⟩,_,ZaD s.heap rfl,rfl⟩
end L2
namespace PyProof.Rows.fS
open PySem
def aao:Bool->Keyed->Array Keyed->Nat->Nat->Nat->StateT SortSt Sem (Option Nat):=sortPriv%PySem.Builtin.gallop
def Ap (left:Bool)(key:Keyed)(arr:Array Keyed)(base:Nat)(i:Nat):StateT SortSt Sem (Option Bool):=
 elem' arr (base+i) >>=fun x=>if left=true then lt' x key else lt' key x >>=fun c=>pure (c.map fun z=>!z)
structure Ord (r:Keyed->Keyed->Bool):Prop where
 i8:∀x y,r x y=true->r y x=false
 fI:∀x y z,r y x=false->r z y=false->r z x=false
theorem Ord.oR (o:Ord r)(x:Keyed):r x x=false:=by
 cases h:r x x with
 |false=>rfl
 |true=>have:=o.i8 x x h;rw[h]at this;cases this
section
variable {κ:SortKind}{a₀:Array Keyed}{r:Keyed->Keyed->Bool}
def lE (prog:Program)(w:World)(A:Around)(E:Value->Shared->Prop)(s:Shared)(κ:SortKind)(a₀:Array Keyed)(r:Keyed->Keyed->Bool):Prop:=
 ∀(x y:Keyed) (st:SortSt) (Q:Option Bool->SortSt->Prop),x∈a₀.toList->y∈a₀.toList->kindOf st=κ->Q (some (r x y)) st->wpS (model prog w) A E s (lt' x y) Q st
theorem ZQ {arr:Array Keyed}{i:Nat}{x:Keyed}{Q:Keyed->SortSt->Prop}{st:SortSt}(hx:arr[i]?=some x)(h:Q x st):wpS (model prog w) A E s (elem' arr i) Q st:=by rw[elem'_eq,hx];exact ZaI h
theorem Z5 {σ α:Type}{c:Prop}[Decidable c]{t e:StateT σ Sem α}{Q:α->σ->Prop}{st:σ}(h1:c->wpS (model prog w) A E s t Q st)(h2:¬c->wpS (model prog w) A E s e Q st):wpS (model prog w) A E s (if c then t else e) Q st:=by
 by_cases h:c
 ·rw[ZaQ h];exact h1 h
 ·rw[ZaN h];exact h2 h
theorem Z6 {σ α:Type}{x y:Nat}{t e:StateT σ Sem α}{Q:α->σ->Prop}{st:σ}(h1:x=y->wpS (model prog w) A E s t Q st)(h2:¬x=y->wpS (model prog w) A E s e Q st):wpS (model prog w) A E s (if (x==y)=true then t else e) Q st:=
 Z5 (fun h=>h1 (Zcr.mp h)) (fun h=>h2 fun z=>h (Zcr.mpr z))
theorem Fq {σ α:Type}{b:Bool}{t e:StateT σ Sem α}{Q:α->σ->Prop}{st:σ}(h1:b=true->wpS (model prog w) A E s t Q st)(h2:b=false->wpS (model prog w) A E s e Q st):wpS (model prog w) A E s (if b=true then t else e) Q st:=
 Z5 h1 (fun h=>h2 (ZiW.mpr h))
theorem Na {σ α γ:Type}{c:Prop}[Decidable c]{j:Unit->γ->StateT σ Sem α}{x y:γ}{Q:α->σ->Prop}{st:σ}(h:∀x,wpS (model prog w) A E s (j () x) Q st):wpS (model prog w) A E s (if c then j () x else j () y) Q st:=
 Z5 (fun _=>h _) (fun _=>h _)
theorem Av {σ α γ δ:Type}{c:Prop}[Decidable c]{j:Unit->γ->δ->StateT σ Sem α}{t:StateT σ Sem α}{x:γ}{y:δ}{Q:α->σ->Prop}{st:σ}(P:γ->δ->Prop)(h:∀x y,P x y->wpS (model prog w) A E s (j () x y) Q st)
  (h1:c->(∀x y,P x y->wpS (model prog w) A E s (j () x y) Q st)->wpS (model prog w) A E s t Q st) (h2:¬c->P x y):wpS (model prog w) A E s (if c then t else j () x y) Q st:=
 Z5 (fun z=>h1 z h) (fun z=>h _ _ (h2 z))
theorem Nb {σ α:Type}{c:Prop}[Decidable c]{j:Unit->StateT σ Sem α}{t:StateT σ Sem α}{Q:α->σ->Prop}{st:σ}(P:σ->Prop)(h:∀ai,P ai->wpS (model prog w) A E s (j ()) Q ai)
  (h1:c->(∀ai,P ai->wpS (model prog w) A E s (j ()) Q ai)->wpS (model prog w) A E s t Q st) (h2:¬c->P st):wpS (model prog w) A E s (if c then t else j ()) Q st:=
 Z5 (fun z=>h1 z h) (fun z=>h _ (h2 z))
def bp (r:Keyed->Keyed->Bool)(left:Bool)(key x:Keyed):Bool:=if left=true then r x key else !r key x
theorem Zck {left:Bool}{key:Keyed}{arr:Array Keyed}{base i:Nat}{x:Keyed}{Q:Option Bool->SortSt->Prop}{st:SortSt}(hc:lE prog w A E s κ a₀ r)(hk:kindOf st=κ)(hx:arr[base+i]?=some x)(mx:x∈a₀.toList)(mk:key∈a₀.toList)(h:Q (some (bp r left key x)) st):
  wpS (model prog w) A E s (Ap left key arr base i) Q st:=by
 unfold Ap;refine ZaC (ZQ hx ?_);cases left with
 |true=>rw[ZaQ rfl];exact hc _ _ _ _ mx mk hk h
 |false=>rw[ZaN Zam];exact ZaC (hc _ _ _ _ mk mx hk (ZaI h))
theorem YX {left:Bool}{key:Keyed}{arr:Array Keyed}{base n hint:Nat}{Q:Option Nat->SortSt->Prop}{st:SortSt}(hc:lE prog w A E s κ a₀ r)(hk:kindOf st=κ)(p:Nat->Bool)
  (hp:∀i,i<n->∃x,arr[base+i]?=some x/\x∈a₀.toList/\p i=bp r left key x) (mk:key∈a₀.toList) (mono:∀i j,i<=j->j<n->p j=true->p i=true) (hh:hint<n)
  (h:∀k,k<=n->(∀i,i<k->p i=true)->(∀i,k<=i->i<n->p i=false)->Q (some k) st):wpS (model prog w) A E s (aao left key arr base n hint) Q st:=by
 have xH:∀{i:Nat}{Q:Option Bool->SortSt->Prop},i<n->Q (some (p i)) st->wpS (model prog w) A E s (Ap left key arr base i) Q st:=fun {i Q} hi hq=>by obtain⟨x,e,m,ep⟩:=hp i hi;exact Zck hc hk e m mk (by rw[<-ep];exact hq)
 have down:∀i j,i<=j->j<n->p i=false->p j=false:=fun i j iU hj hf=>by
  cases hh:p j with
  |false=>rfl
  |true=>rw[mono i j iU hj hh]at hf;cases hf
 show wpS (model prog w) A E s (Ap left key arr base hint >>=_) _ _;dsimp only;refine ZaC (xH hh ?_);cases IS:p hint with
 |true=>
  dsimp only;rw[ZaQ rfl];refine ZaC (Ze0 (ZbH (I:=fun x c ai=>ai=st/\∃cV cD,c=(none,cV,cD)/\hint+cV<n/\p (hint+cV)=true/\cV<cD/\x+1<=cD) (Q:=fun c ai=>ai=st/\∃cV cD,c=(none,cV,cD)/\hint+cV<n/\p (hint+cV)=true/\cV<cD/\∀i,hint+cD<=i->i<n->p i=false) ?_ ?_ ⟨rfl,0,1,rfl,hh,IS,Nat.one_pos,Zal _⟩) ?_)
  ·rintro x c ai _ hx ⟨rfl,cV,cD,rfl,q1,q2,q3,q4⟩;dsimp only;refine Z5 (fun fB=>ZaI ⟨rfl,_,_,rfl,q1,q2,q3,fun i h1 h2=>.o⟩) (fun fB=>ZaC (xH .o ?_));cases wG:p (hint+cD) with
   |true=>exact ZaI ⟨rfl,cD,2*cD+1,rfl,.o,wG,.o,.o⟩
   |false=>exact ZaI ⟨rfl,_,_,rfl,q1,q2,q3,fun i h1 h2=>down (hint+cD) i h1 h2 wG⟩
  ·rintro c ai ⟨rfl,cV,cD,rfl,q1,q2,q3,q4⟩;rw[Zbe (ZaJ n)]at q4;exact⟨rfl,_,_,rfl,q1,q2,q3,fun i h1 h2=>.o⟩
  ·rintro c ai ⟨rfl,cV,cD,rfl,q1,q2,q3,q4⟩;dsimp only;refine ZaC (ZbH (I:=fun x c aF=>aF=ai/\∃lo hi,c=(none,lo,hi)/\lo<=hi/\hi<=n/\(∀i,i<lo->p i=true)/\(∀i,hi<=i->i<n->p i=false)/\hi-lo<=n-x) ?_ ?_ ⟨rfl,_,_,rfl,.o,.o,(fun i hi=>mono i (hint+cV) .o q1 q2),(fun i h1 h2=>q4 i .o h2),.o⟩)
   ·rintro x c aF _ hx ⟨rfl,lo,hi,rfl,h1,h2,h3,h4,h5⟩;dsimp only;refine Z5 (fun fB=>?_) (fun fB=>?_)
    ·have e:=Ze6 h1 fB;subst e;exact ZaI (ZaI (h lo h2 h3 h4))
    ·have hm:lo+(hi-lo)/2<hi:=.o;have wM:=Zid lo ((hi-lo)/2);generalize em:lo+(hi-lo)/2=m at hm wM;refine ZaC (xH .o ?_);cases wH:p m with
     |true=>exact ZaI ⟨rfl,m+1,hi,rfl,hm,h2,fun i bZ=>mono i m (Nat.le_of_lt_succ bZ) .o wH,h4,.o⟩
     |false=>exact ZaI ⟨rfl,lo,m,rfl,wM,.o,h3,fun i h1 h2=>down m i h1 h2 wH,.o⟩
   ·rintro c aF ⟨rfl,lo,hi,rfl,h1,h2,h3,h4,h5⟩;rw[Zbe (ZaJ n)]at h5;have e:lo=hi:=.o;subst e;exact ZaI (h lo h2 h3 h4)
 |false=>
  dsimp only;rw[ZaN Zam];refine ZaC (Ze0 (ZbH (I:=fun x c ai=>ai=st/\∃cV cD,c=(none,cV,cD)/\cV<=hint/\p (hint-cV)=false/\cV<cD/\x+1<=cD) (Q:=fun c ai=>ai=st/\∃cV cD,c=(none,cV,cD)/\cV<=hint/\p (hint-cV)=false/\cV<cD/\∀i,i+cD<=hint->p i=true) ?_ ?_ ⟨rfl,0,1,rfl,ZaJ _,IS,Nat.one_pos,Zal _⟩) ?_)
  ·rintro x c ai _ hx ⟨rfl,cV,cD,rfl,q1,q2,q3,q4⟩;dsimp only;refine Z5 (fun fB=>ZaI ⟨rfl,_,_,rfl,q1,q2,q3,fun i h1=>.o⟩) (fun fB=>ZaC (xH .o ?_));cases wG:p (hint-cD) with
   |true=>exact ZaI ⟨rfl,_,_,rfl,q1,q2,q3,fun i h1=>mono i (hint-cD) (Nat.le_sub_of_add_le h1) .o wG⟩
   |false=>exact ZaI ⟨rfl,cD,2*cD+1,rfl,.o,wG,.o,.o⟩
  ·rintro c ai ⟨rfl,cV,cD,rfl,q1,q2,q3,q4⟩;rw[Zbe (ZaJ n)]at q4;exact⟨rfl,_,_,rfl,q1,q2,q3,fun i h1=>.o⟩
  ·rintro c ai ⟨rfl,cV,cD,rfl,q1,q2,q3,q4⟩;dsimp only;refine ZaC (ZbH (I:=fun x c aF=>aF=ai/\∃lo hi,c=(none,lo,hi)/\lo<=hi/\hi<=n/\(∀i,i<lo->p i=true)/\(∀i,hi<=i->i<n->p i=false)/\hi-lo<=n-x) ?_ ?_ ⟨rfl,_,_,rfl,.o,.o,(fun i hi=>q4 i .o),(fun i h1 h2=>down (hint-cV) i .o h2 q2),.o⟩)
   ·rintro x c aF _ hx ⟨rfl,lo,hi,rfl,h1,h2,h3,h4,h5⟩;dsimp only;refine Z5 (fun fB=>?_) (fun fB=>?_)
    ·have e:=Ze6 h1 fB;subst e;exact ZaI (ZaI (h lo h2 h3 h4))
    ·have hm:lo+(hi-lo)/2<hi:=.o;have wM:=Zid lo ((hi-lo)/2);generalize em:lo+(hi-lo)/2=m at hm wM;refine ZaC (xH .o ?_);cases wH:p m with
     |true=>exact ZaI ⟨rfl,m+1,hi,rfl,hm,h2,fun i bZ=>mono i m (Nat.le_of_lt_succ bZ) .o wH,h4,.o⟩
     |false=>exact ZaI ⟨rfl,lo,m,rfl,wM,.o,h3,fun i h1 h2=>down m i h1 h2 wH,.o⟩
   ·rintro c aF ⟨rfl,lo,hi,rfl,h1,h2,h3,h4,h5⟩;rw[Zbe (ZaJ n)]at h5;have e:lo=hi:=.o;subst e;exact ZaI (h lo h2 h3 h4)
end
def Hj:Nat->StateT SortSt Sem Unit:=sortPriv%PySem.Builtin.setMinGallop
def Tr:Array Keyed->Array Keyed->StateT SortSt Sem (Array Keyed):=sortPriv%PySem.Builtin.mergeLo
theorem WQ (g:Nat):Hj g=modify fun s=>SortSt.mk' (kindOf s) (arrOf s) (pendingOf s) g (failedOf s):=rfl
abbrev Pw (r:Keyed->Keyed->Bool)(l:List Keyed):Prop:=l.Pairwise fun x y=>r y x=false
def SG (st ai:SortSt):Prop:=kindOf ai=kindOf st/\arrOf ai=arrOf st/\pendingOf ai=pendingOf st/\failedOf ai=failedOf st
theorem SG.refl (st:SortSt):SG st st:=⟨rfl,rfl,rfl,rfl⟩
def Good (r:Keyed->Keyed->Bool)(a b res:Array Keyed):Prop:=res.toList.Perm (a.toList++b.toList)/\Pw r res.toList
structure JW (r:Keyed->Keyed->Bool)(a b out:Array Keyed)(ia ib:Nat):Prop where
 perm:(out.toList++(a.toList.drop ia++b.toList.drop ib)).Perm (a.toList++b.toList)
 mT:Pw r out.toList
 jB:∀x∈out.toList,∀y∈a.toList.drop ia++b.toList.drop ib,r y x=false
structure gz (r:Keyed->Keyed->Bool)(a b:Array Keyed):Prop where
 o:Ord r
 sa:Pw r a.toList
 sb:Pw r b.toList
theorem Wb {l:List α}(h:l[i]?=some x):l.drop i=x::l.drop (i+1):=by obtain⟨hi,e⟩:=Zai.mp h;rw[Zd7 hi,e]
theorem Yc {xs:Array Keyed}{i:Nat}{x:Keyed}(h:xs[i]?=some x):xs.toList[i]?=some x:=by rw[ZaZ];exact h
theorem Zt {xs:Array Keyed}{i:Nat}(h:i<xs.size):∃x,xs[i]?=some x:=⟨xs[i],getElem?_pos xs i h⟩
theorem Wx {l:List Keyed}(o:Ord r)(p:Pw r l)(h:l[i]?=some x):∀y∈l.drop i,r y x=false:=fun y hy=>by
 rw[Wb h]at hy;rcases Zas.mp hy with rfl|hy
 ·exact o.oR _
 ·have q:Pw r (l.drop i):=Zbx (Zec i l) p;rw[Wb h]at q;exact(ZbD.mp q).1 y hy
theorem W1 (xs:Array Keyed)(i j:Nat):(xs.extract i j).toList=(xs.toList.drop i).take (j-i):=by rw[Array.toList_extract,List.extract_eq_drop_take]
theorem Up (xs:Array Keyed)(i:Nat):(xs.extract i xs.size).toList=xs.toList.drop i:=by rw[W1,ZbJ (by rw[Za5,ZaT];exact Zal _)]
section
variable {r:Keyed->Keyed->Bool}{a b out:Array Keyed}{ia ib:Nat}
theorem JW.oF (C:gz r a b)(J:JW r a b out ia ib){x:Keyed}(hx:a[ia]?=some x)(h:∀y,b[ib]?=some y->r y x=false):JW r a b (out.push x) (ia+1) ib:=by
 have fK:=Yc hx;have hd:=Wb fK;have low:∀y∈a.toList.drop (ia+1)++b.toList.drop ib,r y x=false:=fun y hy=>by
  rcases Zay.mp hy with hy|hy
  ·exact Wx C.o C.sa fK y (by rw[hd];exact Zaq _ hy)
  ·cases e:b[ib]? with
   |none=>rw[<-ZaZ]at e;rw[Zb5 (by rw[Zfi]at e;exact e)]at hy;cases hy
   |some z=>have h1:=Wx C.o C.sb (Yc e) y hy;exact C.o.fI x z y (h z e) h1
 refine⟨?_,?_,fun u hu y hy=>?_⟩
 ·rw[Zbz,ZaP];have:=J.perm;rw[hd]at this;exact this
 ·rw[Zbz];refine ZbB.mpr ⟨J.mT,Zeo _ _,fun u hu v hv=>?_⟩;rw[ZaE.mp hv];exact J.jB u hu x (ZaS _ (by rw[hd];exact Zaz))
 ·rw[Zbz]at hu;rcases Zay.mp hu with hu|hu
  ·refine J.jB u hu y ?_;rcases Zay.mp hy with hy|hy
   ·exact ZaS _ (by rw[hd];exact Zaq _ hy)
   ·exact Zaw _ hy
  ·rw[ZaE.mp hu];exact low y hy
theorem JW.oE (C:gz r a b)(J:JW r a b out ia ib){y:Keyed}(hy:b[ib]?=some y)(h:∀x,a[ia]?=some x->r x y=false):JW r a b (out.push y) ia (ib+1):=by
 have fv:=Yc hy;have hd:=Wb fv;have low:∀z∈a.toList.drop ia++b.toList.drop (ib+1),r z y=false:=fun z hz=>by
  rcases Zay.mp hz with hz|hz
  ·cases e:a[ia]? with
   |none=>rw[<-ZaZ]at e;rw[Zb5 (by rw[Zfi]at e;exact e)]at hz;cases hz
   |some x=>have h1:=Wx C.o C.sa (Yc e) z hz;exact C.o.fI y x z (h x e) h1
  ·exact Wx C.o C.sb fv z (by rw[hd];exact Zaq _ hz)
 refine⟨?_,?_,fun u hu z hz=>?_⟩
 ·rw[Zbz,ZaP];have:=J.perm;rw[hd]at this;refine List.Perm.trans (Zc3 _ ?_) this;exact(show(y::(a.toList.drop ia++b.toList.drop (ib+1))).Perm _ from List.perm_middle.symm)
 ·rw[Zbz];refine ZbB.mpr ⟨J.mT,Zeo _ _,fun u hu v hv=>?_⟩;rw[ZaE.mp hv];exact J.jB u hu y (Zaw _ (by rw[hd];exact Zaz))
 ·rw[Zbz]at hu;rcases Zay.mp hu with hu|hu
  ·refine J.jB u hu z ?_;rcases Zay.mp hz with hz|hz
   ·exact ZaS _ hz
   ·exact Zaw _ (by rw[hd];exact Zaq _ hz)
  ·rw[ZaE.mp hu];exact low z hz
theorem Od {xs:Array Keyed}{i k:Nat}(hx:xs[i+k]?=some x):xs.extract i (i+(k+1))=(xs.extract i (i+k)).push x:=by obtain⟨h,e⟩:=ZiB.mp hx;rw[<-e,<-Nat.add_assoc,Array.extract_succ_right .l h]
theorem JW.vD (C:gz r a b)(J:JW r a b out ia ib):∀k,ia+k<=a.size->(∀i,i<k->∀x y,a[ia+i]?=some x->b[ib]?=some y->r y x=false)->JW r a b (out++a.extract ia (ia+k)) (ia+k) ib
 |0,_,_=>by
  rw[Zh8];have e:a.extract ia ia= #[]:=by simp;lia
  rw[e,Array.append_empty];exact J
 |k+1,hk,h=>by obtain⟨x,hx⟩:=Zt (xs:=a) (i:=ia+k) .l;have ih:=JW.vD C J k .l fun i hi=>h i .l;have:=ih.oF C hx fun y hy=>h k .l x y hx hy;rw[Od hx,ZhY];exact this
theorem JW.vC (C:gz r a b)(J:JW r a b out ia ib):∀k,ib+k<=b.size->(∀i,i<k->∀y x,b[ib+i]?=some y->a[ia]?=some x->r x y=false)->JW r a b (out++b.extract ib (ib+k)) ia (ib+k)
 |0,_,_=>by
  rw[Zh8];have e:b.extract ib ib= #[]:=by simp;omega
  rw[e,Array.append_empty];exact J
 |k+1,hk,h=>by obtain⟨y,hy⟩:=Zt (xs:=b) (i:=ib+k) .o;have ih:=JW.vC C J k .o fun i hi=>h i .o;have:=ih.oE C hy fun x hx=>h k .o y x hy hx;rw[Od hy,ZhY];exact this
theorem JW.done (C:gz r a b)(J:JW r a b out ia ib)(h:a.size<=ia∨b.size<=ib):Good r a b (out++a.extract ia a.size++b.extract ib b.size):=by
 unfold Good;rw[ZbU,ZbU,Up,Up];refine⟨by rw[ZaP];exact J.perm,?_⟩;have pa:Pw r (a.toList.drop ia):=Zbx (Zec _ _) C.sa;have pb:Pw r (b.toList.drop ib):=Zbx (Zec _ _) C.sb;rw[ZaP];refine ZbB.mpr ⟨J.mT,?_,J.jB⟩;rcases h with h|h
 ·rw[Zb5 (by rw[ZaT];exact h),Zdh];exact pb
 ·rw[Zb5 (as:=b.toList) (by rw[ZaT];exact h),Zbi];exact pa
theorem JW.last (C:gz r a b)(J:JW r a b out ia ib)(h:ia+1=a.size)(hl:∀x,a[a.size-1]?=some x->∀y∈b.toList,r x y=false):Good r a b (out++b.extract ib b.size++a.extract ia a.size):=by
 unfold Good;rw[ZbU,ZbU,Up,Up];obtain⟨x,hx⟩:=Zt (xs:=a) (i:=ia) .l;have ed:a.toList.drop ia=[x]:=by rw[Wb (Yc hx),Zb5 (by rw[ZaT];lia)]
 have P:=J.perm;have B:=J.jB;rw[ed]at P B |-;have pb:Pw r (b.toList.drop ib):=Zbx (Zec _ _) C.sb;refine⟨?_,?_⟩
 ·rw[ZaP];exact List.Perm.trans (Zc3 _ List.perm_append_comm) P
 ·rw[ZaP];refine ZbB.mpr ⟨J.mT,ZbB.mpr ⟨pb,Zeo _ _,fun y hy z hz=>?_⟩,fun u hu z hz=>B u hu z ?_⟩
  ·rw[ZaE.mp hz];exact hl x (by rw[show a.size-1=ia by omega];exact hx) y (Zb3 hy)
  ·rcases Zay.mp hz with hz|hz
   ·exact Zaw _ hz
   ·exact ZaS _ hz
end
theorem Yj {xs:Array Keyed}{i:Nat}{x:Keyed}(h:xs[i]?=some x):x∈xs.toList:=Zao (Yc h)
theorem Ww {r:Keyed->Keyed->Bool}{l:List Keyed}{i j:Nat}{x y:Keyed}(o:Ord r)(p:Pw r l)(hx:l[i]?=some x)(hy:l[j]?=some y)(h:i<=j):r y x=false:=by
 refine Wx o p hx y ?_;have:(l.drop i)[j-i]?=some y:=by rw[Zb8,show i+(j-i)=j by omega];exact hy
 exact Zao this
theorem Fi (o:Ord r)(h:r y z=true)(h2:r y x=false):r x z=true:=by
 cases e:r x z with
 |true=>rfl
 |false=>have:=o.fI z x y e h2;rw[h]at this;cases this
section
variable {κ:SortKind}{a₀:Array Keyed}{r:Keyed->Keyed->Bool}
theorem Wp {g:Nat}{Q:Unit->SortSt->Prop}{st:SortSt}(h:Q () (SortSt.mk' (kindOf st) (arrOf st) (pendingOf st) g (failedOf st))):wpS (model prog w) A E s (Hj g) Q st:=by rw[WQ];exact Zez h
theorem Zbq {a b:Array Keyed}{Q:Array Keyed->SortSt->Prop}{st:SortSt}(hc:lE prog w A E s κ a₀ r)(hk:kindOf st=κ)(C:gz r a b)(ma:∀x∈a.toList,x∈a₀.toList)(mb:∀x∈b.toList,x∈a₀.toList)(na:1<=a.size)(nb:1<=b.size)
  (h0:∀y,b[0]?=some y->∀x∈a.toList,r x y=false) (hl:∀x,a[a.size-1]?=some x->∀y∈b.toList,r x y=false)
  (h:∀res ai,SG st ai->Good r a b res->Q res ai):wpS (model prog w) A E s (Tr a b) Q st:=by
 show wpS (model prog w) A E s (_ >>=_) _ _
 try dsimp -zeta only
 refine ZaC (ZjD (Zdc ⟨rfl,?_⟩));obtain⟨y0,oT⟩:=Zt (xs:=b) (i:=0) .l;refine ZaC (ZQ oT ?_);have J0:JW r a b #[y0] 0 1:=by have e:JW r a b #[] 0 0:=⟨.s,.nil,fun x hx=>by cases hx⟩;exact e.oE C oT fun x hx=>h0 y0 oT x (Yj hx)
 refine Z6 (fun jP=>ZaI (h _ _ (SG.refl _) (J0.done C (.inr .l)))) (fun jP=>Z6 (fun gh=>ZaI (h _ _ (SG.refl _) (J0.last C .o hl))) (fun gh=>ZaC (Zie ?_)));refine ZaC (Ze0 (ZbH (I:=fun x c az=>SG st az/\∃out ia ib g,c=(none,out,ia,ib,g)/\JW r a b out ia ib/\ia+1<a.size/\ib<b.size/\x+1<=ia+ib) (Q:=fun c az=>SG st az/\∃res,c.fst=some res/\Good r a b res) ?step ?fin ⟨SG.refl _,_,_,_,_,rfl,J0,.l,.l,.l⟩) ?post)
 case post=>rintro c az ⟨km,res,ec,gd⟩;rw[ec];exact ZaI (h res az km gd)
 case fin=>rintro c az ⟨_,out,ia,ib,g,_,_,i1,i2,i3⟩;rw[Zbe (ZaJ _)]at i3;omega
 case step=>
  rintro x c az _ hx ⟨km,out,ia,ib,g,rfl,J,i1,i2,i3⟩;have tZ:kindOf az=κ:=by rw[km.1];exact hk
  refine ZaC (Ze0 (ZbH (I:=fun y c aF=>aF=az/\∃fY iq ip ac bc,c=(none,fY,iq,ip,ac,bc)/\JW r a b fY iq ip/\iq+1<a.size/\ip<b.size/\ia+ib+y<=iq+ip)
   (Q:=fun c aF=>aF=az/\((∃res,c.fst=some res/\Good r a b res)∨∃fY iq ip ac bc,c=(none,fY,iq,ip,ac,bc)/\JW r a b fY iq ip/\iq+1<a.size/\ip<b.size/\ia+ib+1<=iq+ip)) ?_ ?_ ⟨rfl,_,_,_,_,_,rfl,J,i1,i2,Zal _⟩) ?_)
  ·rintro y c aF _ hy ⟨rfl,fY,iq,ip,ac,bc,rfl,J',j1,j2,j3⟩;dsimp only;obtain⟨yb,kE⟩:=Zt (xs:=b) (i:=ip) j2;obtain⟨xa,kG⟩:=Zt (xs:=a) (i:=iq) .l;refine ZaC (ZQ kE (ZaC (ZQ kG (ZaC (hc _ _ _ _ (mb _ (Yj kE)) (ma _ (Yj kG)) tZ ?_)))));refine Fq (fun hr=>ZaC (ZQ kE ?_)) (fun hr=>ZaC (ZQ kG ?_))
   ·have J2:=J'.oE C kE (fun x hx=>by rw[kG]at hx;cases hx;exact C.o.i8 _ _ hr);exact Z6 (fun hz=>ZaI ⟨rfl,.inl ⟨_,rfl,J2.done C (.inr .l)⟩⟩) (fun hz=>Z5 (fun _=>ZaI ⟨rfl,.inr ⟨_,_,_,_,_,rfl,J2,j1,.l,.l⟩⟩) (fun _=>ZaI ⟨rfl,_,_,_,_,_,rfl,J2,j1,.o,.l⟩))
   ·have J2:=J'.oF C kG (fun x hx=>by rw[kE]at hx;cases hx;exact hr);exact Z6 (fun hz=>ZaI ⟨rfl,.inl ⟨_,rfl,J2.last C hz hl⟩⟩) (fun hz=>Z5 (fun _=>ZaI ⟨rfl,.inr ⟨_,_,_,_,_,rfl,J2,.l,j2,.l⟩⟩) (fun _=>ZaI ⟨rfl,_,_,_,_,_,rfl,J2,.o,j2,.l⟩))
  ·rintro c aF ⟨rfl,fY,iq,ip,ac,bc,rfl,J',j1,j2,j3⟩;rw[Zbe (ZaJ _)]at j3;omega
  rintro c aF ⟨rfl,⟨res,ec,gd⟩|⟨fY,iq,ip,ac,bc,rfl,J',j1,j2,j3⟩⟩
  ·rw[ec];exact ZaI ⟨km,res,rfl,gd⟩
  clear J i1 i2 tZ;dsimp -zeta only;refine ZaC (ZjD (Zdc ⟨rfl,?_⟩));refine ZaC (Ze0 (ZbH (I:=fun y c aF=>SG st aF/\∃out ia ib g ac bc,c=(none,out,ia,ib,g,ac,bc)/\JW r a b out ia ib/\ia+1<a.size/\ib<b.size/\iq+ip+y<=ia+ib)
   (Q:=fun c aF=>SG st aF/\((∃res,c.fst=some res/\Good r a b res)∨∃out ia ib g ac bc,c=(none,out,ia,ib,g,ac,bc)/\JW r a b out ia ib/\ia+1<a.size/\ib<b.size/\iq+ip<=ia+ib)) ?_ ?_ ⟨km,_,_,_,_,_,_,rfl,J',j1,j2,Zal _⟩) ?_)
  ·rintro y c aF _ hy ⟨lG,out,ia,ib,g,ac,bc,rfl,J,i1,i2,i4⟩;obtain⟨y2,dH⟩:=Zt (xs:=b) (i:=ib) i2
   extract_lets -underBinder s1 o1 s2 x1 s3 z1 s4 g1 s5 xM xJ jp g2
   refine Na (j:=jp) fun g'=>?_;dsimp -zeta only[jp,xJ,xM,s5,s4,z1,s3,x1,s2,o1,s1];clear g2 jp xJ xM s5 g1 s4 z1 s3 x1 s2 o1 s1;refine ZaC (Wp ?_);generalize DT:SortSt.mk' _ _ _ _ _=bw;have fV:SG st bw:=by rw[<-DT];exact lG
   have wV:kindOf bw=κ:=by rw[fV.1];exact hk
   refine ZaC (ZQ dH ?_);refine ZaC (YX hc wV (fun i=>match a[ia+i]? with|some x=>!r y2 x|none=>false) (fun i hi=>?_) (mb y2 (Yj dH)) (fun i j iU hj hp=>?_) .l fun k kn jn jo=>?_)
   ·obtain⟨x,hx⟩:=Zt (xs:=a) (i:=ia+i) .l;refine⟨x,hx,ma x (Yj hx),?_⟩
    try dsimp only
    rw[hx];rfl
   ·obtain⟨xj,kF⟩:=Zt (xs:=a) (i:=ia+j) .o;obtain⟨xi,oU⟩:=Zt (xs:=a) (i:=ia+i) .o
    try dsimp only at hp |-
    rw[kF]at hp;rw[oU];rw[Zcg]at hp |-;exact C.o.fI _ _ _ (Ww C.o C.sa (Yc oU) (Yc kF) .l) hp
   have low:ia+k<a.size->∀x,a[ia+k]?=some x->r y2 x=true:=fun hk x hx=>by
    have:=jo k (Zal _) .l
    try dsimp only at this
    rw[hx,ZiG]at this;exact this
   dsimp -zeta only
   extract_lets -underBinder EX jp o3 x3
   refine Av (j:=jp) (fun o i=>JW r a b o i ib/\i+1<a.size/\ia<=i/\∀x,a[i]?=some x->r y2 x=true) ?_ (fun nH hj=>?_) (fun nH=>?_)
   ·rintro o i ⟨J1,q1,q2,q3⟩;clear low jn jo kn;dsimp -zeta only[jp];clear x3 o3 jp
    clear_value EX
    refine ZaC (ZQ dH ?_);have J2:=J1.oE C dH (fun x hx=>C.o.i8 _ _ (q3 x hx));obtain⟨x3,kH⟩:=Zt (xs:=a) (i:=i) .l;refine Z6 (fun hz=>ZaI ⟨fV,.inl ⟨_,rfl,J2.done C (.inr .l)⟩⟩) (fun hz=>ZaC (ZQ kH ?_));refine ZaC (YX hc wV (fun i=>match b[ib+1+i]? with|some y=>r y x3|none=>false) (fun i hi=>?_) (ma x3 (Yj kH)) (fun i j iU hj hp=>?_) .l fun k1 tP jn jo=>?_)
    ·obtain⟨y,hy⟩:=Zt (xs:=b) (i:=ib+1+i) .o;refine⟨y,hy,mb y (Yj hy),?_⟩
     try dsimp only
     rw[hy];rfl
    ·obtain⟨yj,lQ⟩:=Zt (xs:=b) (i:=ib+1+j) .o;obtain⟨yi,jQ⟩:=Zt (xs:=b) (i:=ib+1+i) .o
     try dsimp only at hp |-
     rw[lQ]at hp;rw[jQ];exact Fi C.o hp (Ww C.o C.sb (Yc jQ) (Yc lQ) .l)
    have low:ib+1+k1<b.size->∀y,b[ib+1+k1]?=some y->r y x3=false:=fun hk y hy=>by
     have:=jo k1 (Zal _) .o
     try dsimp only at this
     rw[hy]at this;exact this
    dsimp -zeta only
    extract_lets -underBinder ER jp o3 z3
    refine Av (j:=jp) (fun o z=>JW r a b o i z/\z<b.size/\ib+1<=z/\∀y,b[z]?=some y->r y x3=false) ?_ (fun nH hj=>?_) (fun nH=>?_)
    ·rintro o z ⟨J3,p1,p2,p3⟩;clear low jn jo tP;dsimp -zeta only[jp];clear z3 o3 jp
     clear_value ER
     refine ZaC (ZQ kH ?_);have J4:=J3.oF C kH p3;exact Z6 (fun hz=>ZaI ⟨fV,.inl ⟨_,rfl,J4.last C hz hl⟩⟩) (fun hz=>Z5 (fun _=>ZaI ⟨fV,.inr ⟨_,_,_,_,_,_,rfl,J4,.l,p1,.l⟩⟩) (fun _=>ZaI ⟨fV,_,_,_,_,_,_,rfl,J4,.o,p1,.l⟩))
    ·dsimp only[o3,z3]
     clear_value jp
     have J3:=J2.vC C k1 .o (fun i hi y x hy hx=>by
      rw[kH]at hx;cases hx;have:=jn i hi
      try dsimp only at this
      rw[hy]at this;exact C.o.i8 _ _ this)
     exact Z6 (fun hz=>ZaI ⟨fV,.inl ⟨_,rfl,J3.done C (.inr .l)⟩⟩) (fun hz=>hj _ _ ⟨J3,.o,.l,low .o⟩)
    ·obtain rfl:k1=0:=.l;exact⟨J2,.l,Zal _,low .l⟩
   ·dsimp only[o3,x3]
    clear_value jp
    have J1:=J.vD C k .l (fun i hi x y hx hy=>by
     rw[dH]at hy;cases hy;have:=jn i hi
     try dsimp only at this
     rw[hx,Zcg]at this;exact this)
    exact Z6 (fun hz=>ZaI ⟨fV,.inl ⟨_,rfl,J1.last C hz hl⟩⟩) (fun jP=>Z6 (fun hz=>ZaI ⟨fV,.inl ⟨_,rfl,J1.done C (.inl .l)⟩⟩) (fun hz=>hj _ _ ⟨J1,.l,.l,low .l⟩))
   ·obtain rfl:k=0:=.l;exact⟨J,i1,Zal _,low .l⟩
  ·rintro c aF ⟨_,out,Vc,Vb,g,ac,bc,rfl,_,k1,k2,k3⟩;rw[Zbe (ZaJ _)]at k3;omega
  rintro c aF ⟨lG,⟨res,ec,gd⟩|⟨out,Vc,Vb,g,ac,bc,rfl,J2,k1,k2,k3⟩⟩
  ·rw[ec];exact ZaI ⟨lG,res,rfl,gd⟩
  dsimp only;exact ZaC (Wp (ZaI ⟨lG,_,_,_,_,rfl,J2,k1,k2,.l⟩))
end
def Ts:Array Keyed->Array Keyed->StateT SortSt Sem (Array Keyed):=sortPriv%PySem.Builtin.mergeHi
structure JH (r:Keyed->Keyed->Bool)(a b out:Array Keyed)(na nb:Nat):Prop where
 la:na<=a.size
 lb:nb<=b.size
 perm:((a.toList.take na++b.toList.take nb)++out.toList.reverse).Perm (a.toList++b.toList)
 mT:Pw r out.toList.reverse
 jB:∀y∈a.toList.take na++b.toList.take nb,∀x∈out.toList,r x y=false
theorem FJ {l:List α}(h:l[i]?=some x):l.take (i+1)=l.take i++[x]:=by rw[ZaO,h];rfl
theorem Ue {l:List Keyed}(o:Ord r)(p:Pw r l)(h:l[i]?=some x):∀y∈l.take (i+1),r x y=false:=fun y hy=>by obtain⟨j,hj,e⟩:=Zek hy;rw[ZaB]at hj;rw[List.getElem_take]at e;exact Ww (i:=j) o p (by rw[Zaj .o,e]) h .l
theorem As (xs:Array Keyed)(j:Nat):(xs.extract 0 j).toList=xs.toList.take j:=by rw[W1,Zh3,Nat.sub_zero]
section
variable {r:Keyed->Keyed->Bool}{a b out:Array Keyed}{na nb:Nat}
theorem JH.oF (C:gz r a b)(J:JH r a b out na nb)(h1:1<=na)(hx:a[na-1]?=some x)(h:1<=nb->∀y,b[nb-1]?=some y->r x y=false):JH r a b (out.push x) (na-1) nb:=by
 have la:=J.la;have lb:=J.lb;have fK:=Yc hx;have ht:=FJ fK;rw[Zdp h1]at ht;have mx:x∈a.toList.take na:=by rw[ht];simp
 have low:∀y∈a.toList.take (na-1)++b.toList.take nb,r x y=false:=fun y hy=>by
  rcases Zay.mp hy with hy|hy
  ·exact Ue C.o C.sa fK y (by rw[Zdp h1,ht];exact ZaS _ hy)
  ·have n1:1<=nb:=by
    rcases Nat.eq_zero_or_pos nb with z|z
    ·rw[z]at hy;cases hy
    ·exact z
   obtain⟨z,e⟩:=Zt (xs:=b) (i:=nb-1) .o;have:=Ue C.o C.sb (Yc e) y (by rw[Zdp n1];exact hy);exact C.o.fI y z x this (h n1 z e)
 refine⟨.o,lb,?_,?_,fun y hy u hu=>?_⟩
 ·rw[Zbz,Zft];have P:=J.perm;rw[ht]at P;refine List.Perm.trans ?_ P;show((a.toList.take (na-1)++b.toList.take nb)++(x::out.toList.reverse)).Perm (((a.toList.take (na-1)++[x])++b.toList.take nb)++out.toList.reverse);rw[ZaP,ZaP,ZaP];refine Zc3 _ ?_;show(b.toList.take nb++x::out.toList.reverse).Perm (x::(b.toList.take nb++out.toList.reverse));exact List.perm_middle
 ·rw[Zbz,Zft];refine ZbD.mpr ⟨fun u hu=>?_,J.mT⟩;exact J.jB x (ZaS _ mx) u (Zif.mp hu)
 ·rw[Zbz]at hu;rcases Zay.mp hu with hu|hu
  ·refine J.jB y ?_ u hu;rcases Zay.mp hy with hy|hy
   ·exact ZaS _ (by rw[ht];exact ZaS _ hy)
   ·exact Zaw _ hy
  ·rw[ZaE.mp hu];exact low y hy
theorem JH.oE (C:gz r a b)(J:JH r a b out na nb)(h1:1<=nb)(hy:b[nb-1]?=some y)(h:1<=na->∀x,a[na-1]?=some x->r y x=false):JH r a b (out.push y) na (nb-1):=by
 have la:=J.la;have lb:=J.lb;have fv:=Yc hy;have ht:=FJ fv;rw[Zdp h1]at ht;have my:y∈b.toList.take nb:=by rw[ht];simp
 have low:∀z∈a.toList.take na++b.toList.take (nb-1),r y z=false:=fun z hz=>by
  rcases Zay.mp hz with hz|hz
  ·have n1:1<=na:=by
    rcases Nat.eq_zero_or_pos na with q|q
    ·rw[q]at hz;cases hz
    ·exact q
   obtain⟨x,e⟩:=Zt (xs:=a) (i:=na-1) .o;have:=Ue C.o C.sa (Yc e) z (by rw[Zdp n1];exact hz);exact C.o.fI z x y this (h n1 x e)
  ·exact Ue C.o C.sb fv z (by rw[Zdp h1,ht];exact ZaS _ hz)
 refine⟨la,.o,?_,?_,fun z hz u hu=>?_⟩
 ·rw[Zbz,Zft];have P:=J.perm;rw[ht]at P;refine List.Perm.trans ?_ P;show((a.toList.take na++b.toList.take (nb-1))++(y::out.toList.reverse)).Perm ((a.toList.take na++(b.toList.take (nb-1)++[y]))++out.toList.reverse);rw[ZaP,ZaP,ZaP];exact .refl _
 ·rw[Zbz,Zft];refine ZbD.mpr ⟨fun u hu=>?_,J.mT⟩;exact J.jB y (Zaw _ my) u (Zif.mp hu)
 ·rw[Zbz]at hu;rcases Zay.mp hu with hu|hu
  ·refine J.jB z ?_ u hu;rcases Zay.mp hz with hz|hz
   ·exact ZaS _ hz
   ·exact Zaw _ (by rw[ht];exact ZaS _ hz)
  ·rw[ZaE.mp hu];exact low z hz
theorem M4 {xs:Array Keyed}{i n:Nat}(hx:xs[i]?=some x)(h:i<n)(hn:n<=xs.size):(xs.extract i n).reverse=(xs.extract (i+1) n).reverse.push x:=by apply Array.toList_inj.mp;rw[Zff,Zbz,Zff,W1,W1,Wb (Yc hx),show n-i=(n-(i+1))+1 by lia,List.take_succ_cons,List.reverse_cons]
theorem JH.vD (C:gz r a b)(J:JH r a b out na nb):∀k,k<=na->(∀i,na-k<=i->i<na->∀x y,a[i]?=some x->b[nb-1]?=some y->r x y=false)->JH r a b (out++(a.extract (na-k) na).reverse) (na-k) nb
 |0,_,_=>by
  have e:a.extract (na-0) na= #[]:=by simp;lia
  rw[e];simpa using J
 |k+1,hk,h=>by have la:=J.la;obtain⟨x,hx⟩:=Zt (xs:=a) (i:=na-(k+1)) .o;have ih:=JH.vD C J k .l fun i h1 h2=>h i .o h2;have e1:na-k-1=na-(k+1):=.l;have:=ih.oF C (x:=x) .l (by rw[e1];exact hx) fun _ y hy=>h (na-(k+1)) (Zal _) .o x y hx hy;rw[e1]at this;rw[M4 hx .o la,show na-(k+1)+1=na-k by lia,ZhY];exact this
theorem JH.vC (C:gz r a b)(J:JH r a b out na nb):∀k,k<=nb->(∀i,nb-k<=i->i<nb->∀y x,b[i]?=some y->a[na-1]?=some x->r y x=false)->JH r a b (out++(b.extract (nb-k) nb).reverse) na (nb-k)
 |0,_,_=>by
  have e:b.extract (nb-0) nb= #[]:=by simp;omega
  rw[e];simpa using J
 |k+1,hk,h=>by have lb:=J.lb;obtain⟨y,hy⟩:=Zt (xs:=b) (i:=nb-(k+1)) .o;have ih:=JH.vC C J k .o fun i h1 h2=>h i .o h2;have e1:nb-k-1=nb-(k+1):=.o;have:=ih.oE C (y:=y) .o (by rw[e1];exact hy) fun _ x hx=>h (nb-(k+1)) (Zal _) .o y x hy hx;rw[e1]at this;rw[M4 hy .o lb,show nb-(k+1)+1=nb-k by omega,ZhY];exact this
theorem JH.Rj (C:gz r a b)(J:JH r a b out na nb){m:Nat}(hm:m<=na)(h:∀i,m<=i->i<na->∀x y,a[i]?=some x->b[nb-1]?=some y->r x y=false):JH r a b (out++(a.extract m na).reverse) m nb:=by have:=J.vD C (na-m) .o (fun i h1 h2=>h i .o h2);rw[show na-(na-m)=m by omega]at this;exact this
theorem JH.Ri (C:gz r a b)(J:JH r a b out na nb){m:Nat}(hm:m<=nb)(h:∀i,m<=i->i<nb->∀y x,b[i]?=some y->a[na-1]?=some x->r y x=false):JH r a b (out++(b.extract m nb).reverse) na m:=by have:=J.vC C (nb-m) .o (fun i h1 h2=>h i .o h2);rw[show nb-(nb-m)=m by omega]at this;exact this
theorem JH.done (C:gz r a b)(J:JH r a b out na nb)(h:na=0∨nb=0):Good r a b (a.extract 0 na++b.extract 0 nb++out.reverse):=by
 unfold Good;rw[ZbU,ZbU,As,As,Zff];refine⟨J.perm,?_⟩;have pa:Pw r (a.toList.take na):=Zbx (Zd8 _ _) C.sa;have pb:Pw r (b.toList.take nb):=Zbx (Zd8 _ _) C.sb;refine ZbB.mpr ⟨?_,J.mT,fun y hy x hx=>J.jB y hy x (Zif.mp hx)⟩;rcases h with h|h
 ·rw[h,List.take_zero,Zdh];exact pb
 ·rw[h,List.take_zero,Zbi];exact pa
theorem JH.first (C:gz r a b)(J:JH r a b out na nb)(h:nb=1)(h0:∀y,b[0]?=some y->∀x∈a.toList,r x y=false):Good r a b (b.extract 0 nb++a.extract 0 na++out.reverse):=by
 have lb:=J.lb;subst h;unfold Good;obtain⟨y,hy⟩:=Zt (xs:=b) (i:=0) .l;have et:b.toList.take 1=[y]:=by rw[show(1:Nat)=0+1 from rfl,FJ (Yc hy)];rfl
 rw[ZbU,ZbU,As,As,Zff,et];have P:=J.perm;have B:=J.jB;rw[et]at P B;have pa:Pw r (a.toList.take na):=Zbx (Zd8 _ _) C.sa;refine⟨List.Perm.trans (ZhR _ List.perm_append_comm) P,?_⟩;refine ZbB.mpr ⟨?_,J.mT,fun z hz x hx=>B z ?_ x (Zif.mp hx)⟩
 ·refine ZbD.mpr ⟨fun z hz=>h0 y hy z (Zco hz),pa⟩
 ·rcases Zay.mp hz with hz|hz
  ·exact Zaw _ hz
  ·exact ZaS _ hz
end
section
variable {κ:SortKind}{a₀:Array Keyed}{r:Keyed->Keyed->Bool}
theorem Zbr {a b:Array Keyed}{Q:Array Keyed->SortSt->Prop}{st:SortSt}(hc:lE prog w A E s κ a₀ r)(hk:kindOf st=κ)(C:gz r a b)(ma:∀x∈a.toList,x∈a₀.toList)(mb:∀x∈b.toList,x∈a₀.toList)(S6:1<=a.size)(nb0:1<=b.size)
  (h0:∀y,b[0]?=some y->∀x∈a.toList,r x y=false) (hl:∀x,a[a.size-1]?=some x->∀y∈b.toList,r x y=false)
  (h:∀res ai,SG st ai->Good r a b res->Q res ai):wpS (model prog w) A E s (Ts a b) Q st:=by
 show wpS (model prog w) A E s (_ >>=_) _ _
 try dsimp -zeta only
 refine ZaC (ZjD (Zdc ⟨rfl,?_⟩));obtain⟨x0,nB⟩:=Zt (xs:=a) (i:=a.size-1) .o;refine ZaC (ZQ nB ?_);have J0:JH r a b #[x0] (a.size-1) b.size:=by have e:JH r a b #[] a.size b.size:=⟨Zal _,Zal _,by simp[<-Array.length_toList],.nil,fun y hy x hx=>by cases hx⟩;exact e.oF C S6 nB fun _ y hy=>hl x0 nB y (Yj hy)
 refine Z6 (fun jP=>ZaI (h _ _ (SG.refl _) (J0.done C (.inl jP)))) (fun jP=>Z6 (fun gh=>ZaI (h _ _ (SG.refl _) (J0.first C gh h0))) (fun gh=>ZaC (Zie ?_)));refine ZaC (Ze0 (ZbH (I:=fun x c az=>SG st az/\∃na nb out g,c=(none,na,nb,out,g)/\JH r a b out na nb/\1<=na/\2<=nb/\na+nb+x+1<=a.size+b.size) (Q:=fun c az=>SG st az/\∃res,c.fst=some res/\Good r a b res) ?step ?fin ⟨SG.refl _,_,_,_,_,rfl,J0,.l,.l,.o⟩) ?post)
 case post=>rintro c az ⟨km,res,ec,gd⟩;rw[ec];exact ZaI (h res az km gd)
 case fin=>
  rintro c az ⟨_,na,nb,out,g,_,_,i1,i2,i3⟩;rw[Zbe (ZaJ _)]at i3
  lia
 case step=>
  rintro x c az _ hx ⟨km,na,nb,out,g,rfl,J,i1,i2,i3⟩;have tZ:kindOf az=κ:=by rw[km.1];exact hk
  refine ZaC (Ze0 (ZbH (I:=fun y c aF=>aF=az/\∃ij ig fY ac bc,c=(none,ij,ig,fY,ac,bc)/\JH r a b fY ij ig/\1<=ij/\2<=ig/\ij+ig+y<=na+nb)
   (Q:=fun c aF=>aF=az/\((∃res,c.fst=some res/\Good r a b res)∨∃ij ig fY ac bc,c=(none,ij,ig,fY,ac,bc)/\JH r a b fY ij ig/\1<=ij/\2<=ig/\ij+ig+1<=na+nb)) ?_ ?_ ⟨rfl,_,_,_,_,_,rfl,J,i1,i2,Zal _⟩) ?_)
  ·rintro y c aF _ hy ⟨rfl,ij,ig,fY,ac,bc,rfl,J',j1,j2,j3⟩;dsimp only;have la:=J'.la;have lb:=J'.lb;obtain⟨yb,kE⟩:=Zt (xs:=b) (i:=ig-1) .o;obtain⟨xa,kG⟩:=Zt (xs:=a) (i:=ij-1) .o;refine ZaC (ZQ kE (ZaC (ZQ kG (ZaC (hc _ _ _ _ (mb _ (Yj kE)) (ma _ (Yj kG)) tZ ?_)))));refine Fq (fun hr=>ZaC (ZQ kG ?_)) (fun hr=>ZaC (ZQ kE ?_))
   ·have J2:=J'.oF C j1 kG (fun _ y hy=>by rw[kE]at hy;cases hy;exact C.o.i8 _ _ hr);exact Z6 (fun hz=>ZaI ⟨rfl,.inl ⟨_,rfl,J2.done C (.inl hz)⟩⟩) (fun hz=>Z5 (fun _=>ZaI ⟨rfl,.inr ⟨_,_,_,_,_,rfl,J2,.l,j2,.l⟩⟩) (fun _=>ZaI ⟨rfl,_,_,_,_,_,rfl,J2,.o,j2,.l⟩))
   ·have J2:=J'.oE C .l kE (fun _ x hx=>by rw[kG]at hx;cases hx;exact hr);exact Z6 (fun hz=>ZaI ⟨rfl,.inl ⟨_,rfl,J2.first C hz h0⟩⟩) (fun hz=>Z5 (fun _=>ZaI ⟨rfl,.inr ⟨_,_,_,_,_,rfl,J2,j1,.l,.l⟩⟩) (fun _=>ZaI ⟨rfl,_,_,_,_,_,rfl,J2,j1,.o,.l⟩))
  ·rintro c aF ⟨rfl,ij,ig,fY,ac,bc,rfl,J',j1,j2,j3⟩;rw[Zbe (ZaJ _)]at j3;have la:=J.la;have lb:=J.lb;omega
  rintro c aF ⟨rfl,⟨res,ec,gd⟩|⟨ij,ig,fY,ac,bc,rfl,J',j1,j2,j3⟩⟩
  ·rw[ec];exact ZaI ⟨km,res,rfl,gd⟩
  clear J i1 i2 tZ;dsimp -zeta only;refine ZaC (ZjD (Zdc ⟨rfl,?_⟩));refine ZaC (Ze0 (ZbH (I:=fun y c aF=>SG st aF/\∃na nb out g ac bc,c=(none,na,nb,out,g,ac,bc)/\JH r a b out na nb/\1<=na/\2<=nb/\na+nb+y<=ij+ig)
   (Q:=fun c aF=>SG st aF/\((∃res,c.fst=some res/\Good r a b res)∨∃na nb out g ac bc,c=(none,na,nb,out,g,ac,bc)/\JH r a b out na nb/\1<=na/\2<=nb/\na+nb<=ij+ig)) ?_ ?_ ⟨km,_,_,_,_,_,_,rfl,J',j1,j2,Zal _⟩) ?_)
  ·rintro y c aF _ hy ⟨lG,na,nb,out,g,ac,bc,rfl,J,i1,i2,i4⟩;have la:=J.la;have lb:=J.lb;obtain⟨y2,dH⟩:=Zt (xs:=b) (i:=nb-1) .o
   extract_lets -underBinder s1 x1 s2 z1 s3 o1 s4 g1 s5 xM xJ jp g2
   refine Na (j:=jp) fun g'=>?_;dsimp -zeta only[jp,xJ,xM,s5,s4,z1,s3,x1,s2,o1,s1];clear g2 jp xJ xM s5 g1 s4 o1 s3 z1 s2 x1 s1;refine ZaC (Wp ?_);generalize DT:SortSt.mk' _ _ _ _ _=bw;have fV:SG st bw:=by rw[<-DT];exact lG
   have wV:kindOf bw=κ:=by rw[fV.1];exact hk
   refine ZaC (ZQ dH ?_);refine ZaC (YX hc wV (fun i=>match a[0+i]? with|some x=>!r y2 x|none=>false) (fun i hi=>?_) (mb y2 (Yj dH)) (fun i j iU hj hp=>?_) .o fun at_ kn jn jo=>?_)
   ·obtain⟨x,hx⟩:=Zt (xs:=a) (i:=0+i) .l;refine⟨x,hx,ma x (Yj hx),?_⟩
    try dsimp only
    rw[hx];rfl
   ·obtain⟨xj,kF⟩:=Zt (xs:=a) (i:=0+j) .l;obtain⟨xi,oU⟩:=Zt (xs:=a) (i:=0+i) .l
    try dsimp only at hp |-
    rw[kF]at hp;rw[oU];rw[Zcg]at hp |-;exact C.o.fI _ _ _ (Ww C.o C.sa (Yc oU) (Yc kF) .l) hp
   have low:1<=at_->∀x,a[at_-1]?=some x->r y2 x=false:=fun hk x hx=>by
    have:=jn (at_-1) .o
    try dsimp only at this
    rw[Zjv,hx,Zcg]at this;exact this
   dsimp -zeta only
   extract_lets -underBinder k2 EX jp o3 x3
   refine Av (j:=jp) (fun n o=>JH r a b o n nb/\1<=n/\n<=na/\∀x,a[n-1]?=some x->r y2 x=false) ?_ (fun nH hj=>?_) (fun nH=>?_)
   ·rintro n o ⟨J1,q1,q2,q3⟩;clear low jn jo kn;dsimp -zeta only[jp];clear x3 o3 jp
    clear_value EX k2
    refine ZaC (ZQ dH ?_);have J2:=J1.oE C .l dH (fun _=>q3);obtain⟨x3,kH⟩:=Zt (xs:=a) (i:=n-1) .o;refine Z6 (fun hz=>ZaI ⟨fV,.inl ⟨_,rfl,J2.first C hz h0⟩⟩) (fun hz=>ZaC (ZQ kH ?_));refine ZaC (YX hc wV (fun i=>match b[0+i]? with|some y=>r y x3|none=>false) (fun i hi=>?_) (ma x3 (Yj kH)) (fun i j iU hj hp=>?_) .o fun k1 tP jn jo=>?_)
    ·obtain⟨y,hy⟩:=Zt (xs:=b) (i:=0+i) .o;refine⟨y,hy,mb y (Yj hy),?_⟩
     try dsimp only
     rw[hy];rfl
    ·obtain⟨yj,lQ⟩:=Zt (xs:=b) (i:=0+j) .o;obtain⟨yi,jQ⟩:=Zt (xs:=b) (i:=0+i) .o
     try dsimp only at hp |-
     rw[lQ]at hp;rw[jQ];exact Fi C.o hp (Ww C.o C.sb (Yc jQ) (Yc lQ) .l)
    have low:1<=k1->∀y,b[k1-1]?=some y->r x3 y=false:=fun hk y hy=>by
     have:=jn (k1-1) .o
     try dsimp only at this
     rw[Zjv,hy]at this;exact C.o.i8 _ _ this
    dsimp -zeta only
    extract_lets -underBinder k3 ER jp o3 z3
    refine Av (j:=jp) (fun m o=>JH r a b o n m/\2<=m/\m<=nb-1/\∀y,b[m-1]?=some y->r x3 y=false) ?_ (fun nH hj=>?_) (fun nH=>?_)
    ·rintro m o ⟨J3,p1,p2,p3⟩;clear low jn jo tP;dsimp -zeta only[jp];clear z3 o3 jp
     clear_value ER k3
     refine ZaC (ZQ kH ?_);have J4:=J3.oF C q1 kH (fun _=>p3);exact Z6 (fun hz=>ZaI ⟨fV,.inl ⟨_,rfl,J4.done C (.inl hz)⟩⟩) (fun hz=>Z5 (fun _=>ZaI ⟨fV,.inr ⟨_,_,_,_,_,_,rfl,J4,.l,p1,.l⟩⟩) (fun _=>ZaI ⟨fV,_,_,_,_,_,_,rfl,J4,.o,p1,.l⟩))
    ·dsimp only[o3,z3]
     clear_value jp
     have J3:=J2.Ri C (m:=k1) tP (fun i DS oZ y x hy hx=>by
      rw[kH]at hx;cases hx;have:=jo i DS oZ
      try dsimp only at this
      rw[Zjv,hy]at this;exact this)
     exact Z6 (fun hz=>ZaI ⟨fV,.inl ⟨_,rfl,J3.first C hz h0⟩⟩) (fun jP=>Z6 (fun hz=>ZaI ⟨fV,.inl ⟨_,rfl,J3.done C (.inr hz)⟩⟩) (fun hz=>hj _ _ ⟨J3,.l,tP,low .l⟩))
    ·obtain rfl:k1=nb-1:=Ze6 tP (Nat.sub_eq_zero_iff_le.mp (Nat.eq_zero_of_not_pos nH));exact⟨J2,.l,Zal _,low .l⟩
   ·dsimp only[o3,x3]
    clear_value jp
    have J1:=J.Rj C (m:=at_) kn (fun i DS oZ x y hx hy=>by
     rw[dH]at hy;cases hy;have:=jo i DS oZ
     try dsimp only at this
     rw[Zjv,hx,ZiG]at this;exact C.o.i8 _ _ this)
    exact Z6 (fun hz=>ZaI ⟨fV,.inl ⟨_,rfl,J1.done C (.inl hz)⟩⟩) (fun hz=>hj _ _ ⟨J1,Nat.pos_of_ne_zero hz,kn,low (Nat.pos_of_ne_zero hz)⟩)
   ·obtain rfl:at_=na:=Ze6 kn (Nat.sub_eq_zero_iff_le.mp (Nat.eq_zero_of_not_pos nH));exact⟨J,i1,Zal _,low i1⟩
  ·rintro c aF ⟨lG,na,nb,out,g,ac,bc,rfl,J,i1,i2,i4⟩;rw[Zbe (ZaJ _)]at i4;have la:=J'.la;have lb:=J'.lb;omega
  rintro c aF ⟨lG,⟨res,ec,gd⟩|⟨na2,nb2,out,g,ac,bc,rfl,J2,k1,k2,k3⟩⟩
  ·rw[ec];exact ZaI ⟨lG,res,rfl,gd⟩
  dsimp only;exact ZaC (Wp (ZaI ⟨lG,_,_,_,_,rfl,J2,k1,k2,.l⟩))
end
def SI (r:Keyed->Keyed->Bool)(xs:Array Keyed)(lo hi:Nat):Prop:=∀i j x y,lo<=i->i<=j->j<hi->xs[i]?=some x->xs[j]?=some y->r y x=false
def NI (r:Keyed->Keyed->Bool)(xs:Array Keyed)(lo hi:Nat):Prop:=∀i j x y,lo<=i->i<=j->j<hi->xs[i]?=some x->xs[j]?=some y->r x y=false
def EQ (r:Keyed->Keyed->Bool)(xs:Array Keyed)(lo hi:Nat):Prop:=∀i j x y,lo<=i->i<hi->lo<=j->j<hi->xs[i]?=some x->xs[j]?=some y->r x y=false
section
variable {r:Keyed->Keyed->Bool}{xs:Array Keyed}{lo hi:Nat}
theorem SI.one (o:Ord r):SI r xs lo (lo+1):=fun i j x y h1 h2 h3 hx hy=>by obtain rfl:i=j:=.l;rw[hx]at hy;cases hy;exact o.oR _
theorem NI.one (o:Ord r):NI r xs lo (lo+1):=fun i j x y h1 h2 h3 hx hy=>by obtain rfl:i=j:=.o;rw[hx]at hy;cases hy;exact o.oR _
theorem EQ.one (o:Ord r):EQ r xs lo (lo+1):=fun i j x y h1 h2 h3 h4 hx hy=>by obtain rfl:i=j:=.l;rw[hx]at hy;cases hy;exact o.oR _
theorem SI.snoc (o:Ord r)(h:SI r xs lo hi)(hl:lo<hi)(hp:xs[hi-1]?=some p)(hq:xs[hi]?=some q)(hr:r q p=false):SI r xs lo (hi+1):=fun i j x y h1 h2 h3 hx hy=>by
 by_cases hj:j<hi
 ·exact h i j x y h1 h2 hj hx hy
 ·obtain rfl:j=hi:=.l;rw[hq]at hy;cases hy;by_cases bZ:i=j
  ·subst bZ;rw[hq]at hx;cases hx;exact o.oR _
  ·exact o.fI x p q (h i (j-1) x p h1 .l .o hx hp) hr
theorem NI.snoc (o:Ord r)(h:NI r xs lo hi)(hl:lo<hi)(hp:xs[hi-1]?=some p)(hq:xs[hi]?=some q)(hr:r p q=false):NI r xs lo (hi+1):=fun i j x y h1 h2 h3 hx hy=>by
 by_cases hj:j<hi
 ·exact h i j x y h1 h2 hj hx hy
 ·obtain rfl:j=hi:=.o;rw[hq]at hy;cases hy;by_cases bZ:i=j
  ·subst bZ;rw[hq]at hx;cases hx;exact o.oR _
  ·exact o.fI q p x hr (h i (j-1) x p h1 .o .o hx hp)
theorem EQ.snoc (o:Ord r)(h:EQ r xs lo hi)(hl:lo<hi)(hp:xs[hi-1]?=some p)(hq:xs[hi]?=some q)(hr:r p q=false)(iS:r q p=false):EQ r xs lo (hi+1):=fun i j x y h1 h2 h3 h4 hx hy=>by
 have one:∀i x,lo<=i->i<hi->xs[i]?=some x->r x q=false/\r q x=false:=fun i x h1 h2 hx=>
  ⟨o.fI q p x hr (h i (hi-1) x p h1 h2 .o .o hx hp),o.fI x p q (h (hi-1) i p x .o .o h1 h2 hp hx) iS⟩
 by_cases hj:j<hi
 ·by_cases bZ:i<hi
  ·exact h i j x y h1 bZ h3 hj hx hy
  ·obtain rfl:i=hi:=.l;rw[hq]at hx;cases hx;exact(one j y h3 hj hy).2
 ·obtain rfl:j=hi:=.o;rw[hq]at hy;cases hy;by_cases bZ:i<j
  ·exact(one i x h1 bZ hx).1
  ·obtain rfl:i=j:=.l;rw[hq]at hx;cases hx;exact o.oR _
abbrev eK (xs:Array Keyed)(i j:Nat):Array Keyed:=mirror xs i j ((j-i)/2)
theorem UH (hh:hi<=xs.size)(k:Nat):(eK xs lo hi)[k]?=if lo<=k/\k<hi then xs[lo+hi-1-k]? else xs[k]? :=getElem?_mirror_all hh k
theorem SI.eK (h:SI r xs lo hi)(hh:hi<=xs.size):NI r (eK xs lo hi) lo hi:=fun i j x y h1 h2 h3 hx hy=>by rw[UH hh,ZaQ ⟨.o,.o⟩]at hx hy;exact h _ _ y x .o .o .o hy hx
theorem NI.eK (h:NI r xs lo hi)(hh:hi<=xs.size):SI r (eK xs lo hi) lo hi:=fun i j x y h1 h2 h3 hx hy=>by rw[UH hh,ZaQ ⟨.o,.o⟩]at hx hy;exact h _ _ y x .o .o .o hy hx
theorem NI.Io (h:NI r xs lo hi)(e:EQ r xs m hi)(hm:lo<=m)(hh:hi<=xs.size):NI r (PyProof.Rows.fS.eK xs m hi) lo hi:=fun i j x y h1 h2 h3 hx hy=>by
 rw[UH hh]at hx hy;by_cases hj:m<=j
 ·rw[ZaQ ⟨hj,h3⟩]at hy;by_cases bZ:m<=i
  ·rw[ZaQ ⟨bZ,.l⟩]at hx;exact e _ _ x y .o .o .o .o hx hy
  ·rw[ZaN .l]at hx;exact h i _ x y h1 .o .o hx hy
 ·rw[ZaN .l]at hx hy;exact h i j x y h1 h2 h3 hx hy
theorem NZ {m:Nat}(hh:hi<=xs.size)(hm:m<hi)(hp:(eK xs m hi)[hi-1]?=some p):xs[m]?=some p:=by rw[UH hh,ZaQ ⟨.o,.o⟩,show m+hi-1-(hi-1)=m by omega]at hp;exact hp
theorem FC (hh:hi<=xs.size){k:Nat}(h:k<lo∨hi<=k):(eK xs lo hi)[k]?=xs[k]? :=by rw[UH hh,ZaN .l]
end
structure CB (a₀:Array Keyed)(κ:SortKind)(lo:Nat)(st ai:SortSt):Prop where
 kind:kindOf ai=κ
 pend:pendingOf ai=pendingOf st
 fail:failedOf ai=failedOf st
 perm:(arrOf ai).Perm a₀
 pre:∀k,k<lo->(arrOf ai)[k]?=(arrOf st)[k]?
theorem CB.size {a₀:Array Keyed}{κ:SortKind}{lo:Nat}{st ai:SortSt}(h:CB a₀ κ lo st ai):(arrOf ai).size=a₀.size:=h.perm.size_eq
theorem CB.mem {a₀:Array Keyed}{κ:SortKind}{lo:Nat}{st ai:SortSt}(h:CB a₀ κ lo st ai){i:Nat}{x:Keyed}(hx:(arrOf ai)[i]?=some x):x∈a₀.toList:=(Zcj.mp h.perm).mem_iff.mp (Yj hx)
theorem CB.rev {a₀:Array Keyed}{κ:SortKind}{lo m hi:Nat}{st ai:SortSt}(h:CB a₀ κ lo st ai)(hm:lo<=m)(hh:hi<=a₀.size):CB a₀ κ lo st (setArr ai (eK (arrOf ai) m hi)):=
 ⟨h.kind,h.pend,h.fail,(mirror_perm _ _ _ _).trans h.perm,fun k hk=>by show(eK (arrOf ai) m hi)[k]?=_;rw[FC (by rw[h.size];exact hh) (.inl .l)];exact h.pre k hk⟩
section
variable {κ:SortKind}{a₀:Array Keyed}{r:Keyed->Keyed->Bool}
theorem JS {st ai:SortSt}{lo i j:Nat}{x y:Keyed}{Q:Option Bool->SortSt->Prop}(hc:lE prog w A E s κ a₀ r)(B:CB a₀ κ lo st ai)(hx:(arrOf ai)[i]?=some x)(hy:(arrOf ai)[j]?=some y)(h:Q (some (r x y)) ai):wpS (model prog w) A E s (ltAt' i j) Q ai:=by rw[ltAt'_eq];exact ZaC (Zie (ZaC (ZQ hx (ZaC (ZQ hy (hc _ _ _ _ (B.mem hx) (B.mem hy) B.kind h))))))
theorem Wq {st:SortSt}{i j:Nat}{Q:Unit->SortSt->Prop}(h:Q () (setArr st (eK (arrOf st) i j))):wpS (model prog w) A E s (reverseSlice' i j) Q st:=by rw[reverseSlice'_eq];exact Zez h
theorem EQ.CK {xs:Array Keyed}{lo hi:Nat}(o:Ord r)(h:hi=lo+1):EQ r xs lo hi:=by subst h;exact EQ.one o
theorem UZ {st:SortSt}{lo fZ:Nat}{Q:Option Nat->SortSt->Prop}(o:Ord r)(hc:lE prog w A E s κ a₀ r)(B0:CB a₀ κ lo st st)(h1:1<=fZ)(hz:lo+fZ<=a₀.size)
  (h:∀n ai,CB a₀ κ lo st ai->1<=n->n<=fZ->SI r (arrOf ai) lo (lo+n)->Q (some n) ai):wpS (model prog w) A E s (countRun' lo fZ) Q st:=by
 rw[countRun'_eq]
 try dsimp -zeta only
 have z0:=B0.size;refine ZaC (Ze0 (ZbH (I:=fun y c ai=>ai=st/\c=(none,y)/\SI r (arrOf st) lo (lo+y))
  (Q:=fun c ai=>ai=st/\∃n,c=(none,n)/\1<=n/\n<=fZ/\SI r (arrOf st) lo (lo+n)/\(n=fZ∨∃p q,(arrOf st)[lo+n-1]?=some p/\(arrOf st)[lo+n]?=some q/\r q p=true)) ?_ ?_ ⟨rfl,rfl,SI.one o⟩) ?_)
 ·rintro y c ai nz dH ⟨rfl,rfl,S⟩;dsimp only;obtain⟨p,hp⟩:=Zt (xs:=arrOf ai) (i:=lo+y-1) .o;obtain⟨q,hq⟩:=Zt (xs:=arrOf ai) (i:=lo+y) .l;refine ZaC (JS hc B0 hq hp ?_);cases hr:r q p with
  |true=>exact ZaI ⟨rfl,y,rfl,nz,.l,S,.inr ⟨p,q,hp,hq,hr⟩⟩
  |false=>exact ZaI ⟨rfl,rfl,S.snoc (hi:=lo+y) o .l hp hq hr⟩
 ·rintro c ai ⟨rfl,rfl,S⟩;have e9:max 1 fZ=fZ:=Zbe h1;rw[e9]at S;exact⟨rfl,fZ,by rw[e9],h1,Zal _,S,.inl rfl⟩
 rintro c ai ⟨rfl,n,rfl,n1,n2,S,hn⟩;refine Z6 (fun qX=>ZaI (h n ai B0 n1 n2 S)) (fun qX=>?_);rcases hn with hn|⟨p,q,hp,hq,hr⟩
 ·exact absurd hn qX
 replace n2:n<fZ:=Nat.lt_of_le_of_ne n2 qX;dsimp -zeta only
 extract_lets -underBinder jp
 refine Nb (j:=jp) (fun stx=>CB a₀ κ lo ai stx/\NI r (arrOf stx) lo (lo+(n+1))) ?_ (fun wK hj=>?_) (fun wK=>?_)
 ·rintro az ⟨B1,N1⟩;dsimp -zeta only[jp];clear jp S hp hq hr;refine ZaC (ZjD (Zdc ⟨rfl,?_⟩));refine ZaC (Ze0 (ZbH (I:=fun y c stx=>CB a₀ κ lo ai stx/\∃eJ,c=(none,y,eJ)/\NI r (arrOf stx) lo (lo+y)/\eJ+1<=y/\EQ r (arrOf stx) (lo+y-(eJ+1)) (lo+y))
   (Q:=fun c stx=>CB a₀ κ lo ai stx/\∃m eJ,c=(none,m,eJ)/\n+1<=m/\m<=fZ/\NI r (arrOf stx) lo (lo+m)/\eJ+1<=m/\EQ r (arrOf stx) (lo+m-(eJ+1)) (lo+m)) ?_ ?_ ⟨B1,0,rfl,N1,.l,EQ.CK o .l⟩) ?_)
  ·rintro y c aF nz dH ⟨B2,eJ,rfl,N2,g1,e2⟩;dsimp only;have z2:=B2.size;obtain⟨p2,dQ⟩:=Zt (xs:=arrOf aF) (i:=lo+y-1) .o;obtain⟨q2,cM⟩:=Zt (xs:=arrOf aF) (i:=lo+y) .l;refine ZaC (JS hc B2 cM dQ ?_);cases iS:r q2 p2 with
   |true=>
    dsimp only;rw[ZaQ rfl];by_cases zE:eJ>0
    ·rw[ZaQ zE];refine ZaC (Wq ?_);have B3:=B2.rev (m:=lo+y-(eJ+1)) (hi:=lo+y) .o .l;have N3:NI r (eK (arrOf aF) (lo+y-(eJ+1)) (lo+y)) lo (lo+y):=N2.Io e2 .o .l;obtain⟨p3,kK⟩:=Zt (xs:=eK (arrOf aF) (lo+y-(eJ+1)) (lo+y)) (i:=lo+y-1) (by rw[mirror_size];omega);have V0:=NZ .o .o kK;have jS:(eK (arrOf aF) (lo+y-(eJ+1)) (lo+y))[lo+y]?=some q2:=by rw[FC .o (.inr (Zal _))];exact cM
     have h3:r p3 q2=false:=o.fI q2 p2 p3 (o.i8 _ _ iS) (e2 _ _ p3 p2 (Zal _) .o .o .o V0 dQ);exact ZaI ⟨B3,0,rfl,N3.snoc (hi:=lo+y) o .l kK jS h3,.l,EQ.CK o .l⟩
    ·rw[ZaN zE];exact ZaI ⟨B2,0,rfl,N2.snoc (hi:=lo+y) o .l dQ cM (o.i8 _ _ iS),.o,EQ.CK o .o⟩
   |false=>
    dsimp only;rw[ZaN Zam];refine ZaC (JS hc B2 dQ cM ?_);cases IM:r p2 q2 with
    |true=>exact ZaI ⟨B2,y,eJ,rfl,.o,.l,N2,g1,e2⟩
    |false=>refine ZaI ⟨B2,eJ+1,rfl,N2.snoc (hi:=lo+y) o .l dQ cM IM,.l,?_⟩;have:=e2.snoc (hi:=lo+y) o .o dQ cM IM iS;rw[show lo+(y+1)-(eJ+1+1)=lo+y-(eJ+1) by lia];exact this
  ·rintro c aF ⟨B2,eJ,rfl,N2,g1,e2⟩;have e9:max (n+1) fZ=fZ:=Zbe .l;rw[e9]at N2 g1 e2;exact⟨B2,fZ,eJ,by rw[e9],.l,.l,N2,g1,e2⟩
  rintro c bw ⟨B3,m,eJ,rfl,m1,m2,N3,g3,e3⟩;have z3:=B3.size
  extract_lets -underBinder r1 s1 t1 u1
  dsimp -zeta only[r1,s1,t1,u1]
  extract_lets -underBinder jp
  refine Nb (j:=jp) (fun stx=>CB a₀ κ lo ai stx/\NI r (arrOf stx) lo (lo+m)) ?_ (fun zE hj=>?_) (fun zE=>⟨B3,N3⟩)
  ·rintro cT ⟨B4,N4⟩;clear B3 N3 e3 z3;dsimp -zeta only[jp];clear jp;refine ZaC (Wq ?_);have B9:=B4.rev (m:=lo) (hi:=lo+m) (Zal _) .l;have S9:SI r (arrOf (setArr cT (eK (arrOf cT) lo (lo+m)))) lo (lo+m):=NI.eK N4 (by rw[B4.size];omega);generalize setArr cT (eK (arrOf cT) lo (lo+m))=sJ at B9 S9;have z9:=B9.size;refine ZaC (ZbH (I:=fun y c stx=>stx=sJ/\c=(none,y)/\SI r (arrOf sJ) lo (lo+y)) ?_ ?_ ⟨rfl,rfl,S9⟩)
   ·rintro y c stx nz dH ⟨rfl,rfl,S⟩;dsimp only;obtain⟨p9,IV⟩:=Zt (xs:=arrOf stx) (i:=lo+y-1) .o;obtain⟨q9,IP⟩:=Zt (xs:=arrOf stx) (i:=lo+y) .l;refine ZaC (JS hc B9 IP IV ?_);cases VS:r q9 p9 with
    |true=>exact ZaI (ZaI (h y stx B9 .l .l S))
    |false=>exact ZaI ⟨rfl,rfl,S.snoc (hi:=lo+y) o .l IV IP VS⟩
   ·rintro c stx ⟨rfl,rfl,S⟩;rw[Zbe .o]at S;have e9:max m fZ=fZ:=Zbe .o;dsimp only;rw[e9];exact ZaI (h fZ stx B9 .o .l S)
  ·clear_value jp
   exact ZaC (Wq (hj _ ⟨B3.rev (m:=lo+m-(eJ+1)) (hi:=lo+m) .o .l,N3.Io e3 .o .l⟩))
 ·clear_value jp
  obtain⟨f,hf⟩:=Zt (xs:=arrOf ai) (i:=lo) .l;refine ZaC (JS hc B0 hf hp ?_);refine Fq (fun IL=>ZaI (h n ai B0 n1 (Zbl n2) S)) (fun IL=>ZaC (Wq (hj _ ⟨B0.rev (m:=lo) (hi:=lo+n) (Zal _) .l,?_⟩)));have N1:NI r (eK (arrOf ai) lo (lo+n)) lo (lo+n):=S.eK .l;obtain⟨p1,gM⟩:=Zt (xs:=eK (arrOf ai) lo (lo+n)) (i:=lo+n-1) (by rw[mirror_size];omega);have IW:=NZ .o .l gM;rw[hf]at IW;cases IW;have eZ:(eK (arrOf ai) lo (lo+n))[lo+n]?=some q:=by rw[FC .o (.inr (Zal _))];exact hq
  exact N1.snoc (hi:=lo+n) o .o gM eZ (o.fI q p f (o.i8 _ _ hr) IL)
 ·obtain rfl:n=1:=.l;exact⟨B0,(NI.one o).snoc (hi:=lo+1) o .l hp hq (o.i8 _ _ hr)⟩
theorem Zg4 (o:Ord r)(h:r z x=true)(h2:r y x=false):r z y=true:=by
 cases e:r z y with
 |true=>rfl
 |false=>have:=o.fI x y z h2 e;rw[h]at this;cases this
theorem Zdr {st:SortSt}{i j:Nat}{Q:Unit->SortSt->Prop}(h:Q () (setArr st (bubble (arrOf st) i (i-j)))):wpS (model prog w) A E s (moveDown' i j) Q st:=by rw[moveDown'_eq];exact Zez h
theorem SI.put {xs:Array Keyed}{lo k l:Nat}(o:Ord r)(S:SI r xs lo (lo+k))(hq:xs[lo+k]?=some q)(hl:l<=k)(h1:∀i x,i<l->xs[lo+i]?=some x->r q x=false)(h2:∀i x,l<=i->i<k->xs[lo+i]?=some x->r q x=true):SI r (bubble xs (lo+k) (lo+k-(lo+l))) lo (lo+(k+1)):=by
 have hs:lo+k<xs.size:=(ZiB.mp hq).1;intro i j x y g1 g2 g3 hx hy;rw[getElem?_bubble hs _ .o]at hx hy;rw[show lo+k-(lo+k-(lo+l))=lo+l by omega]at hx hy;by_cases ei:i=lo+l
 ·rw[ZaQ ei,hq]at hx;cases hx;by_cases ej:j=lo+l
  ·rw[ZaQ ej,hq]at hy;cases hy;exact o.oR _
  ·rw[ZaN ej,ZaQ .l]at hy;exact o.i8 _ _ (h2 (j-1-lo) y .l .o (by rw[show lo+(j-1-lo)=j-1 by lia];exact hy))
 ·rw[ZaN ei]at hx;by_cases ej:j=lo+l
  ·rw[ZaQ ej,hq]at hy;cases hy;rw[ZaN .l]at hx;exact h1 (i-lo) x .l (by rw[show lo+(i-lo)=i by omega];exact hx)
  ·rw[ZaN ej]at hy;by_cases gi:lo+l<i
   ·rw[ZaQ .l]at hx hy;exact S (i-1) (j-1) x y .o .o .o hx hy
   ·rw[ZaN .o]at hx;by_cases gj:lo+l<j
    ·rw[ZaQ .l]at hy;exact S i (j-1) x y .o .o .o hx hy
    ·rw[ZaN .o]at hy;exact S i j x y .o .o .l hx hy
theorem Ub {st fj:SortSt}{lo n ok:Nat}{Q:Bool->SortSt->Prop}(o:Ord r)(hc:lE prog w A E s κ a₀ r)(B0:CB a₀ κ lo fj st)(h1:1<=ok)(hn:ok<=n)(hz:lo+n<=a₀.size)(S0:SI r (arrOf st) lo (lo+ok))
  (h:∀ai,CB a₀ κ lo fj ai->SI r (arrOf ai) lo (lo+n)->Q true ai):wpS (model prog w) A E s (binarySort' lo n ok) Q st:=by
 rw[binarySort'_eq];dsimp only;rw[Nat.max_eq_left h1];refine ZaC (ZbH (I:=fun k c ai=>c=(none,())/\CB a₀ κ lo fj ai/\SI r (arrOf ai) lo (lo+k)) ?_ ?_ ⟨rfl,B0,S0⟩)
 ·rintro k c az tZ jt ⟨rfl,B1,S1⟩
  try dsimp only
  have z1:=B1.size;obtain⟨q,hq⟩:=Zt (xs:=arrOf az) (i:=lo+k) .l;refine ZaC (Ze0 (ZbH (I:=fun y c ai=>ai=az/\∃l u,c=(none,l,u)/\l<=u/\u<=k/\(∀i x,i<l->(arrOf az)[lo+i]?=some x->r q x=false)/\(∀i x,u<=i->i<k->(arrOf az)[lo+i]?=some x->r q x=true)/\u-l<=k-y)
   (Q:=fun c ai=>ai=az/\∃l u,c=(none,l,u)/\l<=k/\(∀i x,i<l->(arrOf az)[lo+i]?=some x->r q x=false)/\(∀i x,l<=i->i<k->(arrOf az)[lo+i]?=some x->r q x=true)) ?_ ?_ ⟨rfl,0,k,rfl,.l,.l,fun i x hi=>absurd hi .l,fun i x g1 g2=>absurd g2 .l,.l⟩) ?_)
  ·rintro y c ai _ hy ⟨rfl,l,u,rfl,g1,g2,g3,g4,g5⟩;dsimp only;refine Z5 (fun fB=>?_) (fun fB=>?_)
   ·exact ZaI ⟨rfl,l,u,rfl,.l,g3,fun i x g6=>g4 i x .l⟩
   ·have hm:(l+u)/2<u:=.l;have gN:l<=(l+u)/2:=.l;generalize (l+u)/2=m at hm gN;obtain⟨p,hp⟩:=Zt (xs:=arrOf ai) (i:=lo+m) .l;refine ZaC (JS hc B1 hq hp ?_);cases hr:r q p with
    |true=>refine ZaI ⟨rfl,l,m,rfl,gN,.l,g3,fun i x g6 g7 hx=>?_,.o⟩;exact Zg4 o hr (S1 (lo+m) (lo+i) p x .l .l .l hp hx)
    |false=>refine ZaI ⟨rfl,m+1,u,rfl,.l,g2,fun i x g6 hx=>?_,g4,.o⟩;exact o.fI x p q (S1 (lo+i) (lo+m) x p .l .l .l hx hp) hr
  ·rintro c ai ⟨rfl,l,u,rfl,g1,g2,g3,g4,g5⟩;rw[Zbe (ZaJ _)]at g5;exact⟨rfl,l,u,rfl,.l,g3,fun i x g6=>g4 i x .l⟩
  rintro c ai ⟨rfl,l,u,rfl,g1,g3,g4⟩;dsimp only;refine ZaC (Zdr (ZaI ⟨rfl,⟨B1.kind,B1.pend,B1.fail,(bubble_perm _ _ _).trans B1.perm,fun i hi=>?_⟩,S1.put o hq g1 g3 g4⟩));show(bubble (arrOf ai) (lo+k) (lo+k-(lo+l)))[i]?=_;rw[getElem?_bubble .l _ .o,ZaN .o,ZaN .o];exact B1.pre i hi
 ·rintro c az ⟨rfl,B1,S1⟩;rw[Zbe hn]at S1;exact ZaI (h az B1 S1)
end
def seg (L:List Keyed)(s n:Nat):List Keyed:=(L.drop s).take n
theorem JF {s n i:Nat}(h:i<n):(seg L s n)[i]?=L[s+i]? :=by unfold seg;rw[Zb9 h,Zb8]
theorem Nm {L:List Keyed}{s n:Nat}(h:s+n<=L.length):(seg L s n).length=n:=by unfold seg;rw[ZaB,Za5];lia
theorem SI.pw {xs:Array Keyed}{lo n:Nat}(h:SI r xs lo (lo+n)):Pw r (seg xs.toList lo n):=by
 unfold Pw;rw[Zc2];intro i j hi hj iU;have hn:j<n:=by unfold seg at hj;rw[ZaB]at hj;omega
 have e1:(seg xs.toList lo n)[i]?=some (seg xs.toList lo n)[i]:=Zaj hi;have e2:(seg xs.toList lo n)[j]?=some (seg xs.toList lo n)[j]:=Zaj hj;rw[JF .l,ZaZ]at e1;rw[JF hn,ZaZ]at e2;exact h (lo+i) (lo+j) _ _ .l .l .l e1 e2
def Runs (r:Keyed->Keyed->Bool)(L:List Keyed):List (Nat×Nat×Nat)->Nat->Nat->Prop
 | [],p,q=>p=q
 |x::rest,p,q=>x.1=p/\1<=x.2.1/\Pw r (seg L x.1 x.2.1)/\Runs r L rest (p+x.2.1) q
section
variable {r:Keyed->Keyed->Bool}{L L':List Keyed}
theorem Runs.le:∀{ps:List (Nat×Nat×Nat)}{p q:Nat},Runs r L ps p q->p+ps.length<=q
 | [],_,_,h=>by cases h;exact Zal _
 |x::ps,p,q,h=>by
  have:=Runs.le h.2.2.2;have:=h.2.1;rw[ZaU]
  lia
theorem Runs.app:∀{l1 l2:List (Nat×Nat×Nat)}{p q:Nat},Runs r L (l1++l2) p q↔∃m,Runs r L l1 p m/\Runs r L l2 m q
 | [],l2,p,q=>⟨fun h=>⟨p,rfl,h⟩,fun⟨m,h1,h2⟩=>by cases h1;exact h2⟩
 |x::l1,l2,p,q=>by
  constructor
  ·rintro⟨h1,h2,h3,h4⟩;obtain⟨m,g1,g2⟩:=Runs.app.mp h4;exact⟨m,⟨h1,h2,h3,g1⟩,g2⟩
  ·rintro⟨m,⟨h1,h2,h3,g1⟩,g2⟩;exact⟨h1,h2,h3,Runs.app.mpr ⟨m,g1,g2⟩⟩
theorem Runs.congr:∀{ps:List (Nat×Nat×Nat)}{p q:Nat},Runs r L ps p q->(∀s n,p<=s->s+n<=q->seg L s n=seg L' s n)->Runs r L' ps p q
 | [],_,_,h,_=>h
 |x::ps,p,q,⟨h1,h2,h3,h4⟩,e=>by have:=Runs.le h4;refine⟨h1,h2,?_,Runs.congr h4 fun s n g1 g2=>e s n .l g2⟩;rw[<-e x.1 x.2.1 .l .l];exact h3
theorem Np {m s n:Nat}(h:L.take m=L'.take m)(hs:s+n<=m):seg L s n=seg L' s n:=by
 have key:∀M:List Keyed,seg M s n=seg (M.take m) s n:=fun M=>by unfold seg;rw[List.drop_take,ZjH,Zdi .l]
 rw[key L,key L',h]
theorem Uw {m s n:Nat}(h:L.drop m=L'.drop m)(hs:m<=s):seg L s n=seg L' s n:=by
 have key:∀M:List Keyed,seg M s n=((M.drop m).drop (s-m)).take n:=fun M=>by unfold seg;rw[ZeA,show m+(s-m)=s by omega]
 rw[key L,key L',h]
theorem ZdP {A B M:List Keyed}{k n:Nat}(o:Ord r)(sA:Pw r A)(sB:Pw r B)(hM:M.Perm (A.drop k++B.take n))(sM:Pw r M)(h1:∀x∈A.take k,∀y∈B,r y x=false)(h2:∀z∈A,∀w∈B.drop n,r w z=false):Pw r (A.take k++(M++B.drop n)):=by
 have pa:Pw r (A.take k):=Zbx (Zd8 _ _) sA;have pb:Pw r (B.drop n):=Zbx (Zec _ _) sB;have Q8:Pw r (A.take k++A.drop k):=by rw[Za9];exact sA
 have Q7:Pw r (B.take n++B.drop n):=by rw[Za9];exact sB
 refine ZbB.mpr ⟨pa,ZbB.mpr ⟨sM,pb,fun z hz w hw=>?_⟩,fun x hx z hz=>?_⟩
 ·rcases Zay.mp (hM.mem_iff.mp hz) with hz|hz
  ·exact h2 z (Zb3 hz) w hw
  ·exact(ZbB.mp Q7).2.2 z hz w hw
 ·rcases Zay.mp hz with hz|hz
  ·rcases Zay.mp (hM.mem_iff.mp hz) with hz|hz
   ·exact(ZbB.mp Q8).2.2 x hx z hz
   ·exact h1 x hx z (Zco hz)
  ·exact h1 x hx z (Zb3 hz)
theorem vJ (off:Nat):∀(M:List Keyed) (j:Nat) (xs:Array Keyed),off+j+M.length<=xs.size->((M.zipIdx j).foldl (fun a x=>a.setIfInBounds (off+x.snd) x.fst) xs).toList=xs.toList.take (off+j)++(M++xs.toList.drop (off+j+M.length))
 | [],j,xs,_=>by show xs.toList=_;rw[Zdh,Zdg,Zh8,Za9]
 |m::M,j,xs,h=>by
  rw[ZaU]at h;rw[Zje,ZgA,vJ off M (j+1) _ (by rw[Array.size_setIfInBounds];lia),ZiC];have hl:off+j<xs.toList.length:=by rw[ZaT];lia
  rw[List.drop_set_of_lt .l,<-Nat.add_assoc,ZaO,List.take_set_of_le (Zal _),ZeD hl];rw[ZaP,ZaU,show off+j+1+M.length=off+j+(M.length+1) by lia];rfl
end
section
variable {s t k n m z y b:Nat}
theorem qa (h:¬n-k=0):s+(k+(n-k-1))=s+(n-1):=.l
theorem qb (h:k<=n)(h1:1<=n):s+(n-1)=s+k+(n-k)-1:=.l
theorem qc (e:t=s+n)(h:k<=n):s+k+(n-k+m)=t+m:=.l
theorem qd (e:t=s+n)(h:k<=n):t-(s+k)=n-k:=.l
theorem qe (h:k<=n)(g:m<=b):min k n+(n-k+m+(b-m))=n+b:=.l
theorem qf (h:k<=n)(h1:1<=n)(h2:1<=m)(e:t=s+n)(f:z=y)(g:t+m<=y):s+k+(n-k)-1<z:=.l
theorem qg (e:t=s+n)(h:k<=n)(g:m<=b)(f:t+b<=y)(f':z=y):s+k+0+(n-k+m)<=z:=.l
theorem qh (h2:1<=m)(f:z=y)(g:t+m<=y):t<z:=.l
theorem qi (e:t=s+n)(f:z=y)(g:t+m<=y)(h:k<n):s+k<z:=.l
theorem qj (f:z=y)(g:t+m<=y)(h:k<m):t+k<z:=.l
end
section
variable {κ:SortKind}{a₀:Array Keyed}{r:Keyed->Keyed->Bool}
theorem ZfI {st ai:SortSt}{Q:PUnit->SortSt->Prop}(h:Q ⟨⟩ ai):wpS (model prog w) A E s (set ai:StateT SortSt Sem PUnit) Q st:=by unfold wpS;exact Zav ⟨rfl,h⟩
theorem ZfJ {α:Type}{m:StateT SortSt Sem α}{Q:α->SortSt->Prop}{st:SortSt}(P:SortSt->Prop)(hp:P st)(h:∀fj,P fj->wpS (model prog w) A E s m Q fj):wpS (model prog w) A E s m Q st:=h st hp
theorem Zbs {st:SortSt}{i:Nat}{Q:Bool->SortSt->Prop}(o:Ord r)(hc:lE prog w A E s κ a₀ r)(hk:kindOf st=κ)(hP:(arrOf st).Perm a₀)(hF:failedOf st=none){pre post:List (Nat×Nat×Nat)}{sa na pw sb nb zb:Nat}
  (hp:(pendingOf st).toList=pre++(sa,na,pw)::(sb,nb,zb)::post) (hi:pre.length=i) (ow:sb=sa+na) (n1:1<=na) (n2:1<=nb) (hz:sb+nb<=a₀.size) (SA:Pw r (seg (arrOf st).toList sa na)) (SB:Pw r (seg (arrOf st).toList sb nb))
  (h:∀ai,kindOf ai=κ->(arrOf ai).Perm a₀->failedOf ai=none->(pendingOf ai).toList=pre++(sa,na+nb,pw)::post->(arrOf ai).toList.take sa=(arrOf st).toList.take sa->(arrOf ai).toList.drop (sb+nb)=(arrOf st).toList.drop (sb+nb)->Pw r (seg (arrOf ai).toList sa (na+nb))->Q true ai):
  wpS (model prog w) A E s (mergeAt' i) Q st:=by
 have hsz:(arrOf st).size=a₀.size:=hP.size_eq;have e1:(pendingOf st)[i]?=some (sa,na,pw):=by rw[<-ZaZ,hp,<-hi];simp
 have e2:(pendingOf st)[i+1]?=some (sb,nb,zb):=by rw[<-ZaZ,hp,<-hi,Zbt .l,show pre.length+1-pre.length=1 by lia];rfl
 have IT:(((pendingOf st).setIfInBounds i (sa,na+nb,pw)).eraseIdxIfInBounds (i+1)).toList=pre++(sa,na+nb,pw)::post:=by rw[Array.toList_eraseIdxIfInBounds,ZiC,hp,<-hi,List.set_append_right _ _ (Zal _),ZiH,ZiI,List.eraseIdx_append_of_length_le .o,show pre.length+1-pre.length=1 by omega];rfl
 show wpS (model prog w) A E s (_ >>=_) _ _;obtain⟨kd,xs,pd,ga,fl⟩:=st;refine ZaC (Zie ?_);replace e1:pd[i]?=some (sa,na,pw):=e1;replace e2:pd[i+1]?=some (sb,nb,zb):=e2;dsimp only;rw[e1,e2];dsimp only;refine ZaC (ZfI ?_);refine ZfJ (fun fj=>kindOf fj=κ/\arrOf fj=xs/\(pendingOf fj).toList=pre++(sa,na+nb,pw)::post/\failedOf fj=none) ⟨hk,rfl,IT,hF⟩ ?_;rintro fj ⟨g1,g2,g3,g4⟩;clear IT e1 e2;replace hP:xs.Perm a₀:=hP;replace hsz:xs.size=a₀.size:=hsz;replace SA:Pw r (seg xs.toList sa na):=SA;replace SB:Pw r (seg xs.toList sb nb):=SB;have mm:∀{j:Nat}{x:Keyed},xs[j]?=some x->x∈a₀.toList:=fun hx=>(Zcj.mp hP).mem_iff.mp (Yj hx);have lA:(seg xs.toList sa na).length=na:=Nm (by rw[ZaT];lia);have lB:(seg xs.toList sb nb).length=nb:=Nm (by rw[ZaT];lia);have EW:∀{j:Nat}{x:Keyed},j<na->xs[sa+j]?=some x->(seg xs.toList sa na)[j]?=some x:=fun hj hx=>by rw[JF hj,ZaZ];exact hx
 have EV:∀{j:Nat}{x:Keyed},j<nb->xs[sb+j]?=some x->(seg xs.toList sb nb)[j]?=some x:=fun hj hx=>by rw[JF hj,ZaZ];exact hx
 have Ar:∀{j:Nat}{x:Keyed},(seg xs.toList sa na)[j]?=some x->j<na/\xs[sa+j]?=some x:=fun {j x} hx=>by
  have hj:j<na:=by have:=(Zai.mp hx).1;lia
  exact⟨hj,by rw[JF hj,ZaZ]at hx;exact hx⟩
 have EU:∀{j:Nat}{x:Keyed},(seg xs.toList sb nb)[j]?=some x->j<nb/\xs[sb+j]?=some x:=fun {j x} hx=>by
  have hj:j<nb:=by have:=(Zai.mp hx).1;lia
  exact⟨hj,by rw[JF hj,ZaZ]at hx;exact hx⟩
 have fin:∀(k n:Nat) (M:List Keyed) (ai:SortSt),k<=na->n<=nb->kindOf ai=κ->failedOf ai=none->(pendingOf ai).toList=pre++(sa,na+nb,pw)::post->M.Perm ((seg xs.toList sa na).drop k++(seg xs.toList sb nb).take n)->Pw r M->
   (∀x∈(seg xs.toList sa na).take k,∀y∈seg xs.toList sb nb,r y x=false)->(∀z∈seg xs.toList sa na,∀w∈(seg xs.toList sb nb).drop n,r w z=false)->
   (arrOf ai).toList=xs.toList.take (sa+k)++(M++xs.toList.drop (sa+k+M.length))->Q true ai:=fun k n M ai DO qX f1 f2 f3 f4 f5 f6 f7 f8=>by
  have lM:M.length=(na-k)+n:=by rw[f4.length_eq,Zak,Za5,ZaB,lA,lB,Zdi qX]
  have hL:xs.toList.length=a₀.size:=by rw[ZaT];exact hsz
  have eA:xs.toList.take (sa+k)=xs.toList.take sa++(seg xs.toList sa na).take k:=by rw[List.take_add];unfold seg;rw[ZjH,Zdi DO]
  have eB:xs.toList.drop (sa+k+M.length)=(seg xs.toList sb nb).drop n++xs.toList.drop (sb+nb):=by
   rw[lM,show sa+k+(na-k+n)=sb+n from qc ow DO,<-ZeA];have:xs.toList.drop sb=seg xs.toList sb nb++xs.toList.drop (sb+nb):=by unfold seg;rw[<-ZeA,Za9]
   rw[this,List.drop_append_of_le_length (by rw[lB];exact qX)]
  have aay:xs.toList=xs.toList.take sa++((seg xs.toList sa na++seg xs.toList sb nb)++xs.toList.drop (sb+nb)):=by
   have a1:xs.toList.drop sa=seg xs.toList sa na++xs.toList.drop sb:=by unfold seg;rw[ow,<-ZeA,Za9]
   have a2:xs.toList.drop sb=seg xs.toList sb nb++xs.toList.drop (sb+nb):=by unfold seg;rw[<-ZeA,Za9]
   rw[ZaP,<-a2,<-a1,Za9]
  have eN:(arrOf ai).toList=xs.toList.take sa++(((seg xs.toList sa na).take k++(M++(seg xs.toList sb nb).drop n))++xs.toList.drop (sb+nb)):=by rw[f8,eA,eB];simp only[ZaP]
  have lX:(xs.toList.take sa).length=sa:=by rw[ZaB];lia
  have lY:((seg xs.toList sa na).take k++(M++(seg xs.toList sb nb).drop n)).length=na+nb:=by rw[Zak,Zak,ZaB,Za5,lA,lB,lM];exact qe DO qX
  have pY:((seg xs.toList sa na).take k++(M++(seg xs.toList sb nb).drop n)).Perm (seg xs.toList sa na++seg xs.toList sb nb):=by refine List.Perm.trans (Zc3 _ (ZhR _ f4)) ?_;rw[ZaP,Za9,<-ZaP,Za9]
  refine h ai f1 ?_ f2 f3 ?_ ?_ ?_
  ·refine Zcj.mpr (List.Perm.trans ?_ (Zcj.mp hP));rw[eN];refine List.Perm.trans (Zc3 _ (ZhR _ pY)) ?_;rw[<-aay]
  ·rw[eN,List.take_left' lX]
  ·rw[eN,<-ZaP,List.drop_left' (by rw[Zak,lX,lY];lia)]
  ·have:seg (arrOf ai).toList sa (na+nb)=(seg xs.toList sa na).take k++(M++(seg xs.toList sb nb).drop n):=by rw[eN];show List.take (na+nb) (List.drop sa (xs.toList.take sa++(((seg xs.toList sa na).take k++(M++(seg xs.toList sb nb).drop n))++xs.toList.drop (sb+nb))))=_;rw[List.drop_left' lX,List.take_left' lY]
   rw[this];exact ZdP o SA SB f4 f5 f6 f7
 obtain⟨y0,oT⟩:=Zt (xs:=xs) (i:=sb) (qh n2 hsz hz);refine ZaC (ZQ oT ?_);have hB0:∀y∈seg xs.toList sb nb,r y y0=false:=fun y hy=>by obtain⟨j,hj⟩:=ZaX hy;exact Ww o SB (EV (j:=0) .l oT) hj (ZaJ _)
 refine ZaC (YX hc g1 (fun i=>match xs[sa+i]? with|some x=>!r y0 x|none=>false) (fun i hi=>?_) (mm oT) (fun i j iU hj hp=>?_) .l fun k kn jn jo=>?_)
 ·obtain⟨x,hx⟩:=Zt (xs:=xs) (i:=sa+i) (qi ow hsz hz .o);refine⟨x,hx,mm hx,?_⟩
  try dsimp only
  rw[hx];rfl
 ·obtain⟨xj,kF⟩:=Zt (xs:=xs) (i:=sa+j) (qi ow hsz hz .o);obtain⟨xi,oU⟩:=Zt (xs:=xs) (i:=sa+i) (qi ow hsz hz .l)
  try dsimp only at hp |-
  rw[kF]at hp;rw[oU];rw[Zcg]at hp |-;exact o.fI _ _ _ (Ww o SA (EW .o oU) (EW .o kF) iU) hp
 dsimp only;have low:∀x∈(seg xs.toList sa na).take k,∀y∈seg xs.toList sb nb,r y x=false:=fun x hx y hy=>by
  obtain⟨j,hj⟩:=ZaX hx;have DQ:j<k:=by have:=(Zai.mp hj).1;rw[ZaB]at this;lia
  rw[Zb9 DQ]at hj;obtain⟨wW,ra⟩:=Ar hj;have:=jn j DQ
  try dsimp only at this
  rw[ra,Zcg]at this;exact o.fI x y0 y this (hB0 y hy)
 refine Z5 (fun jP=>?_) (fun jP=>?_)
 ·have ek:k=na:=by have:=Zcr.mp jP;lia
  subst ek;refine ZaI (fin k 0 [] fj (Zal _) (ZaJ _) g1 g4 g3 (by rw[Zb5 .l];exact .refl _) .nil low (fun z hz w hw=>?_) ?_)
  ·exact low z (by rw[ZbJ .o];exact hz) w (Zb3 hw)
  ·rw[g2,Zdh,Zdg,Zh8,Za9]
 have Vk:¬(na-k=0):=fun z=>jP (Zcr.mpr z);obtain⟨x0,nB⟩:=Zt (xs:=xs) (i:=sa+k+(na-k)-1) (qf kn n1 n2 ow hsz hz);refine ZaC (ZQ nB ?_);have IF:xs[sa+(na-1)]?=some x0:=by rw[<-nB];congr 1;exact qb kn n1
 have hA0:∀x∈seg xs.toList sa na,r x0 x=false:=fun x hx=>by obtain⟨j,hj⟩:=ZaX hx;exact Ww o SA hj (EW (j:=na-1) .o IF) (by have:=(Ar hj).1;lia)
 refine ZaC (YX hc g1 (fun i=>match xs[sb+i]? with|some y=>r y x0|none=>false) (fun i hi=>?_) (mm nB) (fun i j iU hj hp=>?_) .l fun n nn SO SS=>?_)
 ·obtain⟨y,hy⟩:=Zt (xs:=xs) (i:=sb+i) (qj hsz hz .o);refine⟨y,hy,mm hy,?_⟩
  try dsimp only
  rw[hy];rfl
 ·obtain⟨yj,lQ⟩:=Zt (xs:=xs) (i:=sb+j) (qj hsz hz .o);obtain⟨yi,jQ⟩:=Zt (xs:=xs) (i:=sb+i) (qj hsz hz .l)
  try dsimp only at hp |-
  rw[lQ]at hp;rw[jQ];exact Fi o hp (Ww o SB (EV .o jQ) (EV .o lQ) iU)
 dsimp only;have high:∀z∈seg xs.toList sa na,∀w∈(seg xs.toList sb nb).drop n,r w z=false:=fun z hz w hw=>by
  obtain⟨j,hj⟩:=ZaX hw;rw[Zb8]at hj;obtain⟨wW,ra⟩:=EU hj;have:=SS (n+j) .l wW
  try dsimp only at this
  rw[ra]at this;exact o.fI z x0 w (hA0 z hz) this
 refine Z5 (fun gh=>?_) (fun gh=>?_)
 ·have en:n=0:=Zcr.mp gh;subst en;refine ZaI (fin na 0 [] fj (Zal _) (ZaJ _) g1 g4 g3 (by rw[Zb5 .l];exact .refl _) .nil (fun x hx y hy=>?_) high ?_)
  ·exact high x (Zco hx) y (by rw[Zh3];exact hy)
  ·rw[g2,Zdh,Zdg,Zh8,Za9]
 have aa4:¬(n=0):=fun z=>gh (Zcr.mpr z);have xA:(xs.extract (sa+k) sb).toList=(seg xs.toList sa na).drop k:=by rw[W1];unfold seg;rw[List.drop_take,ZeA,show sb-(sa+k)=na-k from qd ow kn]
 have xB:(xs.extract sb (sb+n)).toList=(seg xs.toList sb nb).take n:=by rw[W1,show sb+n-sb=n by lia];unfold seg;rw[ZjH,Zdi nn]
 have QG:(xs.extract (sa+k) sb).size=na-k:=by rw[<-ZaT,xA,Za5,lA]
 have aa0:(xs.extract sb (sb+n)).size=n:=by rw[<-ZaT,xB,ZaB,lB];lia
 have C:gz r (xs.extract (sa+k) sb) (xs.extract sb (sb+n)):=⟨o,by rw[xA];exact Zbx (Zec _ _) SA,by rw[xB];exact Zbx (Zd8 _ _) SB⟩;have mA:∀x∈(xs.extract (sa+k) sb).toList,x∈a₀.toList:=fun x hx=>by rw[xA]at hx;obtain⟨j,hj⟩:=ZaX (Zb3 hx);exact mm (Ar hj).2
 have mB:∀x∈(xs.extract sb (sb+n)).toList,x∈a₀.toList:=fun x hx=>by rw[xB]at hx;obtain⟨j,hj⟩:=ZaX (Zco hx);exact mm (EU hj).2
 have m0:∀y,(xs.extract sb (sb+n))[0]?=some y->∀x∈(xs.extract (sa+k) sb).toList,r x y=false:=fun y hy x hx=>by
  have nz:=Yc hy;rw[xB,Zb9 .l,JF .l,Zh8,ZaZ,oT]at nz;cases nz;rw[xA]at hx;obtain⟨j,hj⟩:=ZaX hx;rw[Zb8]at hj;obtain⟨wW,ra⟩:=Ar hj;have:=jo (k+j) .l wW
  try dsimp only at this
  rw[ra,ZiG]at this;exact o.i8 _ _ this
 have ml:∀x,(xs.extract (sa+k) sb)[(xs.extract (sa+k) sb).size-1]?=some x->∀y∈(xs.extract sb (sb+n)).toList,r x y=false:=fun x hx y hy=>by
  have qO:=Yc hx;rw[QG,xA,Zb8,JF .l,ZaZ,show sa+(k+(na-k-1))=sa+(na-1) from qa Vk,IF]at qO;cases qO;rw[xB]at hy;obtain⟨j,hj⟩:=ZaX hy;have Kt:j<n:=by have:=(Zai.mp hj).1;rw[ZaB]at this;lia
  rw[Zb9 Kt]at hj;obtain⟨wW,ra⟩:=EU hj;have:=SO j Kt
  try dsimp only at this
  rw[ra]at this;exact o.i8 _ _ this
 have done:∀(res:Array Keyed) (az:SortSt),SG fj az->Good r (xs.extract (sa+k) sb) (xs.extract sb (sb+n)) res->Q true (setArr az (List.foldl (fun a x=>a.setIfInBounds (sa+k+x.snd) x.fst) (arrOf az) res.toList.zipIdx)):=fun res az sg gd=>by
  have p1:=gd.1;rw[xA,xB]at p1;have lR:res.toList.length=na-k+n:=by rw[p1.length_eq,Zak,Za5,ZaB,lA,lB];lia
  refine fin k n res.toList _ kn nn (by show kindOf az=κ;rw[sg.1];exact g1) (by show failedOf az=none;rw[sg.2.2.2];exact g4) (by show(pendingOf az).toList=_;rw[sg.2.2.1];exact g3) p1 gd.2 low high ?_;show(List.foldl (fun a x=>a.setIfInBounds (sa+k+x.snd) x.fst) (arrOf az) res.toList.zipIdx).toList=_;rw[sg.2.1,g2];exact vJ (sa+k) res.toList 0 xs (by rw[lR];exact qg ow kn nn hz hsz)
 refine Z5 (fun hle=>?_) (fun hle=>?_)
 ·refine ZaC (Zbq hc g1 C mA mB .l .l m0 ml fun res az sg gd=>?_);refine ZaC (Zez (ZaC (Zie ?_)));have ef:(failedOf (setArr az (List.foldl (fun a x=>a.setIfInBounds (sa+k+x.snd) x.fst) (arrOf az) res.toList.zipIdx))).isNone=true:=by show(failedOf az).isNone=true;rw[sg.2.2.2,g4];rfl
  rw[ef];exact ZaI (done res az sg gd)
 ·refine ZaC (Zbr hc g1 C mA mB .l .o m0 ml fun res az sg gd=>?_);refine ZaC (Zez (ZaC (Zie ?_)));have ef:(failedOf (setArr az (List.foldl (fun a x=>a.setIfInBounds (sa+k+x.snd) x.fst) (arrOf az) res.toList.zipIdx))).isNone=true:=by show(failedOf az).isNone=true;rw[sg.2.2.2,g4];rfl
  rw[ef];exact ZaI (done res az sg gd)
structure RS (a₀:Array Keyed)(κ:SortKind)(r:Keyed->Keyed->Bool)(st:SortSt)(lo:Nat):Prop where
 kind:kindOf st=κ
 perm:(arrOf st).Perm a₀
 fail:failedOf st=none
 runs:Runs r (arrOf st).toList (pendingOf st).toList 0 lo
 le:lo<=a₀.size
theorem aaB {l:List α}{i:Nat}(h:i+1<l.length):∃pre a b post,l=pre++a::b::post/\pre.length=i:=by refine⟨l.take i,l[i],l[i+1],l.drop (i+2),?_,by rw[ZaB];lia⟩;rw[<-Zd7 h,<-Zd7 .o,Za9]
theorem RS.merge {st:SortSt}{lo i:Nat}{Q:Bool->SortSt->Prop}(o:Ord r)(hc:lE prog w A E s κ a₀ r)(R:RS a₀ κ r st lo)(hi:i+1< (pendingOf st).size)
  (h:∀ai,RS a₀ κ r ai lo->(pendingOf ai).size+1=(pendingOf st).size->(arrOf ai).toList.drop lo=(arrOf st).toList.drop lo->Q true ai):wpS (model prog w) A E s (mergeAt' i) Q st:=by
 obtain⟨pre,⟨sa,na,pw⟩,⟨sb,nb,zb⟩,post,hp,hl⟩:=aaB (l:=(pendingOf st).toList) (i:=i) (by rw[ZaT];exact hi);have hr:=R.runs;rw[hp]at hr;obtain⟨m,h1,h2⟩:=Runs.app.mp hr;obtain⟨a1,a2,a3,h3⟩:=h2;obtain⟨b1,b2,b3,h4⟩:=h3;dsimp only at a1 a2 a3 b1 b2 b3 h4;subst a1;have l4:=h4.le;have l1:=h1.le;have le:=R.le;refine Zbs o hc R.kind R.perm R.fail hp hl b1 a2 b2 .l a3 b3 fun ai g1 g2 g3 g4 g5 g6 g7=>?_;refine h ai ⟨g1,g2,g3,?_,le⟩ ?_ ?_
 ·rw[g4];refine Runs.app.mpr ⟨sa,h1.congr fun s n q1 q2=>Np g5.symm q2,rfl,(show 1<=na+nb by lia),g7,?_⟩;show Runs r (arrOf ai).toList post (sa+(na+nb)) lo;rw[<-Nat.add_assoc];exact h4.congr fun s n q1 q2=>Uw (m:=sb+nb) g6.symm .l
 ·rw[<-ZaT,<-ZaT,g4,hp];simp only[Zak,ZaU]
  lia
 ·have key:∀M:List Keyed,M.drop lo=(M.drop (sb+nb)).drop (lo-(sb+nb)):=fun M=>by
   rw[ZeA]
   congr 1
   lia
  rw[key,key (arrOf st).toList,g6]
theorem RS.push {st:SortSt}{lo n:Nat}(R:RS a₀ κ r st lo)(n1:1<=n)(hz:lo+n<=a₀.size)(S:Pw r (seg (arrOf st).toList lo n)):RS a₀ κ r (setPending st ((pendingOf st).push (lo,n,0))) (lo+n):=by refine⟨R.kind,R.perm,R.fail,?_,hz⟩;show Runs r (arrOf st).toList ((pendingOf st).push (lo,n,0)).toList 0 (lo+n);rw[Zbz];exact Runs.app.mpr ⟨lo,R.runs,rfl,n1,S,rfl⟩
theorem NH {L:List Keyed}{pw:Nat} :∀{ps:List (Nat×Nat×Nat)}{i p q:Nat},Runs r L ps p q->Runs r L (ps.modify i fun x=>(x.fst,x.2.fst,pw)) p q
 | [],i,p,q,h=>by rw[List.modify_nil];exact h
 |x::ps,0,p,q,h=>by rw[List.modify_zero_cons];exact h
 |x::ps,i+1,p,q,⟨h1,h2,h3,h4⟩=>by rw[List.modify_succ_cons];exact⟨h1,h2,h3,NH h4⟩
theorem RS.pow {st:SortSt}{lo i pw:Nat}(R:RS a₀ κ r st lo):RS a₀ κ r (setPending st ((pendingOf st).modify i fun x=>(x.fst,x.2.fst,pw))) lo:=by refine⟨R.kind,R.perm,R.fail,?_,R.le⟩;show Runs r (arrOf st).toList ((pendingOf st).modify i fun x=>(x.fst,x.2.fst,pw)).toList 0 lo;rw[Array.toList_modify];exact NH R.runs
theorem Zeg {xs ys:Array Keyed}{lo:Nat}(h:∀k,k<lo->xs[k]?=ys[k]?):xs.toList.take lo=ys.toList.take lo:=by
 refine List.ext_getElem? fun k=>?_;by_cases hk:k<lo
 ·rw[Zb9 hk,Zb9 hk,ZaZ,ZaZ];exact h k hk
 ·rw[List.getElem?_eq_none (by rw[ZaB];omega),List.getElem?_eq_none (by rw[ZaB];omega)]
theorem CB.rs {st ai:SortSt}{lo:Nat}(R:RS a₀ κ r st lo)(B:CB a₀ κ lo st ai):RS a₀ κ r ai lo:=by refine⟨B.kind,B.perm,B.fail.trans R.fail,?_,R.le⟩;rw[B.pend];exact R.runs.congr fun s n q1 q2=>Np (Zeg fun k hk=>(B.pre k hk).symm) q2
theorem UY {st:SortSt}{Q:Unit->SortSt->Prop}(o:Ord r)(hc:lE prog w A E s κ a₀ r)(h2:2<=a₀.size)(k0:kindOf st=κ)(p0:(arrOf st).Perm a₀)(f0:failedOf st=none)(e0:pendingOf st= #[])
  (h:∀ai,(arrOf ai).Perm a₀->failedOf ai=none->Pw r (arrOf ai).toList->Q () ai):wpS (model prog w) A E s sortRuns' Q st:=by
 rw[sortRuns'_eq];dsimp only;refine ZaC (Zie ?_);have z0:(arrOf st).size=a₀.size:=p0.size_eq;rw[z0];generalize minRun' a₀.size a₀.size 0=mr;refine ZaC (Ze0 (ZbH (I:=fun x c az=> ∃lo,c=(none,lo)/\RS a₀ κ r az lo/\x<=lo) (Q:=fun c az=>c=(none,a₀.size)/\RS a₀ κ r az a₀.size) ?step ?fin ⟨0,rfl,⟨k0,p0,f0,by rw[e0];exact rfl,ZaJ _⟩,Zal _⟩) ?post)
 case fin=>rintro c az ⟨lo,rfl,R,hx⟩;rw[Zbe (ZaJ _)]at hx;have:=R.le;obtain rfl:lo=a₀.size:=.l;exact⟨rfl,R⟩
 case step=>
  rintro x c az _ hx ⟨lo,rfl,R1,hxl⟩;dsimp only;by_cases fB:lo>=a₀.size
  ·rw[ZaQ fB];have:=R1.le;obtain rfl:lo=a₀.size:=.l;exact ZaI ⟨rfl,R1⟩
  rw[ZaN fB];refine ZaC (UZ o hc (st:=az) ⟨R1.kind,rfl,rfl,R1.perm,fun _ _=>rfl⟩ .l .l fun found aF B2 f1 f2 S=>?_);dsimp only;by_cases bj:found<mr
  ·rw[ZaQ bj];refine ZaC (ZjD (Zdc ⟨rfl,?_⟩));have gm:found<=min (a₀.size-lo) mr:=.o;have XM:min (a₀.size-lo) mr<=a₀.size-lo:=.o;generalize min (a₀.size-lo) mr=n at gm XM;refine ZaC (Ub o hc B2 f1 gm .l S fun bw B3 S3=>?_);rw[ZaN .d];have R2:=CB.rs R1 B3;have S2:=S3.pw;have n1:1<=n:=.l;clear S3 B3 B2 S;clear aF;revert R2 S2;generalize bw=aF;intro R2 S2;refine ZaC (Zie ?_);cases hb:(pendingOf aF).back? with
   |none=>
    try dsimp only
    exact ZaC (Zez (ZaI ⟨_,rfl,R2.push n1 .o S2,.l⟩))
   |some z=>
    obtain⟨s1,m1,p1⟩:=z
    try dsimp only
    refine ZaC (Ze0 (ZbH (I:=fun _ c ai=>c=(none,())/\RS a₀ κ r ai lo/\(arrOf ai).toList.drop lo=(arrOf aF).toList.drop lo) (Q:=fun c ai=>c=(none,())/\RS a₀ κ r ai lo/\(arrOf ai).toList.drop lo=(arrOf aF).toList.drop lo) ?_ (fun c ai hh=>hh) ⟨rfl,R2,rfl⟩) ?_)
    ·rintro y c ai _ _ ⟨rfl,R,hd⟩;refine ZaC (Zie ?_);by_cases hs:(pendingOf ai).size>1
     ·rw[ZaQ hs];cases hq:(pendingOf ai)[(pendingOf ai).size-2]? with
      |none=>exact ZaI ⟨rfl,R,hd⟩
      |some z=>
       obtain⟨z1,z2,R8⟩:=z;dsimp only;split
       ·exact ZaI ⟨rfl,R,hd⟩
       ·refine ZaC (R.merge o hc .l fun eW xV _ Ea=>?_);rw[ZaN .d];exact ZaI ⟨rfl,xV,Ea.trans hd⟩
     ·rw[ZaN hs];exact ZaI ⟨rfl,R,hd⟩
    rintro c ai ⟨rfl,R,hd⟩;dsimp only;refine ZaC (Zez (ZaC (Zez (ZaI ⟨_,rfl,R.pow.push n1 .o ?_,.o⟩))));show Pw r (seg (arrOf ai).toList lo _);rw[Uw (L':=(arrOf aF).toList) hd (Zal _)];exact S2
  ·rw[ZaN bj];have R2:=CB.rs R1 B2;have S2:=S.pw;have n1:=f1;clear S B2;clear R1;refine ZaC (Zie ?_);cases hb:(pendingOf aF).back? with
   |none=>
    try dsimp only
    exact ZaC (Zez (ZaI ⟨_,rfl,R2.push n1 .l S2,.l⟩))
   |some z=>
    obtain⟨s1,m1,p1⟩:=z
    try dsimp only
    refine ZaC (Ze0 (ZbH (I:=fun _ c ai=>c=(none,())/\RS a₀ κ r ai lo/\(arrOf ai).toList.drop lo=(arrOf aF).toList.drop lo) (Q:=fun c ai=>c=(none,())/\RS a₀ κ r ai lo/\(arrOf ai).toList.drop lo=(arrOf aF).toList.drop lo) ?_ (fun c ai hh=>hh) ⟨rfl,R2,rfl⟩) ?_)
    ·rintro y c ai _ _ ⟨rfl,R,hd⟩;refine ZaC (Zie ?_);by_cases hs:(pendingOf ai).size>1
     ·rw[ZaQ hs];cases hq:(pendingOf ai)[(pendingOf ai).size-2]? with
      |none=>exact ZaI ⟨rfl,R,hd⟩
      |some z=>
       obtain⟨z1,z2,R8⟩:=z;dsimp only;split
       ·exact ZaI ⟨rfl,R,hd⟩
       ·refine ZaC (R.merge o hc .l fun eW xV _ Ea=>?_);rw[ZaN .d];exact ZaI ⟨rfl,xV,Ea.trans hd⟩
     ·rw[ZaN hs];exact ZaI ⟨rfl,R,hd⟩
    rintro c ai ⟨rfl,R,hd⟩;dsimp only;refine ZaC (Zez (ZaC (Zez (ZaI ⟨_,rfl,R.pow.push n1 .o ?_,.o⟩))));show Pw r (seg (arrOf ai).toList lo _);rw[Uw (L':=(arrOf aF).toList) hd (Zal _)];exact S2
 case post=>
  rintro c az ⟨rfl,R1⟩;dsimp only;refine ZaC (Ze0 (ZbH (I:=fun x c ai=>c=(none,())/\RS a₀ κ r ai a₀.size/\(pendingOf ai).size+x<=a₀.size) (Q:=fun c ai=>c=(none,())/\RS a₀ κ r ai a₀.size/\(pendingOf ai).size<=1) ?_ ?_ ⟨rfl,R1,by have:=R1.runs.le;rw[ZaT]at this;lia⟩) ?_)
  ·rintro x c ai _ _ ⟨rfl,R,hx⟩;refine ZaC (Zie ?_);by_cases hs:(pendingOf ai).size<=1
   ·rw[ZaQ hs];exact ZaI ⟨rfl,R,hs⟩
   rw[ZaN hs];have idx:∀c:Prop,∀_:Decidable c,(if c then (pendingOf ai).size-2-1 else (pendingOf ai).size-2)+1< (pendingOf ai).size:=fun c _=>by split<;>omega
   refine ZaC (R.merge o hc (idx _ _) fun eW xV z'' _=>?_);rw[ZaN .d];exact ZaI ⟨rfl,xV,.l⟩
  ·rintro c ai ⟨rfl,R,hx⟩;rw[Zbe (ZaJ _)]at hx;exact⟨rfl,R,.l⟩
  rintro c ai ⟨rfl,R,hs⟩;refine ZaI (h ai R.perm R.fail ?_);have hr:=R.runs;have hl:(pendingOf ai).toList.length<=1:=by rw[ZaT];exact hs
  match hp:(pendingOf ai).toList,hl with
  | [],_=>
   rw[hp]at hr;have:0=a₀.size:=hr
   lia
  | [x],_=>
   rw[hp]at hr;obtain⟨q1,q2,q3,q4⟩:=hr;have q4':0+x.2.1=a₀.size:=q4;rw[q1]at q3;have:seg (arrOf ai).toList 0 x.2.1=(arrOf ai).toList:=by unfold seg;rw[Zh3,ZbJ (by rw[ZaT,R.perm.size_eq];lia)]
   rw[this]at q3;exact q3
  |_::_::_,h=>simp at h
end
end PyProof.Rows.fS
namespace PyProof.Rows.fS
open PySem PySem.W
section
variable {κ:SortKind}{r:Keyed->Keyed->Bool}
def Gx (prog:Program)(w:World)(A:Around)(E:Value->Shared->Prop)(κ:SortKind)(r:Keyed->Keyed->Bool)(a:Addr)(h:Heap)(vs:List Value):Prop:=
 ∀s6:Shared,(∀b o,b≠a->h.get? b=some o->s6.heap.get? b=some o)->(2<=vs.length->∀Q:SortKind->Shared->Prop,Q κ s6->wpAny (model prog w) A (keyKind' vs.toArray) Q E s6)/\lE prog w A E s6 κ (pairsOf vs) r
theorem ZbO (o:Ord r){vs:List Value}{P:PySem.Fin->Shared->Prop}(ho:s.heap.get? a=some (seqObj "list" vs.toArray n))(hc:Gx prog w A E κ r a s.heap vs)(hz:vs.length<=200000)
  (h:∀xs:Array Keyed,xs.Perm (pairsOf vs)->Pw r xs.toList->P (.done (.ret .none)) {s with heap:=sortedHeap s.heap a vs (xs.map (·.2))}):
  wpAny (model prog w) A (Builtin.«list.sort» ⟨[.ref a],[]⟩) P E s:=by
 rw[list_sort_plain];have ha:a<s.heap.objs.size:=ZaA ho;have wA:vs.toArray.size<=sizeLine:=by rw[Zar,ZaH];omega
 refine gc (listItems_at ho rfl ?_);refine gc (listUpdate_at ho rfl ?_ wA);obtain⟨e1,I0⟩:∃e1,(s.heap.update a (Obj.mapSeq fun _=> #[])).get? a=some (seqObj "list" #[] e1):=⟨_,get?_update_seq ho (fun _=> #[])⟩;refine gc (seqEpoch_at I0 rfl ?_);refine gc (wpAny_newTuple ?_ (by simpa using wA));refine gc (ZjY ?_);refine ZcT ?_;have zK:(((s.heap.update a (Obj.mapSeq fun _=> #[])).push (seqObj "tuple" vs.toArray 0)).push (seqObj "list" #[] 0)).get? a=some (seqObj "list" #[] e1):=by rw[Heap.get?_push_ne _ _ _ (by rw[size_push',Zjg];exact ZaR (Zfb ha)),Heap.get?_push_ne _ _ _ (by rw[Zjg];exact ZaR ha)];exact I0
 show wpAny (model prog w) A _ P E {s with heap:=((s.heap.update a (Obj.mapSeq fun _=> #[])).push (seqObj "tuple" vs.toArray 0)).push (seqObj "list" #[] 0)};dsimp only;have keep:∀b o,b≠a->s.heap.get? b=some o->((((s.heap.update a (Obj.mapSeq fun _=> #[])).push (seqObj "tuple" vs.toArray 0)).push (seqObj "list" #[] 0))).get? b=some o:=fun b ob hb e=>
  Zan _ (Zan _ (by rw[Heap.get?_update_ne _ _ _ _ hb];exact e))
 obtain⟨hk,KD⟩:=hc {s with heap:=((s.heap.update a (Obj.mapSeq fun _=> #[])).push (seqObj "tuple" vs.toArray 0)).push (seqObj "list" #[] 0)} keep;have hsz:vs.toArray.size=vs.length:=.s;by_cases h2:vs.toArray.size<2
 ·rw[ZaQ h2,ZaQ h2];refine gc (Zav ?_);rw[StateT.run_pure];refine gc (Zav ?_);dsimp only;refine gc (seqEpoch_at zK rfl ?_);refine gc (listUpdate_at zK rfl ?_ (hsz2:=by rw[Array.size_map];show(pairsOf vs).size<=_;rw[Zjx,ZaH];omega));simp only[bne_self_eq_false,ZcX,Zh2];refine Zav (h (pairsOf vs) (Array.Perm.refl _) ?_);have hl:(pairsOf vs).toList.length<2:=by rw[ZaT,Zjx];omega
  match (pairsOf vs).toList,hl with
  | [],_=>exact .nil
  | [x],_=>exact Zeo _ _
  |_::_::_,h=>exact absurd h .s
 ·rw[ZaN h2,ZaN h2];refine gc (hk .o _ ?_);refine gc (ZbR (UY (κ:=κ) (r:=r) (a₀:=pairsOf vs) (st:=SortSt.mk' κ (vs.toArray.zip vs.toArray) #[] 7 none)
   (Q:=fun _ ai=>(arrOf ai).Perm (pairsOf vs)/\failedOf ai=none/\Pw r (arrOf ai).toList) o KD (by rw[Zjx];omega) rfl (Array.Perm.refl _) rfl rfl fun ai a1 a2 a3=>⟨a1,a2,a3⟩) ?_ fun _ _ e=>e)
  rintro⟨⟨⟩,ai⟩ s' ⟨rfl,hp,hf,hs⟩;dsimp only;refine gc (seqEpoch_at zK rfl ?_);refine gc (listUpdate_at zK rfl ?_ (hsz2:=by refine Zbb (Nat.le_of_eq ((Array.size_map ..).trans (hp.size_eq.trans (Zjx _)))) ?_;rw[ZaH];lia));rw[hf];simp only[bne_self_eq_false,ZcX,Zh2];exact Zav (h _ hp hs)
theorem Zen (o:Ord r){vs:List Value}{Q:Value->Shared->Prop}(hl:s.heap.IsList l vs.toArray)(hc:∀h' a,(∀b ob,s.heap.get? b=some ob->h'.get? b=some ob)->(∀b ob,s.heap.get? b=some ob->b≠a)->Gx prog w A.in1.in1 (fun _ _=>False) κ r a h' vs)(hz:vs.length<=200000)
  (h:∀xs:Array Keyed,xs.Perm (pairsOf vs)->Pw r xs.toList->Q (.ref (s.heap.objs.size+1)) {s with heap:=sortedAll s.heap vs (xs.map (·.2))}):
  wpAny (model prog w) A (call (.builtin "sorted") [.ref l]) Q E s:=by
 have wA:vs.length<=sizeLine:=by rw[ZaH];omega
 refine Calls.call_function_entry kind_sorted plain_sorted entry_sorted (args_sorted1 _) ?_;unfold Builtin.«sorted»;refine gc (m:=checkCount "sorted" 1 1 _) (Zav ?_);refine gc (collect_list hl ?_ wA);refine gc (ZjY ?_ wA);have hsz:((s.heap.push (seqObj "list" #[] 0)).update s.heap.objs.size (Obj.mapSeq (· ++vs.toArray))).objs.size=s.heap.objs.size+1:=by rw[Zjg,size_push']
 have qW:(((s.heap.push (seqObj "list" #[] 0)).update s.heap.objs.size (Obj.mapSeq (· ++vs.toArray))).push (seqObj "list" vs.toArray 0)).get? (s.heap.objs.size+1)=some (seqObj "list" vs.toArray 0):=by rw[<-hsz];exact ZaD _ rfl
 show wpAny _ _ _ _ _ {s with heap:=((s.heap.push (seqObj "list" #[] 0)).update s.heap.objs.size (Obj.mapSeq (· ++vs.toArray))).push (seqObj "list" vs.toArray 0)};rw[hsz];have asks:=hc (((s.heap.push (seqObj "list" #[] 0)).update s.heap.objs.size (Obj.mapSeq (· ++vs.toArray))).push (seqObj "list" vs.toArray 0)) (s.heap.objs.size+1)
  (fun b ob e=>Zan _ (by rw[Heap.get?_update_ne _ _ _ _ (ZaR (ZaA e))];exact Zan _ e)) (fun b ob e=>ZaR (Zfb (ZaA e)))
 have aaJ:Gx prog w A.in1.in1 E κ r (s.heap.objs.size+1) (((s.heap.push (seqObj "list" #[] 0)).update s.heap.objs.size (Obj.mapSeq (· ++vs.toArray))).push (seqObj "list" vs.toArray 0)) vs:=fun s6 h6=>by obtain⟨q1,q2⟩:=asks s6 h6;refine⟨fun g Q hq=>ZbR (q1 g Q hq) (fun _ _ x=>x) fun _ _ x=>x.elim,fun x y st Q m1 m2 hk hq=>?_⟩;exact ZbR (q2 x y st Q m1 m2 hk hq) (fun _ _ x=>x) fun _ _ x=>x.elim
 refine gc (ZcT (ZcD slot_list_sort ⟨_,qW,rfl⟩ entry_list_sort (ZbO o qW aaJ hz fun xs a1 a2=>⟨_,rfl,?_⟩) (args_list_sort _)));exact Zav ⟨_,rfl,h xs a1 a2⟩
end
def aM:List Int->List Int->Bool
 | [],[]=>false
 | [],_::_=>true
 |_::_,[]=>false
 |a::l,b::m=>if a=b then aM l m else decide (a<b)
theorem Jo:∀x y,aM x y=true->aM y x=false
 | [],[],h=>by cases h
 | [],_::_,_=>rfl
 |_::_,[],h=>by cases h
 |a::l,b::m,h=>by
  unfold aM at h |-;by_cases e:a=b
  ·rw[ZaQ e]at h;rw[ZaQ e.symm];exact Jo l m h
  ·rw[ZaN e]at h;rw[ZaN (Ze4 e)];have:=ZbP h;exact Zax .o
theorem JN:∀x y z,aM y x=false->aM z y=false->aM z x=false
 | [],[],[],_,_=>rfl
 | [],[],_::_,_,_=>rfl
 | [],_::_,[],_,h=>by cases h
 | [],_::_,_::_,_,_=>rfl
 |_::_,[],_,h,_=>by cases h
 |_::_,_::_,[],_,h=>by cases h
 |a::l,b::m,c::n,h1,h2=>by
  unfold aM at h1 h2 |-;by_cases e1:b=a
  ·rw[ZaQ e1]at h1;by_cases e2:c=b
   ·rw[ZaQ e2]at h2;rw[ZaQ (e2.trans e1)];exact JN l m n h1 h2
   ·rw[ZaN e2]at h2;have:=Ze1 h2;rw[ZaN .o];exact Zax .o
  ·rw[ZaN e1]at h1;have q1:=Ze1 h1;by_cases e2:c=b
   ·rw[ZaN .o];exact Zax .o
   ·rw[ZaN e2]at h2;have q2:=Ze1 h2;rw[ZaN .o];exact Zax .o
theorem Nv:∀x y,aM x y=false->aM y x=false->x=y
 | [],[],_,_=>rfl
 | [],_::_,h,_=>by cases h
 |_::_,[],_,h=>by cases h
 |a::l,b::m,h1,h2=>by
  unfold aM at h1 h2;by_cases e:a=b
  ·rw[ZaQ e]at h1;rw[ZaQ e.symm]at h2;rw[e,Nv l m h1 h2]
  ·rw[ZaN e]at h1;rw[ZaN (Ze4 e)]at h2;have q1:=Ze1 h1;have q2:=Ze1 h2;omega
theorem Zf1 (key:Value->List Int):Ord fun x y:Keyed=>aM (key x.1) (key y.1):=⟨fun _ _=>Jo _ _,fun _ _ _=>JN _ _ _⟩
section
variable {b:Bool}{Q:Bool->Shared->Prop}
theorem FG {x y:Int}(h:Q (decide (x<y)) s):wpAny (model prog w) A (oneLt' c (.int x t) (.int y u)) Q (fun _ _=>False) s:=by
 cases c with
 |true=>exact oneLt_int h
 |false=>exact kat_one _ _ (lt_int (Q:=PySem.W.BoolBack Q) h)
theorem NS :∀{us vs:List Value}{xs ys:List Int}{i:Nat},IntsAre us xs->IntsAre vs ys->fin=decide (xs.length<ys.length)->Q (aM xs ys) s->KatLex prog w A b fin Q (us.zip vs) i s
 |_,_,_,_,i,.nil,.nil,hf,h=>by subst hf;exact h
 |_,_,_,_,i,.nil,.cons _ _ _,hf,h=>by subst hf;exact h
 |_,_,_,_,i,.cons _ _ _,.nil,hf,h=>by subst hf;exact h
 |_,_,_,_,i,.cons x t ix,.cons y u iy,hf,h=>by
  rw[ZeI];refine kat_cons (ZcW (A:=A) (s:=s) x t y u _ _ _ _ ?_);unfold aM at h;by_cases e:x=y
  ·rw[ZaQ e]at h;rw[Zcr.mpr e];exact kat_yes (NS ix iy (by rw[hf];exact Zdl.mpr (by simp only[ZaU];lia)) h)
  ·rw[ZaN e]at h;rw[Zdf.mpr e];exact kat_no (FG h)
end
end PyProof.Rows.fS
namespace L2
open PySem PySem.Spec PyProof.Rows PyProof.Rows.fS
def dm (H:Hp)(v:V)(k:List Int):Prop:=∃t:Addr,v=.ref t/\H t=some (.tup (k.map V.int))
theorem dm.same (h:dm H v k)(s:ae H H'):dm H' v k:=by obtain⟨t,e,h1⟩:=h;exact⟨t,e,s _ _ h1⟩
def eY (h:Heap):Value->List Int
 | .ref t=>match h.get? t with
  |some o=>match o.data with
   | .seq aa _=>aa.toList.map numOf
   |_=> []
  |none=> []
 |_=> []
theorem Jg {o:Obj}{aa:Array Value}(e:h.get? t=some o)(d:o.data=.seq aa n)(i:IntsAre aa.toList k):eY h (.ref t)=k:=by
 unfold eY;dsimp only;rw[e];dsimp only;rw[d];dsimp only;clear d e;generalize aa.toList=us at i
 induction i with
 |nil=>rfl
 |cons x t _ ih=>rw[Zbv,ih];rfl
def toV:Value->V
 | .ref t=>.ref t
 |_=>.af
def aaM (h:Heap)(u:Value)(k:List Int):Prop:=∃(t:Addr) (o:Obj) (aa:Array Value) (n:Nat),u=.ref t/\h.get? t=some o/\o.cls=.type "tuple" /\o.data=.seq aa n/\IntsAre aa.toList k
theorem Jv :∀{xs:List α}{ys:List β}{x:α},Paired R xs ys->x∈xs->∃y∈ys,R x y
 |_,_,_,.cons h r,m=>by
  rcases Zas.mp m with rfl|m
  ·exact⟨_,Zaz,h⟩
  ·obtain⟨y,hy,q⟩:=Jv r m;exact⟨y,Zaq _ hy,q⟩
theorem We {α β:Type}{R:α->β->Prop}{f:α->β} :∀{xs:List α}{ys:List β},Paired R xs ys->(∀x y,R x y->f x=y)->xs.map f=ys
 |_,_,.nil,_=>rfl
 |_,_,.cons h r,e=>by rw[Zbv,e _ _ h,We r e]
theorem WV {vs:List Value}{p:Keyed}(h:p∈(pairsOf vs).toList):p.1∈vs/\p.2=p.1:=by
 unfold pairsOf at h;rw[Array.toList_zip,List.toList_toArray]at h;have:∀(l:List Value),p∈l.zip l->p.1∈l/\p.2=p.1:=fun l=>by
  induction l with
  |nil=>intro h;cases h
  |cons a l ih=>
   intro h;rw[ZeI]at h;rcases Zas.mp h with rfl|h
   ·exact⟨Zaz,rfl⟩
   ·exact⟨Zaq _ (ih h).1,(ih h).2⟩
 exact this vs h
abbrev I4:=Int×Int×Int×Int
def aW (q:I4):List Int:=[q.1,q.2.1,q.2.2.1,q.2.2.2]
theorem Ze5 (h:aW a=aW b):a=b:=by obtain⟨a1,a2,a3,a4⟩:=a;obtain⟨b1,b2,b3,b4⟩:=b;simp only[aW,Zjy,and_true]at h;obtain⟨h1,h2,h3,h4⟩:=h;subst h1 h2 h3 h4;rfl
def aaO (H:Hp)(v:V)(q:I4):Prop:=∃t t':Addr,v=.ref t/\H t=some (.tup [.ref t',.int q.2.2.1,.int q.2.2.2])/\H t'=some (.tup [.int q.1,.int q.2.1])
def uw (h:Heap)(u:Value)(k:I4):Prop:=∃(t:Addr) (o:Obj) (n:Nat) (t':Addr) (o':Obj) (n':Nat) (k1 k2 k3 k4:Tok),u=.ref t/\h.get? t=some o/\o.cls=.type "tuple" /\o.data=.seq #[.ref t',.int k.2.2.1 k3,.int k.2.2.2 k4] n/\
 h.get? t'=some o'/\o'.cls=.type "tuple" /\o'.data=.seq #[.int k.1 k1,.int k.2.1 k2] n'
theorem uw.keep (x:uw h u k)(kp:∀b o,b≠a->h.get? b=some o->h'.get? b=some o)(na:∀b o,h.get? b=some o->b≠a):uw h' u k:=by obtain⟨t,o,n,t',o',n',k1,k2,k3,k4,e,g,c,d,g',c',d'⟩:=x;exact⟨t,o,n,t',o',n',k1,k2,k3,k4,e,kp t o (na t o g) g,c,d,kp t' o' (na t' o' g') g',c',d'⟩
def Dg (h:Heap):Value->List Int
 | .ref t=>match h.get? t with
  |some o=>match o.data with
   | .seq aa _=>eY h (aa.toList.getD 0 .none)++(aa.toList.drop 1).map numOf
   |_=> []
  |none=> []
 |_=> []
theorem Zgl (x:uw h u k):Dg h u=aW k:=by obtain⟨t,o,n,t',o',n',k1,k2,k3,k4,rfl,g,c,d,g',c',d'⟩:=x;have e:=Jg g' d' (k:=[k.1,k.2.1]) (.cons _ _ (.cons _ _ .nil));unfold Dg;dsimp only;rw[g];dsimp only;rw[d];dsimp only;show eY h (.ref t')++_=_;rw[e];rfl
theorem OC :∀{us:List Value}{ks:List I4},Paired (uw h) us ks->∃fs,PySem.W.KatTups h us fs/\fs.length=us.length/\∀f∈fs,∃t o,f=.ref t/\h.get? t=some o/\o.cls=.type "tuple"
 |_,_,.nil=>⟨[],.nil,rfl,fun f hf=>by cases hf⟩
 |_,_,.cons (a:=u) (b:=k) q r=>by
  obtain⟨t,o,n,t',o',n',k1,k2,k3,k4,e,g,c,d,g',c',d'⟩:=q;obtain⟨fs,h1,h2,h3⟩:=OC r;subst e;refine⟨.ref t'::fs,.cons g c d rfl h1,by rw[ZaU,ZaU,h2],fun f hf=>?_⟩;rcases Zas.mp hf with rfl|hf
  ·exact⟨_,_,rfl,g',c'⟩
  ·exact h3 f hf
theorem NV (a b a' b':Int)(l m:List Int):aM (a::b::l) (a'::b'::m)=if [a,b]=[a',b'] then aM l m else HT.lexLt [a,b] [a',b']:=by
 by_cases e1:a=a'
 ·subst e1;by_cases e2:b=b'
  ·subst e2;simp[aM]
  ·simp[aM,e2,HT.lexLt]
 ·simp[aM,e1,HT.lexLt]
theorem Nk {o o':Obj}(hu:A.units<cLine)(g:s.heap.get? t=some o)(c:o.cls=.type "tuple")(d:o.data=.seq #[.int a k1,.int b k2] n)
  (g':s.heap.get? t'=some o') (c':o'.cls=.type "tuple") (d':o'.data=.seq #[.int a' k3,.int b' k4] n'):SeqAt.EqAt A s (.ref t) (.ref t') (decide ([a,b]=[a',b'])):=by
 by_cases h:t=t'
 ·subst h;rw[g]at g';cases g';rw[d]at d';have e:a=a'/\b=b':=by injection d' with e1 e2;simp at e1;exact⟨e1.1.1,e1.2.1⟩
  rw[e.1,e.2];have:=SeqAt.EqAt.same (A:=A) (s:=s) (.ref t);simpa using this
 ·refine SeqAt.EqAt.of_refs h ?_;have z:=SeqAt.RcAt.tuples (A:=A) (s:=s) (l:=t) (b:=t') (items:= #[.int a k1,.int b k2]) (items2:= #[.int a' k3,.int b' k4]) (e:=fun j=>if j=0 then a==a' else b==b') ⟨o,g,c,n,d⟩ ⟨o',g',c',n',d'⟩ hu (fun j h1 h2=>by
   have nQ:j<2:=h1
   match j,nQ with
   |0,_=>exact ZcW _ _ _ _
   |1,_=>exact ZcW _ _ _ _)
  have e:((List.range (min (#[Value.int a k1,Value.int b k2]:Array Value).size (#[Value.int a' k3,Value.int b' k4]:Array Value).size)).all (fun j=>if j=0 then a==a' else b==b')&&(#[Value.int a k1,Value.int b k2]:Array Value).size==(#[Value.int a' k3,Value.int b' k4]:Array Value).size)=decide ([a,b]=[a',b']):=by show((List.range 2).all (fun j=>if j=0 then a==a' else b==b')&&2==2)=_;rw[Zcc];simp[Zcw]
  rw[e]at z;exact z
structure FU (X:Cx)(b:Bool)(At:Hp->V->I4->Prop)(Tw:Heap->Value->I4->Prop)(kN:Heap->Value->List Int):Prop where
 of:∀{pins:List (Addr×Obj)}{σ:St}{H:Hp}{s:Shared}{v:V}{u:Value}{k:I4},ag X pins σ H s->At H v k->RelV v u->Tw s.heap u k/\toV u=v
 key:∀{h:Heap}{u:Value}{k:I4},Tw h u k->kN h u=aW k
 keep:∀{h h':Heap}{u:Value}{k:I4}{a:Addr},Tw h u k->(∀b o,b≠a->h.get? b=some o->h'.get? b=some o)->(∀b o,h.get? b=some o->b≠a)->Tw h' u k
 kind:∀{s:Shared}{us:List Value}{ks:List I4}{Q:SortKind->Shared->Prop}{E:Value->Shared->Prop},Paired (Tw s.heap) us ks->2<=us.length->Q (tuples' b) s->wpAny (model X.prog X.w) X.A.in1.in1 (keyKind' us.toArray) Q E s
 lt:∀{s:Shared}{u u':Value}{k k':I4}{Q:Bool->Shared->Prop}{E:Value->Shared->Prop},Tw s.heap u k->Tw s.heap u' k'->Q (aM (aW k) (aW k')) s->wpAny (model X.prog X.w) X.A.in1.in1 (keyLt' (tuples' b) u u') Q E s
theorem WM (T:FU X b At Tw kN):fh X (.builtin "sorted") (fun xs H Q=> ∃(p:Addr) (vs:List V) (ks:List I4),xs=[.ref p]/\ak X.K H p vs/\Paired (At H) vs ks/\vs.length<=1000/\
  ∀(q:Addr) (dq:List V) (ik:List I4),H q=none->ik.Perm ks->(ik.map aW).Pairwise (fun a b=>aM b a=false)->Paired (At H) dq ik->Q (.ref q) (upd H q (.lst dq))):=by
 intro pins s σ H xs us Q I r h;obtain⟨p,vs,ks,rfl,hp,pr,hz,q⟩:=h;obtain⟨u,rfl,ru⟩:=Zji r;cases ru;obtain⟨aa,rv,pl,_⟩:=I.list hp;have hl:=rv.length;have key:∀{vs:List V}{ks:List I4}{aa:List Value},Paired (At H) vs ks->Vals vs aa->Paired (fun u k=>Tw s.heap u k/\At H (toV u) k/\RelV (toV u) u) aa ks:=by
  intro vs ks aa pr
  induction pr generalizing aa with
  |nil=>intro rv;cases rv;exact .nil
  |cons hh _ ih=>
   intro rv;cases rv with
   |cons r1 r2=>obtain⟨x1,x2⟩:=T.of I hh r1;exact .cons ⟨x1,by rw[x2];exact⟨hh,r1⟩⟩ (ih r2)
 have tp:=key pr rv;have tu:Paired (Tw s.heap) aa ks:=Paired.bh tp fun _ _ h=>h.1;refine Zen (κ:=tuples' b) (r:=fun x y=>aM (kN s.heap x.1) (kN s.heap y.1)) (Zf1 _) pl.isList (fun h' a kp na s6 h6=>?_) .o fun xs IE Vm=>?_
 ·have Df:∀{u:Value}{k:I4},Tw s.heap u k->Tw s6.heap u k:=fun x=>T.keep (a:=a) x (fun b o hb e=>h6 b o hb (kp b o e)) na;refine⟨fun h2 Q' hq=>T.kind (Paired.bh tu fun u k x=>Df x) h2 hq,fun x y st Q' mx my hk hq=>?_⟩;rw[lt'_eq];refine ZaC (Zie ?_);rw[hk];obtain⟨Tq,_⟩:=WV mx;obtain⟨Tp,_⟩:=WV my;obtain⟨kx,_,nx⟩:=Jv tu Tq;obtain⟨ky,_,ny⟩:=Jv tu Tp;dsimp only at hq;rw[T.key nx,T.key ny]at hq;exact ZaC (ZjD (Zi4 (T.lt (Df nx) (Df ny) ⟨rfl,ZaI hq⟩)))
 ·have js:∀pq∈xs.toList,pq.1∈aa/\pq.2=pq.1:=fun pq DC=>WV ((Zcj.mp IE).mem_iff.mp DC);have eo:(xs.map (·.2)).toList=xs.toList.map (·.1):=by rw[Array.toList_map];exact List.map_congr_left fun pq DC=>(js pq DC).2
  have po:(xs.toList.map (·.1)).Perm aa:=by
   refine List.Perm.trans ((Zcj.mp IE).map _) ?_;unfold pairsOf;rw[Array.toList_zip,List.toList_toArray];have:∀l:List Value,(l.zip l).map (·.1)=l:=fun l=>by
    induction l with
    |nil=>rfl
    |cons a l ih=>rw[ZeI,Zbv,ih]
   rw[this]
  generalize aa6:xs.map (·.2)=out at eo
  let kk:Value->I4:=fun u=>match kN s.heap u with
   | [a,b,c,d]=>(a,b,c,d)
   |_=>(0,0,0,0)
  have Kr:∀u k,Tw s.heap u k->kk u=k:=fun u k x=>by
   show(match kN s.heap u with
    | [a,b,c,d]=>(a,b,c,d)
    |_=>(0,0,0,0))=k
   rw[T.key x];rfl
  have ek:aa.map kk=ks:=We tu Kr;have rel:∀u∈out.toList,At H (toV u) (kk u)/\aW (kk u)=kN s.heap u/\RelV (toV u) u:=fun u hu=>by rw[eo]at hu;obtain⟨k,_,hT,hS,hR⟩:=Jv tp (po.mem_iff.mp hu);rw[Kr u k hT];exact⟨hS,(T.key hT).symm,hR⟩
  have vals:∀l:List Value,(∀u∈l,At H (toV u) (kk u)/\aW (kk u)=kN s.heap u/\RelV (toV u) u)->Vals (l.map toV) l/\Paired (At H) (l.map toV) (l.map kk)/\(l.map kk).map aW=l.map (kN s.heap):=fun l=>by
   induction l with
   |nil=>intro _;exact⟨.nil,.nil,rfl⟩
   |cons u l ih=>intro hl;obtain⟨i1,i2,i3⟩:=ih fun v hv=>hl v (Zaq _ hv);obtain⟨a1,a2,a3⟩:=hl u Zaz;exact⟨.cons a3 i1,.cons a1 i2,by rw[Zbv,Zbv,Zbv,i3,a2]⟩
  obtain⟨v1,v2,v3⟩:=vals out.toList rel;obtain⟨e,he⟩:=sortedAll_at s.heap aa out;have lo:out.toList.length=aa.length:=by rw[eo];exact po.length_eq
  have hlen:(out.toList.map toV).length<=sizeLine:=by rw[Zat,lo,ZaH];omega
  refine⟨.ref (s.heap.objs.size+1),_,I.laid (t':=s.toks) (a:=s.heap.objs.size+1) (o:=.lst (out.toList.map toV)) (fun b o=>sortedAll_old) (ZhU _) ⟨hlen,out.toList,e,v1,by simpa using he⟩,rfl,q _ _ (out.toList.map kk) (I.au.fresh (ZhU _)) ?_ ?_ v2⟩
  ·rw[<-ek,eo];exact po.map _
  ·rw[v3,eo,Zdq,Zc0];exact Vm
def nY (H:Hp)(v:V)(q:I4):Prop:=∃t t':Addr,v=.ref t/\H t=some (.tup [.int q.1,.int q.2.1,.ref t'])/\H t'=some (.tup [.int q.2.2.1,.int q.2.2.2])
def O1 (h:Heap)(u:Value)(k:I4):Prop:=∃(t:Addr) (o:Obj) (n:Nat) (t':Addr) (o':Obj) (n':Nat) (k1 k2 k3 k4:Tok),u=.ref t/\h.get? t=some o/\o.cls=.type "tuple" /\o.data=.seq #[.int k.1 k1,.int k.2.1 k2,.ref t'] n/\
 h.get? t'=some o'/\o'.cls=.type "tuple" /\o'.data=.seq #[.int k.2.2.1 k3,.int k.2.2.2 k4] n'
def Iv (h:Heap):Value->List Int
 | .ref t=>match h.get? t with
  |some o=>match o.data with
   | .seq aa _=>(aa.toList.take 2).map numOf++eY h (aa.toList.getD 2 .none)
   |_=> []
  |none=> []
 |_=> []
theorem OB :∀{us:List Value}{ks:List I4},Paired (O1 h) us ks->∃fs,PySem.W.KatTups h us fs/\fs.length=us.length/\∀f∈fs,∃n t,f=.int n t
 |_,_,.nil=>⟨[],.nil,rfl,fun f hf=>by cases hf⟩
 |_,_,.cons (a:=u) (b:=k) q r=>by
  obtain⟨t,o,n,t',o',n',k1,k2,k3,k4,e,g,c,d,g',c',d'⟩:=q;obtain⟨fs,h1,h2,h3⟩:=OB r;subst e;refine⟨.int k.1 k1::fs,.cons g c d rfl h1,by rw[ZaU,ZaU,h2],fun f hf=>?_⟩;rcases Zas.mp hf with rfl|hf
  ·exact⟨_,_,rfl⟩
  ·exact h3 f hf
theorem ZgH (hu:X.A.units+2<cLine):FU X true nY O1 Iv where
 of:=fun {pins σ H s v u k} I hh r1=>by
  obtain⟨t,t',rfl,ht,dw⟩:=hh;cases r1;obtain⟨i1,ri,⟨o,go,oc,n,od⟩,_⟩:=I.tuple (ah.of ht);obtain⟨i2,Cv,⟨o',go',CM,n',CL⟩,_⟩:=I.tuple (ah.of dw);refine⟨?_,rfl⟩;cases ri with
  |cons a1 a2=>
   cases a2 with
   |cons a3 a4=>
    cases a4 with
    |cons a5 a6=>
     cases a6;cases Cv with
     |cons b1 b2=>
      cases b2 with
      |cons b3 b4=>cases b4;cases a5;obtain⟨k1,rfl⟩:=a1;obtain⟨k2,rfl⟩:=a3;obtain⟨k3,rfl⟩:=b1;obtain⟨k4,rfl⟩:=b3;exact⟨t,o,n,t',o',n',k1,k2,k3,k4,rfl,go,oc,od,go',CM,CL⟩
 key:=fun {h u k} x=>by obtain⟨t,o,n,t',o',n',k1,k2,k3,k4,rfl,g,c,d,g',c',d'⟩:=x;have e:=Jg g' d' (k:=[k.2.2.1,k.2.2.2]) (.cons _ _ (.cons _ _ .nil));unfold Iv;dsimp only;rw[g];dsimp only;rw[d];dsimp only;show _++eY h (.ref t')=_;rw[e];rfl
 keep:=fun x kp na=>by obtain⟨t,o,n,t',o',n',k1,k2,k3,k4,e,g,c,d,g',c',d'⟩:=x;exact⟨t,o,n,t',o',n',k1,k2,k3,k4,e,kp t o (na t o g) g,c,d,kp t' o' (na t' o' g') g',c',d'⟩
 kind:=fun {s us ks Q E} A1 h2 hq=>by obtain⟨fs,kt,kl,kf⟩:=OB A1;refine PySem.W.kat_kind (T:=.type "int") kt .o (fun v hv=>?_) .r hq;obtain⟨n,t,rfl⟩:=kf v hv;exact PySem.W.Looks.of_pure rfl
 lt:=fun {s u u' kx ky Q E} nx ny hq=>by
  obtain⟨tx,ox,n1,AY,R3,C2,c1,c2,c3,c4,rfl,gx,cx,dx,xn,xG,xE⟩:=nx;obtain⟨ty,oy,n2,AX,R0,C1,d1,d2,d3,d4,rfl,gy,cy,dy,xm,xF,xD⟩:=ny;refine PySem.W.kat_lt gx dx gy dy ?_;show PySem.W.KatLex _ _ _ true (decide (3<3)) _ [(Value.int kx.1 c1,Value.int ky.1 d1),(Value.int kx.2.1 c2,Value.int ky.2.1 d2),(Value.ref AY,Value.ref AX)] 0 _;refine Zig (ZcW kx.1 c1 ky.1 d1 _ _ _ _ ?_);have e1:aM (aW kx) (aW ky)=if kx.1=ky.1 then aM [kx.2.1,kx.2.2.1,kx.2.2.2] [ky.2.1,ky.2.2.1,ky.2.2.2] else decide (kx.1<ky.1):=rfl
  rw[e1]at hq;by_cases h1:kx.1=ky.1
  ·rw[ZaQ h1]at hq;rw[Zcr.mpr h1];refine Ziy (Zig (ZcW kx.2.1 c2 ky.2.1 d2 _ _ _ _ ?_));have e2:aM [kx.2.1,kx.2.2.1,kx.2.2.2] [ky.2.1,ky.2.2.1,ky.2.2.2]=if kx.2.1=ky.2.1 then aM [kx.2.2.1,kx.2.2.2] [ky.2.2.1,ky.2.2.2] else decide (kx.2.1<ky.2.1):=rfl
   rw[e2]at hq;by_cases h2:kx.2.1=ky.2.1
   ·rw[ZaQ h2]at hq;rw[Zcr.mpr h2];refine Ziy (Zig (Nk (A:=X.A.in1.in1) hu xn xG xE xm xF xD _ _ _ _ ?_));rw[NV]at hq;by_cases e:[kx.2.2.1,kx.2.2.2]=[ky.2.2.1,ky.2.2.2]
    ·rw[ZaQ e]at hq;rw[Zau e];exact Ziy (PySem.W.kat_nil hq)
    ·rw[ZaN e]at hq;rw[Zax e];exact ZiL (PySem.W.kat_one _ _ (HT.zt ⟨_,xn,xG,C2,xE⟩ ⟨_,xm,xF,C1,xD⟩ (ns:=[kx.2.2.1,kx.2.2.2]) (ms:=[ky.2.2.1,ky.2.2.2]) (.cons _ _ (.cons _ _ .nil)) (.cons _ _ (.cons _ _ .nil)) hu hq))
   ·rw[ZaN h2]at hq;rw[Zdf.mpr h2];exact ZiL (FG hq)
  ·rw[ZaN h1]at hq;rw[Zdf.mpr h1];exact ZiL (FG hq)
theorem ZgG (hu:X.A.units+2<cLine):FU X false aaO uw Dg where
 of:=fun {pins σ H s v u k} I hh r1=>by
  obtain⟨t,t',rfl,ht,dw⟩:=hh;cases r1;obtain⟨i1,ri,⟨o,go,oc,n,od⟩,_⟩:=I.tuple (ah.of ht);obtain⟨i2,Cv,⟨o',go',CM,n',CL⟩,_⟩:=I.tuple (ah.of dw);refine⟨?_,rfl⟩;cases ri with
  |cons a1 a2=>
   cases a2 with
   |cons a3 a4=>
    cases a4 with
    |cons a5 a6=>
     cases a6;cases Cv with
     |cons b1 b2=>
      cases b2 with
      |cons b3 b4=>cases b4;cases a1;obtain⟨k3,rfl⟩:=a3;obtain⟨k4,rfl⟩:=a5;obtain⟨k1,rfl⟩:=b1;obtain⟨k2,rfl⟩:=b3;exact⟨t,o,n,t',o',n',k1,k2,k3,k4,rfl,go,oc,od,go',CM,CL⟩
 key:=Zgl
 keep:=.keep
 kind:=fun {s us ks Q E} A1 h2 hq=>by obtain⟨fs,kt,kl,kf⟩:=OC A1;refine PySem.W.kat_kind (T:=.type "tuple") kt .o (fun v hv=>?_) .r hq;obtain⟨t,o,rfl,g,c⟩:=kf v hv;rw[<-c];exact(PySem.W.Looks.ld g).andThen .now
 lt:=fun {s u u' kx ky Q E} nx ny hq=>by
  obtain⟨tx,ox,n1,AY,R3,C2,c1,c2,c3,c4,rfl,gx,cx,dx,xn,xG,xE⟩:=nx;obtain⟨ty,oy,n2,AX,R0,C1,d1,d2,d3,d4,rfl,gy,cy,dy,xm,xF,xD⟩:=ny;refine PySem.W.kat_lt gx dx gy dy ?_;show PySem.W.KatLex _ _ _ false (decide (3<3)) _ ((Value.ref AY,Value.ref AX)::([Value.int kx.2.2.1 c3,Value.int kx.2.2.2 c4].zip [Value.int ky.2.2.1 d3,Value.int ky.2.2.2 d4])) 0 _;refine Zig (Nk (A:=X.A.in1.in1) hu xn xG xE xm xF xD _ _ _ _ ?_);have DP:aM (aW kx) (aW ky)=if [kx.1,kx.2.1]=[ky.1,ky.2.1] then aM [kx.2.2.1,kx.2.2.2] [ky.2.2.1,ky.2.2.2] else HT.lexLt [kx.1,kx.2.1] [ky.1,ky.2.1]:=NV ..
  rw[DP]at hq;by_cases e:[kx.1,kx.2.1]=[ky.1,ky.2.1]
  ·rw[ZaQ e]at hq;rw[Zau e];exact Ziy (NS (xs:=[kx.2.2.1,kx.2.2.2]) (ys:=[ky.2.2.1,ky.2.2.2]) (.cons _ _ (.cons _ _ .nil)) (.cons _ _ (.cons _ _ .nil)) rfl hq)
  ·rw[ZaN e]at hq;rw[Zax e];exact ZiL (PySem.W.kat_one _ _ (HT.zt ⟨_,xn,xG,C2,xE⟩ ⟨_,xm,xF,C1,xD⟩ (ns:=[kx.1,kx.2.1]) (ms:=[ky.1,ky.2.1]) (.cons _ _ (.cons _ _ .nil)) (.cons _ _ (.cons _ _ .nil)) hu hq))
end L2
namespace PyProof.Rows.fS
open PySem
def kS (lt:Value->Value->Bool):Value->List Value->Value
 |b,[]=>b
 |b,v::r=>kS lt (if lt v b=true then v else b) r
section
variable {R:Result->Shared->Prop}{lt:Value->Value->Bool}{vs:List Value}{h0:Heap}{kw:List (Str×Value)}
def Kp (h0 h:Heap):Prop:=∀b o,h0.get? b=some o->h.get? b=some o
theorem ZeY (hh:A.in1.handled=none)(zN:l≠I)(rB:S≠I)(zY:S≠l)(zI:h0.get? I=none)(zS:h0.get? S=none)
  (Eb:∀(s':Shared) u v (Q:Value->Shared->Prop) (E:Value->Shared->Prop),Kp h0 s'.heap->u∈vs->v∈vs->Q (.bool (lt u v)) s'->wpAny (model prog w) A.in1 (richCompare .Lt u v) Q E s'):
  ∀(k j:Nat) (s:Shared) (vb:Value) (c:Nat),vs.length-j=k->j<=vs.length->s.heap.IsListIter I l j->s.heap.IsList l vs.toArray->vb∈vs->Kp h0 s.heap->
  s.heap.get? S=some {cls:=.type "list",dict:=none,data:=.seq #[vb,vb] c,slots:= #[]}->
  (∀h' tk,Kp h0 h'->R (.ok (.ret (kS lt vb (vs.drop j)))) {s with heap:=h',toks:=tk})->
  codeAny (model prog w) A (.builtin "min.loop" ⟨[.ref I,.none,.ref S],kw⟩) R s:=by
 have wJ:(toString "min" ++toString ".loop" :String)= "min.loop" :=.d;have W:=Walks.list (prog:=prog) (w:=w) (A:=A.in1) hh I l zN vs.toArray;have hsz:vs.toArray.size=vs.length:=Zar ..;have ne:∀b o,h0.get? b=some o->b∉[I]/\b≠S:=fun b o e=>⟨fun m=>(by rw[ZaE.mp m,zI]at e;cases e),fun m=>(by rw[m,zS]at e;cases e)⟩;intro k
 induction k with
 |zero=>intro j s vb c hk hj hit DM hb DN hS hR;have oY:j=vs.toArray.size:=.o;refine Ziv F.entry_min_loop ?_;rw[Zim Zih _];show wpAny _ A.in1 (seqItems? (.ref S) >>=_) _ _ s;refine gc (Zcv hS rfl ?_);show wpAny _ A.in1 (tryCatch (pyNext (.ref I)) _ >>=_) _ _ s;refine gc (Zh4 (W.done s _ _ (oY▸⟨hit,DM⟩) fun h' tk bR=>?_));have xk:=bR S _ (by simpa using rB) hS;show wpAny _ A.in1 (updateSeq S (fun _=> #[]) >>=_) _ _ _;refine gc ?_;refine Zjz xk rfl (gc (Ziw (Zav ?_)));have e:vs.drop j=[]:=Zb5 .o;rw[e]at hR;exact hR _ tk fun b o q=>(Zb4 _ _ (Ze4 (ne b o q).2)).trans (bR b o (ne b o q).1 (DN b o q))
 |succ k ih=>
  intro j s vb c hk hj hit DM hb DN hS hR;have bj:j<vs.length:=.o;refine Ziv F.entry_min_loop ?_;rw[Zim Zih _];show wpAny _ A.in1 (seqItems? (.ref S) >>=_) _ _ s;refine gc (Zcv hS rfl ?_);show wpAny _ A.in1 (tryCatch (pyNext (.ref I)) _ >>=_) _ _ s;refine gc (Zh4 (W.item j s _ _ .o ⟨hit,DM⟩ fun v h' tk hP wB bR=>?_));have hv:vs[j]?=some v:=by simpa using hP
  have IG:v∈vs:=Zao hv;have xk:=bR S _ (by simpa using rB) hS;have vZ:Kp h0 h':=fun b o q=>bR b o (ne b o q).1 (DN b o q);have ed:vs.drop j=v::vs.drop (j+1):=by have e2:vs[j]=v:=(Zai.mp hv).2;rw[Zd7 bj,e2]
  rw[ed]at hR;show wpAny _ A.in1 (tryCatch (holding [v,v] (richCompare .Lt v vb >>=_)) _ >>=_) _ _ _;refine gc (Zh4 (ZcT (gc (Eb _ v vb _ _ vZ IG hb ?_))));refine gc (ZcT (ZcP ?_));refine gc (Ziw (Zav ?_));cases cj:lt v vb with
  |true=>
   simp only[Zgx];refine gc ?_;refine Zjz xk rfl (gc (Ziw ?_));rw[wJ];have fr:=W.frame (j+1) _ (h'.update S (Obj.mapSeq fun _=> #[v,v])) wB fun b wZ o e=>(Zb4 _ _ (fun h:S=b=>by
    simp only[Zas,Zbk,Zcp]at wZ;rcases wZ with q|q
    ·exact rB (h.trans q)
    ·exact zY (h.trans q))).trans e
   refine Zav ⟨Zi7 Zih _,ih (j+1) _ v _ .o bj fr.1 fr.2 IG (fun b o q=>(Zb4 _ _ (Ze4 (ne b o q).2)).trans (vZ b o q)) (Zdo _ xk rfl) fun gp uP gk=>?_⟩;have z:=hR gp uP gk;unfold kS at z;rw[ZaQ cj]at z;exact z
  |false=>simp only[ZcX,Zh2];refine gc (Ziw ?_);rw[wJ];refine Zav ⟨Zi7 Zih _,ih (j+1) _ vb c .o bj wB.1 wB.2 hb vZ xk fun gp uP gk=>?_⟩;have z:=hR gp uP gk;unfold kS at z;rw[ZaN (by rw[cj];exact Zam)]at z;exact z
theorem W5 (a v:Value):argsOk "min" ⟨[a],[(Str.ofString "default",v)]⟩:=by unfold argsOk;kernel_rfl
theorem Zd4 (ha:argsOk "min" ⟨[.ref l],kw⟩)(hb:Builtin.Builtins.bindParams "min" ["key","default"] 0 ⟨[],kw⟩=pure [none,d])(hh:A.in1.handled=none)(tV:s.heap.IsList l vs.toArray)
  (Eb:∀(s':Shared) u v (Q:Value->Shared->Prop) (E:Value->Shared->Prop),Kp s.heap s'.heap->u∈vs->v∈vs->Q (.bool (lt u v)) s'->wpAny (model prog w) A.in1 (richCompare .Lt u v) Q E s')
  (h1:∀h' tk,vs=[]->Kp s.heap h'->∃z,d=some z/\Q z {s with heap:=h',toks:=tk}) (h2:∀v r h' tk,vs=v::r->Kp s.heap h'->Q (kS lt v r) {s with heap:=h',toks:=tk}):
  wpAny (model prog w) A (call (.builtin "min") [.ref l] kw) Q E s:=by
 have wJ:(toString "min" ++toString ".loop" :String)= "min.loop" :=.d;obtain⟨ol,V1,_⟩:=id tV;have Kk:l<s.heap.objs.size:=ZaA V1;refine kmk_tree PySem.F.kind_min PySem.F.plain_min PySem.F.entry_min ha ?_;show wpAny _ A.in1 (Builtin.Builtins.bindParams "min" ["key","default"] 0 ⟨[],kw⟩ >>=_) _ _ s;refine gc (ZjK hb ?_);refine gc (Zav ?_);refine gc (ZhT tV ?_);refine gc (ZjY ?_ (ZaJ _));rw[wJ];have hS:(s.heap.push {cls:=.type "list_iterator",data:=.fields #[.ref l,.int 0 0]}).objs.size=s.heap.objs.size+1:=size_push' ..;have zN:l≠s.heap.objs.size:=ZaR Kk;have rB:(s.heap.push {cls:=.type "list_iterator",data:=.fields #[.ref l,.int 0 0]}).objs.size≠s.heap.objs.size:=by rw[hS];exact Zh6 (Zib _)
 have zY:(s.heap.push {cls:=.type "list_iterator",data:=.fields #[.ref l,.int 0 0]}).objs.size≠l:=by rw[hS];exact Zh6 (Zfb Kk)
 have zI:s.heap.get? s.heap.objs.size=none:=Zij (Zal _);have zS:s.heap.get? (s.heap.push {cls:=.type "list_iterator",data:=.fields #[.ref l,.int 0 0]}).objs.size=none:=Zij (by rw[hS];exact ZhU _);refine Zav ⟨Zi7 ZhS _,?_⟩;have Dd:Kp s.heap ((s.heap.push {cls:=.type "list_iterator",data:=.fields #[.ref l,.int 0 0]}).push (seqObj "list" #[] 0)):=fun b o e=>Zan _ (Zan _ e);have gI:((s.heap.push {cls:=.type "list_iterator",data:=.fields #[.ref l,.int 0 0]}).push (seqObj "list" #[] 0)).get? s.heap.objs.size=some {cls:=.type "list_iterator",data:=.fields #[.ref l,.int 0 0]} :=
  Zan _ (ZaD _ rfl)
 have gS:((s.heap.push {cls:=.type "list_iterator",data:=.fields #[.ref l,.int 0 0]}).push (seqObj "list" #[] 0)).get? (s.heap.push {cls:=.type "list_iterator",data:=.fields #[.ref l,.int 0 0]}).objs.size=some (seqObj "list" #[] 0):=ZaD _ rfl;have lH:((s.heap.push {cls:=.type "list_iterator",data:=.fields #[.ref l,.int 0 0]}).push (seqObj "list" #[] 0)).IsList l vs.toArray:=tV.at fun o e=>Dd _ _ e;have W:=Walks.list (prog:=prog) (w:=w) (A:=A.in1) hh s.heap.objs.size l zN vs.toArray;have hsz:vs.toArray.size=vs.length:=Zar ..;have ne:∀b o,s.heap.get? b=some o->b∉[s.heap.objs.size]/\b≠(s.heap.push {cls:=.type "list_iterator",data:=.fields #[.ref l,.int 0 0]}).objs.size:=fun b o e=>⟨fun m=>(by rw[ZaE.mp m,zI]at e;cases e),fun m=>(by rw[m,zS]at e;cases e)⟩;refine Ziv PySem.F.entry_min_loop ?_;rw[Zim ZhS _];show wpAny _ A.in1 (seqItems? (.ref _) >>=_) _ _ _;refine gc (Zcv gS rfl ?_);show wpAny _ A.in1 (tryCatch (pyNext (.ref s.heap.objs.size)) _ >>=_) _ _ _;cases lS:vs with
 |nil=>refine gc (Zh4 (W.done _ _ _ ⟨⟨_,gI,rfl,by rw[hsz,lS];rfl⟩,lH⟩ fun h' tk bR=>?_));obtain⟨z,rfl,hz⟩:=h1 h' tk lS fun b o q=>bR b o (ne b o q).1 (Dd b o q);exact gc (Zdc (Zav hz))
 |cons v0 r0=>
  refine gc (Zh4 (W.item 0 _ _ _ (by rw[hsz,lS];exact Nat.succ_pos _) ⟨⟨_,gI,rfl,rfl⟩,lH⟩ fun v h' tk' hP wB bR=>?_));have hv:v0=v:=by rw[lS]at hP;simpa using hP
  subst hv;have K8:=bR _ _ (by simpa using rB) gS;have vZ:Kp s.heap h':=fun b o q=>bR b o (ne b o q).1 (Dd b o q);show wpAny _ A.in1 (updateSeq (s.heap.push {cls:=.type "list_iterator",data:=.fields #[.ref l,.int 0 0]}).objs.size (fun _=> #[v0,v0]) >>=_) _ _ _;refine gc ?_;refine Zjz K8 rfl ?_;rw[wJ];have fr:=W.frame (0+1) _ (h'.update (s.heap.push {cls:=.type "list_iterator",data:=.fields #[.ref l,.int 0 0]}).objs.size (Obj.mapSeq fun _=> #[v0,v0])) wB fun b wZ o e=>(Zb4 _ _ (fun h=>by
    simp only[Zas,Zbk,Zcp]at wZ;rcases wZ with q|q
    ·exact rB (h.trans q)
    ·exact zY (h.trans q))).trans e
  refine Zav ⟨Zi7 ZhS _,ZeY (lt:=lt) (vs:=vs) (h0:=s.heap) hh zN rB zY zI zS Eb _ 1 _ v0 _ rfl (by rw[lS];exact Nat.succ_le_succ (ZaJ _)) fr.1 fr.2 (by rw[lS];exact Zaz) (fun b o q=>(Zb4 _ _ (Ze4 (ne b o q).2)).trans (vZ b o q)) (Zdo _ K8 rfl) fun gp uP gk=>?_⟩;have z:=h2 v0 r0 gp uP lS gk;rw[lS];exact z
end
theorem W8 :∀{r:List Value}{b:Value},kS lt b r∈b::r
 | [],b=>Zaz
 |v::r,b=>by
  unfold kS;rcases Zas.mp (W8 (lt:=lt) (r:=r) (b:=if lt v b=true then v else b)) with h|h
  ·rw[h];by_cases e:lt v b=true
   ·rw[ZaQ e];exact Zaq _ Zaz
   ·rw[ZaN e];exact Zaz
  ·exact Zaq _ (Zaq _ h)
theorem UO (key:Value->List Int):∀{r:List Value}{b:Value},∀v∈b::r,aM (key v) (key (kS (fun a b=>aM (key a) (key b)) b r))=false
 | [],b,v,hv=>by
  rw[ZaE.mp hv];cases h:aM (key b) (key (kS (fun a b=>aM (key a) (key b)) b [])) with
  |false=>rfl
  |true=>have:=Jo _ _ h;exact absurd (h.symm.trans this) .d
 |w::r,b,v,hv=>by
  have ih:=fun v hv=>UO key (r:=r) (b:=if aM (key w) (key b)=true then w else b) v hv;show aM (key v) (key (kS (fun a b=>aM (key a) (key b)) (if aM (key w) (key b)=true then w else b) r))=false;have hd:=ih _ Zaz;by_cases e:aM (key w) (key b)=true
  ·rw[ZaQ e]at hd ih |-;rcases Zas.mp hv with rfl|hv
   ·exact JN _ _ _ hd (Jo _ _ e)
   ·exact ih v hv
  ·rw[ZaN e]at hd ih |-;rcases Zas.mp hv with rfl|hv
   ·exact hd
   ·rcases Zas.mp hv with rfl|hv
    ·exact JN _ _ _ hd (by simpa using e)
    ·exact ih v (Zaq _ hv)
end PyProof.Rows.fS
namespace L2
open PySem PySem.Spec PyProof.Rows PyProof.Rows.fS
theorem Jw:∀a b:List Int,HT.lexLt a b=aM a b
 | [],[]=>rfl
 | [],_::_=>rfl
 |_::_,[]=>rfl
 |x::a,y::b=>by unfold aM;rw[HT.Ir,Jw a b]
section
variable {σ:St}
theorem Fp (I:ag X pins σ H s):∀{vs:List V}{ks:List (List Int)}{aa:List Value},Paired (dm H) vs ks->Vals vs aa->∀u∈aa,∃v∈vs,∃k∈ks,RelV v u/\dm H v k/\aaM s.heap u k:=by
 intro vs ks aa pr
 induction pr generalizing aa with
 |nil=>intro rv;cases rv;intro u hu;cases hu
 |cons hh _ ih=>
  intro rv;cases rv with
  |cons r1 r2=>
   intro u hu;rcases Zas.mp hu with rfl|hu
   ·obtain⟨t,e,ht⟩:=id hh;obtain⟨items,ri,⟨o,go,oc,n,od⟩,_⟩:=I.tuple (ah.of ht);refine⟨_,Zaz,_,Zaz,r1,hh,?_⟩;subst e;cases r1;exact⟨t,o,_,n,rfl,go,oc,od,by simpa using YL ri⟩
   ·obtain⟨v,hv,k,hk,w⟩:=ih r2 u hu;exact⟨v,Zaq _ hv,k,Zaq _ hk,w⟩
theorem ZfM (I:ag X pins σ H s):∀{vs:List V}{ks:List (List Int)}{aa:List Value},Paired (dm H) vs ks->Vals vs aa->∀k∈ks,∃u∈aa,eY s.heap u=k:=by
 intro vs ks aa pr
 induction pr generalizing aa with
 |nil=>intro rv k hk;cases hk
 |cons hh _ ih=>
  intro rv;cases rv with
  |cons r1 r2=>
   intro k hk;rcases Zas.mp hk with rfl|hk
   ·obtain⟨t,e,ht⟩:=id hh;obtain⟨items,ri,⟨o,go,oc,n,od⟩,_⟩:=I.tuple (ah.of ht);refine⟨_,Zaz,?_⟩;subst e;cases r1;exact Jg go od (by simpa using YL ri)
   ·obtain⟨u,hu,e⟩:=ih r2 k hk;exact⟨u,Zaq _ hu,e⟩
theorem OQ {Q:VK}(ha:argsOk "min" ⟨[.ref a],kw⟩)(hb:Builtin.Builtins.bindParams "min" ["key","default"] 0 ⟨[],kw⟩=pure [none,d])(hc:X.calm=true)(hu:X.A.units+1<cLine)
  (I:ag X pins σ H s) (hq:ak X.K H a vs) (pr:Paired (dm H) vs ks) (q1:vs=[]->∃z v,d=some z/\RelV v z/\Q v H) (q2:∀v k,v∈vs->k∈ks->dm H v k->(∀k'∈ks,aM k' k=false)->Q v H):
  wpAny (model X.prog X.w) X.A (call (.builtin "min") [.ref a] kw) (fun u s'=> ∃v H',ag X pins σ H' s'/\RelV v u/\Q v H') E s:=by
 obtain⟨aa,rv,pl,_⟩:=I.list hq;refine Zd4 (lt:=fun u v=>aM (eY s.heap u) (eY s.heap v)) ha hb (I.ok.hd hc) pl.isList (fun s' u v Q' E' kp nC Dw fL=>?_) (fun h' tk e kp=>?_) (fun v0 r h' tk e kp=>?_)
 ·obtain⟨_,_,ku,_,_,_,tu,ou,iu,nu,rfl,gu,cu,du,ju⟩:=Fp I pr rv u nC;obtain⟨_,_,kv,_,_,_,tv,ov,iv,nv,rfl,gv,cv,dv,jv⟩:=Fp I pr rv v Dw;have e1:eY s.heap (.ref tu)=ku:=Jg gu du ju;have e2:eY s.heap (.ref tv)=kv:=Jg gv dv jv
  try dsimp only at fL
  rw[e1,e2,<-Jw]at fL;exact HT.zt ⟨_,kp _ _ gu,cu,nu,du⟩ ⟨_,kp _ _ gv,cv,nv,dv⟩ ju jv hu fL
 ·subst e;cases rv;obtain⟨z,v,e,r,q⟩:=q1 rfl;exact⟨z,e,v,H,I.kept kp,r,q⟩
 ·have hm:=W8 (lt:=fun u v=>aM (eY s.heap u) (eY s.heap v)) (r:=r) (b:=v0);have hle:=UO (eY s.heap) (r:=r) (b:=v0);generalize kS (fun u v=>aM (eY s.heap u) (eY s.heap v)) v0 r=m at hm hle;rw[<-e]at hm hle;obtain⟨v,hv,k,hk,Rh,tT,tu,ou,iu,nu,e3,gu,cu,du,ju⟩:=Fp I pr rv m hm;have e1:eY s.heap m=k:=by rw[e3];exact Jg gu du ju
  refine⟨v,H,I.kept kp,Rh,q2 v k hv hk tT fun k' bR=>?_⟩;obtain⟨u',tR,e4⟩:=ZfM I pr rv k' bR;have:=hle u' tR;rw[e1,e4]at this;exact this
end
def Qj (K:Zke)(te:TE):TE:=fun σ H Q=>te σ H fun v H1=> ∃(a:Addr) (vs:List V) (ks:List (List Int)),v=.ref a/\ak K H1 a vs/\Paired (dm H1) vs ks/\(vs=[]->Q .af H1)/\
 ∀v k,v∈vs->k∈ks->dm H1 v k->(∀k'∈ks,aM k' k=false)->Q v H1
theorem ZfY {p px kp vY:Pos}(hc:X.calm=true)(hu:X.A.units+1<cLine)(hg:Gl X "min")(hm:X.mg "min" =none)(he:PE X (.Name x px) te)
  (dc:(backToKw pos (keywordEach [⟨some "default",.Constant .none 0 kp,vY⟩] X.env)).filterMap (·.1)=[Str.ofString "default"]:=by rfl):
  PE X (.Call (.Name "min" p) [.Name x px] [⟨some "default",.Constant .none 0 kp,vY⟩] pos) (Qj X.K te):=by
 intro pins s σ H Q I h;refine ZcU (Jx I hg hm PyProof.Rows.Boot.«min» ?_ .d .d);have pa:PA X [.Name x px] (aI te bD):=Za he Zb;have pk:PK X [⟨some "default",.Constant .none 0 kp,vY⟩] (aI (tC .af) bD):=ZfU ZW ZgM;refine PyProof.Rows.callWith_kw (aH (pa pos pins s σ H (fun us H1=>match us with
  | [v]=> ∃(a:Addr) (vs:List V) (ks:List (List Int)),v=.ref a/\ak X.K H1 a vs/\Paired (dm H1) vs ks/\(vs=[]->Q .af H1)/\∀v k,v∈vs->k∈ks->dm H1 v k->(∀k'∈ks,aM k' k=false)->Q v H1
  |_=>False) I h) fun us s1 ⟨bT,H1,I1,r1,q1⟩=>?_)
 match bT,q1 with
 | [v],q1=>obtain⟨a,vs,ks,rfl,hq,pr,q1,q2⟩:=q1;refine aH (pk pos pins s1 σ H1 (fun zs H2=>zs=[.af]/\H2=H1) I1 ⟨rfl,rfl⟩) fun ws s2 ⟨zs,H2,I2,rz,e1,e2⟩=>?_;subst e1 e2;obtain⟨u,rfl,ru⟩:=Zji r1;obtain⟨z,rfl,Rf⟩:=Zji rz;cases ru;have ez:z=.none:=Rf;subst ez;rw[dc];show wpAny _ _ (call (.builtin "min") [.ref a] [(Str.ofString "default",.none)]) _ _ _;exact OQ (W5 _ _) rfl hc hu I2 hq pr (fun e=>⟨.none,.af,rfl,rfl,q1 e⟩) q2
end L2
namespace L2
open PySem PySem.Spec PyProof.Rows
def F1 (K:Zke)(l1 l2:Addr):It:=
 ⟨fun i H=> ∃xs ys x y,ak K H l1 xs/\ak K H l2 ys/\xs[i]?=some x/\ys[i]?=some y,
  fun i H v H'=> ∃(T:Addr) (x y:V),v=.ref T/\H T=none/\H'=upd H T (.par [x,y])/\∀xs ys,ak K H l1 xs->ak K H l2 ys->xs[i]?=some x/\ys[i]?=some y,
  fun i H=> ∃xs ys,ak K H l1 xs/\ak K H l2 ys/\min xs.length ys.length=i⟩
theorem Zdu {P:Program}{K:Zke}(z TI TO i1 i2 l1 l2:Addr)(D:ZipApart z TI TO i1 i2 l1 l2):
  Turn P w K (.Tuple elts kk pos) (F1 K l1 l2) [z,TI,TO,i1,i2] z (fun i h=>IsZip h z TI TO .none/\IsPair h TI (.ref i1) (.ref i2)/\(∃a b,IsPair h TO a b)/\h.IsListIter i1 l1 i/\h.IsListIter i2 l2 i) where
 mem:=.s
 obj:=fun i h st b hb=>by obtain⟨a1,a2,⟨u,v,a3⟩,⟨o4,h4,_,d4⟩,⟨o5,h5,_,d5⟩⟩:=st;exact zr (P:=fun b=> ∃o,h.get? b=some o/\∀v,o.data≠.cell v) ⟨_,a1,fun v z=>by cases z⟩ ⟨_,a2,fun v z=>by cases z⟩ ⟨_,a3,fun v z=>by cases z⟩ ⟨_,h4,fun v z=>by rw[d4]at z;cases z⟩ ⟨_,h5,fun v z=>by rw[d5]at z;cases z⟩ b hb
 keep:=fun i h h' st k=>by obtain⟨a1,a2,⟨u,v,a3⟩,a4,a5⟩:=st;exact⟨k z .s _ a1,k TI .s _ a2,⟨u,v,k TO .s _ a3⟩,a4.at fun o q=>k i1 .s o q,a5.at fun o q=>k i2 .s o q⟩
 item:=by
  intro X hP hw hK hc i pins s σ H E I hf st hg;subst hP hw hK;obtain⟨xs,ys,x,y,eZ,cM,hx,hy⟩:=hg;obtain⟨f9,lK,jl,gh⟩:=I.list eZ;obtain⟨il,hJ,eI,dF⟩:=I.list cM;obtain⟨u,hu,ru⟩:=lK.get hx;obtain⟨v,hv,rv⟩:=hJ.get hy;have rb:i<min f9.toArray.size il.toArray.size:=by have e1:=(Zai.mp hu).1;have e2:=(Zai.mp hv).1;simp only[Zar];omega
  have W:=WalksT.zip2 (prog:=X.prog) (w:=X.w) (A:=X.A) (I.ok.hd hc) z TI TO i1 i2 l1 l2 D f9.toArray il.toArray;obtain⟨a1,a2,a3,a4,a5⟩:=st;refine W.item i s _ _ rb ⟨a1,a2,a3,a4,a5,jl.isList,eI.isList⟩ fun T vals h' tk hP dz rA kL hk=>⟨_,rfl,W.go elts kk pos i T _ _ _ kL fun gp eW gk=>?_⟩;obtain⟨x2,y2,nA,dH,rfl⟩:=hP;have oV:f9[i]?=some x2:=by simpa using nA
  have ID:il[i]?=some y2:=by simpa using dH
  rw[hu]at oV;rw[hv]at ID;cases oV;cases ID;have both:∀b o,b∉[z,TI,TO,i1,i2]->s.heap.get? b=some o->gp.get? b=some o:=fun b o hb q=>gk b o (JR hb) (hk b o (JR hb) q);have xg:gp.IsTuple T #[u,v]:=rA.at fun o q=>gk T o (W.apart _ _ _ kL) q;refine⟨.ref T,upd H T (.par [x,y]),WG (s:=s) (h':=gp) (tk:=tk) I hf both dz xg ru rv,rfl,⟨T,x,y,rfl,I.au.fresh dz,rfl,fun as bs ha hb=>by rw[I.vV ha eZ,I.vV hb cM];exact⟨hx,hy⟩⟩,⟨eW.1,eW.2.1,eW.2.2.1,eW.2.2.2.1,eW.2.2.2.2.1⟩,N6 hf dz ?_⟩;obtain⟨u',v',EY⟩:=a3;obtain⟨o4,h4,_,d4⟩:=a4;obtain⟨o5,h5,_,d5⟩:=a5;exact zr (P:=fun b=> ∃o,s.heap.get? b=some o/\∀v,o.data≠.cell v) ⟨_,a1,fun v z=>by cases z⟩ ⟨_,a2,fun v z=>by cases z⟩ ⟨_,EY,fun v z=>by cases z⟩ ⟨_,h4,fun v z=>by rw[d4]at z;cases z⟩ ⟨_,h5,fun v z=>by rw[d5]at z;cases z⟩
 done:=by
  intro X hP hw hK hc i pins s σ H E I hf st hg;subst hP hw hK;obtain⟨xs,ys,eZ,cM,hx⟩:=hg;obtain⟨f9,lK,jl,gh⟩:=I.list eZ;obtain⟨il,hJ,eI,dF⟩:=I.list cM;have e1:=lK.length;have e2:=hJ.length;have W:=WalksT.zip2 (prog:=X.prog) (w:=X.w) (A:=X.A) (I.ok.hd hc) z TI TO i1 i2 l1 l2 D f9.toArray il.toArray;have hn:i=min f9.toArray.size il.toArray.size:=by simp only[Zar];lia
  obtain⟨a1,a2,a3,a4,a5⟩:=st;rw[hn]at a4 a5;exact W.done s _ _ ⟨a1,a2,a3,a4,a5,jl.isList,eI.isList⟩ fun h' tk hk=>⟨rfl,Um (s:=s) (h':=h') (tk:=tk) I hf fun b o hb q=>hk b o (JR hb) q⟩
 self:=fun A i s Q E st h=>Zfq st.1 h
section
variable {tp:Pos}
def Ve (K:Zke)(ta:TA):TI:=fun σ H R=>ta σ H fun vs H1=> ∃l1 l2,vs=[.ref l1,.ref l2]/\(∃xs ys,ak K H1 l1 xs/\ak K H1 l2 ys)/\R (F1 K l1 l2) H1
theorem ZfW {a b:Expr}{ta:TA}{p:Pos}(hg:Gl X "zip")(hm:X.mg "zip" =none)(ha:PA X [a,b] ta)(hs:starEach [a,b] X.env=[(false,eval a X.env),(false,eval b X.env)]:=by rfl)(qU:starEach [b] X.env=[(false,eval b X.env)]:=by rfl):
  PI X (.Tuple elts kk tp) (.Call (.Name "zip" p) [a,b] [] pos) (Ve X.K ta):=by
 intro pins s σ H R I h;refine Call_ (Jx I hg hm PyProof.Rows.Boot.«zip» (Zca (aH (ha pos pins s σ H _ I h) fun us s1 ⟨vs,H1,I1,r1,q1⟩=>?_) (by rw[hs,qU]) (by rw[qU];rfl)));obtain⟨l1,l2,e,⟨xs,ys,eZ,cM⟩,q⟩:=q1;subst e;obtain⟨u,v,rfl,ru,rv⟩:=vals2 r1;cases ru;cases rv;obtain⟨f9,lK,jl,gh⟩:=I1.list eZ;obtain⟨il,hJ,eI,dF⟩:=I1.list cM;have t1:l1<s1.heap.objs.size:=by obtain⟨o,ho,_⟩:=jl.isList;exact ZaA ho
 have t2:l2<s1.heap.objs.size:=by obtain⟨o,ho,_⟩:=eI.isList;exact ZaA ho
 have D:=OF s1.heap.objs.size l1 l2 t1 t2;refine call_zip_2 jl.isList eI.isList fun h' b1 b2 b3 b4 b5 b6 hk=>Zfq b1 ?_;have I2:ag X pins σ H1 {s1 with heap:=h'} :=I1.kept (t':=s1.toks) hk;refine⟨s1.heap.objs.size+4,[s1.heap.objs.size+4,s1.heap.objs.size+2,s1.heap.objs.size+3,s1.heap.objs.size,s1.heap.objs.size+1],_,_,H1,rfl,I2,
  Zdu _ _ _ _ _ l1 l2 D,⟨b1,b2,⟨_,_,b3⟩,b4,b5⟩,fun b hb=>?_,q⟩
 have jy:s1.heap.objs.size<=b:=by simp only[Zas,Zbk,Zcp]at hb;rcases hb with z|z|z|z|z<;>rw[z]<;>first|exact Zal _ |exact Zid _ _
 exact I1.pC jy (I1.au.fresh jy)
end
theorem ZdM {K:Zke}{l1 l2:Addr}{zs:List V}{g:TG}{tt:TT}{ti:TC}{σ:St}{Q:List V->St->Hp->Prop}(Pv:Nat->List V->St->Hp->Prop)(h0:Pv 0 ys σ H)
  (hl:∀i ys σ H,i<=min xs.length zs.length->Pv i ys σ H->ak K H l1 xs/\ak K H l2 zs)
  (hs:∀i x y T ys σ H,xs[i]?=some x->zs[i]?=some y->H T=none->Pv i ys σ H->g (.ref T) σ (upd H T (.par [x,y])) fun bB H2=>tt bB H2 fun b H3=>if b=true then ti ys bB H3 (Pv (i+1)) else Pv (i+1) ys bB H3)
  (hd:∀ys σ H,Pv (min xs.length zs.length) ys σ H->Q ys σ H):ke g tt ti (F1 K l1 l2) ys σ H Q:=W0 (n:=min xs.length zs.length) Pv h0 (fun i ys σ H h p=>⟨xs,zs,xs[i]'(ZaG h (Nat.min_le_left ..)),zs[i]'(ZaG h (Zjc ..)),(hl i ys σ H (Zbl h) p).1,(hl i ys σ H (Zbl h) p).2,Zaj _,Zaj _⟩) (fun ys σ H p=>⟨⟨xs,zs,(hl _ ys σ H (Zal _) p).1,(hl _ ys σ H (Zal _) p).2,rfl⟩,hd ys σ H p⟩) fun i ys σ H x H' h p ⟨T,a,b,e1,e2,e3,e4⟩=>by
 subst e1 e3;obtain⟨q1,q2⟩:=hl i ys σ _ (Zbl h) p;obtain⟨f1,f2⟩:=e4 xs zs q1 q2;exact hs i a b T ys σ H f1 f2 e2 p
mutual
inductive Sh (H:Hp):V->PyData->Prop
 |af:Sh H .af .none
 |bl (b:Bool):Sh H (.bl b) (.bool b)
 |int (i:Int):Sh H (.int i) (.int i)
 |str (x:Str):Sh H (.str x) (.str x)
 |tup {a:Addr}{xs:List V}{ds:List PyData} :H a=some (.tup xs)->rT H xs ds->Sh H (.ref a) (.tuple ds)
 |lst {a:Addr}{xs:List V}{ds:List PyData} :H a=some (.lst xs)->rT H xs ds->Sh H (.ref a) (.list ds)
 |gq {a:Addr} :H a=some (.dK [])->Sh H (.ref a) (.dict [])
inductive rT (H:Hp):List V->List PyData->Prop
 |nil:rT H [] []
 |cons {v:V}{vs:List V}{d:PyData}{ds:List PyData} :Sh H v d->rT H vs ds->rT H (v::vs) (d::ds)
end
section
variable {σ:St}
mutual
theorem Oa (I:ag X pins σ H s):∀{v:V}{d:PyData}{u:Value},Sh H v d->RelV v u->∃as,Reads s.heap u d as/\((∃a,v=.ref a/\H a=some (.dK []))->sysModules∉as)
 |_,_,u,.af,r=>by have e:u=.none:=r;subst e;exact⟨[],.none,fun _ h=>nomatch h⟩
 |_,_,u,.bl b,r=>by have e:u=.bool b:=r;subst e;exact⟨[],.bool b,fun _ h=>nomatch h⟩
 |_,_,u,.int i,r=>by obtain⟨t,rfl⟩:=r;exact⟨[],.int i t,fun _ h=>nomatch h⟩
 |_,_,u,.str x,r=>by obtain⟨t,rfl⟩:=r;exact⟨[],.str x t,fun _ h=>nomatch h⟩
 |_,_,u,.tup (a:=a) h rs,r=>by have e:u=.ref a:=r;subst e;obtain⟨aa,rv,⟨o,ho,hc,n,hd⟩,_⟩:=I.tuple (ah.of h);obtain⟨as,q⟩:=Cy I rs rv;exact⟨as,.tuple ho hc hd (by simpa using q),fun⟨b,e,hb⟩=>by cases e;rw[h]at hb;cases hb⟩
 |_,_,u,.lst (a:=a) h rs,r=>by have e:u=.ref a:=r;subst e;obtain⟨_,aa,n,rv,ho⟩:=(show bI X.prog X.w H s.heap a (.lst _) from I.au a _ h);obtain⟨as,q⟩:=Cy I rs rv;exact⟨a::as,.list ho rfl rfl (by simpa using q),fun⟨b,e,hb⟩=>by cases e;rw[h]at hb;cases hb⟩
 |_,_,u,.gq (a:=a) h,r=>by
  have e:u=.ref a:=r;subst e;obtain⟨_,hs,vs,kv,hm⟩:=(show bI X.prog X.w H s.heap a (.dK []) from I.au a _ h);cases kv;obtain⟨o,es,ep,ho,hc,hd,hk,hp,hn⟩:=hm;have hz:es.toList=[]:=by have:=hp.length;simp at this;simpa using this
  refine⟨a::[]++[],.dict (kvs:=[]) ho hc.1 hd (by rw[hz];exact .nil) (by rw[hz];exact .nil),fun _ hm=>?_⟩;simp only[Zbi,ZaE]at hm;rw[hm]at hs;simp at hs
theorem Cy (I:ag X pins σ H s):∀{vs:List V}{ds:List PyData}{us:List Value},rT H vs ds->Vals vs us->∃as,ReadsAll s.heap us ds as
 |_,_,_,.nil,.nil=>⟨[],.nil⟩
 |_,_,_,.cons h t,.cons r rs=>by obtain⟨as,q,_⟩:=Oa I h r;obtain⟨bs,qs⟩:=Cy I t rs;exact⟨as++bs,.cons q qs⟩
end
end
inductive Rt (xs:List V) (H:Hp) (Q:VK):Prop
 |mk (x:V) (d:PyData) (c0:xs=[x]) (c1:Sh H x d) (c2:d.showable=true) (c3:d.shown.length<=sizeLine) (c4:d.depth<=60) (c5:(d.hasDict=true->∃a,x=.ref a/\H a=some (.dK []))) (c6:Q (.str d.shown) H)
theorem UV (hu:X.A.units+64<cLine)(hg:X.A.guards=some []):fh X (.builtin "repr") Rt:=by
 intro pins s σ H xs us Q I rv h;obtain⟨x,d,rfl,rd,hs,hz,hd,hh,q⟩:=h;obtain⟨u,rfl,ru⟩:=Zji rv;obtain⟨as,r,hn⟩:=Oa I rd ru;have fin:∀h' u' tk,(∀b o,s.heap.get? b=some o->h'.get? b=some o)->EP X pins σ Q (.str d.shown u') {s with heap:=h',toks:=tk} :=fun h' u' tk hk=>⟨.str d.shown,H,I.kept hk,⟨_,rfl⟩,q⟩;cases rd with
 |af=>have e:u=.none:=ru;subst e;exact P.repr_of_none (fin _ _ _ fun _ _ e=>e)
 |bl b=>have e:u=.bool b:=ru;subst e;have:=fin s.heap s.toks (s.toks+1) fun _ _ e=>e;simp only[PyData.shown]at this;exact P.repr_of_bool this
 |int i=>obtain⟨t,rfl⟩:=ru;have:=fin s.heap s.toks (s.toks+1) fun _ _ e=>e;simp only[PyData.shown]at this;exact P.repr_of_int (by simpa[PyData.showable] using hs) this
 |str x=>obtain⟨t,rfl⟩:=ru;have:=fin s.heap s.toks (s.toks+1) fun _ _ e=>e;simp only[PyData.shown]at this hz;exact P.repr_of_str this hz
 |tup h rs=>cases ru;exact ZjI r hs (fun z=>hn (hh z)) hg .l (fun _ _ e=>e) fin hz
 |lst h rs=>cases ru;exact ZjI r hs (fun z=>hn (hh z)) hg .l (fun _ _ e=>e) fin hz
 |gq h=>cases ru;exact ZjI r hs (fun z=>hn (hh z)) hg .l (fun _ _ e=>e) fin hz
end L2
namespace L2
open PySem PySem.Spec PyProof.Rows SeqAt
inductive Rv (x:V) (y:V) (H:Hp) (Q:VK):Prop
 |mk (a b:Bool) (c0:x=.bl a) (c1:y=.bl b) (c2:Q (.bl (!(a==b))) H)
theorem YU:bf X (compareOp .IsNot) Rv:=by intro pins s σ H x y u v Q I rx ry h;obtain⟨a,b,rfl,rfl,q⟩:=h;cases rx;cases ry;refine wpAny_isNot_plain rfl ⟨.bl _,H,I,?_,q⟩;show Value.bool (!(Value.bool a==Value.bool b))=Value.bool (!(a==b));cases a<;>cases b<;>rfl
end L2
namespace U
open PySem L2 PyProof.Rows
def iE (K:Zke)(H:Hp)(a:Addr)(ns:List Int):Prop:=(∃o,H a=some (.de o (.lst (ns.map V.int))))∨∃(o:Obj) (aa:Array Value) (n:Nat),K.lookup a=some o/\o.cls=.type "list" /\o.dict=none/\o.data=.seq aa n/\aa.size<=sizeLine/\Vals (ns.map V.int) aa.toList
theorem iE.sq {K:Zke}{a:Addr}{ns:List Int}(h:iE K H a ns):ak K H a (ns.map V.int):=by
 rcases h with ⟨o,h⟩|h
 ·exact .inl (.inr ⟨o,h⟩)
 ·exact .inr h
theorem iE.same {K:Zke}{a:Addr}{ns:List Int}(h:iE K H a ns)(s:ae H H'):iE K H' a ns:=by
 rcases h with ⟨o,h⟩|h
 ·exact .inl ⟨o,s _ _ h⟩
 ·exact .inr h
theorem iE.x {K:Zke}{a p:Addr}{ns:List Int}{o:HO}(h:iE K H a ns)(s:av p H H')(hp:H p=some o)(hn:∀ob u,o≠.de ob u):iE K H' a ns:=by
 rcases h with ⟨ob,h⟩|h
 ·exact .inl ⟨ob,s _ _ h fun z=>by rw[z,hp]at h;cases h;exact hn _ _ rfl⟩
 ·exact .inr h
end U
variable {P:PySem.Program}{w:PySem.World}{K:Zke}{mg:PySem.Str->Option PySem.Value}{base:PySem.Heap}{f:PySem.Addr}{fd:PySem.FuncData}
namespace U
open PySem L2 PyProof.Rows PySem.Spec
def yl (mg:Str->Option Value)(h:Heap):Prop:=∃bm ob,mg "__builtins__" =some (.ref bm)/\bm≠builtinsNs/\h.get? bm=some ob/\ob.cls=.type "module" /\ob.dict=some builtinsNs/\ob.data=.plain
theorem ZcC {P:Program}{w:World}{K:Zke}{mg:Str->Option Value}{k:Nat}{fa a:Addr}{Pts:List Addr}{fd:FuncData}{sp:Sp}{br:Shared}{vs:List Value}{ns:List Int}
  (KX:K.In br.heap) (wI:br.heap.Ns mainGlobals mg) (hb:br.heap.Ns builtinsNs mb) (rf:∀x:Str,x≠ "__name__" ->mb x=bootBuiltins x) (Xl:br.heap.NoLimit) (hg:br.gens= #[])
  (ha:br.heap.get? a=some {cls:=.type "list",data:=.seq vs.toArray}) (hi:IntsAre vs ns) (hl:ns.length<=sizeLine) (hr:bO k callerA)
  (dz:∀Pt∈Pts,br.heap.get? Pt=some (PySem.W.tabObj #[])) (hCs:∀Pt∈Pts,∃c,PySem.W.CodeHd br.heap c Pt) (aal:∀Pt∈Pts,K.lookup Pt=none) (Ee:yl mg br.heap)
  (F:∀base:Heap,K.In base->base.Ns mainGlobals mg->yl mg base->aJ P w K mg base aS k fa fd [x] sp) (aad:∀(s:Shared) (u:Value),BindsTo s fd ⟨[u],[]⟩ [(x,u)])
  (fA:∀H:Hp,iE K H a ns->(∀Pt∈Pts,H Pt=some (.cm #[]))->sp [.ref a] H (fun v _=>v=.bl true) fun _ _ _=>False):
  codeAny (model P w) callerA (.call (.ref fa) ⟨[.ref a],[]⟩) (fun r s'=>r=.ok (.ret (.bool true))/\OldK br.heap s'.heap/\s'.os=br.os/\AllBare s'.gens) br:=by
 have rv:=OE hi;have TY:=hi.length;have xh:∀{Pt:Addr},Pt∈Pts->br.heap.get? Pt=some {cls:=.none,data:=.fields #[]} :=fun h=>dz _ h;have KW:a∉Pts:=fun z=>by have h:=xh z;rw[ha]at h;cases h
 have core:∀H:Hp,(∀b,b∉Pts->H b=none∨∃o xs,H b=some (.de o (.lst xs)))->iE K H a ns->(∀Pt∈Pts,H Pt=some (.cm #[]))->bK P w H br.heap->(∀b,H b≠none->b=a∨b∈Pts)->(H a≠none->K.lookup a=none)->
   codeAny (model P w) callerA (.call (.ref fa) ⟨[.ref a],[]⟩) (fun r s'=>r=.ok (.ret (.bool true))/\OldK br.heap s'.heap/\s'.os=br.os/\AllBare s'.gens) br:=by
  intro H hO hS hP au hA hK;have ES:∀{b:Addr}{o:Obj},br.heap.get? b=some o->H b=none->(jV br.heap H).get? b=some o:=fun e n=>NQ e n;have kr:∀{b:Addr}{o:Obj},br.heap.get? b=some o->(∀vs n,o.data≠.seq vs n)->(∀ps,o.data≠.fields ps)->H b=none:=fun {b o} e d1 d2=>by
   cases q:H b with
   |none=>rfl
   |some u=>
    rcases hA b (by rw[q];simp) with e'|e'
    ·subst e';rw[ha]at e;cases e;exact absurd rfl (d1 _ _)
    ·rw[xh e']at e;cases e;exact absurd rfl (d2 _)
  have zi:∀{b:Addr}{m:Str->Option Value},br.heap.Ns b m->(jV br.heap H).Ns b m:=fun {b m} ⟨o,es,ep,e,d,r⟩=>⟨o,es,ep,ES e (kr e (fun _ _ z=>by rw[d]at z;cases z) fun _ z=>by rw[d]at z;cases z),d,r⟩;have KZ:K.In (jV br.heap H):=fun b o e=>ES (KX b o e) (by
   cases q:H b with
   |none=>rfl
   |some u=>
    rcases hA b (by rw[q];simp) with e'|e'
    ·subst e';rw[hK (by rw[q];simp)]at e;cases e
    ·rw[aal _ e']at e;cases e)
  have hM:Mod K mg (jV br.heap H):=⟨KZ,zi wI,⟨mb,zi hb,rf⟩,let ⟨mc,h1,h2⟩:=Xl;⟨mc,zi h1,h2⟩⟩;have aac:yl mg (jV br.heap H):=let ⟨bm,ob,b1,b2,b3,b4,b5,b6⟩:=Ee;⟨bm,ob,b1,b2,ES b3 (kr b3 (fun _ _ z=>by rw[b6]at z;cases z) fun _ z=>by rw[b6]at z;cases z),b4,b5,b6⟩;have e0:yf P w K mg (jV br.heap H) callerA [] br H:=⟨rfl,hM,fun b o e=>Ny e,Nat.le_of_eq (Ol _ _),trivial,fun b hb=>absurd (show b∈([]:List Addr) from hb) .s,au,.of_eq hg⟩;refine ZfG ((F _ KZ (zi wI) aac).run callerA [] br H ⟨[.ref a],[]⟩ [.ref a] [.ref a] _ _ hr e0 (aad br (.ref a)) (.cons rfl .nil) (fA H hS hP)) fun r s' h=>?_;cases r with
  |error e=>exact False.elim h
  |ok fl=>
   cases fl with
   |next=>exact False.elim h
   |brk=>exact False.elim h
   |cont=>exact False.elim h
   |ret u=>
    obtain⟨v,H',os,bare,un,IY,r',q⟩:=h;have q':v=.bl true:=q;subst q';obtain rfl:u=Value.bool true:=r';have old:∀b o,br.heap.get? b=some o->asItWas br.heap s'.heap b o:=fun b o e=>by
     cases q:H b with
     |none=>exact .inl (un.keep b o e q (by intro z;exact absurd (show b∈([]:List Addr) from z) .s) .s)
     |some u=>
      by_cases rk:b∈Pts
      ·obtain⟨more,z⟩:=un.iH b _ (hP b rk);have e2:s'.heap.get? b=some {cls:=.none,data:=.fields (#[]++more)} :=IY b _ z;rw[xh rk]at e;cases e;obtain⟨c,hC⟩:=hCs b rk;exact .inr (.inl ⟨(hC.tab (dz b rk)).isCodeTable,rfl,#[],more,rfl,e2⟩)
      ·rcases hO b rk with z|⟨ob,xs,z⟩
       ·rw[q]at z;cases z
       ·have z2:=un.iX b ob _ z;obtain⟨e1,_⟩:=au b _ z;obtain⟨e2,_⟩:=IY b _ z2;rw[e]at e1;cases e1;exact .inl e2
    exact⟨rfl,⟨old,fun b o e=>un.there b o e .s⟩,os,bare⟩
 cases hk:K.lookup a with
 |some o=>
  have e:=KX a o hk;rw[ha]at e;cases e;refine core (fun b=>if b∈Pts then some (.cm #[]) else none) (fun b n=>.inl (ZaN n)) (.inr ⟨_,vs.toArray,_,hk,rfl,rfl,rfl,by rw[Zar,TY];exact hl,by simpa using rv⟩) (fun Pt h=>ZaQ h) (fun b u z=>?_) (fun b z=>?_) fun z=>absurd (ZaN KW) z
  ·by_cases hb:b∈Pts
   ·have z':=(ZaQ hb).symm.trans z;cases z';exact xh hb
   ·have z':=(ZaN hb).symm.trans z;cases z'
  ·by_cases hb:b∈Pts
   ·exact .inr hb
   ·exact absurd (ZaN hb) z
 |none=>
  refine core (fun b=>if b∈Pts then some (.cm #[]) else if b=a then some (.de {cls:=.type "list",data:=.seq vs.toArray} (.lst (ns.map V.int))) else none) (fun b n=>?_) (.inl ⟨{cls:=.type "list",data:=.seq vs.toArray},(ZaN KW).trans (ZaQ rfl)⟩) (fun Pt h=>ZaQ h) (fun b u z=>?_) (fun b z=>?_) fun _=>hk
  ·by_cases hb:b=a
   ·exact .inr ⟨_,_,(ZaN n).trans (ZaQ hb)⟩
   ·exact .inl ((ZaN n).trans (ZaN hb))
  ·by_cases hP:b∈Pts
   ·have z':=(ZaQ hP).symm.trans z;cases z';exact xh hP
   ·by_cases hb:b=a
    ·have z':=((ZaN hP).trans (ZaQ hb)).symm.trans z;cases z';subst hb;exact⟨ha,by rw[Zat];exact hl,vs,_,rv,ha⟩
    ·have z':=((ZaN hP).trans (ZaN hb)).symm.trans z;cases z'
  ·by_cases hP:b∈Pts
   ·exact .inr hP
   ·by_cases hb:b=a
    ·exact .inl hb
    ·exact absurd ((ZaN hP).trans (ZaN hb)) z
theorem Pu {l:PySem.W.OpenLaw}{YP:World->Heap->Prop}{d:DefRec}{K:Params->Zke}{sp:Zke->Sp}{Pts:List Addr}
    (hn:l.most=some n) (lZ:n<=sizeLine) (DX:d.params.defaults=[]) (hr:bO k callerA)
    (hY:∀(w:World) (h:Heap),YP w h->(K w.params).In h) (hYT:∀(w:World) (h:Heap),YP w h->∀Pt∈Pts,h.get? Pt=some (PySem.W.tabObj #[]))
    (hC:∀(w:World) (h:Heap),(K w.params).In h->∀Pt∈Pts,∃c,PySem.W.CodeHd h c Pt) (hKP:∀w:World,∀Pt∈Pts,(K w.params).lookup Pt=none)
    (F:∀(w:World) (mg:Str->Option Value) (fa:Addr) (h:Heap),(K w.params).In h->h.Ns mainGlobals mg->mg d.name=some (.ref fa)->
      ∃fd:FuncData,(∀(s:Shared) (u:Value),BindsTo s fd ⟨[u],[]⟩ [(x,u)])/\
       ∀base:Heap,(K w.params).In base->base.Ns mainGlobals mg->yl mg base->aJ l.prog w (K w.params) mg base aS k fa fd [x] (sp (K w.params)))
    (fA:∀(K:Zke) (H:Hp) (a:Addr) (ns:List Int),ns.length<=n->iE K H a ns->(∀Pt∈Pts,H Pt=some (.cm #[]))->sp K [.ref a] H (fun v _=>v=.bl true) fun _ _ _=>False):
    PySem.W.WalkO q loose XP YP l.row.toRowW d [] (fun f vs=>PySem.call f vs):=by
  refine Pn.aaI hn DX fun w cR br mg mb fa o pm cd doc a vs ns G Y ho hd cq hmg DG hints hlen hg=>?_;have KX:=hY w _ Y;obtain⟨fd,hb,hF⟩:=F w mg fa _ KX G.T.g hmg;exact ZcC KX G.T.g G.T.b G.T.builtins G.T.nolimit hg DG hints (Zbb hlen lZ) hr (hYT w _ Y) (hC w _ KX) (hKP w) G.T.bmain hF hb (fun H hS hP=>fA (K w.params) H a ns hlen hS hP)
def bu (K:Zke)(x:Str)(st:Stmt):Prop:=∃f fd,PySem.W.nsIn K mainGlobals x=some (some (.ref f))/\aO K x x st f fd
theorem aaz {K:Zke}{x:Str}{st:Stmt}{f:Addr}{oc:Value}{od an:Option Addr}{hZ:Array (Option Value)}{kV doc pm aw ct:Value}(e1:PySem.W.nsIn K mainGlobals x=some (some (.ref f)))
  (e2:K.lookup f=some ⟨oc,od,.func (PySem.W.fnOf x x (iZ st) (ck st) (aR st) .none kV doc pm an aw ct),hZ⟩) (e3:PySem.W.codeIn K aw x=true) (e4:PySem.W.keepIn K (.ref f)=true):bu K x st:=⟨f,_,e1,Zhe e2 e3 e4⟩
abbrev uJ (x:Str)(st:Stmt)(ps:List Str):Prop:=∀(kV doc pm:Value) (an:Option Addr) (aw ct:Value) (us:List Value),us.length=ps.length->bindArgs (PySem.W.fnOf x x (iZ st) (ck st) (aR st) .none kV doc pm an aw ct) ⟨us,[]⟩=pure (ps.zip us)
theorem bu.to {x:Str}{st:Stmt}{ps:List Str}{k:Nat}{sp:Sp}(d:bu K x st)(KX:K.In h)(G:h.Ns mainGlobals mg)(hb:uJ x st ps)(ok:∀f fd,aO K x x st f fd->aJ P w K mg base aS k f fd ps sp):Def P w K mg base k x ps sp:=by obtain⟨f,fd,e,F⟩:=d;exact⟨f,fd,ok f fd F,Zch KX G e,F.kp,F.binds hb⟩
theorem bu.su {x:Str}{st:Stmt}{ps:List Str}{k:Nat}{sp:Sp}(d:bu K x st)(KX:K.In h)(G:h.Ns mainGlobals mg)(hb:uJ x st ps)(ok:∀f fd,aO K x x st f fd->aJ P w K mg base (cJ P w) k f fd ps sp):dD P w K mg base k x ps sp:=by obtain⟨f,fd,e,F⟩:=d;exact⟨f,fd,ok f fd F,Zch KX G e,F.kp,F.binds hb⟩
def zj (K:Zke)(x:Str):Bool:=match PySem.W.nsIn K mainGlobals x with|some none=>true|_=>false
theorem ZdJ (KX:K.In h)(G:h.Ns mainGlobals mg)(e:zj K x=true):mg x=none:=by
 unfold zj at e;split at e
 ·rename_i q;exact PySem.W.mg_none_of KX G q
 ·cases e
end U
namespace L2
open PySem PySem.Spec PyProof.Rows SeqAt
inductive Ro (K:Zke) (xs:List V) (H:Hp) (Q:VK):Prop
 |mk (p:Addr) (ns:List Int) (c0:xs=[.ref p]) (c1:ak K H p (ns.map V.int)) (c2:Q (.int ns.sum) H)
theorem ZfA (hc:X.calm=true:=by rfl):fh X (.builtin "sum") (Ro X.K):=by
 intro pins s σ H xs us Q I r h;obtain⟨p,ns,rfl,hp,q⟩:=h;obtain⟨u,rfl,ru⟩:=Zji r;cases ru;obtain⟨aa,rv,pl,_⟩:=I.list hp;have hi:=YL rv;obtain⟨xs,hx⟩:=hi.allInts.items;have nG:s.heap.IsList p (intItems xs):=hx▸pl.isList;refine sum_intListG (I.ok.hd hc) nG fun h' tk t' hk=>?_;have e1:ns=xs.toList.map (·.1):=by rw[<-nums_intItems,<-hx];exact(show numsOf aa.toArray.toList=ns from hi.numsOf).symm
 have e2:preSum (numAt xs) xs.size=ns.sum:=by rw[preSum_eq,ZbJ .s,e1]
 rw[e2];exact⟨.int ns.sum,H,I.kept hk,⟨_,rfl⟩,q⟩
theorem ZfN {σ:St}(A:Around)(hu:A.units<cLine)(I:ag X pins σ H s)(hx:dm H x k)(hy:dm H y m)(ru:RelV x u)(rv:RelV y v):EqAt A s u v (decide (k=m)):=by
 obtain⟨a,rfl,ha⟩:=hx;obtain⟨b,rfl,hb⟩:=hy;cases ru;cases rv;by_cases rm:a=b
 ·subst rm;rw[ha]at hb;have:k=m:=by have h:=Za3 hb;injection h with h;exact List.map_inj_right (fun _ _ z=>by injection z)|>.mp h
  rw[Zau this];exact EqAt.same _
 ·obtain⟨us,r1,p1,_⟩:=I.tuple (ah.of ha);obtain⟨vs,r2,p2,_⟩:=I.tuple (ah.of hb);have z:=RcAt.tuples (A:=A) (s:=s) (e:=fun j=>k.getD j 0==m.getD j 0) p1 p2 hu (fun j h1 h2=>by obtain⟨t1,e1⟩:=J6 r1 j (by simpa using h1);obtain⟨t2,e2⟩:=J6 r2 j (by simpa using h2);rw[show us.toArray[j]=us[j]'(by simpa using h1) by simp,show vs.toArray[j]=vs[j]'(by simpa using h2) by simp,e1,e2];exact EqAt.int_int _ _ _ _)
  have l1:=r1.length;have l2:=r2.length;rw[Zat]at l1 l2;have e:((List.range (min us.toArray.size vs.toArray.size)).all (fun j=>k.getD j 0==m.getD j 0)&&us.toArray.size==vs.toArray.size)=decide (k=m):=by
   rw[Zcc,Zap,ZaK,ZaF,Zcr,Zar,Zar];constructor
   ·rintro⟨h,hl⟩;refine Zjf .l fun i h1 h2=>?_;have:=h i (by rw[Zbf];lia);simpa[h1,h2] using this
   ·rintro rfl;exact⟨fun j _=>.s,.l⟩
  rw[e]at z;exact EqAt.of_refs rm z
end L2
namespace L2
open PySem PySem.Spec PyProof.Rows
def F3 (K:Zke)(t:Addr):It:=
 ⟨fun i H=> ∃xs x,ak K H t xs/\xs[i]?=some x,fun i H x H'=> ∃(T:Addr) (y:V),x=.ref T/\H T=none/\H'=upd H T (.par [.int (i:Int),y])/\∀xs,ak K H t xs->xs[i]?=some y,fun i H=> ∃xs,ak K H t xs/\xs.length=i⟩
theorem Zcn {P:Program}{w:World}{K:Zke}(t e j:Addr)(nJ:e≠j)(wq:t≠e)(wo:t≠j):
  Turn P w K (.Tuple elts kk pos) (F3 K t) [e,j] e (fun i h=>(∃old,IsEnum h e j i old)/\h.IsListIter j t i) where
 mem:=.s
 obj:=fun i h st b hb=>by
  obtain⟨⟨old,he⟩,o,ho,hc,hd⟩:=st;rcases Zas.mp hb with rfl|hb
  ·exact⟨_,he,fun v z=>by cases z⟩
  ·rw[ZaE.mp hb];exact⟨o,ho,fun v z=>by rw[hd]at z;cases z⟩
 keep:=fun i h h' st k=>⟨let ⟨old,he⟩:=st.1;⟨old,k e .s _ he⟩,st.2.at fun o q=>k j .s o q⟩
 item:=by
  intro X hP hw hK hc i pins s σ H E I hf st hg;subst hP hw hK;obtain⟨xs,x,hq,hx⟩:=hg;obtain⟨aa,rv,p,hz⟩:=I.list hq;obtain⟨u,hu,ru⟩:=rv.get hx;have hl:=rv.length;have rb:i<aa.toArray.size:=by have:=(Zai.mp hu).1;simpa using this
  have W:=ZhW (prog:=X.prog) (w:=X.w) (A:=X.A) (Draws.list (A:=X.A.in1) (show X.A.in1.handled=none from I.ok.hd hc) j t wo aa.toArray) e nJ (by simp[nJ,wq.symm]) .s;have hT:s.heap.IsList t aa.toArray:=p.isList;refine W.item i s _ _ rb ⟨st.1,st.2,hT⟩ fun T vals h' tk hP dz rA kL hk=>⟨_,rfl,W.go elts kk pos i T _ _ _ kL fun gp eW gk=>?_⟩;obtain⟨A4,x2,nA,rfl⟩:=hP;have oV:aa[i]?=some x2:=by simpa using nA
  rw[hu]at oV;cases oV;have xf:T∉[e,j]:=W.apart _ _ _ kL;refine⟨.ref T,upd H T (.par [.int (i:Int),x]),WG (s:=s) (h':=gp) (tk:=tk) I hf (fun b o hb q=>gk b o hb (hk b o hb q)) dz (rA.at fun o q=>gk T o xf q) ⟨A4,rfl⟩ ru,rfl,⟨T,x,rfl,I.au.fresh dz,rfl,fun ys hy=>by rw[I.vV hy hq];exact hx⟩,⟨eW.1,eW.2.1⟩,fun b hb=>?_⟩;rw[Zh (fun z=>xf (by rw[<-z];exact hb))];exact(hf b hb).1
 done:=by
  intro X hP hw hK hc i pins s σ H E I hf st hg;subst hP hw hK;obtain⟨xs,hq,hx⟩:=hg;obtain⟨aa,rv,p,hz⟩:=I.list hq;have hl:=rv.length;have W:=ZhW (prog:=X.prog) (w:=X.w) (A:=X.A) (Draws.list (A:=X.A.in1) (show X.A.in1.handled=none from I.ok.hd hc) j t wo aa.toArray) e nJ (by simp[nJ,wq.symm]) .s;have hn:i=aa.toArray.size:=by rw[Zar];omega
  have hT:s.heap.IsList t aa.toArray:=p.isList;rw[hn]at st;exact W.done s _ _ ⟨st.1,st.2,hT⟩ fun h' tk hk=>⟨rfl,Um (s:=s) (h':=h') (tk:=tk) I hf hk⟩
 self:=fun A i s Q E st h=>let ⟨old,he⟩:=st.1;ZhX he h
section
variable {tp:Pos}
def Vh (K:Zke)(ta:TA):TI:=fun σ H R=>ta σ H fun vs H1=> ∃t,vs=[.ref t]/\(∃xs,ak K H1 t xs)/\R (F3 K t) H1
theorem N9 {a:Expr}{ta:TA}{p:Pos}(hg:Gl X "enumerate")(hm:X.mg "enumerate" =none)(ha:PA X [a] ta)(hs:starEach [a] X.env=[(false,eval a X.env)]:=by rfl):PI X (.Tuple elts kk tp) (.Call (.Name "enumerate" p) [a] [] pos) (Vh X.K ta):=by
 intro pins s σ H R I h;refine Call_ (Jx I hg hm boot_enumerate (Zca (aH (ha pos pins s σ H _ I h) fun us s1 ⟨vs,H1,I1,r1,q1⟩=>?_) hs rfl));obtain⟨t,e,⟨xs,hq⟩,q⟩:=q1;subst e;obtain⟨u,rfl,ru⟩:=Zji r1;cases ru;obtain⟨aa,rv,pl,hz⟩:=I1.list hq;have hT:s1.heap.IsList t aa.toArray:=pl.isList;have ht:t<s1.heap.objs.size:=by obtain⟨o,ho,_⟩:=hT;exact ZaA ho
 refine call_enumerate_list hT fun h' he hj dF hk=>ZhX he ?_;have I2:ag X pins σ H1 {s1 with heap:=h'} :=I1.kept (t':=s1.toks) hk;refine⟨s1.heap.objs.size+1,[s1.heap.objs.size+1,s1.heap.objs.size],_,_,H1,rfl,I2,Zcn t _ _ (Nat.succ_ne_self _) (ZaR (Zfb ht)) (ZaR ht),⟨⟨_,he⟩,hj⟩,fun b hb=>?_,q⟩;have jy:s1.heap.objs.size<=b:=by
  rcases Zas.mp hb with z|z
  ·rw[z];exact ZhU _
  ·rw[ZaE.mp z];exact Zal _
 exact I1.pC jy (I1.au.fresh jy)
end
theorem OZ {K:Zke}{a:Addr}{g:TG}{tb:TS}{σ:St}(Pv:Nat->St->Hp->Prop)(h0:Pv 0 σ H)(hl:∀i σ H,i<=xs.length->Pv i σ H->ak K H a xs)
  (hs:∀i x T σ H,xs[i]?=some x->H T=none->Pv i σ H->g (.ref T) σ (upd H T (.par [.int (i:Int),x])) fun bB H2=>tb {D with nx:=Pv (i+1),ct:=Pv (i+1),bk:=D.nx} bB H2) (hd:∀σ H,Pv xs.length σ H->D.nx σ H):
  ye (F3 K a) g tb D σ H:=E5 Pv h0 (fun i σ H h p=>⟨xs,xs[i],hl i σ H (Zbl h) p,Zaj h⟩) (fun σ H p=>⟨⟨xs,hl _ σ H (Zal _) p,rfl⟩,hd σ H p⟩) fun i σ H x H' h p ⟨T,z,e1,e2,e3,e4⟩=>by
 subst e1 e3;exact hs i z T σ H (e4 xs (hl i σ _ (Zbl h) p)) e2 p
inductive RD (K:Zke) (x:V) (y:V) (H:Hp) (Q:VK):Prop
 |mk (p:Addr) (ts:List V) (k:List Int) (ks:List (List Int)) (c0:dm H x k) (c1:y=.ref p) (c2:ak K H p ts) (c3:Paired (dm H) ts ks) (c4:Q (.bl (decide (k∈ks))) H)
theorem Zf2 (hu:X.A.units+1<cLine):bf X (compareOp .In) (RD X.K):=by
 intro pins s σ H x y v u Q I rx ry h;obtain⟨p,ts,k,ks,hx,rfl,hp,pr,q⟩:=h;cases ry;obtain⟨aa,r,pl,_⟩:=I.list hp;have at':∀{vs:List V}{ks:List (List Int)}{aa:List Value},Paired (dm H) vs ks->Vals vs aa->(∀u∈aa,∃v m,dm H v m/\RelV v u/\eY s.heap u=m)/\(aa.any fun u=>decide (eY s.heap u=k))=decide (k∈ks):=by
  intro vs ks aa pr
  induction pr generalizing aa with
  |nil=>intro rv;cases rv;exact⟨fun u hu=>(by cases hu),.s⟩
  |cons hh _ ih=>
   intro rv;cases rv with
   |cons r1 r2=>
    obtain⟨g1,g2⟩:=ih r2;obtain⟨t,e,ht⟩:=id hh;obtain⟨items,ri,⟨o,go,oc,n,od⟩,_⟩:=I.tuple (ah.of ht);subst e;have CC:=r1;cases r1;have ek:=Jg go od (by simpa using YL ri);refine⟨fun u hu=>?_,?_⟩
    ·rcases Zas.mp hu with rfl|hu
     ·exact⟨_,_,hh,CC,ek⟩
     ·exact g1 u hu
    ·rw[Zgz,g2,ek,Zcc];simp only[Ziz,ZaF,Zas,@eq_comm _ k]
 obtain⟨a1,a2⟩:=at' pr r;refine SeqAt.in_listAt (fun w=>decide (eY s.heap w=k)) pl.isList (fun w hw=>?_) ⟨.bl _,H,I,?_,q⟩
 ·obtain⟨z,m,h1,h2,h3⟩:=a1 w (by simpa using hw);rw[h3];exact ZfN X.A.in1 hu I h1 hx h2 rx
 ·show Value.bool _=Value.bool _;rw[<-a2];simp
end L2
namespace L2
open PySem PySem.Spec PyProof.Rows SeqAt
theorem Zah :fh X (.builtin "isinstance") (fun xs H Q=> ∃(x:V) (t:Addr) (T:Value) (r:Bool),xs=[x,.ref t]/\ah X.K H t [.ty a,.ty b]/\((∃i,x=.int i/\T=.type "int")∨(∃k,x=.bl k/\T=.type "bool")∨(x=.af/\T=.type "NoneType")∨(∃l ys,x=.ref l/\H l=some (.lst ys)/\T=.type "list")∨∃l ys,x=.ref l/\H l=some (.tup ys)/\T=.type "tuple")/\
  PySem.W.kitAny X.K T [.type a,.type b]=some r/\Q (.bl r) H):=by
 intro pins s σ H xs us Q I rv h;obtain⟨x,t,T,r,rfl,hq,hx,hk,q⟩:=h;obtain⟨u,v,rfl,ru,rv⟩:=vals2 rv;cases rv;obtain⟨aa,rt,pl,hz⟩:=I.tuple hq;cases rt with
 |cons r1 r2=>
  cases r2 with
  |cons r3 r4=>
   cases r4;cases r1;cases r3;obtain⟨o,ho,hc,n,hd⟩:=id pl;obtain⟨cls,dd,dt,sl⟩:=o;replace hc:cls=.type "tuple" :=hc;replace hd:dt=.seq [Value.type a,Value.type b].toArray n:=hd;subst hc hd;rcases hx with ⟨i,rfl,rfl⟩|⟨k,rfl,rfl⟩|⟨rfl,rfl⟩|⟨l,ys,rfl,hl,rfl⟩|⟨l,ys,rfl,hl,rfl⟩
   ·obtain⟨tk,rfl⟩:=ru;exact ZhJ PySem.W.kitx_int I.cK True.intro ho hk (fun z=>nomatch z) fun tk=>⟨.bl r,H,I.tok _,rfl,q⟩
   ·cases ru;exact ZhJ PySem.W.kitx_bool I.cK True.intro ho hk (fun z=>nomatch z) fun tk=>⟨.bl r,H,I.tok _,rfl,q⟩
   ·cases ru;exact ZhJ PySem.W.kitx_none I.cK True.intro ho hk (fun z=>nomatch z) fun tk=>⟨.bl r,H,I.tok _,rfl,q⟩
   ·cases ru;obtain⟨_,_,n,_,h1⟩:=(show bI X.prog X.w H s.heap l (.lst ys) from I.au l _ hl);exact ZhJ ZiT I.cK ⟨_,h1,rfl⟩ ho hk (fun z=>nomatch z) fun tk=>⟨.bl r,H,I.tok _,rfl,q⟩
   ·cases ru;obtain⟨_,_,_,p,_⟩:=(show bI X.prog X.w H s.heap l (.tup ys) from I.au l _ hl);obtain⟨o,h1,h2,_⟩:=p;exact ZhJ PySem.W.kitx_tuple I.cK ⟨o,h1,h2⟩ ho hk (fun z=>nomatch z) fun tk=>⟨.bl r,H,I.tok _,rfl,q⟩
end L2
namespace L2
open PySem PySem.Spec PyProof.Rows
section
variable {CX:j8}{k:Nat}{f:Addr}{fd:FuncData}{ps:List Str}{ds:List Value}{jA:List V}{sp:Sp}{E:XK}{x:Str}{p:Pos}{e:Expr}{t:TA}
theorem Zcu (F:aJ X.prog X.w X.K X.mg X.base CX k f fd ps sp)(hr:bO k X.A)(hv:PE X (.Name x p) (dA i))(hk:PySem.W.keepIn X.K (.ref f)=true)(hb:Binds X.K fd ps ds)(hd:Vals jA ds)(hx:Passes CX X E)
  (ha:PA X (e::es) t) (he:starEach (e::es) X.env=(false,eval e X.env)::starEach es X.env:=by rfl) (cG:(backTo pos (starEach es X.env)).any (·.1)=false:=by rfl):
  PE X (.Call (.Name x p) (e::es) [] pos) (fun σ H Q=>σ[i]?=some (some (.ref f))/\mS sp jA E t σ H Q):=by
 intro pins s σ H Q I h;obtain⟨qN,h⟩:=h;refine ZcU (aH (hv pins s σ H (fun v H1=>v=.ref f/\H1=H) I ⟨_,qN,rfl,rfl⟩) fun u s1 ⟨v,H1,I1,rv,e1,e2⟩=>?_);subst e1 e2;cases rv;refine ZiE (h₀:=X.base) I1.ok.mod.qI hk (aH (ha pos pins s1 σ H1 _ I1 h) fun us s2 ⟨vs,H2,I2,r,q⟩=>⟨I2.cK,?_⟩) he cG;exact Fn F hr hb hd hx I2 r q
end
theorem src_list (prog:Program)(w:World)(aa:Array Value)(bN:l≠i):Src prog w i l aa.size (fun k=>aa.getD k .none) (fun k h=>h.IsListIter i l k/\h.IsList l aa) where
 here:=fun k h ⟨⟨o,ho,_⟩,_⟩=>⟨o,ho⟩
 cY:=fun k h h' ⟨a,b⟩ st=>⟨a.at fun o q=>st i (.inl rfl) o q,b.at fun o q=>st l (.inr rfl) o q⟩
 item:=fun A k s Q E hk ⟨hi,ht⟩ q=>wpAny_nextOf_list_item hi ht (show aa[k]?=some (aa.getD k .none) by simp[hk]) fun h' a b=>q h' ⟨a,ht.extBut b.extBut bN⟩ b
 stop:=fun A s Q E hh ⟨hi,ht⟩ q=>wpAny_nextOf_list_end hh hi ht .s fun h' e a b=>q h' e a b
abbrev yq (h:Heap)(l1:Addr):Heap:=h.push {cls:=.type "list_iterator",data:=.fields #[.ref l1,.int 0 0]}
abbrev yp (h:Heap)(l1 l2:Addr):Heap:=(yq h l1).push {cls:=.type "tuple_iterator",data:=.fields #[.ref l2,.int 0 0]}
abbrev yo (h:Heap)(l1 l2:Addr):Heap:=(yp h l1 l2).push {cls:=.type "tuple",data:=.seq #[.ref h.objs.size,.ref (yq h l1).objs.size]}
abbrev yn (h:Heap)(l1 l2:Addr):Heap:=(yo h l1 l2).push {cls:=.type "tuple",data:=.seq #[.none,.none]}
abbrev sr (h:Heap)(l1 l2:Addr):Heap:=(yn h l1 l2).push {cls:=.type "zip",data:=.fields #[.none,.bool false,.bool false,.ref (yp h l1 l2).objs.size,.ref (yo h l1 l2).objs.size]}
theorem ZgB (l1 l2:Addr)(xs ys:Array Value):Meets (Builtin.«zip.__new__» ⟨[.type "zip",.ref l1,.ref l2],[]⟩) (fun _ R s=>s.heap.IsList l1 xs/\IsTup s.heap l2 ys/\R (.ok (.ret (.ref (yn s.heap l1 l2).objs.size))) {s with heap:=sr s.heap l1 l2}):=
 .of_wp fun prog w A R s h=>by
  obtain⟨hp,gg,d,tk,os⟩:=s;obtain⟨t1,t2,h⟩:=h;have VJ:=sub_zip;have T1:(Shared.heap ⟨hp,gg,d,tk,os⟩).IsList l1 xs:=t1;have T2:IsTup (Shared.heap ⟨hp.push {cls:=.type "list_iterator",data:=.fields #[.ref l1,.int 0 0]},gg,d,tk,os⟩) l2 ys:=ZcE t2 _
  wp_walk using wpAny_pyIter_list T1,iter_tuple T2
  exact⟨_,rfl,h⟩
theorem Zgr {w:World}{xs ys:Array Value}{Q:Value->Shared->Prop}(t1:s.heap.IsList l1 xs)(t2:IsTup s.heap l2 ys)
    (q:∀h',IsZip h' (s.heap.objs.size+4) (s.heap.objs.size+2) (s.heap.objs.size+3) .none->IsPair h' (s.heap.objs.size+2) (.ref s.heap.objs.size) (.ref (s.heap.objs.size+1))->IsPair h' (s.heap.objs.size+3) .none .none->
      h'.IsListIter s.heap.objs.size l1 0->IsTupIter h' (s.heap.objs.size+1) l2 0->(∀c o,s.heap.get? c=some o->h'.get? c=some o)->Q (.ref (s.heap.objs.size+4)) {s with heap:=h'}):
    wpAny (model prog w) A (call (.type "zip") [.ref l1,.ref l2]) Q E s:=by
  refine callType_new F.called_zip .d (F.typeCall_zip_2 _ _) (F.newCall_zip_2 _ _) (fun obj=>F.args_object_init_3 obj _ _) F.entry_zip_new (ZgB l1 l2 xs ys) ⟨t1,t2,?_⟩;have y1:(yq s.heap l1).objs.size=s.heap.objs.size+1:=Zey ..;have y2:(yp s.heap l1 l2).objs.size=s.heap.objs.size+2:=by rw[Zey,y1]
  have y3:(yo s.heap l1 l2).objs.size=s.heap.objs.size+3:=by rw[Zey,y2]
  have y4:(yn s.heap l1 l2).objs.size=s.heap.objs.size+4:=by rw[Zey,y3]
  have p:∀{h:Heap}{c:Addr}{o u:Obj},h.get? c=some o->(h.push u).get? c=some o:=fun e=>Zan _ e;have x5:(sr s.heap l1 l2).get? (yn s.heap l1 l2).objs.size=some _:=ZaD _ rfl;have x4:(sr s.heap l1 l2).get? (yo s.heap l1 l2).objs.size=some _:=p (ZaD _ rfl);have x3:(sr s.heap l1 l2).get? (yp s.heap l1 l2).objs.size=some _:=p (p (ZaD _ rfl));have x2:(sr s.heap l1 l2).get? (yq s.heap l1).objs.size=some _:=p (p (p (ZaD _ rfl)));have x1:(sr s.heap l1 l2).get? s.heap.objs.size=some _:=p (p (p (p (ZaD _ rfl))));show _/\_;rw[y2,y3,y4]at x5;rw[y1,y2]at x3;rw[y3]at x4;rw[y1]at x2;rw[y4];exact⟨⟨_,x5,rfl⟩,q _ x5 x3 x4 ⟨_,x1,rfl,rfl⟩ ⟨_,x2,rfl,rfl⟩ fun c o x=>p (p (p (p (p x))))⟩
def F0 (K:Zke)(l1 l2:Addr):It:=
 ⟨fun i H=> ∃xs ys x y,ak K H l1 xs/\ah K H l2 ys/\xs.length=ys.length/\xs[i]?=some x/\ys[i]?=some y,
  fun i H v H'=> ∃(T:Addr) (x y:V),v=.ref T/\H T=none/\H'=upd H T (.par [x,y])/\∀xs ys,ak K H l1 xs->ah K H l2 ys->xs[i]?=some x/\ys[i]?=some y,
  fun i H=> ∃xs ys,ak K H l1 xs/\ah K H l2 ys/\xs.length=i/\ys.length=i⟩
theorem Zdt {P:Program}{w:World}{K:Zke}(z TI TO i1 i2 l1 l2:Addr)(D:ZipApart z TI TO i1 i2 l1 l2):
  Turn P w K (.Tuple elts kk pos) (F0 K l1 l2) [z,TI,TO,i1,i2] z (fun i h=>IsZip h z TI TO .none/\IsPair h TI (.ref i1) (.ref i2)/\(∃a b,IsPair h TO a b)/\h.IsListIter i1 l1 i/\IsTupIter h i2 l2 i) where
 mem:=.s
 obj:=fun i h st b hb=>by obtain⟨a1,a2,⟨u,v,a3⟩,⟨o4,h4,_,d4⟩,⟨o5,h5,_,d5⟩⟩:=st;exact zr (P:=fun b=> ∃o,h.get? b=some o/\∀v,o.data≠.cell v) ⟨_,a1,fun v z=>by cases z⟩ ⟨_,a2,fun v z=>by cases z⟩ ⟨_,a3,fun v z=>by cases z⟩ ⟨_,h4,fun v z=>by rw[d4]at z;cases z⟩ ⟨_,h5,fun v z=>by rw[d5]at z;cases z⟩ b hb
 keep:=fun i h h' st k=>by obtain⟨a1,a2,⟨u,v,a3⟩,a4,a5⟩:=st;exact⟨k z .s _ a1,k TI .s _ a2,⟨u,v,k TO .s _ a3⟩,a4.at fun o q=>k i1 .s o q,let ⟨o,ho,r⟩:=a5;⟨o,k i2 .s o ho,r⟩⟩
 item:=by
  intro X hP hw hK hc i pins s σ H E I hf st hg;subst hP hw hK;obtain⟨xs,ys,x,y,eZ,cM,kM,hx,hy⟩:=hg;obtain⟨f9,lK,jl,gh⟩:=I.list eZ;obtain⟨il,hJ,eI,dF⟩:=I.tuple cM;obtain⟨u,hu,ru⟩:=lK.get hx;obtain⟨v,hv,rv⟩:=hJ.get hy;have Dz:il.toArray.size=f9.toArray.size:=by
   have e1:=lK.length;have e2:=hJ.length;simp only[Zar]
   lia
  have rb:i<f9.toArray.size:=by have e1:=(Zai.mp hu).1;simp only[Zar];omega
  have U2:=Ow X.prog X.w il.toArray D.l2i2;rw[Dz]at U2;have W:=NP (A:=X.A) (I.ok.hd hc) (L2.src_list X.prog X.w f9.toArray D.l1i1) U2 D;obtain⟨a1,a2,a3,a4,a5⟩:=st;refine W.item i s _ _ rb ⟨a1,a2,a3,⟨a4,jl.isList⟩,⟨a5,eI⟩⟩ fun T vals h' tk hP dz rA kL hk=>⟨_,rfl,W.go elts kk pos i T _ _ _ kL fun gp eW gk=>?_⟩;have nA:f9.toArray.getD i .none=u:=by simp[Zci,hu]
  have dH:il.toArray.getD i .none=v:=by simp[Zci,hv]
  rw[nA,dH]at hP;subst hP;have both:∀b o,b∉[z,TI,TO,i1,i2]->s.heap.get? b=some o->gp.get? b=some o:=fun b o hb q=>gk b o (JR hb) (hk b o (JR hb) q);have xg:gp.IsTuple T #[u,v]:=rA.at fun o q=>gk T o (W.apart _ _ _ kL) q;refine⟨.ref T,upd H T (.par [x,y]),WG (s:=s) (h':=gp) (tk:=tk) I hf both dz xg ru rv,rfl,⟨T,x,y,rfl,I.au.fresh dz,rfl,fun as bs ha hb=>by rw[I.vV ha eZ,I.AZ hb cM];exact⟨hx,hy⟩⟩,⟨eW.1,eW.2.1,eW.2.2.1,eW.2.2.2.1.1,eW.2.2.2.2.1⟩,N6 hf dz ?_⟩;obtain⟨u',v',EY⟩:=a3;obtain⟨o4,h4,_,d4⟩:=a4;obtain⟨o5,h5,_,d5⟩:=a5;exact zr (P:=fun b=> ∃o,s.heap.get? b=some o/\∀v,o.data≠.cell v) ⟨_,a1,fun v z=>by cases z⟩ ⟨_,a2,fun v z=>by cases z⟩ ⟨_,EY,fun v z=>by cases z⟩ ⟨_,h4,fun v z=>by rw[d4]at z;cases z⟩ ⟨_,h5,fun v z=>by rw[d5]at z;cases z⟩
 done:=by
  intro X hP hw hK hc i pins s σ H E I hf st hg;subst hP hw hK;obtain⟨xs,ys,eZ,cM,hx,hy⟩:=hg;obtain⟨f9,lK,jl,gh⟩:=I.list eZ;obtain⟨il,hJ,eI,dF⟩:=I.tuple cM;have e1:=lK.length;have e2:=hJ.length;have Dz:il.toArray.size=f9.toArray.size:=by simp only[Zar];lia
  have U2:=Ow X.prog X.w il.toArray D.l2i2;rw[Dz]at U2;have W:=NP (A:=X.A) (I.ok.hd hc) (L2.src_list X.prog X.w f9.toArray D.l1i1) U2 D;have hn:i=f9.toArray.size:=by simp only[Zar];lia
  obtain⟨a1,a2,a3,a4,a5⟩:=st;rw[hn]at a4 a5;exact W.done s _ _ ⟨a1,a2,a3,⟨a4,jl.isList⟩,⟨a5,eI⟩⟩ fun h' tk hk=>⟨rfl,Um (s:=s) (h':=h') (tk:=tk) I hf fun b o hb q=>hk b o (JR hb) q⟩
 self:=fun A i s Q E st h=>Zfq st.1 h
section
variable {tp:Pos}
def Vd (K:Zke)(ta:TA):TI:=fun σ H R=>ta σ H fun vs H1=> ∃l1 l2,vs=[.ref l1,.ref l2]/\(∃xs ys,ak K H1 l1 xs/\ah K H1 l2 ys)/\R (F0 K l1 l2) H1
theorem ZfV {a b:Expr}{ta:TA}{p:Pos}(hg:Gl X "zip")(hm:X.mg "zip" =none)(ha:PA X [a,b] ta)(hs:starEach [a,b] X.env=[(false,eval a X.env),(false,eval b X.env)]:=by rfl)(qU:starEach [b] X.env=[(false,eval b X.env)]:=by rfl):
  PI X (.Tuple elts kk tp) (.Call (.Name "zip" p) [a,b] [] pos) (Vd X.K ta):=by
 intro pins s σ H R I h;refine Call_ (Jx I hg hm PyProof.Rows.Boot.«zip» (Zca (aH (ha pos pins s σ H _ I h) fun us s1 ⟨vs,H1,I1,r1,q1⟩=>?_) (by rw[hs,qU]) (by rw[qU];rfl)));obtain⟨l1,l2,e,⟨xs,ys,eZ,cM⟩,q⟩:=q1;subst e;obtain⟨u,v,rfl,ru,rv⟩:=vals2 r1;cases ru;cases rv;obtain⟨f9,lK,jl,gh⟩:=I1.list eZ;obtain⟨il,hJ,eI,dF⟩:=I1.tuple cM;have t1:l1<s1.heap.objs.size:=by obtain⟨o,ho,_⟩:=jl.isList;exact ZaA ho
 have t2:l2<s1.heap.objs.size:=by obtain⟨o,ho,_⟩:=id eI;exact ZaA ho
 have D:=OF s1.heap.objs.size l1 l2 t1 t2;refine Zgr jl.isList eI fun h' b1 b2 b3 b4 b5 hk=>Zfq b1 ?_;have I2:ag X pins σ H1 {s1 with heap:=h'} :=I1.kept (t':=s1.toks) hk;refine⟨s1.heap.objs.size+4,[s1.heap.objs.size+4,s1.heap.objs.size+2,s1.heap.objs.size+3,s1.heap.objs.size,s1.heap.objs.size+1],_,_,H1,rfl,I2,
  Zdt _ _ _ _ _ l1 l2 D,⟨b1,b2,⟨_,_,b3⟩,b4,b5⟩,fun b hb=>?_,q⟩
 have jy:s1.heap.objs.size<=b:=by simp only[Zas,Zbk,Zcp]at hb;rcases hb with z|z|z|z|z<;>rw[z]<;>first|exact Zal _ |exact Zid _ _
 exact I1.pC jy (I1.au.fresh jy)
end
theorem ZdL {K:Zke}{l1 l2:Addr}{zs:List V}{g:TG}{tt:TT}{ti:TC}{σ:St}{Q:List V->St->Hp->Prop}(hlen:xs.length=zs.length)(Pv:Nat->List V->St->Hp->Prop)(h0:Pv 0 ys σ H)
  (hl:∀i ys σ H,i<=xs.length->Pv i ys σ H->ak K H l1 xs/\ah K H l2 zs)
  (hs:∀i x y T ys σ H,xs[i]?=some x->zs[i]?=some y->H T=none->Pv i ys σ H->g (.ref T) σ (upd H T (.par [x,y])) fun bB H2=>tt bB H2 fun b H3=>if b=true then ti ys bB H3 (Pv (i+1)) else Pv (i+1) ys bB H3)
  (hd:∀ys σ H,Pv xs.length ys σ H->Q ys σ H):ke g tt ti (F0 K l1 l2) ys σ H Q:=W0 Pv h0 (fun i ys σ H h p=>⟨xs,zs,xs[i],zs[i]'(hlen▸h),(hl i ys σ H (Zbl h) p).1,(hl i ys σ H (Zbl h) p).2,hlen,Zaj _,Zaj _⟩) (fun ys σ H p=>⟨⟨xs,zs,(hl _ ys σ H (Zal _) p).1,(hl _ ys σ H (Zal _) p).2,rfl,hlen.symm⟩,hd ys σ H p⟩) fun i ys σ H x H' h p ⟨T,a,b,e1,e2,e3,e4⟩=>by
 subst e1 e3;obtain⟨q1,q2⟩:=hl i ys σ _ (Zbl h) p;obtain⟨f1,f2⟩:=e4 xs zs q1 q2;exact hs i a b T ys σ H f1 f2 e2 p
theorem Zem :starEach (.BinOp a op b p::es) env=(false,eval (.BinOp a op b p) env)::starEach es env:=rfl
theorem ZdA :starEach (.Name x p::es) env=(false,eval (.Name x p) env)::starEach es env:=rfl
theorem ZdB :starEach (.List as p::es) env=(false,eval (.List as p) env)::starEach es env:=rfl
theorem ZgQ (h:PE X (.BinOp a op b p) te)(hr:PA X es t):PA X (.BinOp a op b p::es) (aI te t):=Za h hr Zem
theorem Zf0 (h:PE X (.Name x p) te)(hr:PA X es t):PA X (.Name x p::es) (aI te t):=Za h hr ZdA
theorem Uh (h:PE X (.List as p) te)(hr:PA X es t):PA X (.List as p::es) (aI te t):=Za h hr ZdB
end L2
namespace PyProof.Rows.fS
open PySem
theorem Zbn (a:Value):argsOk "min" ⟨[a],[]⟩:=by unfold argsOk;kernel_rfl
end PyProof.Rows.fS
namespace L2
open PySem PySem.Spec PyProof.Rows PyProof.Rows.fS
inductive Ry (K:Zke) (xs:List V) (H:Hp) (Q:VK):Prop
 |mk (a:Addr) (vs:List V) (ks:List (List Int)) (c0:xs=[.ref a]) (c1:ak K H a vs) (c2:Paired (dm H) vs ks) (c3:vs≠[]) (c4:∀v k,v∈vs->k∈ks->dm H v k->(∀k'∈ks,aM k' k=false)->Q v H)
theorem Zd3 (hu:X.A.units+1<cLine)(hc:X.calm=true:=by rfl):fh X (.builtin "min") (Ry X.K):=by intro pins s σ H xs us Q I r h;obtain⟨a,vs,ks,rfl,hq,pr,ne,q⟩:=h;obtain⟨u,rfl,ru⟩:=Zji r;cases ru;exact OQ (Zbn _) rfl hc hu I hq pr (fun e=>absurd e ne) q
end L2
namespace L2
open PySem PySem.Spec PyProof.Rows
section
variable {w:World}
theorem Wo {items:Array Value}{Q:Value->Shared->Prop}(ht:IsTup s.heap t items)(hs:s.heap.IsSliceOf sl (.int 2 t0) (.int 0 t1) (.int (-1) tk))(h2:2<=items.size)
  (h:∀(lo:Int) (K:Nat),K<=2->Q (.ref s.heap.objs.size) {s with heap:=s.heap.push {cls:=.type "tuple",data:=.seq ((List.range K).filterMap fun(k:Nat)=>items[(lo+(k:Int)*(-1)).toNat]?).toArray} }):wpAny (model prog w) A (getItem (.ref t) (.ref sl)) Q E s:=by
 obtain⟨os,jT,ud,nK⟩:=id hs;have dz:s.TypeIs (.ref sl) "slice" :=⟨os,jT,ud⟩;unfold getItem
 try with_reducible refine ZcT ?_
 first|refine gc (Zav ?_)|skip
 refine gc (ZiU ht.typeIs .d ?_);refine gc (ZbC (name:=Str.ofString "__getitem__") ht.typeIs Za6
  (ZcD Za6 ht.typeIs Zir ?_ (ZiF _ _)))
 show wpAny _ _ (Builtin.Tuple.tupleItemsOf (.ref t) >>=_) _ _ s;refine gc (Zi2 ht ?_);refine gc (Zjq dz ?_);rw[ZaQ .d];unfold Builtin.Slice.sliceApplied Builtin.Slice.sliceFields;refine gc (gc (gc (ZbF jT nK (x:=.int 2 t0) rfl (gc (ZbF jT nK (x:=.int 0 t1) rfl (gc (ZbF jT nK (x:=.int (-1) tk) rfl (Zav ?_))))))));refine gc (Zi1 ?_);show wpAny _ _ (if ((-1:Int)==0)=true then _ else _) _ _ s;rw[ZaN .d];refine gc (Zi1 (gc (Zi1 (gc (Zav ?_)))));have lr:Builtin.Slice.sliceAdjust (some 2) (some 0) (-1) (items.size:Int)=(min 2 ((items.size:Int)-1),min 0 ((items.size:Int)-1)):=rfl;have h0:min 0 ((items.size:Int)-1)=0:=.o;generalize zM:min 2 ((items.size:Int)-1)=lo at lr;have HQ:Builtin.Slice.slicePlaces lo 0 (-1)<=2:=by unfold Builtin.Slice.slicePlaces;rw[ZaN .d,ZaQ .o];rw[show(- -1:Int)=1 by decide,Int.ediv_one];omega
 show wpAny _ _ (match Builtin.Slice.sliceAdjust (some 2) (some 0) (-1) (items.size:Int) with|(lo,hi)=>pure (lo,(-1:Int),Builtin.Slice.slicePlaces lo hi (-1))) _ _ s;rw[lr,h0];show wpAny _ _ (pure (lo,(-1:Int),Builtin.Slice.slicePlaces lo 0 (-1))) _ _ s;generalize Builtin.Slice.slicePlaces lo 0 (-1)=K at HQ;refine Zav ?_;have jU:¬((lo==0&&(-1:Int)==1&&K==items.size)=true):=by intro q;rw[Zap,Zap]at q;exact absurd q.1.2 .d
 show wpAny _ _ (if (lo==0&&(-1:Int)==1&&K==items.size)=true then _ else _) _ _ s;rw[ZaN jU];have h:=h lo K HQ;have nD:sizeOk (.seq ((List.range K).filterMap fun(k:Nat)=>items[(lo+(k:Int)*(-1)).toNat]?).toArray):=by show((List.range K).filterMap fun(k:Nat)=>items[(lo+(k:Int)*(-1)).toNat]?).toArray.size<=sizeLine;have:=Zc6 (fun(k:Nat)=>items[(lo+(k:Int)*(-1)).toNat]?) (List.range K);rw[ZcR]at this;rw[Zar,ZaH];omega
 first
  |exact gc (m:=Builtin.Tuple.tupleExact _) (Zbm (Zav ⟨_,rfl,Zav h⟩) nD)
  |exact gc (m:=Builtin.Tuple.tupleExact _) (Zbm (gc (Zav (Zav ⟨_,rfl,Zav h⟩))) nD)
  |exact gc (gc (m:=Builtin.Tuple.tupleExact _) (Zbm (Zav (Zav ⟨_,rfl,Zav h⟩)) nD))
  |exact gc (gc (m:=Builtin.Tuple.tupleExact _) (Zbm (Zav ⟨_,rfl,Zav h⟩) nD))
end
section
variable {e:Expr}{p1 p2 p3 p4 p5:Pos}{j j2 j3:Nat}
def GZ (K:Zke)(te:TE):TE:=fun σ H Q=>te σ H fun x H1=> ∃a xs,x=.ref a/\ah K H1 a xs/\2<=xs.length/\∀p ys,(∀y∈ys,y∈xs)->ys.length<=2->H1 p=none->Q (.ref p) (upd H1 p (.tup ys))
theorem Uq (r:Vals xs us)(f:Nat->Nat):∀l:List Nat,Vals (l.filterMap fun k=>xs[f k]?) (l.filterMap fun k=>us.toArray[f k]?)
 | []=>.nil
 |i::l=>by
  have ih:=Uq r f l;cases h:xs[f i]? with
  |none=>
   have h':us.toArray[f i]?=none:=by rw[Zfi,r.length]at h;exact Array.getElem?_eq_none (by simpa using h)
   rw[ZbE,h,ZbE,h'];exact ih
  |some x=>
   obtain⟨u,hu,ru⟩:=r.get h;have h':us.toArray[f i]?=some u:=by simpa using hu
   rw[ZbE,h,ZbE,h'];exact .cons ru ih
theorem ZeH (he:PE X e te):PE X (.Subscript e (.Slice (some (.Constant (.int 2) j p1)) (some (.Constant (.int 0) j2 p2)) (some (.UnaryOp .USub (.Constant (.int 1) j3 p3) p4)) p5) pos) (GZ X.K te):=by intro pins s σ H Q I h;refine Subscript_ (aH (he pins s σ H _ I h) fun v s1 ⟨x,H1,I1,r1,a,xs,ex,hq,h2,q⟩=>?_);subst ex;cases r1;refine wpAny_Slice ?_;rw[Zi3];refine aH (Zc pins s1 σ H1 (fun v H2=>v=.int 2/\H2=H1) I1 ⟨rfl,rfl⟩) fun v0 s2 ⟨y0,H2,I2,r2,EE,eh0⟩=>?_;subst EE eh0;obtain⟨t0,rfl⟩:=r2;rw[Zi3];refine aH (Zc pins s2 σ H2 (fun v H3=>v=.int 0/\H3=H2) I2 ⟨rfl,rfl⟩) fun v1 s3 ⟨y1,H3,I3,r3,ED,eh1⟩=>?_;subst ED eh1;obtain⟨t1,rfl⟩:=r3;rw[Zi3];refine aH (uu WO Zc pins s3 σ H3 (fun v H4=>v=.int (-1)/\H4=H3) I3 ⟨_,rfl,rfl,rfl⟩) fun vk s4 ⟨y,H4,I4,r4,ey,eh⟩=>?_;subst ey eh;obtain⟨tk,rfl⟩:=r4;have I5:ag X pins σ H4 {s4 with heap:=s4.heap.push {cls:=.type "slice",data:=.fields #[.int 2 t0,.int 0 t1,.int (-1) tk]} } :=I4.kept (t':=s4.toks) fun b ob q=>Zan _ q;obtain⟨aa,r,pl,hz⟩:=I5.tuple hq;refine tail_any (ops:=[.ref a,.ref s4.heap.objs.size]) pl.typeIs Za6.lookup ?_ (by with_unfolding_all rfl);refine Wo pl (Heap.IsSliceOf.new ..) (by rw[Zar,<-r.length];exact h2) fun lo K hK=>?_;have rv:=Uq r (fun k=>(lo+(k:Int)*(-1)).toNat) (List.range K);have hl:=Zc6 (fun k:Nat=>xs[(lo+(k:Int)*(-1)).toNat]?) (List.range K);rw[ZcR]at hl;refine⟨.ref _,_,I5.laid (a:=(s4.heap.push {cls:=.type "slice",data:=.fields #[.int 2 t0,.int 0 t1,.int (-1) tk]}).objs.size) (o:=.tup ((List.range K).filterMap fun(k:Nat)=>xs[(lo+(k:Int)*(-1)).toNat]?)) (t':=s4.toks) (fun b u z=>Zan _ z) (Zal _) ⟨by rw[ZaH];omega,_,rv,Zjn _ _,_,ZaD _ rfl,rfl⟩,rfl,q _ _ (fun y hy=>?_) .o (I5.au.fresh (Zal _))⟩;obtain⟨i,_,e⟩:=Zb7.mp hy;exact Zao e
end
def rY (e:Expr):Prop:=∀(es:List Expr) (env:Env),starEach (e::es) env=(false,eval e env)::starEach es env
theorem ZY :rY (.Tuple as j p):=fun _ _=>rfl
theorem WT :rY (.Subscript a b p):=fun _ _=>rfl
theorem ZgL :rY (.BinOp a op b p):=fun _ _=>rfl
theorem Zhu :rY (.UnaryOp op a p):=fun _ _=>rfl
theorem Zel :starEach (.Constant c j p::es) env=(false,eval (.Constant c j p) env)::starEach es env:=rfl
theorem Zi (h:PE X (.Constant c j p) te)(hr:PA X es t):PA X (.Constant c j p::es) (aI te t):=Za h hr Zel
theorem Yp (h:PE X (.Tuple as j p) te)(hr:PA X es t):PA X (.Tuple as j p::es) (aI te t):=Za h hr (ZY _ _)
theorem Zhv (h:PE X (.UnaryOp op a p) te)(hr:PA X es t):PA X (.UnaryOp op a p::es) (aI te t):=Za h hr (Zhu _ _)
theorem Yo {p:Pos}(d:Def X.prog X.w X.K X.mg X.base k x ps sp)(hr:bO k X.A)(ha:PE X a ta)(hb:PE X b tb)(hc:PE X c tc)(na:rY a)(nb:rY b)(nc:rY c)(hg:Gl X x:=by rfl)(gn:(x==("__debug__" :Str))=false:=by decide):
  PE X (.Call (.Name x p) [a,b,c] [] pos) (mS sp [] E0 (aI ta (aI tb (aI tc bD)))):=
 Zg d hr (Za ha (Za hb (Za hc Zb (nc _ _)) (nb _ _)) (na _ _)) hg gn (na _ _) (by rw[nb,nc];rfl)
end L2
namespace U
open PySem L2 PyProof.Rows
def top (i:Nat):Stmt:=PySem.Challenge.pw_unlikesteps_k31_papers_looked_at.main.body.getD i (.Pass ⟨0,0,0,0⟩)
structure Gs (mg:Str->Option Value):Prop where
 isinstance:mg "isinstance" =none
 int:mg "int" =none
 bool:mg "bool" =none
 tuple:mg "tuple" =none
 list:mg "list" =none
 len:mg "len" =none
 all:mg "all" =none
 set:mg "set" =none
 range:mg "range" =none
 max:mg "max" =none
 min:mg "min" =none
 enumerate:mg "enumerate" =none
 zip:mg "zip" =none
 sorted:mg "sorted" =none
 sum:mg "sum" =none
 str:mg "str" =none
 repr:mg "repr" =none
 longest:∃t,mg "LONGEST_SIDE" =some (.int 12 t)
abbrev BF:Stmt:=top 19
inductive Be (K:Zke) (vs:List V) (H:Hp) (Q:VK) (_E:XK):Prop
 |mk (x:_) (c0:vs=[x]) (c1:fG K H x) (c2:Q (.bl (whole x)) H)
theorem QO:bo ["thing"] ["thing"] (aR BF):=ZU .k
theorem ZeL (F:aO K "is_whole" "is_whole" BF f fd)(G:Gs mg):aJ P w K mg base aS 1 f fd ["thing"] (Be K):=by
 refine F.ok QO (fun vs H Q E h=>?_) (fun aw A outer s H vs Q E hr h=>?_)
 ·obtain⟨x,rfl,_⟩:=h;rfl
 ·obtain⟨x,rfl,⟨T,t⟩,q⟩:=h;refine⟨_,Zk (Zr (Yw (Zm (Z8 (c:= "int")) rfl G.isinstance ZbZ (Za (pv 0) (Za (YB (v:=.ty "int") rfl G.int boot_int rfl) Zb)))
   (YJ (MK (Zm (Z8 (c:= "bool")) rfl G.isinstance ZbZ (Za (pv 0) (Za (YB (v:=.ty "bool") rfl G.bool boot_bool rfl) Zb))))))),?_⟩
  refine⟨x,rfl,x,_,_,rfl,t,Zgk t,_,rfl,?_⟩;rw[ZbW]at q;cases e:Dm x with
  |false=>rw[e]at q;exact ar q
  |true=>rw[e]at q;exact aq ⟨x,rfl,x,_,_,rfl,t,Ze3 t,_,rfl,q⟩
abbrev BE:Stmt:=top 20
inductive uY (K:Zke) (vs:List V) (H:Hp) (Q:VK) (_E:XK):Prop
 |mk (x a b:_) (c0:vs=[x,.int a,.int b]) (c1:fG K H x) (c2:Q (.bl (bQ x a b)) H)
theorem QN:bo nw nw (aR BE):=ZU .k
theorem ZdG (F:aO K "is_whole_within" "is_whole_within" BE f fd)(D1:Def P w K mg base 1 "is_whole" ["thing"] (Be K)):aJ P w K mg base aS 2 f fd nw (uY K):=by
 refine F.ok QN (fun vs H Q E h=>?_) (fun aw A outer s H vs Q E hr h=>?_)
 ·obtain⟨x,a,b,rfl,_⟩:=h;rfl
 ·obtain⟨x,a,b,rfl,t,q⟩:=h;refine⟨_,Zk (Zr (Yw (Zg D1 hr (Zv 0)) (YJ (N7 Ax Ax (pv 1) (pv 0) (pv 2))))),?_⟩;refine⟨x,rfl,x,rfl,t,_,rfl,?_⟩;cases x with
  |int i=>
   refine aq ⟨_,rfl,_,rfl,_,_,rfl,rfl,_,rfl,?_⟩;have e:bQ (.int i) a b=(decide (a<=i)&&decide (i<=b)):=rfl;rw[e]at q;cases e1:decide (a<=i) with
   |false=>rw[e1]at q;exact ar q
   |true=>rw[e1]at q;exact aq ⟨_,rfl,_,_,rfl,rfl,q⟩
  |_=>exact ar q
abbrev BI:Stmt:=top 21
inductive p8 (K:Zke) (vs:List V) (H:Hp) (Q:VK) (_E:XK):Prop
 |mk (x n:_) (c0:vs=[x,.int n]) (c1:fG K H x) (c2:Q (.bl (match bJ H x with|some xs=>decide ((xs.length:Int)=n)|none=>false)) H)
theorem QR:bo ss ss (aR BI):=ZU .k
theorem ZeM (F:aO K "is_tuple_of" "is_tuple_of" BI f fd)(G:Gs mg):aJ P w K mg base aS 1 f fd ss (p8 K):=by
 refine F.ok QR (fun vs H Q E h=>?_) (fun aw A outer s H vs Q E hr h=>?_)
 ·obtain⟨x,n,rfl,_⟩:=h;rfl
 ·obtain⟨x,n,rfl,⟨T,t⟩,q⟩:=h;refine⟨_,Zk (Zr (Yw (Zm (Z8 (c:= "tuple")) rfl G.isinstance ZbZ (Za (pv 0) (Za (YB (v:=.ty "tuple") rfl G.tuple ZhZ rfl) Zb)))
   (YJ (YA Jl (Zm Zx rfl G.len ZcY (Zv 0)) (pv 1) (iO _))))),?_⟩
  refine⟨x,rfl,x,_,_,rfl,t,ZdS t,_,rfl,?_⟩;cases e:bJ H x with
  |none=>rw[e]at q;exact ar q
  |some xs=>rw[e]at q;obtain⟨a,rfl,ha⟩:=ZO e;refine aq ⟨_,rfl,a,xs,rfl,.inr (ah.of ha),_,rfl,rfl,?_⟩;have z:decide (V.int (xs.length:Int)=V.int n)=decide ((xs.length:Int)=n):=.s;rw[z];exact q
abbrev Cp:Stmt:=top 22
def qM:Option (List V)->Bool
 |some [a,b]=>bQ a 1 12&&bQ b 1 12
 |_=>false
def iF (K:Zke)(H:Hp)(x:V):Prop:=fG K H x/\∀xs,bJ H x=some xs->∀y∈xs,fG K H y
inductive yM (K:Zke) (vs:List V) (H:Hp) (Q:VK) (_E:XK):Prop
 |mk (x:_) (c0:vs=[x]) (c1:iF K H x) (c2:∀H',ae H H'->Q (.bl (qM (bJ H x))) H')
theorem Q3:bo ["thing"] ["thing"] (aR Cp):=ZU .k
theorem ZeU (F:aO K "is_board" "is_board" Cp f fd)(G:Gs mg)(D1:Def P w K mg base 1 "is_tuple_of" ss (p8 K))(D2:Def P w K mg base 2 "is_whole_within" nw (uY K)):
  aJ P w K mg base aS 3 f fd ["thing"] (yM K):=by
 obtain⟨tk,hL⟩:=G.longest;refine F.ok Q3 (fun vs H Q E h=>?_) (fun aw A outer s H vs Q E hr h=>?_)
 ·obtain⟨x,rfl,_⟩:=h;rfl
 ·obtain⟨x,rfl,⟨t,hi⟩,q⟩:=h;refine⟨_,Zk (Zr (Yw (Zg D1 (hr.mono .d) (Za (pv 0) (Za Zc Zb)))
   (YJ (Zm JQ rfl G.all boot_all (Za (Z7 ["side"] 1 [] (Wk (pv 0)) (fun C s H fp=>pb 0) (fun C s H fp=>Ym)
    (fun C s H fp D=>ZK rfl (Zg D2 (hr.mono .d) (Za (pv 0) (Za Zc (Za (Wy (v:=.int 12) rfl hL ⟨_,rfl⟩) Zb)))))) Zb))))),?_⟩
  refine⟨x,rfl,x,2,rfl,t,_,rfl,?_⟩;cases e:bJ H x with
  |none=>rw[e]at q;exact ar (q H (ae.refl H))
  |some xs=>
   rw[e]at q;obtain⟨a,rfl,ha⟩:=ZO e;show if decide ((xs.length:Int)=2)=true then _ else _
   by_cases h2:xs.length=2
   ·rw[Zau (show(xs.length:Int)=2 by omega)];refine aq ⟨_,rfl,a,rfl,⟨xs,ah.of ha⟩,?_⟩;refine Je (xs:=xs) (fun i ys σ H2=>ys=(xs.take i).map (fun y=>V.bl (bQ y 1 12))/\H2=H/\∃v,σ=[v]) ⟨rfl,rfl,none,rfl⟩ (fun i ys σ H2 _ ⟨_,e2,_⟩=>by rw[e2];exact ah.of ha) ?_ ?_
    ·rintro i y ys σ H2 hy ⟨rfl,rfl,v,rfl⟩;have my:y∈xs:=Zao hy;refine⟨y,rfl,y,1,12,rfl,hi xs e y my,?_,?_⟩
     ·rw[Zat,ZaH,ZaB];omega
     ·refine⟨?_,rfl,_,rfl⟩;rw[ZaO,hy,ZaW];rfl
    ·rintro ys σ H2 ⟨rfl,rfl,v,rfl⟩ p hp;rw[ZaV];refine⟨p,xs.map (fun y=>bQ y 1 12),rfl,?_,?_⟩
     ·rw[Zdq];exact ak.of aj
     ·have e3:qM (some xs)=(xs.map (fun y=>bQ y 1 12)).all id:=by
       match xs,h2 with
       | [a,b],_=>simp[qM]
      rw[<-e3];exact q _ fun b o hb=>by rw[Zh (Ze hb hp)];exact hb
   ·rw[Zax (show ¬(xs.length:Int)=2 by omega)];have e3:qM (some xs)=false:=by
     match xs,h2 with
     | [],_=>rfl
     | [a],_=>rfl
     | [a,b],h=>exact absurd rfl h
     |a::b::c::r,_=>rfl
    rw[e3]at q;exact ar (q H (ae.refl H))
theorem JO (val:Nat->Int):∀n,((PyProof.Rows.firstMet val n).length=n↔((List.range n).map val).Nodup)
 |0=>by simp[PyProof.Rows.firstMet_zero]
 |n+1=>by
  have ih:=JO val n;have le:=PyProof.Rows.firstMet_length_le val n;rw[PyProof.Rows.firstMet_succ,PyProof.Rows.step_length,PyProof.Rows.firstMet_any,Zcw,ZaW];have e:(((List.range n).map val).any (· ==val n))=true↔val n∈(List.range n).map val:=by
   rw[Zda];constructor
   ·rintro⟨x,hx,q⟩;have:x=val n:=by simpa using q
    rw[<-this];exact hx
   ·intro h;exact⟨_,h,.s⟩
  have nd:((List.range n).map val++List.map val [n]).Nodup↔((List.range n).map val).Nodup/\¬val n∈(List.range n).map val:=by
   rw[ZcS];constructor
   ·rintro⟨h1,_,h3⟩;exact⟨h1,fun m=>h3 _ m (val n) .s rfl⟩
   ·rintro⟨h1,h2⟩;refine⟨h1,.s,fun a ha b hb q=>h2 ?_⟩;have cj:b=val n:=by simpa using hb
    rw[<-cj,<-q];exact ha
  rw[nd,<-ih];by_cases m:val n∈(List.range n).map val
  ·rw[ZaQ (e.mpr m)];constructor
   ·intro h;lia
   ·rintro⟨_,h⟩;exact absurd m h
  ·rw[ZaN (fun z=>m (e.mp z))];constructor
   ·intro h;exact⟨.l,m⟩
   ·rintro⟨h,_⟩;lia
theorem Zcq (ns:List Int):sW ns=ns.length↔ns.Nodup:=by
 unfold sW;rw[JO];have e:(List.range ns.length).map (fun i=>ns.getD i 0)=ns:=by refine Zjf .s fun i h1 h2=>?_;rw[List.getElem_map,List.getElem_range,Zci,Zaj h2,Zic]
 rw[e]
def rowsOf (xs:List V):List V:=xs.filter fun x=>!decide (x=.af)
def jO (wd hg:Int):Option (List V)->Bool
 |some xs=>decide ((xs.length:Int)=wd)&&((rowsOf xs).all fun r=>bQ r 0 (hg-1))&&decide (rowsOf xs).Nodup
 |none=>false
def bS (H:Hp)(x:V)(wd hg:Int):Prop:=bJ H x=some [.int wd,.int hg]/\1<=wd/\wd<=12/\1<=hg/\hg<=12
theorem bS.same (b:bS H x wd hg)(s:ae H H'):bS H' x wd hg:=⟨s.bJ b.1,b.2⟩
theorem bS.is (b:bS H x wd hg):qM (bJ H x)=true:=by obtain⟨h,h1,h2,h3,h4⟩:=b;rw[h];show(decide (1<=wd)&&decide (wd<=12)&&(decide (1<=hg)&&decide (hg<=12)))=true;simp[h1,h2,h3,h4]
theorem bS.pl {K:Zke}{x:V}{wd hg:Int}(b:bS H x wd hg):iF K H x:=by
 obtain⟨a,rfl,ha⟩:=ZO b.1;refine⟨⟨_,.tup ha⟩,fun xs e y hy=>?_⟩;rw[b.1]at e;cases e;rcases Zas.mp hy with z|hy
 ·rw[z];exact⟨_,.int wd⟩
 ·rw[ZaE.mp hy];exact⟨_,.int hg⟩
theorem ZbX {lo hi:Int}(h:(xs.all fun r=>bQ r lo hi)=true):∃ns:List Int,xs=ns.map V.int:=by
 induction xs with
 |nil=>exact⟨[],rfl⟩
 |cons x xs ih=>
  rw[Zcf,Zap]at h;obtain⟨ns,e⟩:=ih h.2;cases x with
  |int i=>exact⟨i::ns,by rw[e];rfl⟩
  |_=>cases h.1
theorem Ou (ns:List Int):(ns.map V.int).Nodup↔ns.Nodup:=by
 induction ns with
 |nil=>simp
 |cons n ns ih=>rw[Zbv,ZcV,ZcV,ih];simp
abbrev yU:Stmt:=top 23
inductive Bo (K:Zke) (vs:List V) (H:Hp) (Q:VK) (_E:XK):Prop
 |mk (x wd hg:_) (c0:vs=[x]) (c1:bS H x wd hg) (c2:∀H',ae H H'->Q .af H')
theorem Hs:bo ["board"] ["board"] (aR yU):=ZU .k
theorem Zbc (F:aO K "need_board" "need_board" yU f fd)(D1:Def P w K mg base 3 "is_board" ["thing"] (yM K)):aJ P w K mg base aS 4 f fd ["board"] (Bo K):=by
 refine F.ok Hs (fun vs H Q E h=>?_) (fun aw A outer s H vs Q E hr h=>?_)
 ·obtain⟨x,wd,hg,rfl,_⟩:=h;rfl
 ·obtain⟨x,wd,hg,rfl,b,q⟩:=h;refine⟨_,Zk (ZP (Yh (Z1 (Zg D1 hr (Zv 0)))) ZF Zs),?_⟩;refine⟨x,rfl,x,rfl,b.pl,fun H' sm=>⟨_,rfl,?_⟩⟩;rw[b.is];exact ar (q H' sm)
abbrev yV:Stmt:=top 24
inductive yH (K:Zke) (vs:List V) (H:Hp) (Q:VK) (_E:XK):Prop
 |mk (x y wd hg:_) (c0:vs=[x,y]) (c1:bS H x wd hg) (c2:iF K H y) (c3:∀H',ae H H'->Q (.bl (jO wd hg (bJ H y))) H')
theorem vg:bo ["board","thing","wide","high","rows"] tz (aR yV):=ZU .k
theorem Zg1 (F:aO K "is_lay" "is_lay" yV f fd)(G:Gs mg)(D1:Def P w K mg base 4 "need_board" ["board"] (Bo K))(D2:Def P w K mg base 1 "is_tuple_of" ss (p8 K))
  (D3:Def P w K mg base 2 "is_whole_within" nw (uY K)):aJ P w K mg base aS 5 f fd tz (yH K):=by
 refine F.ok vg (fun vs H Q E h=>?_) (fun aw A outer s H vs Q E hr h=>?_)
 ·obtain⟨x,y,wd,hg,rfl,_⟩:=h;rfl
 ·obtain⟨x,y,wd,hg,rfl,b,⟨ty,hy⟩,q⟩:=h;refine⟨_,Zd (YI (Zg D1 hr (Zv 0)))
   (Zd (Ju (pv 0) (Yk rfl (Zo (ZE (i:=2) vg.nd) (Zo (ZE (i:=3) vg.nd) Z4))))
   (Zd (ZP (Yh (Z1 (Zg D2 (hr.mono .d) (Za (pv 1) (Zv 2))))) (Zk (Zr YC)) Zs)
   (Zd (Y6 ["row"] 1 [] (i:=4) vg.nd (Wk (pv 1)) (fun C s H fp=>pb 0) (fun C s H fp=>Ys (Jb (Ji (pv 0)))) (fun C s H fp D=>ZK rfl (pv 0)))
   (Zk (Zr (Yw (Zm JQ rfl G.all boot_all (Za (Z7 ["row","high"] 1 [3] (Yi (pv 4)) (fun C s H fp=>pb 0) (fun C s H fp=>Ym)
     (fun C s H fp D=>ZK rfl (Zg D3 (hr.mono .d) (Za (pv 0) (Za Zc (Za (Zl Yx (pv 1) Zc) Zb)))))) Zb))
    (YJ (YA Jl (Zm Zag rfl G.len ZcY (Za (Yd Zaf rfl G.set boot_set (Zv 4)) Zb)) (Zm Zx rfl G.len ZcY (Zv 4)) (iO _))))))))),?_⟩
  try dsimp only[cw]
  refine A8 ?_;intro jD nk fo lP eO gK bX cF aY;refine⟨x,rfl,x,wd,hg,rfl,b,fun H1 s1=>?_⟩;have b1:=b.same s1;obtain⟨a,rfl,ha⟩:=ZO b1.1;refine aY _ _ ?_;refine⟨_,rfl,a,_,rfl,ah.of ha,rfl,_,_,rfl,_,_,rfl,rfl,?_⟩;refine bX _ _ ?_;refine⟨y,rfl,_,rfl,y,wd,rfl,s1.vM ty,_,rfl,?_⟩;cases e:bJ H y with
  |none=>
   have e1:bJ H1 y=none:=by
    obtain⟨T,t⟩:=ty;cases t with
    |tup e2=>rw[ZL e2]at e;cases e
    |lst e2=>rw[ZM,s1 _ _ e2];rfl
    |de e2=>rw[ZM,s1 _ _ e2];rfl
    |dK e2=>rw[ZM,s1 _ _ e2];rfl
    |dT e2=>rw[ZM,s1 _ _ e2];rfl
    |_=>rfl
   rw[e1];rw[e]at q;exact aq (q H1 s1)
  |some xs=>
   have e1:=s1.bJ e;rw[e1];rw[e]at q;obtain⟨l,rfl,hl⟩:=ZO e1;by_cases hw:(xs.length:Int)=wd
   ·refine(show if (!decide ((xs.length:Int)=wd))=true then _ else _ from ?_);rw[Zau hw];refine ar ?_;have Vq:=b.2.2.1;have hlen:xs.length<=12:=.l;refine eO _ _ ?_;refine⟨_,rfl,l,rfl,⟨xs,ah.of hl⟩,?_⟩;refine Je (xs:=xs) (fun i ys σ H2=>ys=rowsOf (xs.take i)/\H2=H1/\∃v,σ=[v]) ⟨rfl,rfl,none,rfl⟩ (fun i ys σ H2 _ ⟨_,e2,_⟩=>by rw[e2];exact ah.of hl) ?_ ?_
    ·rintro i r ys σ H2 bt ⟨rfl,rfl,v,rfl⟩;have et:rowsOf (xs.take (i+1))=rowsOf (xs.take i)++(if (!decide (r=V.af))=true then [r] else []):=by
      unfold rowsOf;rw[ZaO,bt,Za4];cases hh:(!decide (r=V.af)) with
      |true=>simp[hh]
      |false=>simp[hh]
     refine⟨r,rfl,_,rfl,?_⟩;cases hh:(!decide (r=V.af)) with
     |true=>
      rw[hh]at et;refine aq ?_;refine⟨r,rfl,?_,?_⟩
      ·have:=Zba (fun x=>!decide (x=V.af)) (xs.take i);unfold rowsOf;rw[ZaH];rw[ZaB]at this;omega
      ·exact⟨by rw[et,ZaQ rfl],rfl,_,rfl⟩
     |false=>rw[hh]at et;exact ar ⟨by rw[et,ZaN Zam,Zbi],rfl,_,rfl⟩
    ·rintro ys σ H2 ⟨rfl,rfl,v,rfl⟩ p hp;rw[ZaV];have hrl:(rowsOf xs).length<=12:=Zbb (Zba _ _) hlen;have s2:ae H2 (upd H2 p (.lst (rowsOf xs))):=fun b o hb=>by rw[Zh (Ze hb hp)];exact hb
     refine fo _ _ ?_;refine⟨_,rfl,p,rfl,⟨rowsOf xs,ak.of aj⟩,?_⟩;generalize K5:upd H2 p (HO.lst (rowsOf xs))=H3 at s2;have kK:H3 p=some (.lst (rowsOf xs)):=by rw[<-K5];exact aj
     refine Ye (xs:=rowsOf xs) (fun i ys σ H4=>ys=((rowsOf xs).take i).map (fun r=>V.bl (bQ r 0 (hg-1)))/\H4=H3/\∃v,σ=[v,some (.int hg)]) ⟨rfl,rfl,none,rfl⟩ (fun i ys σ H4 _ ⟨_,e2,_⟩=>by rw[e2];exact ak.of kK) ?_ ?_
     ·rintro i r ys σ H4 bt ⟨rfl,rfl,v,rfl⟩;have mr:r∈xs:=(ZaL.mp (Zao bt)).1;refine⟨r,rfl,_,rfl,_,_,rfl,rfl,r,0,hg-1,rfl,(s1.trans s2).vM (hy xs e r mr),?_,?_⟩
      ·rw[Zat,ZaH,ZaB];lia
      ·refine⟨?_,rfl,_,rfl⟩;rw[ZaO,bt,ZaW];rfl
     ·rintro ys σ H4 ⟨rfl,rfl,v,rfl⟩ p' DF;rw[ZaV];have s3:∀o,ae H4 (upd H4 p' o):=fun o b u hb=>by rw[Zh (Ze hb DF)];exact hb
      refine⟨p',(rowsOf xs).map (fun r=>bQ r 0 (hg-1)),rfl,?_,?_⟩
      ·rw[Zdq];exact ak.of aj
      ·have aaw:((rowsOf xs).map (fun r=>bQ r 0 (hg-1))).all id=(rowsOf xs).all fun r=>bQ r 0 (hg-1):=by rw[Zh9];rfl
       rw[aaw];have aau:jO wd hg (some xs)=(((rowsOf xs).all fun r=>bQ r 0 (hg-1))&&decide (rowsOf xs).Nodup):=by show(decide ((xs.length:Int)=wd)&&_&&_)=_;rw[Zau hw,Zbo]
       rw[aau]at q;refine⟨_,rfl,?_⟩;cases dc:((rowsOf xs).all fun r=>bQ r 0 (hg-1)) with
       |false=>rw[dc]at q;exact ar (q _ (s1.trans (s2.trans (s3 _))))
       |true=>
        rw[dc,Zbo]at q;obtain⟨ns,en⟩:=ZbX dc;have cG:(upd H4 p' (.lst (((rowsOf xs).map (fun r=>V.bl (bQ r 0 (hg-1))))))) p=some (.lst (rowsOf xs)):=s3 _ _ _ kK;refine aq ?_;have hnl:ns.length=(rowsOf xs).length:=by rw[en,Zat]
        refine⟨_,rfl,p,ns,rfl,by rw[<-en];exact ak.of cG,.l,fun q2 S cM=>⟨q2,S,sW ns,rfl,aj,_,rfl,p,rowsOf xs,rfl,.inl (ak.of ?_),rfl,?_⟩⟩
        ·rw[Zh (Ze cG cM)];exact cG
        ·have ed:decide (V.int (sW ns:Int)=V.int ((rowsOf xs).length:Int))=decide (rowsOf xs).Nodup:=by
          rw[Zdl];rw[en,Ou,<-Zcq,Zat];constructor
          ·intro h;injection h with h;lia
          ·intro h;rw[h]
         rw[ed];exact q _ (s1.trans (s2.trans ((s3 _).trans fun b o hb=>by rw[Zh (Ze hb cM)];exact hb)))
   ·refine(show if (!decide ((xs.length:Int)=wd))=true then _ else _ from ?_);rw[Zax hw];have e3:jO wd hg (some xs)=false:=by show(decide ((xs.length:Int)=wd)&&_&&_)=false;rw[Zax hw,Zbd,Zbd]
    rw[e3]at q;exact aq (q H1 s1)
abbrev Co:Stmt:=top 46
inductive Bv (K:Zke) (vs:List V) (H:Hp) (Q:VK) (_E:XK):Prop
 |mk (a:Addr) (ns:List Int) (k:Nat) (c0:vs=[.ref a,.int k]) (c1:ak K H a (ns.map V.int)) (c2:∀n:Int,Q (.int n) H)
theorem Q1:bo lw lw (aR Co):=ZU .k
theorem Zf6 (F:aO K "_law_cell_at" "_law_cell_at" Co f fd)(G:Gs mg):aJ P w K mg base aS 1 f fd lw (Bv K):=by
 refine F.ok Q1 (fun vs H Q E h=>?_) (fun aw A outer s H vs Q E hr h=>?_)
 ·obtain⟨a,ns,k,rfl,_⟩:=h;rfl
 ·obtain⟨a,ns,k,rfl,hs,q⟩:=h;refine⟨_,Zd (ZP (Zp W6 (pv 1) (Zm Zx rfl G.len ZcY (Zv 0))) (Zk (Zr (ZV Z2 (pv 0) (pv 1)))) Zs) (Zk (Zr Zc)),?_⟩;refine⟨_,rfl,_,rfl,a,ns.map V.int,rfl,.inl hs,_,_,rfl,rfl,_,rfl,?_⟩;by_cases hk:k<ns.length
  ·rw[Zau (by rw[Zat];omega)];refine aq ⟨_,rfl,_,rfl,a,ns.map V.int,k,V.int ns[k],rfl,rfl,hs,ZJ ?_,q _⟩;rw[Zby,Zaj hk];rfl
  ·rw[Zax (by rw[Zat];omega)];exact ar (q 0)
def bg (H:Hp)(p:Addr):Prop:=∃u v:Int,H p=some (.lst [.int u,.int v])/\0<=u/\0<=v/\v<2147483647
abbrev BL:Stmt:=top 47
inductive Bh (K:Zke) (vs:List V) (H:Hp) (Q:VK) (_E:XK):Prop
 |mk (a:Addr) (ns:List Int) (k:Nat) (c0:vs=[.ref a,.int k]) (c1:ak K H a (ns.map V.int)) (c2:∀p H',H p=none->ae H H'->bg H' p->Q (.ref p) H')
theorem Hm:bo ["_law_script","_law_k","_law_cell"] lw (aR BL):=ZU .k
theorem ZeO (F:aO K "_law_state" "_law_state" BL f fd)(G:Gs mg)(D1:Def P w K mg base 1 "_law_cell_at" lw (Bv K)):aJ P w K mg base aS 2 f fd lw (Bh K):=by
 refine F.ok Hm (fun vs H Q E h=>?_) (fun aw A outer s H vs Q E hr h=>?_)
 ·obtain⟨a,ns,k,rfl,_⟩:=h;rfl
 ·obtain⟨a,ns,k,rfl,hs,q⟩:=h;refine⟨_,Zd (Zq (i:=2) Hm.nd (Zg D1 hr (Za (pv 0) (Zv 1))))
   (Zk (Zr (ZC (Za (Zm (W4 rfl) rfl G.max boot_max (Za Zc (Za (Zl Yx (pv 2) (Zl Fj Zc Zc)) Zb))) (Za (Zl YV (pv 2) Zc) Zb))))),?_⟩
  refine⟨_,rfl,_,rfl,a,ns,k,rfl,hs,fun n=>?_⟩;refine⟨_,rfl,_,_,rfl,rfl,⟨.d,.d,.d⟩,_,_,rfl,rfl,_,_,rfl,?_⟩;refine⟨_,rfl,_,_,rfl,rfl,(by show(0:Int)<2147483647;decide),aK,fun p hp=>q p _ hp (fun b o hb=>by rw[Zh (Ze hb hp)];exact hb) ?_⟩;refine⟨_,_,aj,?_,Zce _ .d,ZbQ _ .d⟩;split<;>omega
abbrev BJ:Stmt:=top 48
inductive iK (vs:List V) (H:Hp) (Q:VK) (_E:XK):Prop
 |mk (p:Addr) (m:Int) (c0:vs=[.ref p,.int m]) (c1:bg H p) (c2:0<m) (c3:m<30000) (c4:∀r o,0<=r->r<m->bg (upd H p o) p->Q (.int r) (upd H p o))
theorem yO:bo ["_law_state_here","_law_many","_law_found","_law_stirred"] db (aR BJ):=ZU .k
theorem jE :dj [x,y] 0=some x:=rfl
theorem fQ :dj [x,y] 1=some y:=rfl
theorem Zf4 (F:aO K "_law_take" "_law_take" BJ f fd):aJ P w K mg base aS 1 f fd db iK:=by
 refine F.ok yO (fun vs H Q E h=>?_) (fun aw A outer s H vs Q E hr h=>?_)
 ·obtain⟨p,m,rfl,_⟩:=h;rfl
 ·obtain⟨p,m,rfl,⟨u,v,hp,hu,hv,Dv⟩,hm,gN,q⟩:=h;refine⟨_,Zd (ZP (Zp Aw (ZV Z2 (pv 0) Zc) Zc)
    (Zd (Zq (i:=2) yO.nd (Zl YV (ZV Z2 (pv 0) Zc) (pv 1)))
    (Zd (Ju (Zl Nz (ZV Z2 (pv 0) Zc) (pv 1)) (MM (pv 0) Zc NJ)) (Zk (Zr (pv 2))))) Zs)
   (Zd (Ju (Zl YV (Zl Ya (Zl UD (ZV Z2 (pv 0) Zc) Zc) Zc) Zc) (MM (pv 0) Zc NJ))
   (Zd (Zq (i:=3) yO.nd (Zl YV (Zl Ya (Zl Ya (Zl UD (ZV Z2 (pv 0) Zc) (ZV Z2 (pv 0) Zc)) (Zl UD Zc (ZV Z2 (pv 0) Zc))) Zc) Zc))
   (Zd (Zq (i:=3) yO.nd (Zl YV (Zl Ya (Zl UD (pv 3) (pv 3)) (Zl UD Zc (pv 3))) Zc))
   (Zk (Zr (Zl YV (Zl Nz (pv 3) Zc) (pv 1))))))),?_⟩
  have s0:=ak.of (K:=K) hp;refine⟨_,rfl,p,_,_,_,rfl,rfl,s0,jE,_,_,rfl,rfl,_,rfl,?_⟩;by_cases h0:0<u
  ·rw[Zau h0];refine aq ?_;refine⟨_,rfl,p,_,_,_,rfl,rfl,s0,jE,_,rfl,_,_,rfl,rfl,hm,?_⟩;refine⟨_,rfl,p,_,_,_,rfl,rfl,s0,jE,_,rfl,_,_,rfl,rfl,⟨hm,.o⟩,?_⟩;refine⟨_,rfl,p,_,0,0,rfl,rfl,hp,rfl,?_⟩;refine⟨_,rfl,q _ _ (Zce _ .o) (ZbQ _ hm) ?_⟩;exact⟨u/m,v,aj,Int.ediv_nonneg hu .o,hv,Dv⟩
  ·rw[Zax h0];refine ar ?_;refine⟨_,rfl,p,_,_,_,rfl,rfl,s0,fQ,_,_,rfl,rfl,.inr ⟨.d,.d⟩,_,_,rfl,rfl,_,_,rfl,rfl,(by show(0:Int)<2147483647;decide),?_⟩;refine⟨_,rfl,p,_,1,1,rfl,rfl,hp,rfl,?_⟩;have b1:0<=((v*48271+29)%2147483647):=Zce _ .d;have b2:((v*48271+29)%2147483647)<2147483647:=ZbQ _ .d;have s1:ak K (upd H p (.lst (([V.int u,V.int v]:List V).set 1 (V.int ((v*48271+29)%2147483647))))) p [.int u,.int ((v*48271+29)%2147483647)]:=ak.of aj;have lo:∀{t:Int},0<=t-> -(2^64)<t:=fun h=>Int.lt_of_lt_of_le .d h;have hi:∀{t:Int},t<2147483647->t<2^64:=fun h=>Int.lt_trans h .d;refine⟨_,rfl,p,_,_,_,rfl,rfl,s1,fQ,_,rfl,p,_,_,_,rfl,rfl,s1,fQ,_,_,rfl,rfl,.inl ⟨lo b1,hi b2⟩,?_⟩;refine⟨_,rfl,p,_,_,_,rfl,rfl,s1,fQ,_,_,rfl,rfl,.inl ⟨.d,.d⟩,_,_,rfl,rfl,_,_,rfl,rfl,_,_,rfl,rfl,(by show(0:Int)<2147483629;decide),?_⟩;have c1:0<=((((v*48271+29)%2147483647)*((v*48271+29)%2147483647)+39373*((v*48271+29)%2147483647)+7)%2147483629):=Zce _ .d;have c2:((((v*48271+29)%2147483647)*((v*48271+29)%2147483647)+39373*((v*48271+29)%2147483647)+7)%2147483629)<2147483647:=Int.lt_trans (ZbQ _ .d) .d;refine⟨_,rfl,_,rfl,_,_,rfl,rfl,.inl ⟨lo c1,hi c2⟩,_,rfl,_,_,rfl,rfl,.inl ⟨.d,.d⟩,_,_,rfl,rfl,_,_,rfl,rfl,(by show(0:Int)<2147483587;decide),?_⟩;refine⟨_,rfl,_,_,rfl,rfl,⟨.d,.d⟩,_,rfl,_,_,rfl,rfl,hm,?_⟩;refine q _ _ (Zce _ .o) (ZbQ _ hm) ?_;exact⟨u,_,aj,hu,b1,b2⟩
structure bP (wd hg:Int)(xs:List V):Prop where
 len:(xs.length:Int)=wd
 row:∀r∈rowsOf xs,bQ r 0 (hg-1)=true
 nd:(rowsOf xs).Nodup
theorem bP.is (h:bP wd hg xs):jO wd hg (some xs)=true:=by show(decide ((xs.length:Int)=wd)&&((rowsOf xs).all fun r=>bQ r 0 (hg-1))&&decide (rowsOf xs).Nodup)=true;rw[Zau h.len,Zau h.nd,ZaK.mpr h.row];rfl
abbrev Cn:Stmt:=top 59
inductive Bu (K:Zke) (vs:List V) (H:Hp) (Q:VK) (_E:XK):Prop
 |mk (p b:Addr) (wd hg:Int) (c0:vs=[.ref p,.ref b]) (c1:bg H p) (c2:bS H (.ref b) wd hg) (c3:∀(l:Addr) (H':Hp) (xs:List V),av p H H'->bg H' p->H' l=some (.tup xs)->l≠p->bP wd hg xs->Q (.ref l) H')
theorem yS:bo ["_law_state_here","_law_board","_law_way","_law_left","_law_found","_law_line","_law_share","_law_spot"] lc (aR Cn):=ZU .k
theorem aas {v:Int}(h:0<=v)(h':v<5):∃c:Int,dj ([V.int 4,.int 4,.int 3,.int 1,.int 0]:List V) v=some (.int c):=by have:v=0∨v=1∨v=2∨v=3∨v=4:=.l;rcases this with rfl|rfl|rfl|rfl|rfl<;>exact⟨_,rfl⟩
theorem ZhE {n:Nat}{i:Int}(h:0<=i)(h':i<n):seqIndex? i n=some i.toNat:=by
 have e:nq n i=some i.toNat:=by unfold nq;rw[ZaQ h,ZaQ h']
 exact(Fz e).1
theorem YN (xs:List V)(y:V):rowsOf (xs++[y])=rowsOf xs++(if (!decide (y=V.af))=true then [y] else []):=by unfold rowsOf;rw[Za4];cases hh:(!decide (y=V.af))<;>simp[hh]
theorem UC:∀(l:List V) (k:Nat) (h:k<l.length),(l[k]::l.eraseIdx k).Perm l
 |x::l,0,_=>.refl _
 |x::l,k+1,h=>by
  have h':k<l.length:=by simpa using h
  show(l[k]::x::l.eraseIdx k).Perm (x::l);exact(List.Perm.swap x l[k] _).trans (List.Perm.cons x (UC l k h'))
theorem ZeT (F:aO K "_law_lay" "_law_lay" Cn f fd)(G:Gs mg)(D1:Def P w K mg base 1 "_law_take" db iK):aJ P w K mg base aS 2 f fd lc (Bu K):=by
 refine F.ok yS (fun vs H Q E h=>?_) (fun aw A outer s H vs Q E hr h=>?_)
 ·obtain⟨p,b,wd,hg,rfl,_⟩:=h;rfl
 ·obtain⟨p,b,wd,hg,rfl,st,bd,q⟩:=h;refine⟨_,Zd (FO (i:=2) (j:=3) (k:=4) rfl yS.nd rfl rfl rfl rfl rfl rfl
    (Za (Zg D1 hr (Za (pv 0) (Za Zc Zb))) (Za (Yd Wi rfl G.list ZjA (Za (Yd Ua rfl G.range boot_range (Za (ZR 1) Zb)) Zb)) (Za (ZC Zb) Zb))))
   (Zd (YY Zb0 rfl (Z3 rfl G.range (Za (ZR 1) Zb)) (ZE (i:=5) yS.nd)
    (Zd (UB (i:=6) (j:=7) rfl yS.nd rfl rfl .d rfl rfl (Za (Zg D1 hr (Za (pv 0) (Za Zc Zb))) (Za (Zg D1 hr (Za (pv 0) (Za Zc Zb))) Zb)) rfl)
    (Zk (ZP (PW.pt (JB (Zp (WX hr.mO) (pv 3) (ZC Zb)) (JG (Zp Fe (pv 6) (ZV Z2 (ZC (Za Zc (Za Zc (Za Zc (Za Zc (Za Zc Zb)))))) (pv 2))))))
     (Zk (YI (WA ZbV Zc7 Zc8 Jn (pv 4) (Za ZW Zb))))
     (Zk (YI (WA ZbV Zc7 Zc8 Jn (pv 4)
      (Za (WA ZbV PySem.F.slot_list_pop PySem.F.type_list_pop ZeX (pv 3) (Za (Zl YV (pv 7) (Zm Zx rfl G.len ZcY (Zv 3))) Zb)) Zb))))))))
   (Zk (Zr (Yd Y2 rfl G.tuple ZhZ (Zv 4))))),?_⟩
  try dsimp only[cw]
  refine sy ?_;intro jD gK bX cF aY;obtain⟨a,e,hb⟩:=ZO bd.1;cases e;obtain⟨_,w1,w2,g1,g2⟩:=id bd;obtain⟨u0,v0,e0,_⟩:=id st;have nN:b≠p:=YW hb e0 (by intro z;cases z);refine⟨_,rfl,p,5,rfl,st,.d,.d,fun way o1 h1 nQ az=>?_⟩;have x1:av p H (upd H p o1):=av.upd;have fE:=x1 _ _ hb nN;refine⟨_,rfl,b,_,_,_,rfl,rfl,ah.of fE,fQ,hg,rfl,fun q1 eZ=>⟨q1,hg,rfl,aj,.l,.l,fun L hL=>⟨ZaJ _,fun M hM=>⟨_,_,_,rfl,?_⟩⟩⟩⟩;generalize Ep:upd (upd (upd (upd H p o1) q1 (.jk 0 hg)) L (.lst (L2.upTo hg.toNat))) M (.lst [])=H0;have sA:ae (upd H p o1) (upd (upd H p o1) q1 (.jk 0 hg)):=fun c o hc=>by rw[Zh (Ze hc eZ)];exact hc
  have sB:ae (upd (upd H p o1) q1 (.jk 0 hg)) (upd (upd (upd H p o1) q1 (.jk 0 hg)) L (.lst (L2.upTo hg.toNat))):=fun c o hc=>by rw[Zh (Ze hc hL)];exact hc
  have sC:ae (upd (upd (upd H p o1) q1 (.jk 0 hg)) L (.lst (L2.upTo hg.toNat))) H0:=fun c o hc=>by rw[<-Ep,Zh (Ze hc hM)];exact hc
  have s0:ae (upd H p o1) H0:=sA.trans (sB.trans sC);have hM0:H0 M=some (.lst []):=by rw[<-Ep];exact aj
  have xl:H0 L=some (.lst (L2.upTo hg.toNat)):=sC _ _ aj;obtain⟨u1,v1,e1,y1,y2,y3⟩:=id az;have fj:bg H0 p:=⟨u1,v1,s0 _ _ e1,y1,y2,y3⟩;have mq:=s0 _ _ e1;have Em:L≠M:=Ze (by exact aj) hM;have IU:p≠L:=Ze (sA _ _ e1) hL;have DD:p≠M:=Ze (sB _ _ (sA _ _ e1)) hM;have xc:H0 b=some (.tup [.int wd,.int hg]):=s0 _ _ fE;have xt:∀H2,(∀c o,H0 c=some o->c≠p->c≠L->c≠M->H2 c=some o)->av p H H2:=fun H2 k c o hc hn=>by have c1:=x1 c o hc hn;exact k c o (s0 _ _ c1) hn (Ze (sA _ _ c1) hL) (Ze (sB _ _ (sA _ _ c1)) hM)
  refine aY _ _ ?_;refine⟨_,rfl,b,_,_,_,rfl,rfl,ah.of xc,jE,wd,rfl,.l,.l,?_⟩;refine Y0 (n:=wd.toNat) (fun i σ H2=> ∃(ls fs:List V) (x5 x6 x7:Option V),σ=[some (.ref p),some (.ref b),some (.int way),some (.ref L),some (.ref M),x5,x6,x7]/\
    (∀c o,H0 c=some o->c≠p->c≠L->c≠M->H2 c=some o)/\bg H2 p/\H2 L=some (.lst ls)/\H2 M=some (.lst fs)/\fs.length=i/\(∀r∈rowsOf fs++ls,bQ r 0 (hg-1)=true)/\(rowsOf fs++ls).Nodup)
   ⟨L2.upTo hg.toNat,[],none,none,none,rfl,fun c o hc _ _ _=>hc,fj,xl,hM0,rfl,?_,?_⟩ ?_ ?_
  ·intro r bt;have iS:r∈L2.upTo hg.toNat:=bt;unfold L2.upTo at iS;obtain⟨j,hj,rfl⟩:=Za2.mp iS;have:=Zbf.mp hj;show(decide ((0:Int)<=(j:Int))&&decide ((j:Int)<=hg-1))=true;rw[Zau .l,Zau .l];rfl
  ·show(L2.upTo hg.toNat).Nodup;unfold L2.upTo;have e:((List.range hg.toNat).map fun(i:Nat)=>V.int (i:Int))=(((List.range hg.toNat).map fun(i:Nat)=>(i:Int))).map V.int:=by rw[Zdq];rfl
   rw[e,Ou];exact List.Pairwise.map _ (fun x y h z=>h .l) Zii
  ·rintro i σ H2 hi ⟨ls,fs,x5,x6,x7,rfl,k2,aF,bY,gN,nI,gL,fc⟩;refine⟨_,rfl,p,4,rfl,aF,.d,.d,fun sh o3 _ _ bw=>?_⟩;refine⟨_,rfl,p,12,rfl,bw,.d,.d,fun sp o4 IK qU cT=>⟨_,_,rfl,?_⟩⟩;generalize mi:upd (upd H2 p o3) p o4=H4 at cT;have x4:av p H2 H4:=by rw[<-mi];exact av.upd.trans av.upd
   have gO:=x4 _ _ bY IU.symm;have Ke:=x4 _ _ gN DD.symm;have k4:∀c o,H0 c=some o->c≠p->c≠L->c≠M->H4 c=some o:=fun c o hc a1 a2 a3=>x4 c o (k2 c o hc a1 a2 a3) a1;have hlen:fs.length<sizeLine:=by rw[ZaH];lia
   refine⟨_,rfl,ZaJ _,fun q2 cM=>⟨L,q2,ls,rfl,rfl,?_,ak.of aj,_,rfl,?_⟩⟩
   ·exact ak.of (by rw[Zh (Ze gO cM)];exact gO)
   have sD:ae H4 (upd H4 q2 (.lst [])):=fun c o hc=>by rw[Zh (Ze hc cM)];exact hc
   generalize kQ:upd H4 q2 (HO.lst [])=H5 at sD;obtain⟨u4,v4,e4,z1,z2,z3⟩:=id cT;have keep:∀H6,ae H4 H6->(∀c o,H0 c=some o->c≠p->c≠L->c≠M->H6 c=some o)/\bg H6 p:=fun H6 s6=>⟨fun c o hc a1 a2 a3=>s6 _ _ (k4 c o hc a1 a2 a3),u4,v4,s6 _ _ e4,z1,z2,z3⟩;have Mf:∀H6,ae H4 H6->G0 K "list" HH (dA 4) (aI (tC .af) bD) [some (.ref p),some (.ref b),some (.int way),some (.ref L),some (.ref M),some (.int (0+(i:Int))),some (.int sh),some (.int sp)] H6 (fun _ H7=> ∃(ls fs:List V) (x5 x6 x7:Option V),([some (.ref p),some (.ref b),some (.int way),some (.ref L),some (.ref M),some (.int (0+(i:Int))),some (.int sh),some (.int sp)]:L2.St)=[some (.ref p),some (.ref b),some (.int way),some (.ref L),some (.ref M),x5,x6,x7]/\
     (∀c o,H0 c=some o->c≠p->c≠L->c≠M->H7 c=some o)/\bg H7 p/\H7 L=some (.lst ls)/\H7 M=some (.lst fs)/\fs.length=i+1/\(∀r∈rowsOf fs++ls,bQ r 0 (hg-1)=true)/\(rowsOf fs++ls).Nodup):=fun H6 s6=>by
    obtain⟨k6,t6⟩:=keep H6 s6;have wN:=s6 _ _ Ke;have fM:=s6 _ _ gO;refine⟨_,rfl,.inl ⟨rfl,_,ak.of wN⟩,M,fs,.af,rfl,rfl,wN,hlen,ls,fs++[.af],_,_,_,rfl,fun c o hc a1 a2 a3=>by rw[Zh a3];exact k6 c o hc a1 a2 a3,?_,by rw[Zh Em];exact fM,aj,by rw[Zak,nI];rfl,?_,?_⟩
    ·obtain⟨u,v,e,r⟩:=t6;exact⟨u,v,by rw[Zh DD];exact e,r⟩
    ·rw[YN];simpa using gL
    ·rw[YN];simpa using fc
   cases wY:ls.isEmpty with
   |true=>exact aq (aq (Mf H5 sD))
   |false=>
    refine ar ?_;have bN:ls≠[]:=fun z=>by rw[z]at wY;cases wY
    have zG:0<ls.length:=Zeq.mpr bN;refine⟨_,rfl,aK,fun q3 jS=>?_⟩;obtain⟨c5,X6⟩:=aas h1 nQ;have sE:ae H5 (upd H5 q3 (.lst [.int 4,.int 4,.int 3,.int 1,.int 0])):=fun c o hc=>by rw[Zh (Ze hc jS)];exact hc
    refine⟨_,rfl,q3,_,_,_,rfl,rfl,ak.of aj,X6,_,_,rfl,rfl,_,rfl,?_⟩;generalize K4:upd H5 q3 (HO.lst [V.int 4,.int 4,.int 3,.int 1,.int 0])=H6 at sE;have s6:=sD.trans sE;refine Dk (fun _=>Mf H6 s6) (fun _=>?_);obtain⟨k6,t6⟩:=keep H6 s6;have wN:=s6 _ _ Ke;have fM:=s6 _ _ gO;have m1:0<=sp%(ls.length:Int):=Zce _ .l;have m2:sp%(ls.length:Int)<ls.length:=ZbQ _ .l;have m3:(sp%(ls.length:Int)).toNat<ls.length:=.l;have m4:sp%(ls.length:Int)<2^63:=by
     by_cases hh:sp< (ls.length:Int)
     ·rw[ZiY IK hh];lia
     ·lia
    refine⟨_,rfl,.inl ⟨rfl,_,ak.of wN⟩,_,rfl,.inl ⟨rfl,_,ak.of fM⟩,_,rfl,_,rfl,L,ls,rfl,.inl (ak.of fM),_,_,rfl,rfl,(by show(0:Int)< (ls.length:Int);omega),L,ls,_,_,_,rfl,rfl,fM,.l,m4,ZhE m1 m2,Zaj m3,?_⟩;generalize hk:(sp%(ls.length:Int)).toNat=k at m3;have Xe:upd H6 L (.lst (ls.eraseIdx k)) M=some (.lst fs):=by rw[Zh Em.symm];exact wN
    have my:ls[k]∈ls:=ZbA m3;have wy:bQ ls[k] 0 (hg-1)=true:=gL _ (Zaw _ my);have ny:(!decide (ls[k]=V.af))=true:=by
     cases e:ls[k] with
     |af=>rw[e]at wy;cases wy
     |_=>rfl
    have pm:(rowsOf fs++[ls[k]]++ls.eraseIdx k).Perm (rowsOf fs++ls):=by rw[ZaP];exact Zc3 _ (UC ls k m3)
    refine⟨M,fs,_,rfl,rfl,Xe,hlen,ls.eraseIdx k,fs++[ls[k]],_,_,_,rfl,fun c o hc a1 a2 a3=>by rw[Zh a3,Zh a2];exact k6 c o hc a1 a2 a3,?_,by rw[Zh Em,aj],aj,by rw[Zak,nI];rfl,?_,?_⟩
    ·obtain⟨u,v,e,r⟩:=t6;exact⟨u,v,by rw[Zh DD,Zh IU];exact e,r⟩
    ·rw[YN,ZaQ ny];intro r bt;exact gL r (pm.mem_iff.mp bt)
    ·rw[YN,ZaQ ny];exact pm.nodup_iff.mpr fc
  ·rintro σ H2 ⟨ls,fs,x5,x6,x7,rfl,k2,aF,bY,gN,nI,gL,fc⟩;refine bX _ _ ?_;refine⟨_,rfl,M,fs,rfl,.inl ⟨ak.of gN,fun l hl=>?_⟩⟩;obtain⟨u,v,e,r⟩:=id aF;have cG:p≠l:=Ze e hl;refine q l _ fs (fun c o hc hn=>?_) ⟨u,v,by rw[Zh cG];exact e,r⟩ aj cG.symm ⟨.l,fun r bt=>gL r (ZaS _ bt),(ZcS.mp fc).1⟩;have:=xt H2 k2 c o hc hn;rw[Zh (Ze this hl)];exact this
def vE:V->Option Int
 | .int r=>some r
 |_=>none
def rowAt (xs:List V)(i:Nat):Option Int:=xs[i]?.bind vE
abbrev aN:=Int×Int×Int×Int
def iJ (xs:List V)(o l:Nat):Option aN:=(rowAt xs l).bind fun a=>(rowAt xs o).map fun b=>((o:Int)-l,b-a,(l:Int),(o:Int))
def gY (xs:List V)(o j:Nat):List aN:=(List.range j).filterMap (iJ xs o)
def bF (xs:List V)(n:Nat):List aN:=(List.range n).flatMap fun o=>gY xs o o
theorem Wu (xs:List V)(o j:Nat):gY xs o (j+1)=gY xs o j++(iJ xs o j).toList:=by unfold gY;rw[Zcw,Zia];cases h:iJ xs o j<;>simp[h]
theorem YH (xs:List V)(n:Nat):bF xs (n+1)=bF xs n++gY xs n n:=by unfold bF;rw[Zcw,Zfx];simp
def jF (H:Hp)(v:V)(q:aN):Prop:=∃t t':Addr,v=.ref t/\H t=some (.tup [.ref t',.int q.2.2.1,.int q.2.2.2])/\H t'=some (.tup [.int q.1,.int q.2.1])
theorem jF.x (h:jF H v q)(hM:H M=some (.lst ms))(s:av M H H'):jF H' v q:=by obtain⟨t,t',e,h1,h2⟩:=h;exact⟨t,t',e,s _ _ h1 (YW h1 hM (by intro z;cases z)),s _ _ h2 (YW h2 hM (by intro z;cases z))⟩
def gU (xs:List V):Prop:=∀x∈xs,x=.af∨∃i,x=.int i
theorem bP.ok (h:bP wd hg xs):gU xs:=fun x hx=>by
 by_cases e:x=.af
 ·exact .inl e
 ·have m:x∈rowsOf xs:=ZaL.mpr ⟨hx,by simp[e]⟩;have q:=h.row x m;cases x with
  |int i=>exact .inr ⟨i,rfl⟩
  |_=>cases q
abbrev BX:Stmt:=top 52
inductive yI (K:Zke) (vs:List V) (H:Hp) (Q:VK) (_E:XK):Prop
 |mk (a:Addr) (xs:List V) (c0:vs=[.ref a]) (c1:ah K H a xs) (c2:H a=some (.tup xs)) (c3:gU xs) (c4:xs.length<=12) (c5:∀(l:Addr) (H':Hp) (rs:List V),ae H H'->H l=none->H' l=some (.lst rs)->Paired (jF H') rs (bF xs xs.length)->Q (.ref l) H')
theorem yQ:bo ["_law_lay_here","_law_found","_law_other","_law_line"] ii (aR BX):=ZU .k
theorem ZdI (F:aO K "_law_steps" "_law_steps" BX f fd)(G:Gs mg):aJ P w K mg base aS 1 f fd ii (yI K):=by
 refine F.ok yQ (fun vs H Q E h=>?_) (fun aw A outer s H vs Q E hr h=>?_)
 ·obtain⟨a,xs,rfl,_⟩:=h;rfl
 ·obtain⟨a,xs,rfl,_,ha,gL,hlen,q⟩:=h;refine⟨_,Zd (Zq (i:=1) yQ.nd (ZC Zb))
   (Zd (YY Zb0 rfl (Z3 rfl G.range (Za (Zm Zx rfl G.len ZcY (Zv 0)) Zb)) (ZE (i:=2) yQ.nd)
    (Zk (YY Zb0 rfl (Z3 rfl G.range (Zv 2)) (ZE (i:=3) yQ.nd)
     (Zk (ZP (PW.pt (Jt (Jb (Ji (ZV Yb (pv 0) (pv 3)))) (Y5 (Jb (Ji (ZV Yb (pv 0) (pv 2)))))))
      (Zk (YI (WA ZbV Zc7 Zc8 Jn (pv 1)
       (Za (Zj (Za (Zj (Za (Zl Yx (pv 2) (pv 3)) (Za (Zl Yx (ZV Yb (pv 0) (pv 2)) (ZV Yb (pv 0) (pv 3))) Zb))) (Za (pv 3) (Zv 2)))) Zb)))) Zs)))))
   (Zk (Zr (pv 1)))),?_⟩
  try dsimp only[cw]
  refine sy ?_;intro jD gK bX cF aY;refine⟨ZaJ _,fun M hM=>?_⟩;have s0:ae H (upd H M (.lst [])):=fun c o hc=>by rw[Zh (Ze hc hM)];exact hc
  refine aY _ _ ?_;refine⟨_,rfl,a,xs,rfl,.inr (ah.of (s0 _ _ ha)),(xs.length:Int),rfl,.l,.l,?_⟩;refine Y0 (n:=((xs.length:Int)).toNat) (fun i σ H2=> ∃(rs:List V) (x2 x3:Option V),σ=[some (.ref a),some (.ref M),x2,x3]/\ae H H2/\H2 M=some (.lst rs)/\Paired (jF H2) rs (bF xs i)/\rs.length<=i*12)
   ⟨[],none,none,rfl,s0,aj,.nil,ZaJ _⟩ ?_ ?_
  ·rintro i σ H2 hi ⟨rs,x2,x3,rfl,s2,gN,bW,bY⟩;have bZ:i<xs.length:=.l;refine⟨_,rfl,(0+(i:Int)),rfl,.l,.l,?_⟩;refine Y0 (n:=((0:Int)+(i:Int)).toNat) (fun j σ H3=> ∃(rs:List V) (x3:Option V),σ=[some (.ref a),some (.ref M),some (.int (i:Int)),x3]/\ae H H3/\H3 M=some (.lst rs)/\Paired (jF H3) rs (bF xs i++gY xs i j)/\rs.length<=i*12+j)
    ⟨rs,x3,by rw[Zc4];rfl,s2,gN,by simpa[gY] using bW,bY⟩ ?_ ?_
   ·rintro j σ H3 hj ⟨rs,x3,rfl,s3,nE,bC,iw⟩;have zO:j<i:=.l;have zX:=s3 _ _ ha;have kO:j<xs.length:=.l;have ej:dj xs (0+(j:Int))=some xs[j]:=by rw[Zc4];exact ZJ (Zaj kO)
    have ei:dj xs (i:Int)=some xs[i]:=ZJ (Zaj bZ);have rj:rowAt xs j=vE xs[j]:=by unfold rowAt;rw[Zaj kO];rfl
    have ri:rowAt xs i=vE xs[i]:=by unfold rowAt;rw[Zaj bZ];rfl
    refine⟨_,rfl,_,rfl,a,xs,_,_,rfl,rfl,ah.of zX,ej,_,rfl,?_⟩;have skip:iJ xs i j=none->∃(Cu:List V) (x3:Option V),([some (.ref a),some (.ref M),some (.int (i:Int)),some (.int (0+(j:Int)))]:L2.St)=[some (.ref a),some (.ref M),some (.int (i:Int)),x3]/\ae H H3/\H3 M=some (.lst Cu)/\Paired (jF H3) Cu (bF xs i++gY xs i (j+1))/\Cu.length<=i*12+(j+1):=fun e=>by refine⟨rs,_,rfl,s3,nE,?_,.l⟩;rw[Wu,e];simpa using bC
    rcases gL xs[j] (ZbA kO) with nj|⟨vj,nj⟩
    ·rw[nj];exact ar (ar (skip (by unfold iJ;rw[rj,nj];rfl)))
    ·rw[nj];refine aq ?_;refine⟨_,rfl,_,rfl,a,xs,_,_,rfl,rfl,ah.of zX,ei,_,rfl,?_⟩;rcases gL xs[i] (ZbA bZ) with ni|⟨vi,ni⟩
     ·rw[ni];exact ar (skip (by unfold iJ;rw[rj,ri,nj,ni];rfl))
     ·rw[ni];refine aq ?_;refine⟨_,rfl,.inl ⟨rfl,_,ak.of nE⟩,_,rfl,_,rfl,_,_,rfl,rfl,_,rfl,_,rfl,a,xs,_,_,rfl,rfl,ah.of zX,ei,_,rfl,_,rfl,a,xs,_,_,rfl,rfl,ah.of zX,ej,vi,vj,by rw[ni],by rw[nj],aK,fun t' dw=>?_⟩;refine⟨_,rfl,_,rfl,aK,fun t ht=>?_⟩;generalize mi:upd H3 t' (HO.tup [V.int ((i:Int)-(0+(j:Int))),V.int (vi-vj)])=H4 at ht;have s4:ae H3 H4:=fun c o hc=>by rw[<-mi,Zh (Ze hc dw)];exact hc
      have jr:H4 t'=some (.tup [V.int ((i:Int)-(0+(j:Int))),V.int (vi-vj)]):=by rw[<-mi];exact aj
      generalize kQ:upd H4 t (HO.tup [V.ref t',V.int (0+(j:Int)),V.int (i:Int)])=H5;have s5:ae H4 H5:=fun c o hc=>by rw[<-kQ,Zh (Ze hc ht)];exact hc
      have lU:H5 t=some (.tup [V.ref t',V.int (0+(j:Int)),V.int (i:Int)]):=by rw[<-kQ];exact aj
      have DL:=s5 _ _ (s4 _ _ nE);have sX:av M H3 (upd H5 M (.lst (rs++[.ref t]))):=(s4.trans s5).x.trans av.upd;have Xf:rs.length<sizeLine:=by rw[ZaH];lia
      refine⟨M,rs,_,rfl,rfl,DL,Xf,rs++[.ref t],_,rfl,?_,aj,?_,by rw[Zak];simp;lia⟩
      ·intro c o hc;have h3:=s3 _ _ hc;exact sX c o h3 (Ze hc hM)
      ·rw[Wu,<-ZaP];have es:iJ xs i j=some ((i:Int)-j,vi-vj,(j:Int),(i:Int)):=by unfold iJ;rw[rj,ri,nj,ni];rfl
       rw[es];refine Zc9 (Paired.bh bC fun v q' hq=>hq.x nE sX) ⟨t,t',rfl,?_,?_⟩
       ·rw[Zh (YW lU DL (by intro z;cases z)),lU,Zc4]
       ·have:=s5 _ _ jr;rw[Zh (YW this DL (by intro z;cases z)),this,Zc4]
   ·rintro σ H3 ⟨rs,x3,rfl,s3,nE,bC,iw⟩;have ei:((0:Int)+(i:Int)).toNat=i:=.l;rw[ei]at bC iw;refine⟨rs,_,_,rfl,s3,nE,?_,.l⟩;rw[YH];exact bC
  ·rintro σ H2 ⟨rs,x2,x3,rfl,s2,gN,bW,bY⟩;have e:((xs.length:Int)).toNat=xs.length:=.l;rw[e]at bW;refine bX _ _ ?_;exact⟨_,rfl,q M H2 rs s2 hM gN bW⟩
def keyOf (q:aN):List Key:=[Sum.inl q.1,Sum.inl q.2.1]
def dU (xs:List V):Bool:=decide ((bF xs xs.length).map keyOf).Nodup
theorem WF (xs:List V):∀n,(bF xs n).length<=n*n
 |0=>ZaJ _
 |n+1=>by
  have ih:=WF xs n;have h2:(gY xs n n).length<=n:=by have:=Zc6 (iJ xs n) (List.range n);rw[ZcR]at this;exact this
  rw[YH,Zak,ZjN,Nat.mul_add];omega
theorem UM (xs:List V)(h:xs.length<=12):(bF xs xs.length).length<=144:=Zbb (WF xs _) (Zh5 h h)
abbrev BW:Stmt:=top 53
inductive u9 (vs:List V) (H:Hp) (Q:VK) (_E:XK):Prop
 |mk (a:Addr) (xs:List V) (c0:vs=[.ref a]) (c1:H a=some (.tup xs)) (c2:gU xs) (c3:xs.length<=12) (c4:∀H',ae H H'->Q (.bl (dU xs)) H')
theorem vh:bo ["_law_lay_here","_law_met","_law_step","_law_line","_law_other"] ii (aR BW):=ZU .k
theorem Paired.at :∀{oN:List α}{oM:List β}{i:Nat}{a:α},Paired F oN oM->oN[i]?=some a->∃b,oM[i]?=some b/\F a b
 |_,_,_,_,.nil,e=>by simp at e
 |_,_,0,_,.cons r _,e=>by simp at e;subst e;exact⟨_,rfl,r⟩
 |_,_,i+1,a,.cons _ t,e=>by obtain⟨u,h1,h2⟩:=Paired.at (i:=i) (a:=a) t (by simpa using e);exact⟨u,by simpa using h1,h2⟩
theorem Zcy (F:aO K "_law_unlike" "_law_unlike" BW f fd)(D1:Def P w K mg base 1 "_law_steps" ii (yI K)):aJ P w K mg base aS 2 f fd ii u9:=by
 refine F.ok vh (fun vs H Q E h=>?_) (fun aw A outer s H vs Q E hr h=>?_)
 ·obtain⟨a,xs,rfl,_⟩:=h;rfl
 ·obtain⟨a,xs,rfl,ha,gL,hlen,q⟩:=h;have hu:=Wg hr;refine⟨_,Zd (Zq (i:=1) vh.nd ZeF)
   (Zd (YY Zb0 rfl (Yi (Zg D1 hr (Zv 0))) (Yk rfl (Zo (ZE (i:=2) vh.nd) (Zo (ZE (i:=3) vh.nd) (Zo (ZE (i:=4) vh.nd) Z4))))
    (Zd (ZP (Jb (ZgP hu (pv 2) (pv 1))) (Zk (Zr YC)) Zs) (Zk (ZfT hu (pv 1) (pv 2) YC rfl))))
   (Zk (Zr YC))),?_⟩
  try dsimp only[cw]
  refine sy ?_;intro jD gK bX cF aY;intro d hd;have s0:ae H (upd H d (.dT [])):=fun c o hc=>by rw[Zh (Ze hc hd)];exact hc
  have KO:=s0 _ _ ha;refine aY _ _ ?_;refine⟨_,rfl,a,xs,rfl,ah.of KO,KO,gL,hlen,fun l H1 rs s1 hl0 hl pr=>⟨l,rfl,⟨rs,ak.of hl⟩,?_⟩⟩;have iV:H1 d=some (.dT []):=s1 _ _ aj;have Xm:l≠d:=YW hl iV (by intro z;cases z);generalize wF:bF xs xs.length=qs at pr;have Vz:dU xs=decide (qs.map keyOf).Nodup:=by unfold dU;rw[wF]
  rw[Vz]at q;have tW:rs.length=qs.length:=ZaM pr;refine WJ (K:=K) (a:=l) (xs:=rs) (fun i σ H2=> ∃(kvs:List (List Key×V)) (x2 x3 x4:Option V),σ=[some (.ref a),some (.ref d),x2,x3,x4]/\av d H1 H2/\H2 d=some (.dT kvs)/\kvs.map (·.1)=(qs.take i).map keyOf/\((qs.take i).map keyOf).Nodup)
   ⟨[],none,none,none,rfl,av.refl _ _,iV,rfl,ZjG⟩ (fun i σ H2 _ ⟨_,_,_,_,_,k,_⟩=>ak.of (k _ _ hl Xm)) ?_ ?_
  ·rintro i v σ H2 hv ⟨kvs,x2,x3,x4,rfl,k2,hd2,jt,lZ⟩;obtain⟨qq,hq,t,t',rfl,ht,dw⟩:=Paired.at pr hv;have qS:=k2 _ _ ht (YW ht iV (by intro z;cases z));have VH:=k2 _ _ dw (YW dw iV (by intro z;cases z));have EG:(qs.take (i+1)).map keyOf=(qs.take i).map keyOf++[keyOf qq]:=by rw[ZaO,hq,ZaW];rfl
   have Kq:H2 t'=some (.tup ((keyOf qq).map kV)):=VH;refine⟨t,_,rfl,ah.of qS,rfl,_,_,rfl,_,_,rfl,_,_,rfl,rfl,?_⟩;refine⟨_,rfl,_,rfl,d,_,rfl,yk.t hd2 Kq,_,rfl,?_⟩;have hsz:kvs.length<sizeLine:=by
    have e1:kvs.length=((qs.take i).map keyOf).length:=by rw[<-jt,Zat]
    rw[Zat,ZaB]at e1;have:i<rs.length:=(Zai.mp hv).1;rw[ZaH];have VW:=UM xs hlen;rw[wF]at VW;omega
   cases e:gW kvs (keyOf qq) with
   |some z=>
    refine aq ?_;have m:keyOf qq∈(qs.take i).map keyOf:=by rw[<-jt];exact ZfK e
    have V7:¬(qs.map keyOf).Nodup:=fun nd=>by
     have e2:qs.map keyOf=(qs.take (i+1)).map keyOf++(qs.drop (i+1)).map keyOf:=by rw[<-ZaW,Za9]
     rw[e2,EG]at nd;have:=(ZcS.mp nd).1;exact(ZcS.mp this).2.2 _ m _ (ZaE.mpr rfl) rfl
    rw[Zax V7]at q;exact q _ fun c o hc=>k2 c o (s1 _ _ (s0 _ _ hc)) (Ze hc hd)
   |none=>
    refine ar ?_;refine⟨_,rfl,_,rfl,d,_,rfl,yh.t hd2 Kq hsz,putK kvs (keyOf qq) (.bl true),_,_,_,rfl,k2.trans av.upd,aj,?_,?_⟩
    ·rw[Zeu _ e,ZaW,jt,EG];rfl
    ·rw[EG];exact FF lZ (by rw[<-jt];exact Zd9 e)
  ·rintro σ H2 ⟨kvs,x2,x3,x4,rfl,k2,hd2,jt,lZ⟩;rw[tW,ZaV]at lZ;rw[Zau lZ]at q;refine bX _ _ ?_;exact q _ fun c o hc=>k2 c o (s1 _ _ (s0 _ _ hc)) (Ze hc hd)
def RI (K:Zke):R2:=fun x y H Q=> ∃a b ys,x=.ref a/\y=.ref b/\ah K H a []/\ah K H b ys/\Q (.ref b) H
def fX (K:Zke):R2:=fun x y H Q=>RI K x y H Q∨HF K x y H Q
theorem ZG :bf X (binaryOp .Add) (fX X.K):=ZeK.or Zf3
theorem MU {K:Zke}{fa:Addr}{fs:List V}{y:V}{Q:VK}{i j:Nat}(hf:H fa=some (.tup fs))(hl:fs.length<=100)(h1:σ[i]?=some (some (.ref fa)))(h2:σ[j]?=some (some y))
  (q:∀(a':Addr) (H':Hp),ae H H'->H' a'=some (.tup (fs++[y]))->Q (.ref a') H'):dW (fX K) (dA i) (cX (aI (dA j) bD)) σ H Q:=by
 refine⟨_,h1,_,h2,aK,fun t ht=>?_⟩;have s1:ae H (upd H t (.tup [y])):=fun c o hc=>by rw[Zh (Ze hc ht)];exact hc
 have KA:=s1 _ _ hf;cases fs with
 |nil=>exact .inl ⟨fa,t,[y],rfl,rfl,ah.of KA,ah.of aj,q t _ s1 aj⟩
 |cons x r=>refine .inr ⟨fa,t,x::r,[y],rfl,rfl,ah.of KA,ah.of aj,.s,(by rw[ZaH];simp at hl |-;lia),(fun e=>by cases e),fun _ p hp=>?_⟩;exact q p _ (s1.trans fun c o hc=>by rw[Zh (Ze hc hp)];exact hc) aj
theorem AW (n:Nat):L2.upTo (n+1)=L2.upTo n++[.int (n:Int)]:=by unfold L2.upTo;rw[Zcw,ZaW];rfl
theorem mem_upTo {x:V}(h:x∈L2.upTo n):∃j:Nat,j<n/\x=.int (j:Int):=by unfold L2.upTo at h;obtain⟨j,hj,e⟩:=Za2.mp h;exact⟨j,Zbf.mp hj,e.symm⟩
theorem Ux {fs:List V}{i:Nat}(h:i<fs.length):rowAt (fs++[y]) i=rowAt fs i:=by unfold rowAt;rw[Zbw h]
theorem Oj {α β:Type}{f g:α->Option β} :∀{l:List α},(∀x∈l,f x=g x)->l.filterMap f=l.filterMap g
 | [],_=>rfl
 |a::l,h=>by rw[ZbE,ZbE,h a Zaz,Oj fun x hx=>h x (Zaq _ hx)]
theorem Wf {fs:List V} :∀n,n<=fs.length->bF (fs++[y]) n=bF fs n
 |0,_=>rfl
 |n+1,h=>by
  rw[YH,YH,Wf n .l]
  congr 1
  unfold gY;refine Oj fun j hj=>?_;have:=Zbf.mp hj;unfold iJ;rw[Ux .l,Ux .l]
theorem Zbu (h:dU fs=true):dU (fs++[.af])=true:=by
 unfold dU at h |-;have e:(fs++[V.af]).length=fs.length+1:=.s;rw[e,YH,Wf _ (Zal _)];have e2:gY (fs++[V.af]) fs.length fs.length=[]:=by
  unfold gY;rw[ZiM];intro j _;unfold iJ;have e3:rowAt (fs++[V.af]) fs.length=none:=by unfold rowAt;simp;rfl
  rw[e3];cases rowAt (fs++[V.af]) j<;>rfl
 rw[e2,Zbi];exact h
theorem ZeW (h:(!aZ (.int j) fs)=true):V.int j∉fs:=fun m=>by have:aZ (.int j) fs=true:=Zda.mpr ⟨_,m,by show(j==j)=true;simp⟩;rw[this]at h;cases h
theorem three {v:Int}(h:0<=v)(h':v<3):∃c:Int,dj ([V.int 0,.int 1,.int 3]:List V) v=some (.int c):=by have:v=0∨v=1∨v=2:=.l;rcases this with rfl|rfl|rfl<;>exact⟨_,rfl⟩
abbrev Cj:Stmt:=top 60
def Bs (K:Zke):Sp:=fun vs H Q _=> ∃(p b:Addr) (wd hg:Int),vs=[.ref p,.ref b]/\bg H p/\bS H (.ref b) wd hg/\∀(l:Addr) (H':Hp) (xs:List V),av p H H'->bg H' p->H' l=some (.tup xs)->l≠p->bP wd hg xs->dU xs=true->Q (.ref l) H'
theorem lJ:bo ["_law_state_here","_law_board","_law_way","_law_found","_law_line","_law_share","_law_spot","_law_left","_law_some","_law_row"] lc (aR Cj):=ZU .k
theorem ZeR (F:aO K "_law_grown" "_law_grown" Cj f fd)(G:Gs mg)(D1:Def P w K mg base 1 "_law_take" db iK)(D2:Def P w K mg base 2 "_law_unlike" ii u9):
  aJ P w K mg base aS 3 f fd lc (Bs K):=by
 refine F.ok lJ (fun vs H Q E h=>?_) (fun aw A outer s H vs Q E hr h=>?_)
 ·obtain⟨p,b,wd,hg,rfl,_⟩:=h;rfl
 ·obtain⟨p,b,wd,hg,rfl,st,bd,q⟩:=h;have kJ:=hr.mono (show 1<=2 by decide);refine⟨_,Zd (Ju (Zj (Za (Zg D1 kJ (Za (pv 0) (Za Zc Zb))) (Za (Zj Zb) Zb))) (Yk rfl (Zo (ZE (i:=2) lJ.nd) (Zo (ZE (i:=3) lJ.nd) Z4))))
   (Zd (YY Zb0 rfl (Z3 rfl G.range (Za (ZR 1) Zb)) (ZE (i:=4) lJ.nd)
    (Zd (UB (i:=5) (j:=6) rfl lJ.nd rfl rfl .d rfl rfl (Za (Zg D1 kJ (Za (pv 0) (Za Zc Zb))) (Za (Zg D1 kJ (Za (pv 0) (Za Zc Zb))) Zb)) rfl)
    (Zd (Y6 ["_law_row","_law_found"] 1 [3] (i:=7) lJ.nd (Z3 rfl G.range (Za (ZR 1) Zb)) (fun C s H fp=>pb 0) (fun C s H fp=>Ys (Zp (show bf (aV _ _ _ C s H fp) (compareOp .NotIn) (vH K true) from YT) (pv 0) (pv 1))) (fun C s H fp D=>ZK rfl (pv 0)))
    (Zd (Y6 ["_law_row","_law_found"] 1 [3] (i:=8) lJ.nd (Yi (pv 7)) (fun C s H fp=>pb 0) (fun C s H fp=>Ys (Z1 (Zg D2 hr (Za (Zl (show bf (aV _ _ _ C s H fp) (binaryOp .Add) (fX K) from ZG) (pv 1) (Zj (Zv 0))) Zb)))) (fun C s H fp D=>ZK rfl (pv 0)))
    (Zd (Zq (i:=9) lJ.nd ZW)
    (Zd (ZP (PW.pt (Jt (Zp (AB hr.mO) (pv 8) (ZC Zb)) (Y5 (Zp Fe (pv 5) (ZV Z2 (ZC (Za Zc (Za Zc (Za Zc Zb)))) (pv 2))))))
     (Zk (Zq (i:=9) lJ.nd (ZV Z2 (pv 8) (Zl YV (pv 6) (Zm Zx rfl G.len ZcY (Zv 8)))))) Zs)
    (Zk (Zq (i:=3) lJ.nd (Zl ZG (pv 3) (Zj (Zv 9)))))))))))
   (Zk (Zr (pv 3)))),?_⟩
  try dsimp only[cw]
  refine sy ?_;intro jD gK bX cF aY;obtain⟨a,e,hb⟩:=ZO bd.1;cases e;obtain⟨_,w1,w2,g1,g2⟩:=id bd;obtain⟨u0,v0,e0,_⟩:=id st;have nN:b≠p:=YW hb e0 (by intro z;cases z);refine⟨_,rfl,p,3,rfl,st,.d,.d,fun way o1 h1 nQ az=>⟨ZaJ _,fun f0 XS=>⟨aK,fun tt zC=>⟨tt,_,rfl,ah.of aj,rfl,_,_,rfl,_,_,rfl,rfl,?_⟩⟩⟩⟩;have x1:av p H (upd H p o1):=av.upd;have sA:ae (upd H p o1) (upd (upd H p o1) f0 (.tup [])):=fun c o hc=>by rw[Zh (Ze hc XS)];exact hc
  have sB:ae (upd (upd H p o1) f0 (.tup [])) (upd (upd (upd H p o1) f0 (.tup [])) tt (.tup [.int way,.ref f0])):=fun c o hc=>by rw[Zh (Ze hc zC)];exact hc
  generalize Ep:upd (upd (upd H p o1) f0 (HO.tup [])) tt (HO.tup [V.int way,V.ref f0])=H0 at sB;have x0:av p H H0:=x1.trans (sA.trans sB).x;obtain⟨u1,v1,e1,y1,y2,y3⟩:=id az;have fj:bg H0 p:=⟨u1,v1,(sA.trans sB) _ _ e1,y1,y2,y3⟩;have xc:=x0 _ _ hb nN;refine aY _ _ ?_;refine⟨_,rfl,b,_,_,_,rfl,rfl,ah.of xc,jE,wd,rfl,.l,.l,?_⟩;refine Y0 (n:=wd.toNat) (fun i σ H2=> ∃(fa:Addr) (fs:List V) (x4 x5 x6 x7 x8 x9:Option V),σ=[some (.ref p),some (.ref b),some (.int way),some (.ref fa),x4,x5,x6,x7,x8,x9]/\av p H H2/\bg H2 p/\H2 fa=some (.tup fs)/\fs.length=i/\
    (∀r∈rowsOf fs,bQ r 0 (hg-1)=true)/\(rowsOf fs).Nodup/\dU fs=true)
   ⟨f0,[],none,none,none,none,none,none,rfl,x0,fj,sB _ _ aj,rfl,(fun r bt=>nomatch (show r∈([]:List V) from bt)),ZjG,rfl⟩ ?_ ?_
  ·rintro i σ H2 hi ⟨fa,fs,x4,x5,x6,x7,x8,x9,rfl,k2,aF,o7,DU,gL,fc,qQ⟩;have bZ:i<wd.toNat:=hi;refine⟨_,rfl,p,4,rfl,aF,.d,.d,fun sh o3 _ _ bw=>?_⟩;refine⟨_,rfl,p,12,rfl,bw,.d,.d,fun sp o4 IK qU cT=>⟨_,_,rfl,?_⟩⟩;generalize mi:upd (upd H2 p o3) p o4=H4 at cT;have GD:av p H2 H4:=by rw[<-mi];exact av.upd.trans av.upd
   obtain⟨uz,vz,ez,_⟩:=id aF;have XO:fa≠p:=YW o7 ez (by intro z;cases z);have DV:=GD _ _ o7 XO;have k4:av p H H4:=k2.trans GD;have iW:=k4 _ _ hb nN;have vF:gU fs:=fun x hx=>by
    by_cases e:x=.af
    ·exact .inl e
    ·have m:x∈rowsOf fs:=ZaL.mpr ⟨hx,by simp[e]⟩;have q':=gL x m;cases x with
     |int i=>exact .inr ⟨i,rfl⟩
     |_=>cases q'
   have flat:fs.all iA=true:=ZaK.mpr fun x hx=>by rcases vF x hx with z|⟨j,z⟩<;>rw[z]<;>rfl
   refine⟨_,rfl,b,_,_,_,rfl,rfl,ah.of iW,fQ,hg,rfl,.l,.l,?_⟩;refine YK (n:=hg.toNat) (fun j ys ao H'=>ys=(L2.upTo j).filter (fun r=>!aZ r fs)/\H'=H4/\∃v,ao=[v,some (.ref fa)]) ⟨rfl,rfl,none,rfl⟩ ?_ ?_
   ·rintro j ys ao H' hj ⟨rfl,rfl,v,rfl⟩;have eu:(L2.upTo (j+1)).filter (fun r=>!aZ r fs)=(L2.upTo j).filter (fun r=>!aZ r fs)++(if (!aZ (.int (0+(j:Int))) fs)=true then [V.int (0+(j:Int))] else []):=by rw[AW,Za4,Zc4];cases hh:(!aZ (.int (j:Int)) fs)<;>simp[hh]
    refine⟨_,rfl,_,rfl,fa,fs,rfl,.inr (ah.of DV),rfl,flat,_,rfl,?_⟩;show if (!aZ (.int (0+(j:Int))) fs)=true then _ else _
    cases hh:(!aZ (.int (0+(j:Int))) fs) with
    |true=>
     rw[hh]at eu;refine aq ?_;refine⟨_,rfl,?_,?_⟩
     ·have:=Zba (fun r=>!aZ r fs) (L2.upTo j);have e2:(L2.upTo j).length=j:=by unfold L2.upTo;simp
      rw[ZaH]
      lia
     ·exact⟨by rw[eu,ZaQ rfl],rfl,_,rfl⟩
    |false=>rw[hh]at eu;exact ar ⟨by rw[eu,ZaN Zam,Zbi],rfl,_,rfl⟩
   ·rintro ys ao H' ⟨rfl,rfl,v,rfl⟩ L hL;generalize tV:(L2.upTo hg.toNat).filter (fun r=>!aZ r fs)=ls;have sL:ae H' (upd H' L (.lst ls)):=fun c o hc=>by rw[Zh (Ze hc hL)];exact hc
    generalize kQ:upd H' L (HO.lst ls)=H5 at sL;have rC:H5 L=some (.lst ls):=by rw[<-kQ];exact aj
    have Ki:ls.length<=12:=by
     have:=Zba (fun r=>!aZ r fs) (L2.upTo hg.toNat);have e2:(L2.upTo hg.toNat).length=hg.toNat:=by unfold L2.upTo;simp
     rw[tV]at this
     lia
    have good:∀y∈ls,∃j:Int,y=.int j/\0<=j/\j<hg/\V.int j∉fs:=fun y hy=>by rw[<-tV]at hy;obtain⟨m1,m2⟩:=ZaL.mp hy;obtain⟨j,hj,rfl⟩:=mem_upTo m1;exact⟨j,rfl,.l,.l,ZeW m2⟩
    refine⟨_,rfl,L,rfl,⟨ls,ak.of rC⟩,?_⟩;refine Ye (xs:=ls) (fun j ys ao j7=>ys=(ls.take j).filter (fun r=>dU (fs++[r]))/\ae H5 j7/\∃v,ao=[v,some (.ref fa)]) ⟨rfl,ae.refl _,none,rfl⟩ (fun j ys ao j7 _ ⟨_,s',_⟩=>ak.of (s' _ _ rC)) ?_ ?_
    ·rintro j y ys ao j7 hy ⟨rfl,s',v,rfl⟩;obtain⟨jj,ey,_,_,_⟩:=good y (Zao hy);have eu:(ls.take (j+1)).filter (fun r=>dU (fs++[r]))=(ls.take j).filter (fun r=>dU (fs++[r]))++(if dU (fs++[y])=true then [y] else []):=by rw[ZaO,hy,Za4];cases hh:dU (fs++[y])<;>simp[hh]
     have XR:=s' _ _ (sL _ _ DV);refine MU (i:=1) (j:=0) XR .l rfl rfl fun a' H7 s7 rq=>?_;refine⟨a',fs++[y],rfl,rq,fun x hx=>?_,by rw[Zak];simp;lia,fun H8 s8=>⟨_,rfl,?_⟩⟩
     ·rcases Zay.mp hx with z|z
      ·exact vF x z
      ·exact .inr ⟨jj,by rw[ZaE.mp z,ey]⟩
     cases hh:dU (fs++[y]) with
     |true=>
      rw[hh]at eu;refine aq ?_;refine⟨_,rfl,?_,?_⟩
      ·have:=Zba (fun r=>dU (fs++[r])) (ls.take j);rw[ZaB]at this;rw[ZaH]
       lia
      ·exact⟨by rw[eu,ZaQ rfl],s'.trans (s7.trans s8),_,rfl⟩
     |false=>rw[hh]at eu;exact ar ⟨by rw[eu,ZaN Zam,Zbi],s'.trans (s7.trans s8),_,rfl⟩
    ·rintro ys ao j7 ⟨rfl,s',v,rfl⟩ S hS;rw[ZaV];generalize XF:ls.filter (fun r=>dU (fs++[r]))=gs;have sS:ae j7 (upd j7 S (.lst gs)):=fun c o hc=>by rw[Zh (Ze hc hS)];exact hc
     generalize K4:upd j7 S (HO.lst gs)=H6 at sS;have KU:H6 S=some (.lst gs):=by rw[<-K4];exact aj
     have Hv:ae H' H6:=sL.trans (s'.trans sS);obtain⟨u4,v4,e4,z1,z2,z3⟩:=id cT;have fin:∀(y:V) (H7:Hp) (b5 b6 b7 b8:Option V) (D:Ends),(D.nx=fun σ H2=> ∃(fa:Addr) (fs:List V) (x4 x5 x6 x7 x8 x9:Option V),σ=[some (.ref p),some (.ref b),some (.int way),some (.ref fa),x4,x5,x6,x7,x8,x9]/\av p H H2/\bg H2 p/\H2 fa=some (.tup fs)/\fs.length=i+1/\
       (∀r∈rowsOf fs,bQ r 0 (hg-1)=true)/\(rowsOf fs).Nodup/\dU fs=true)->ae H6 H7->(y=.af∨y∈gs)->
       p7 (dW (fX K) (dA 3) (cX (aI (dA 9) bD))) (cH 3) D [some (.ref p),some (.ref b),some (.int way),some (.ref fa),some (.int (0+(i:Int))),b5,b6,b7,b8,some y] H7:=fun y H7 b5 b6 b7 b8 D eD s7 hy=>by
      have XQ:=s7 _ _ (Hv _ _ DV);refine MU (i:=3) (j:=9) XQ .l rfl rfl fun a' H8 s8 rq=>?_;show D.nx _ _;rw[eD];have tj:ae H' H8:=Hv.trans (s7.trans s8);refine⟨a',fs++[y],_,_,_,_,_,_,rfl,k4.trans tj.x,⟨u4,v4,tj _ _ e4,z1,z2,z3⟩,rq,by rw[Zak,DU];rfl,?_⟩;rcases hy with rfl|hy
      ·have e9:rowsOf (fs++[.af])=rowsOf fs:=by rw[YN];simp
       rw[e9];exact⟨gL,fc,Zbu qQ⟩
      ·rw[<-XF]at hy;obtain⟨m1,m2⟩:=ZaL.mp hy;obtain⟨jj,rfl,j1,j2,j3⟩:=good y m1;have e9:rowsOf (fs++[.int jj])=rowsOf fs++[.int jj]:=by rw[YN];rfl
       rw[e9];refine⟨fun r bt=>?_,?_,m2⟩
       ·rcases Zay.mp bt with z|z
        ·exact gL r z
        ·rw[ZaE.mp z];show(decide ((0:Int)<=jj)&&decide (jj<=hg-1))=true;rw[Zau j1,Zau .l];rfl
       ·exact FF fc fun m=>j3 (ZaL.mp m).1
     refine⟨_,rfl,ZaJ _,fun q2 cM=>?_⟩;have sD:ae H6 (upd H6 q2 (.lst [])):=fun c o hc=>by rw[Zh (Ze hc cM)];exact hc
     refine⟨S,q2,gs,rfl,rfl,ak.of (sD _ _ KU),ak.of aj,_,rfl,?_⟩;generalize hH7:upd H6 q2 (HO.lst [])=H7 at sD;cases wY:gs.isEmpty with
     |true=>exact ar (ar (fin .af H7 _ _ _ _ _ rfl sD (.inl rfl)))
     |false=>
      refine aq ?_;have bN:gs≠[]:=fun z=>by rw[z]at wY;cases wY
      have zG:0<gs.length:=Zeq.mpr bN;refine⟨_,rfl,aK,fun q3 jS=>?_⟩;obtain⟨c3,X7⟩:=three h1 nQ;have sE:ae H7 (upd H7 q3 (.lst [.int 0,.int 1,.int 3])):=fun c o hc=>by rw[Zh (Ze hc jS)];exact hc
      refine⟨_,rfl,q3,_,_,_,rfl,rfl,ak.of aj,X7,_,_,rfl,rfl,_,rfl,?_⟩;generalize hH8:upd H7 q3 (HO.lst [V.int 0,.int 1,.int 3])=H8 at sE;have KS:=sE _ _ (sD _ _ KU);have m1:0<=sp%(gs.length:Int):=Zce _ .l;have m2:sp%(gs.length:Int)<gs.length:=ZbQ _ .l;have m3:(sp%(gs.length:Int)).toNat<gs.length:=.l;have m5:dj gs (sp%(gs.length:Int))=some gs[(sp%(gs.length:Int)).toNat]:=by have:=ZJ (xs:=gs) (Zaj m3);rw[ZbG m1]at this;exact this
      refine Dk (fun _=>?_) (fun _=>fin .af H8 _ _ _ _ _ rfl (sD.trans sE) (.inl rfl));refine⟨_,rfl,_,rfl,_,rfl,S,gs,rfl,.inl (ak.of KS),_,_,rfl,rfl,(by show(0:Int)< (gs.length:Int);omega),S,gs,_,_,rfl,rfl,ak.of KS,m5,?_⟩;exact fin _ H8 _ _ _ _ _ rfl (sD.trans sE) (.inr (ZbA m3))
  ·rintro σ H2 ⟨fa,fs,x4,x5,x6,x7,x8,x9,rfl,k2,aF,o7,DU,gL,fc,qQ⟩;obtain⟨uz,vz,ez,_⟩:=id aF;refine bX _ _ ?_;exact⟨_,rfl,q fa H2 fs k2 aF o7 (YW o7 ez (by intro z;cases z)) ⟨.l,gL,fc⟩ qQ⟩
def bE (xs:List V):List (Int×Int):=(List.range xs.length).filterMap fun l=>(rowAt xs l).map fun r=>((l:Int),r)
def xW (H:Hp)(v:V)(q:Int×Int):Prop:=∃t:Addr,v=.ref t/\H t=some (.tup [.int q.1,.int q.2])
def gw (H:Hp)(v:V)(q:aN):Prop:=∃t:Addr,v=.ref t/\H t=some (.tup [.int q.1,.int q.2.1,.int q.2.2.1,.int q.2.2.2])
theorem xW.same (h:xW H v q)(s:ae H H'):xW H' v q:=by obtain⟨t,e,h1⟩:=h;exact⟨t,e,s _ _ h1⟩
theorem gw.same (h:gw H v q)(s:ae H H'):gw H' v q:=by obtain⟨t,e,h1⟩:=h;exact⟨t,e,s _ _ h1⟩
def pairsOf (ps:List (Int×Int))(a:Int×Int)(j:Nat):List aN:=((ps.take j).filter fun b=>decide (a.1<b.1)).map fun b=>(a.1,a.2,b.1,b.2)
def lL (ps:List (Int×Int))(i:Nat):List aN:=(ps.take i).flatMap fun a=>pairsOf ps a ps.length
def eX (ps:List (Int×Int)):List aN:=lL ps ps.length
theorem Za8 {ps:List (Int×Int)}(h:ps[j]?=some b):pairsOf ps a (j+1)=pairsOf ps a j++(if decide (a.1<b.1)=true then [(a.1,a.2,b.1,b.2)] else []):=by unfold pairsOf;rw[ZaO,h,Za4,ZaW];cases hh:decide (a.1<b.1)<;>simp_all
theorem Za7 {ps:List (Int×Int)}(h:ps[i]?=some a):lL ps (i+1)=lL ps i++pairsOf ps a ps.length:=by unfold lL;rw[ZaO,h,Zfx];simp
abbrev yT:Stmt:=top 25
def jG (H:Hp)(x y:V)(wd hg:Int)(xs:List V):Prop:=bS H x wd hg/\bJ H y=some xs/\bP wd hg xs
theorem jG.same (h:jG H x y wd hg xs)(s:ae H H'):jG H' x y wd hg xs:=⟨h.1.same s,s.bJ h.2.1,h.2.2⟩
theorem jG.pl (h:jG H x y wd hg xs):iF K H y:=by
 obtain⟨a,rfl,ha⟩:=ZO h.2.1;refine⟨⟨_,.tup ha⟩,fun zs e z hz=>?_⟩;rw[h.2.1]at e;cases e;rcases h.2.2.ok z hz with rfl|⟨i,rfl⟩
 ·exact⟨_,.af⟩
 ·exact⟨_,.int i⟩
inductive u7 (vs:List V) (H:Hp) (Q:VK) (_E:XK):Prop
 |mk (x y wd hg xs:_) (c0:vs=[x,y]) (c1:jG H x y wd hg xs) (c2:∀H',ae H H'->Q .af H')
theorem Hr:bo bv bv (aR yT):=ZU .k
theorem Zcx (F:aO K "need_lay" "need_lay" yT f fd)(D1:Def P w K mg base 5 "is_lay" tz (yH K)):aJ P w K mg base aS 6 f fd bv u7:=by
 refine F.ok Hr (fun vs H Q E h=>?_) (fun aw A outer s H vs Q E hr h=>?_)
 ·obtain⟨x,y,wd,hg,xs,rfl,_⟩:=h;rfl
 ·obtain⟨x,y,wd,hg,xs,rfl,l,q⟩:=h;refine⟨_,Zk (ZP (Yh (Z1 (Zg D1 hr (Za (pv 0) (Zv 1))))) ZF Zs),?_⟩;refine⟨x,rfl,y,rfl,x,y,wd,hg,rfl,l.1,l.pl,fun H' sm=>⟨_,rfl,?_⟩⟩;rw[l.2.1,l.2.2.is];exact ar (q H' sm)
inductive Bj (vs:List V) (H:Hp) (Q:VK) (_E:XK):Prop
 |mk (x y wd hg xs:_) (c0:vs=[x,y]) (c1:jG H x y wd hg xs) (c2:∀(l:Addr) (H':Hp) (ps:List V),ae H H'->H l=none->H' l=some (.lst ps)->Paired (xW H') ps (bE xs)->Q (.ref l) H')
abbrev BR:Stmt:=top 31
inductive Bk (vs:List V) (H:Hp) (Q:VK) (_E:XK):Prop
 |mk (x y wd hg xs:_) (c0:vs=[x,y]) (c1:jG H x y wd hg xs) (c2:∀(l:Addr) (H':Hp) (ps:List V),ae H H'->H l=none->H' l=some (.lst ps)->Paired (gw H') ps (eX (bE xs))->Q (.ref l) H')
theorem Ho:bo ["board","lay","found"] bv (aR BR):=ZU .k
theorem ZeQ (F:aO K "point_pairs" "point_pairs" BR f fd)(D1:Def P w K mg base 7 "points" bv Bj):aJ P w K mg base aS 8 f fd bv Bk:=by
 refine F.ok Ho (fun vs H Q E h=>?_) (fun aw A outer s H vs Q E hr h=>?_)
 ·obtain⟨x,y,wd,hg,xs,rfl,_⟩:=h;rfl
 ·obtain⟨x,y,wd,hg,xs,rfl,l,q⟩:=h;refine⟨_,Zd (Zq (i:=2) Ho.nd (Zg D1 hr (Za (pv 0) (Zv 1))))
   (Zk (Zr (Z7 ["line","row","other","there","found"] 4 [2] (Yi (pv 2))
    (fun C s H fp=>show PG (aV _ _ _ C s H fp) _ (mj K 2 (dC (cH 0) (dC (cH 1) mn))) from Yk rfl (Zo (pb 0) (Zo (pb 1) Z4))) (fun C s H fp=>Ym)
    (fun C s H fp D=>ZeB rfl rfl rfl (show PI (aV _ _ _ C s H fp) _ _ (IA K (dA 4)) from Yi (pv 4))
     (show PG (aV _ _ _ C s H fp) _ (mj K 2 (dC (cH 2) (dC (cH 3) mn))) from Yk rfl (Zo (pb 2) (Zo (pb 3) Z4)))
     (Ys (Zp W6 (pv 0) (pv 2))) (ZK rfl (Zj (Za (pv 0) (Za (pv 1) (Za (pv 2) (Zv 3)))))) (by intro _;rfl) (by intro g' h;cases h))))),?_⟩
  try dsimp only[cw]
  refine jf ?_;intro jD cF aY;refine⟨x,rfl,y,rfl,x,y,wd,hg,xs,rfl,l,fun fa H1 ps s1 gm hf pr=>?_⟩;generalize wF:bE xs=qs at pr q;have tW:ps.length=qs.length:=ZaM pr;have aa5:qs.length<=12:=by
   rw[<-wF];unfold bE;have:=Zc6 (fun l:Nat=>(rowAt xs l).map fun r=>((l:Int),r)) (List.range xs.length);rw[ZcR]at this;have h1:=l.2.2.len;have h2:=l.1.2.2.1
   lia
  refine aY _ _ ?_;refine⟨_,rfl,fa,rfl,⟨ps,ak.of hf⟩,?_⟩;refine Ye (xs:=ps) (fun i ys σ H2=> ∃v0 v1 v2 v3,σ=[v0,v1,v2,v3,some (.ref fa)]/\ae H1 H2/\Paired (gw H2) ys (lL qs i)/\ys.length<=i*12) ⟨_,_,_,_,rfl,ae.refl _,.nil,ZaJ _⟩ (fun i ys σ H2 _ ⟨_,_,_,_,_,s2,_⟩=>ak.of (s2 _ _ hf)) ?_ ?_
  ·rintro i v ys σ H2 hv ⟨v0,v1,v2,v3,rfl,s2,bW,bY⟩;obtain⟨a,VV,t,rfl,ht⟩:=Paired.at pr hv;have hi:i<ps.length:=(Zai.mp hv).1;refine⟨t,_,rfl,ah.of (s2 _ _ ht),rfl,_,_,rfl,_,_,rfl,rfl,?_⟩;refine⟨_,rfl,fa,rfl,⟨ps,ak.of (s2 _ _ hf)⟩,?_⟩;refine Ye (xs:=ps) (fun j ys σ H3=> ∃v2 v3,σ=[some (.int a.1),some (.int a.2),v2,v3,some (.ref fa)]/\ae H1 H3/\Paired (gw H3) ys (lL qs i++pairsOf qs a j)/\ys.length<=i*12+j) ⟨_,_,rfl,s2,by simpa[pairsOf] using bW,bY⟩ (fun i ys σ H2 _ ⟨_,_,_,s2,_⟩=>ak.of (s2 _ _ hf)) ?_ ?_
   ·rintro j v ys σ H3 ir ⟨v2,v3,rfl,s3,bC,iw⟩;obtain⟨b,VU,t',rfl,dw⟩:=Paired.at pr ir;have hj:j<ps.length:=(Zai.mp ir).1;have es:=Za8 (a:=a) VU;refine⟨t',_,rfl,ah.of (s3 _ _ dw),rfl,_,_,rfl,_,_,rfl,rfl,?_⟩;refine⟨_,rfl,_,rfl,_,_,rfl,rfl,_,rfl,?_⟩;cases hh:decide (a.1<b.1) with
    |true=>
     rw[hh]at es;refine aq ?_;refine⟨_,rfl,_,rfl,_,rfl,_,rfl,aK,fun t4 jr=>⟨by rw[ZaH];lia,?_⟩⟩;have s4:ae H3 (upd H3 t4 (.tup [.int a.1,.int a.2,.int b.1,.int b.2])):=fun c o hc=>by rw[Zh (Ze hc jr)];exact hc
     refine⟨_,_,rfl,s3.trans s4,?_,by rw[Zak];simp;lia⟩;rw[es,ZaQ rfl,<-ZaP];exact Zc9 (Paired.bh bC fun v q' hq=>hq.same s4) ⟨t4,rfl,aj⟩
    |false=>rw[hh]at es;refine ar ⟨_,_,rfl,s3,?_,.l⟩;rw[es,ZaN Zam,Zbi];exact bC
   ·rintro ys σ H3 ⟨v2,v3,rfl,s3,bC,iw⟩;refine⟨_,_,_,_,rfl,s3,?_,.l⟩;rw[Za7 VV,<-tW];exact bC
  ·rintro ys σ H2 ⟨v0,v1,v2,v3,rfl,s2,bW,bY⟩ p hp;have s4:ae H2 (upd H2 p (.lst ys)):=fun c o hc=>by rw[Zh (Ze hc hp)];exact hc
   refine q p _ ys (s1.trans (s2.trans s4)) ((s1.trans s2).free hp) aj ?_;rw[tW]at bW;exact Paired.bh bW fun v q' hq=>hq.same s4
def zc (xs:List V)(n:Nat):List (Int×Int):=(List.range n).filterMap fun l=>(rowAt xs l).map fun r=>((l:Int),r)
theorem Uz (xs:List V)(n:Nat):zc xs (n+1)=zc xs n++((rowAt xs n).map fun r=>((n:Int),r)).toList:=by unfold zc;rw[Zcw,Zia];cases h:rowAt xs n<;>simp[h]
abbrev BQ:Stmt:=top 29
theorem QV:bo bv bv (aR BQ):=ZU .k
theorem ZdH (F:aO K "points" "points" BQ f fd)(G:Gs mg)(D1:Def P w K mg base 6 "need_lay" bv u7):aJ P w K mg base aS 7 f fd bv Bj:=by
 refine F.ok QV (fun vs H Q E h=>?_) (fun aw A outer s H vs Q E hr h=>?_)
 ·obtain⟨x,y,wd,hg,xs,rfl,_⟩:=h;rfl
 ·obtain⟨x,y,wd,hg,xs,rfl,l,q⟩:=h;refine⟨_,Zd (YI (Zg D1 hr (Za (pv 0) (Zv 1))))
   (Zk (Zr (Z7 ["line","row"] 2 [] (ZfX rfl G.enumerate (Zv 1))
    (fun C s H fp=>show PG (aV _ _ _ C s H fp) _ (mj K 2 (dC (cH 0) (dC (cH 1) mn))) from Yk rfl (Zo (pb 0) (Zo (pb 1) Z4)))
    (fun C s H fp=>Ys (Jb (Ji (pv 1)))) (fun C s H fp D=>ZK rfl (Zj (Za (pv 0) (Zv 1))))))),?_⟩
  try dsimp only[cw]
  refine jf ?_;intro jD cF aY;refine⟨x,rfl,y,rfl,x,y,wd,hg,xs,rfl,l,fun H1 s1=>?_⟩;obtain⟨a,rfl,ha⟩:=ZO (l.same s1).2.1;have hlen:xs.length<=12:=by
   have h1:=l.2.2.len;have h2:=l.1.2.2.1
   lia
  refine aY _ _ ?_;refine⟨_,rfl,a,rfl,⟨xs,ah.of ha⟩,?_⟩;refine ZdN (xs:=xs) (fun i ys σ H2=> ∃v0 v1,σ=[v0,v1]/\ae H1 H2/\Paired (xW H2) ys (zc xs i)/\ys.length<=i) ⟨_,_,rfl,ae.refl _,.nil,ZaJ _⟩ (fun i ys σ H2 _ ⟨_,_,_,s2,_⟩=>ah.of (s2 _ _ ha)) ?_ ?_
  ·rintro i v T ys σ H2 hv hT ⟨v0,v1,rfl,s2,bW,bY⟩;have hi:i<xs.length:=(Zai.mp hv).1;have sT:ae H2 (upd H2 T (.par [.int (i:Int),v])):=fun c o hc=>by rw[Zh (Ze hc hT)];exact hc
   have er:rowAt xs i=vE v:=by unfold rowAt;rw[hv];rfl
   refine⟨T,_,rfl,ah.vO aj,rfl,_,_,rfl,_,_,rfl,rfl,?_⟩;refine⟨_,rfl,_,rfl,?_⟩;generalize K5:upd H2 T (HO.par [V.int (i:Int),v])=H3 at sT;rcases l.2.2.ok v (Zao hv) with rfl|⟨r,rfl⟩
   ·refine ar ⟨_,_,rfl,s2.trans sT,?_,.l⟩;rw[Uz,er];exact(by simpa[vE] using Paired.bh bW fun v q' hq=>hq.same sT)
   ·refine aq ?_;refine⟨_,rfl,_,rfl,aK,fun t ht=>⟨by rw[ZaH];lia,?_⟩⟩;have s4:ae H3 (upd H3 t (.tup [.int (i:Int),.int r])):=fun c o hc=>by rw[Zh (Ze hc ht)];exact hc
    refine⟨_,_,rfl,s2.trans (sT.trans s4),?_,by rw[Zak];simp;omega⟩;rw[Uz,er];exact Zc9 (Paired.bh bW fun v q' hq=>hq.same (sT.trans s4)) ⟨t,rfl,aj⟩
  ·rintro ys σ H2 ⟨v0,v1,rfl,s2,bW,bY⟩ p hp;have s4:ae H2 (upd H2 p (.lst ys)):=fun c o hc=>by rw[Zh (Ze hc hp)];exact hc
   exact q p _ ys (s1.trans (s2.trans s4)) ((s1.trans s2).free hp) aj (Paired.bh bW fun v q' hq=>hq.same s4)
end U
namespace U
open PySem L2 PyProof.Rows PyProof.Rows.fS
def dX (p:aN):aN:=(p.2.2.1-p.1,p.2.2.2-p.2.1,p.1,p.2.2.1)
def rV (ks:List aN):Prop:=(ks.map aW).Pairwise fun a b=>aM b a=false
theorem jF.same (h:jF H v q)(s:ae H H'):jF H' v q:=by obtain⟨t,t',e,h1,h2⟩:=h;exact⟨t,t',e,s _ _ h1,s _ _ h2⟩
theorem Ug (xs:List V):(bE xs).length<=xs.length:=by unfold bE;have:=Zc6 (fun l:Nat=>(rowAt xs l).map fun r=>((l:Int),r)) (List.range xs.length);rw[ZcR]at this;exact this
theorem Oi (f:α->List β)(n:Nat):∀l:List α,(∀a∈l,(f a).length<=n)->(l.flatMap f).length<=l.length*n
 | [],_=>.s
 |a::l,h=>by have h1:=h a Zaz;have h2:=Oi f n l fun b hb=>h b (Zaq _ hb);rw[Zh0,Zak,ZaU,Nat.succ_mul];omega
theorem JV (ps:List (Int×Int)):(eX ps).length<=ps.length*ps.length:=by unfold eX lL;rw[ZaV];refine Oi _ _ _ fun a _=>?_;unfold pairsOf;rw[Zat];refine Zbb (Zba ..) ?_;rw[ZaB];exact Zjc ..
theorem TZ (l:jG H x y wd hg xs):xs.length<=12:=by
 have h1:=l.2.2.len;have h2:=l.1.2.2.1
 lia
theorem HY (l:jG H x y wd hg xs):(eX (bE xs)).length<=144:=by
 have h1:=JV (bE xs);have h2:=Ug xs;have h3:=TZ l;have h4:(bE xs).length<=12:=.l;have h5:=Zh5 h4 h4
 lia
abbrev BK:Stmt:=top 32
inductive Bg (vs:List V) (H:Hp) (Q:VK) (_E:XK):Prop
 |mk (x y wd hg xs:_) (c0:vs=[x,y]) (c1:jG H x y wd hg xs) (c2:∀(l:Addr) (H':Hp) (rs:List V) (ks:List aN),ae H H'->H l=none->H' l=some (.lst rs)->Paired (jF H') rs ks->ks.Perm ((eX (bE xs)).map dX)->rV ks->Q (.ref l) H')
theorem QS:bo bv bv (aR BK):=ZU .k
theorem ZeN (F:aO K "steps" "steps" BK f fd)(G:Gs mg)(D1:Def P w K mg base 8 "point_pairs" bv Bk):aJ P w K mg base aS 9 f fd bv Bg:=by
 refine F.ok QS (fun vs H Q E h=>?_) (fun aw A outer s H vs Q E hr h=>?_)
 ·obtain⟨x,y,wd,hg,xs,rfl,_⟩:=h;rfl
 ·obtain⟨x,y,wd,hg,xs,rfl,l,q⟩:=h;have hu:=hr.units;refine⟨_,Zk (Zr (Zm (WM (ZgG (ZeJ (Zis (by decide:2<=64) _) hu))) rfl G.sorted PyProof.Rows.Boot.«sorted» (Za (Z7 ["line","row","other","there"] 4 [] (Yi (Zg D1 hr (Za (pv 0) (Zv 1))))
    (fun C s H fp=>show PG (aV _ _ _ C s H fp) _ (mj K 4 (dC (cH 0) (dC (cH 1) (dC (cH 2) (dC (cH 3) mn))))) from Yk rfl (Zo (pb 0) (Zo (pb 1) (Zo (pb 2) (Zo (pb 3) Z4))))) (fun C s H fp=>Ym)
    (fun C s H fp D=>ZK rfl (Zj (Za (Zj (Za (Zl Yx (pv 2) (pv 0)) (Za (Zl Yx (pv 3) (pv 1)) Zb))) (Za (pv 0) (Zv 2)))))) Zb))),?_⟩
  refine⟨x,rfl,y,rfl,x,y,wd,hg,xs,rfl,l,fun fa H1 ps s1 gm hf pr=>?_⟩;have hlen:=HY l;generalize wF:eX (bE xs)=qs at pr q hlen;have tW:ps.length=qs.length:=ZaM pr;refine⟨fa,rfl,⟨ps,ak.of hf⟩,?_⟩;refine Ye (xs:=ps) (fun i ys σ H2=> ∃v0 v1 v2 v3,σ=[v0,v1,v2,v3]/\ae H1 H2/\Paired (jF H2) ys ((qs.take i).map dX)/\ys.length<=i) ⟨_,_,_,_,rfl,ae.refl _,.nil,ZaJ _⟩ (fun i ys σ H2 _ ⟨_,_,_,_,_,s2,_⟩=>ak.of (s2 _ _ hf)) ?_ ?_
  ·rintro i v ys σ H2 hv ⟨v0,v1,v2,v3,rfl,s2,bW,bY⟩;obtain⟨⟨a,b,c,d⟩,hq,tt,rfl,iR⟩:=YO pr hv;have hi:i<ps.length:=(Zai.mp hv).1;refine⟨tt,_,rfl,ah.of (s2 _ _ iR),rfl,_,_,rfl,_,_,rfl,_,_,rfl,_,_,rfl,rfl,?_⟩;refine⟨_,rfl,_,rfl,c,a,rfl,rfl,_,rfl,_,rfl,d,b,rfl,rfl,aK,fun t' dw=>?_⟩;refine⟨_,rfl,_,rfl,aK,fun t ht=>⟨by rw[ZaH];lia,?_⟩⟩;generalize mi:upd H2 t' (HO.tup [V.int (c-a),V.int (d-b)])=H4 at ht;have s4:ae H2 H4:=fun e o hc=>by rw[<-mi,Zh (Ze hc dw)];exact hc
   have jr:H4 t'=some (.tup [V.int (c-a),V.int (d-b)]):=by rw[<-mi];exact aj
   generalize kQ:upd H4 t (HO.tup [V.ref t',V.int a,V.int c])=H5;have s5:ae H4 H5:=fun e o hc=>by rw[<-kQ,Zh (Ze hc ht)];exact hc
   have lU:H5 t=some (.tup [V.ref t',V.int a,V.int c]):=by rw[<-kQ];exact aj
   refine⟨_,_,_,_,rfl,s2.trans (s4.trans s5),?_,by rw[Zak];simp;omega⟩;rw[ZaO,hq,ZaW];exact Zc9 (Paired.bh bW fun v q' hq=>hq.same (s4.trans s5)) ⟨t,t',rfl,lU,s5 _ _ jr⟩
  ·rintro ys σ H2 ⟨v0,v1,v2,v3,rfl,s2,bW,bY⟩ p hp;have s4:ae H2 (upd H2 p (.lst ys)):=fun c o hc=>by rw[Zh (Ze hc hp)];exact hc
   rw[tW,ZaV]at bW;refine⟨p,ys,qs.map dX,rfl,ak.of aj,Paired.bh bW fun v q' hq=>hq.same s4,.l,fun r dq ik qV zH DA bC=>?_⟩;have s5:ae (upd H2 p (.lst ys)) (upd (upd H2 p (.lst ys)) r (.lst dq)):=fun c o hc=>by rw[Zh (Ze hc qV)];exact hc
   exact q r _ dq ik (s1.trans (s2.trans (s4.trans s5))) ((s1.trans (s2.trans s4)).free qV) aj (Paired.bh bC fun v q' hq=>jF.same hq s5) zH DA
theorem Yr (a b:Int)(l m:List Int):aM (a::l) (b::m)=true↔a<b∨(a=b/\aM l m=true):=by
 have z:aM (a::l) (b::m)=if a=b then aM l m else decide (a<b):=rfl
 rw[z];by_cases e:a=b
 ·rw[ZaQ e];constructor
  ·exact fun h=>.inr ⟨e,h⟩
  ·rintro(h|h)
   ·lia
   ·exact h.2
 ·rw[ZaN e,ZaF];constructor
  ·exact fun h=>.inl h
  ·rintro(h|h)
   ·exact h
   ·exact absurd h.1 e
theorem YG:aM [] []=true↔False:=by simp[aM]
def dR (a b:aN):Prop:=a.1=b.1/\a.2.1=b.2.1
instance (a b:aN):Decidable (dR a b):=inferInstanceAs (Decidable (_/\_))
def four (a b:aN):aN:=(a.2.2.1,a.2.2.2,b.2.2.1,b.2.2.2)
def iP (a b:aN):Bool:=aM [a.2.2.1,a.2.2.2] [b.2.2.1,b.2.2.2]
def oa (S:List aN):Option aN->Prop
 |none=> ∀a∈S,∀b∈S,dR a b->iP a b=false
 |some k=>(∃a∈S,∃b∈S,dR a b/\iP a b=true/\k=four a b)/\∀a∈S,∀b∈S,dR a b->iP a b=true->aM (aW (four a b)) (aW k)=false
def lr (ks:List aN):List (aN×aN):=ks.zip (ks.drop 1)
def kA (ks:List aN):List aN:=((lr ks).filter fun p=>decide (dR p.1 p.2)).map fun p=>four p.1 p.2
theorem nf :b=false↔¬b=true:=by cases b<;>simp
theorem mid {h d b:aN}(h1:aM (aW d) (aW h)=false)(h2:aM (aW b) (aW d)=false)(s:dR h b):dR h d/\aM (aW (four h b)) (aW (four h d))=false:=by
 unfold aW at *
 unfold dR at *
 unfold four;rw[nf]at *
 simp only[Yr,YG,ZhK,Zcp,false_or]at *
 omega
theorem MO (s:dR a b):aM (aW a) (aW b)=true↔iP a b=true:=by
 unfold aW iP dR at *
 simp only[Yr,YG,ZhK,Zcp]at *
 lia
theorem Mw (hr:rV ks):∀a∈ks,∀b∈ks,dR a b->iP a b=true->∃p∈lr ks,dR p.1 p.2/\aM (aW (four a b)) (aW (four p.1 p.2))=false:=by
 induction ks with
 |nil=>intro a ha;cases ha
 |cons h r ih=>
  have bt:rV r:=(ZbD.mp hr).2;have hh:∀d∈r,aM (aW d) (aW h)=false:=fun d hd=>(ZbD.mp hr).1 _ (Zdj hd);intro a ha b hb s l;have kl:=(MO s).mpr l;rcases Zas.mp ha with rfl|rq
  ·have cj:b∈r:=by
    rcases Zas.mp hb with rfl|hb
    ·have:=Jo _ _ kl;rw[kl]at this;cases this
    ·exact hb
   cases r with
   |nil=>cases cj
   |cons d r'=>
    have gn:aM (aW b) (aW d)=false:=by
     rcases Zas.mp cj with rfl|gR
     ·cases hx:aM (aW b) (aW b) with
      |false=>rfl
      |true=>have:=Jo _ _ hx;rw[hx]at this;cases this
     ·exact(ZbD.mp bt).1 _ (Zdj gR)
    obtain⟨m1,m2⟩:=mid (hh d Zaz) gn s;exact⟨(a,d),Zaz,m1,m2⟩
  ·have cj:b∈r:=by
    rcases Zas.mp hb with rfl|hb
    ·have:=hh a rq;rw[kl]at this;cases this
    ·exact hb
   obtain⟨p,hp,q1,q2⟩:=ih bt a rq b cj s l;refine⟨p,?_,q1,q2⟩;cases r with
   |nil=>cases rq
   |cons d r'=>exact Zaq _ hp
theorem Zhl {ks:List aN}(hr:rV ks)(hn:ks.Nodup):∀p∈lr ks,dR p.1 p.2->p.1∈ks/\p.2∈ks/\iP p.1 p.2=true:=by
 induction ks with
 |nil=>intro p hp;cases hp
 |cons h r ih=>
  have bt:rV r:=(ZbD.mp hr).2;have hh:∀d∈r,aM (aW d) (aW h)=false:=fun d hd=>(ZbD.mp hr).1 _ (Zdj hd);have wL:=(ZcV.mp hn);intro p hp s;cases r with
  |nil=>cases hp
  |cons d r'=>
   rcases Zas.mp (show p∈(h,d)::lr (d::r') from hp) with rfl|hp
   ·refine⟨Zaz,Zaq _ Zaz,(MO s).mp ?_⟩;cases hx:aM (aW h) (aW d) with
    |true=>rfl
    |false=>have e:=Ze5 (Nv _ _ hx (hh d Zaz));rw[e]at wL;exact absurd Zaz wL.1
   ·obtain⟨q1,q2,q3⟩:=ih bt wL.2 p hp s;exact⟨Zaq _ q1,Zaq _ q2,q3⟩
theorem vT {k:aN} :k∈kA ks↔∃p∈lr ks,dR p.1 p.2/\four p.1 p.2=k:=by
 unfold kA;rw[Za2];constructor
 ·rintro⟨p,hp,e⟩;rw[ZaL,ZaF]at hp;exact⟨p,hp.1,hp.2,e⟩
 ·rintro⟨p,hp,s,e⟩;exact⟨p,ZaL.mpr ⟨hp,Zau s⟩,e⟩
theorem ZcI (hr:rV ks)(h:kA ks=[]):oa ks none:=fun a ha b hb s=>by
 cases hl:iP a b with
 |false=>rfl
 |true=>obtain⟨p,hp,q,_⟩:=Mw hr a ha b hb s hl;have:four p.1 p.2∈kA ks:=vT.mpr ⟨p,hp,q,rfl⟩;rw[h]at this;cases this
theorem ZcH {ks:List aN}(hr:rV ks)(hn:ks.Nodup){k:aN}(hk:k∈kA ks)(hm:∀k'∈kA ks,aM (aW k') (aW k)=false):oa ks (some k):=by obtain⟨p,hp,s,e⟩:=vT.mp hk;obtain⟨m1,m2,m3⟩:=Zhl hr hn p hp s;refine⟨⟨p.1,m1,p.2,m2,s,m3,e.symm⟩,fun a ha b hb s' l=>?_⟩;obtain⟨p',DF,q1,q2⟩:=Mw hr a ha b hb s' l;exact JN _ _ _ (hm _ (vT.mpr ⟨p',DF,q1,rfl⟩)) q2
def F5 (xs:List V)(q:aN):Prop:=∃l o:Nat,l<o/\o<xs.length/\iJ xs o l=some q
theorem Jj {p:Int×Int} :p∈bE xs↔∃l:Nat,l<xs.length/\rowAt xs l=some p.2/\p.1=(l:Int):=by
 unfold bE;rw[Zb7];constructor
 ·rintro⟨l,hl,e⟩;rw[Zbp]at e;obtain⟨r,hr,rfl⟩:=e;exact⟨l,Zbf.mp hl,hr,rfl⟩
 ·rintro⟨l,hl,hr,e⟩;refine⟨l,Zbf.mpr hl,?_⟩;rw[hr,ZjB,<-e]
theorem FA {q:aN} :q∈bF xs xs.length↔F5 xs q:=by
 unfold bF gY F5;simp only[Zdm,Zb7,Zbf];constructor
 ·rintro⟨o,ho,l,hl,e⟩;exact⟨l,o,hl,ho,e⟩
 ·rintro⟨l,o,hl,ho,e⟩;exact⟨o,ho,l,hl,e⟩
theorem YM :iJ xs o l=some q↔∃a b,rowAt xs l=some a/\rowAt xs o=some b/\q=((o:Int)-l,b-a,(l:Int),(o:Int)):=by
 unfold iJ;cases h1:rowAt xs l with
 |none=>simp
 |some a=>
  cases h2:rowAt xs o with
  |none=>simp
  |some b=>
   simp only[Option.bind_some,ZjB,Option.some.injEq];constructor
   ·rintro rfl;exact⟨a,b,rfl,rfl,rfl⟩
   ·rintro⟨_,_,rfl,rfl,rfl⟩;rfl
theorem ZeZ {q:aN} :q∈(eX (bE xs)).map dX↔F5 xs q:=by
 unfold eX lL;rw[ZaV];simp only[Za2,Zdm,pairsOf,ZaV,ZaL,ZaF];constructor
 ·rintro⟨_,⟨a,ha,b,⟨hb,bj⟩,rfl⟩,rfl⟩;obtain⟨l,hl,hr,e⟩:=Jj.mp ha;obtain⟨o,ho,bt,e'⟩:=Jj.mp hb;refine⟨l,o,.l,ho,YM.mpr ⟨a.2,b.2,hr,bt,?_⟩⟩;unfold dX;rw[e,e']
 ·rintro⟨l,o,hl,ho,e⟩;obtain⟨a,b,h1,h2,rfl⟩:=YM.mp e;exact⟨((l:Int),a,(o:Int),b),⟨((l:Int),a),Jj.mpr ⟨l,.l,h1,rfl⟩,((o:Int),b),⟨Jj.mpr ⟨o,ho,h2,rfl⟩,by show(l:Int)< (o:Int);lia⟩,rfl⟩,rfl⟩
theorem JY (xs:List V)(n:Nat):(bF xs n).Nodup:=by
 unfold bF;rw[Zbg,List.pairwise_flatMap];refine⟨fun o _=>?_,?_⟩
 ·unfold gY;rw[ZhL];refine Zde ?_ (Zbg.mp Zii);intro l l' bN q hq q' fL e;obtain⟨_,_,_,_,rfl⟩:=YM.mp hq;obtain⟨_,_,_,_,rfl⟩:=YM.mp fL;simp only[Zio]at e
  lia
 ·refine Zde ?_ (Zbg.mp Zii);intro o o' bN q hq q' fL e;unfold gY at hq fL;rw[Zb7]at hq fL;obtain⟨l,_,hq⟩:=hq;obtain⟨l',_,fL⟩:=fL;obtain⟨_,_,_,_,rfl⟩:=YM.mp hq;obtain⟨_,_,_,_,rfl⟩:=YM.mp fL;simp only[Zio]at e
  lia
theorem Mz (xs:List V):(bE xs).Pairwise fun a b=>a.1≠b.1:=by
 unfold bE;rw[ZhL];refine Zde ?_ (Zbg.mp Zii);intro l l' bN q hq q' fL;rw[Zbp]at hq fL;obtain⟨_,_,rfl⟩:=hq;obtain⟨_,_,rfl⟩:=fL;show(l:Int)≠(l':Int)
 lia
theorem UE (xs:List V):((eX (bE xs)).map dX).Nodup:=by
 unfold eX lL;rw[ZaV,Zbg,Zc0,List.pairwise_flatMap];refine⟨fun a _=>?_,?_⟩
 ·unfold pairsOf;rw[ZaV,Zc0];refine Zde ?_ ((Mz xs).filter _);intro b b' bN e;unfold dX at e;simp only[Zio]at e;exact bN e.2.2.2
 ·refine Zde ?_ (Mz xs);intro a a' bN q hq q' fL e;unfold pairsOf at hq fL;rw[Za2]at hq fL;obtain⟨b,_,rfl⟩:=hq;obtain⟨b',_,rfl⟩:=fL;unfold dX at e;simp only[Zio]at e;exact bN e.2.2.1
theorem Z9 (xs:List V):((eX (bE xs)).map dX).Perm (bF xs xs.length):=
 (List.perm_ext_iff_of_nodup (UE xs) (JY xs _)).mpr fun q=>ZeZ.trans FA.symm
theorem aaC (vs:List V):dI vs (some 1) none=vs.drop 1:=by
 unfold dI HT.aX;cases vs with
 |nil=>rfl
 |cons a r=>simp
def tJ (ks:List aN)(i:Nat):List aN:=(((lr ks).take i).filter fun p=>decide (dR p.1 p.2)).map fun p=>four p.1 p.2
theorem Zbh {ks:List aN}(h1:ks[i]?=some a)(h2:(ks.drop 1)[i]?=some b):tJ ks (i+1)=tJ ks i++(if decide (dR a b)=true then [four a b] else []):=by have e:(lr ks)[i]?=some (a,b):=ZcB.mpr ⟨h1,h2⟩;unfold tJ;rw[ZaO,e,Za4,ZaW];by_cases h:dR a b<;>simp[h]
def aaQ (H:Hp)(v:V):Option aN->Prop
 |none=>v=.af
 |some k=>gw H v k
abbrev Ck:Stmt:=top 33
inductive Bt (vs:List V) (H:Hp) (Q:VK) (_E:XK):Prop
 |mk (x y wd hg xs:_) (c0:vs=[x,y]) (c1:jG H x y wd hg xs) (c2:∀(H':Hp) (v:V) (r:Option aN),ae H H'->oa (bF xs xs.length) r->aaQ H' v r->Q v H')
theorem BC:bo ["board","lay","told","likes"] bv (aR Ck):=ZU .k
theorem ZeS (F:aO K "first_like" "first_like" Ck f fd)(G:Gs mg)(D1:Def P w K mg base 9 "steps" bv Bg):aJ P w K mg base aS 10 f fd bv Bt:=by
 refine F.ok BC (fun vs H Q E h=>?_) (fun aw A outer s H vs Q E hr h=>?_)
 ·obtain⟨x,y,wd,hg,xs,rfl,_⟩:=h;rfl
 ·obtain⟨x,y,wd,hg,xs,rfl,l,q⟩:=h;have hu:=Wg hr;refine⟨_,Zd (Zq (i:=2) BC.nd (Zg D1 hr (Za (pv 0) (Zv 1))))
   (Zd (Y6 ["step","line","other","beside","here","there"] 6 [] (i:=3) BC.nd (ZfW rfl G.zip (Za (pv 2) (Za (Zz Nq (pv 2) (ZD Zc) ZH) Zb)))
    (fun C s H fp=>show PG (aV _ _ _ C s H fp) _ (mj K 2 (dC (mj K 3 (dC (cH 0) (dC (cH 1) (dC (cH 2) mn)))) (dC (mj K 3 (dC (cH 3) (dC (cH 4) (dC (cH 5) mn)))) mn))) from
     Yk rfl (Zo (Yk rfl (Zo (pb 0) (Zo (pb 1) (Zo (pb 2) Z4)))) (Zo (Yk rfl (Zo (pb 3) (Zo (pb 4) (Zo (pb 5) Z4)))) Z4)))
    (fun C s H fp=>Ys (Zp (show bf (aV _ _ _ C s H fp) (compareOp .Eq) (fun x y H Q=> ∃(a b:Addr) (ns ms:List Int),x=.ref a/\y=.ref b/\ah K H a (ns.map V.int)/\ah K H b (ms.map V.int)/\Q (.bl (decide (ns=ms))) H) from FH hr.mO) (pv 0) (pv 3)))
    (fun C s H fp D=>ZK rfl (Zj (Za (pv 1) (Za (pv 2) (Za (pv 4) (Zv 5)))))))
   (Zk (Zr (ZfY rfl hu rfl G.min (pv 3))))),?_⟩
  try dsimp only[cw]
  refine sy ?_;intro jD gK bX cF aY;refine⟨x,rfl,y,rfl,x,y,wd,hg,xs,rfl,l,fun fa H1 ps ks s1 gm hf pr perm rise=>?_⟩;have wO:ps.length=ks.length:=ZaM pr;have hlen:ks.length<=144:=by rw[perm.length_eq,Zat];exact HY l
  refine aY _ _ ?_;refine⟨_,rfl,_,rfl,_,rfl,fa,ps,rfl,ak.of hf,fun c hc=>?_⟩;generalize ug:upd H1 c (HO.lst (dI ps (some 1) none))=H2;have s2:ae H1 H2:=fun b o hb=>by rw[<-ug,Zh (Ze hb hc)];exact hb
  have eQ:H2 c=some (.lst (ps.drop 1)):=by rw[<-ug,aaC];exact aj
  have o7:=s2 _ _ hf;refine⟨fa,c,rfl,⟨_,_,ak.of o7,ak.of eQ⟩,?_⟩;refine ZdM (xs:=ps) (zs:=ps.drop 1) (fun i ys σ H3=> ∃v0 v1 v2 v3 v4 v5,σ=[v0,v1,v2,v3,v4,v5]/\ae H2 H3/\Paired (gw H3) ys (tJ ks i)/\ys.length<=i) ⟨_,_,_,_,_,_,rfl,ae.refl _,.nil,ZaJ _⟩
   (fun i ys σ H3 _ ⟨_,_,_,_,_,_,_,s3,_⟩=>⟨ak.of (s3 _ _ o7),ak.of (s3 _ _ eQ)⟩) ?_ ?_
  ·rintro i va vb T ys σ H3 IH Du hT ⟨v0,v1,v2,v3,v4,v5,rfl,s3,bC,iw⟩;have hi:i<ps.length:=(Zai.mp IH).1;obtain⟨a,Xx,ta,P0,rfl,VF,VE⟩:=YO pr IH;have Vv:ps[1+i]?=some vb:=by rw[<-Zb8];exact Du
   obtain⟨b,Xw,tb,PY,rfl,wt,VC⟩:=YO pr Vv;have Xv:(ks.drop 1)[i]?=some b:=by rw[Zb8];exact Xw
   have es:=Zbh Xx Xv;have sT:ae H3 (upd H3 T (.par [.ref ta,.ref tb])):=fun e o hc=>by rw[Zh (Ze hc hT)];exact hc
   have sA:ae H1 (upd H3 T (.par [.ref ta,.ref tb])):=s2.trans (s3.trans sT);refine⟨T,_,rfl,ah.vO aj,rfl,_,_,rfl,ta,_,rfl,ah.of (sA _ _ VF),rfl,_,_,rfl,_,_,rfl,_,_,rfl,rfl,_,_,rfl,tb,_,rfl,ah.of (sA _ _ wt),rfl,_,_,rfl,_,_,rfl,_,_,rfl,rfl,rfl,?_⟩;generalize mi:upd H3 T (HO.par [V.ref ta,V.ref tb])=H4 at sT sA;refine⟨_,rfl,_,rfl,P0,PY,[a.1,a.2.1],[b.1,b.2.1],rfl,rfl,ah.of (sA _ _ VE),ah.of (sA _ _ VC),_,rfl,?_⟩;by_cases hs:dR a b
   ·rw[Zau hs,ZaQ rfl]at es;have ed:decide ([a.1,a.2.1]=[b.1,b.2.1])=true:=Zau (by rw[hs.1,hs.2]);rw[ed];refine aq ?_;refine⟨_,rfl,_,rfl,_,rfl,_,rfl,aK,fun t4 jr=>⟨by rw[ZaH];lia,?_⟩⟩;generalize kQ:upd H4 t4 (HO.tup [V.int a.2.2.1,V.int a.2.2.2,V.int b.2.2.1,V.int b.2.2.2])=H5;have s5:ae H4 H5:=fun e o hc=>by rw[<-kQ,Zh (Ze hc jr)];exact hc
    refine⟨_,_,_,_,_,_,rfl,s3.trans (sT.trans s5),?_,by rw[Zak];simp;omega⟩;rw[es];exact Zc9 (Paired.bh bC fun v q' hq=>hq.same (sT.trans s5)) ⟨t4,rfl,by rw[<-kQ];exact aj⟩
   ·rw[Zax hs,ZaN Zam,Zbi]at es;have ed:decide ([a.1,a.2.1]=[b.1,b.2.1])=false:=Zax (fun e=>hs (by simp only[Zjy,and_true]at e;exact e));rw[ed];refine ar ⟨_,_,_,_,_,_,rfl,s3.trans sT,?_,.l⟩;rw[es];exact Paired.bh bC fun v q' hq=>hq.same sT
  ·rintro ys σ H3 ⟨v0,v1,v2,v3,v4,v5,rfl,s3,bC,iw⟩ p hp;have s4:ae H3 (upd H3 p (.lst ys)):=fun e o hc=>by rw[Zh (Ze hc hp)];exact hc
   have et:tJ ks (min ps.length (ps.drop 1).length)=kA ks:=by unfold tJ kA;rw[ZbJ];unfold lr;rw[ZhM,Za5,Za5,wO];exact Zal _
   rw[et]at bC;have oI:Paired (gw (upd H3 p (.lst ys))) ys (kA ks):=Paired.bh bC fun v q' hq=>hq.same s4;have sA:ae H (upd H3 p (.lst ys)):=s1.trans (s2.trans (s3.trans s4));have js:∀z,z∈ks↔z∈bF xs xs.length:=fun z=>(perm.trans (Z9 xs)).mem_iff;have fc:ks.Nodup:=(perm.trans (Z9 xs)).nodup_iff.mpr (JY xs _);have conv:∀r,oa ks r->oa (bF xs xs.length) r:=fun r hr=>by
    cases r with
    |none=>exact fun a ha b hb s=>hr a ((js a).mpr ha) b ((js b).mpr hb) s
    |some k=>obtain⟨⟨a,ha,b,hb,w⟩,h2⟩:=hr;exact⟨⟨a,(js a).mp ha,b,(js b).mp hb,w⟩,fun a ha b hb s l=>h2 a ((js a).mpr ha) b ((js b).mpr hb) s l⟩
   refine bX _ _ ?_;refine⟨_,rfl,p,ys,(kA ks).map aW,rfl,ak.of aj,?_,fun e=>?_,fun v k hv hk tT Xd=>?_⟩
   ·have:∀{ys:List V}{ls:List aN},Paired (gw (upd H3 p (.lst ys))) ys ls->Paired (dm (upd H3 p (.lst ys))) ys (ls.map aW):=by
     intro ys ls h;generalize (upd H3 p (.lst ys))=H9 at h
     induction h with
     |nil=>exact .nil
     |cons h1 _ ih=>exact .cons h1 ih
    exact this oI
   ·subst e;have el:kA ks=[]:=by have:=ZaM oI;exact List.length_eq_zero_iff.mp this.symm
    exact q _ .af none sA (conv _ (ZcI rise el)) rfl
   ·obtain⟨k4,DP,rfl⟩:=Za2.mp hk;exact q _ v (some k4) sA (conv _ (ZcH rise fc DP fun k' bR=>Xd _ (Zdj bR))) tT
abbrev BH:Stmt:=top 34
inductive Bf (vs:List V) (H:Hp) (Q:VK) (_E:XK):Prop
 |mk (x y wd hg xs:_) (c0:vs=[x,y]) (c1:jG H x y wd hg xs) (c2:∀(H':Hp) (r:Option aN),ae H H'->oa (bF xs xs.length) r->Q (.bl r.isNone) H')
theorem QQ:bo bv bv (aR BH):=ZU .k
theorem ZgT (F:aO K "is_unlike" "is_unlike" BH f fd)(D1:Def P w K mg base 10 "first_like" bv Bt):aJ P w K mg base aS 11 f fd bv Bf:=by
 refine F.ok QQ (fun vs H Q E h=>?_) (fun aw A outer s H vs Q E hr h=>?_)
 ·obtain⟨x,y,wd,hg,xs,rfl,_⟩:=h;rfl
 ·obtain⟨x,y,wd,hg,xs,rfl,l,q⟩:=h;refine⟨_,Zk (Zr (AD (WU (Zg D1 hr (Za (pv 0) (Zv 1)))))),?_⟩;refine⟨x,rfl,y,rfl,x,y,wd,hg,xs,rfl,l,fun H1 v r s1 hf ho=>?_⟩;have:=q H1 r s1 hf;cases r with
  |none=>have e:v=.af:=ho;subst e;exact this
  |some k=>obtain⟨t,rfl,_⟩:=(show gw H1 v k from ho);exact this
end U
namespace U
open PySem L2 PyProof.Rows
abbrev uq:List Value:=[.type "ValueError",.type "Exception",.type "BaseException",.type "object"]
structure F8 (K:Zke)(mg:Str->Option Value)(cB cL:Addr):Prop where
 mB:mg "NoBoard" =some (.ref cB)
 xB:PySem.W.excIn K cB uq "ValueError.__new__" =true
 mL:mg "NoLay" =some (.ref cL)
 xL:PySem.W.excIn K cL uq "ValueError.__new__" =true
def mI (K:Zke)(H:Hp)(x:V):Prop:=iF K H x/\qM (bJ H x)=false
def Pm (K:Zke)(cB cL:Addr)(H:Hp)(x y:V)(C:Addr):Prop:=
 (C=cB/\mI K H x)∨(C=cL/\∃wd hg,bS H x wd hg/\iF K H y/\jO wd hg (bJ H y)=false)
theorem Uc {K:Zke}{y:V}(ty:fG K H y)(s1:ae H H1)(e:bJ H y=none):bJ H1 y=none:=by
 obtain⟨T,t⟩:=ty;cases t with
 |tup e2=>rw[ZL e2]at e;cases e
 |lst e2=>rw[ZM,s1 _ _ e2];rfl
 |de e2=>rw[ZM,s1 _ _ e2];rfl
 |dK e2=>rw[ZM,s1 _ _ e2];rfl
 |dT e2=>rw[ZM,s1 _ _ e2];rfl
 |_=>rfl
theorem Wj {K:Zke}{y:V}(ty:fG K H y)(s1:ae H H1):bJ H1 y=bJ H y:=by
 cases e:bJ H y with
 |none=>exact Uc ty s1 e
 |some xs=>exact s1.bJ e
theorem iF.same {K:Zke}{y:V}(p:iF K H y)(s1:ae H H1):iF K H1 y:=by refine⟨s1.vM p.1,fun xs e z hz=>s1.vM (p.2 xs ?_ z hz)⟩;rw[<-Wj p.1 s1];exact e
theorem mI.same {K:Zke}{x:V}(b:mI K H x)(s1:ae H H1):mI K H1 x:=⟨b.1.same s1,by rw[Wj b.1.1 s1];exact b.2⟩
section
variable {cB cL:Addr}
inductive Bp (K:Zke) (cB:Addr) (vs:List V) (H:Hp) (_E:VK) (E:XK):Prop
 |mk (x:_) (c0:vs=[x]) (c1:mI K H x) (c2:∀e H',ae H H'->E (.ref e) (some cB) H')
theorem Zac (F:aO K "need_board" "need_board" yU f fd)(G:Gs mg)(X:F8 K mg cB cL)(D1:Def P w K mg base 3 "is_board" ["thing"] (yM K)):aJ P w K mg base (cJ P w) 4 f fd ["board"] (Bp K cB):=by
 obtain⟨tk,hL⟩:=G.longest;refine F.tF Hs (fun vs H Q E h=>?_) (fun aw A outer s H vs Q E hr h=>?_)
 ·obtain⟨x,rfl,_⟩:=h;rfl
 ·obtain⟨x,rfl,b,q⟩:=h;refine⟨_,Zk (ZP (Yh (Z1 (Zg D1 hr (Zv 0)))) (Zk (UA Zfc X.mB X.xB rfl (Za (ZfZ ZA (Wy (v:=.int 12) rfl hL ⟨_,rfl⟩)) Zb))) Zs),?_⟩;refine⟨x,rfl,x,rfl,b.1,fun H' sm=>⟨_,rfl,?_⟩⟩;rw[b.2];exact aq ⟨_,rfl,.d,12,rfl,.d,.d,fun z=>⟨aK,fun e=>q e H' sm⟩⟩
inductive Bq (K:Zke) (cB:Addr) (vs:List V) (H:Hp) (_E:VK) (E:XK):Prop
 |mk (x y:_) (c0:vs=[x,y]) (c1:mI K H x) (c2:∀e H',ae H H'->E (.ref e) (some cB) H')
theorem Zf5 (F:aO K "is_lay" "is_lay" yV f fd)(D1:dD P w K mg base 4 "need_board" ["board"] (Bp K cB)):aJ P w K mg base (cJ P w) 5 f fd tz (Bq K cB):=by
 refine F.tF vg (fun vs H Q E h=>?_) (fun aw A outer s H vs Q E hr h=>?_)
 ·obtain⟨x,y,rfl,_⟩:=h;rfl
 ·obtain⟨x,y,rfl,b,q⟩:=h;refine⟨_,Zd (YI (Wz D1 hr (Zv 0))) ZF,?_⟩
  try dsimp only[cw]
  refine jf ?_;intro jD cF aY;exact⟨x,rfl,x,rfl,b,q⟩
inductive Bd (K:Zke) (cB cL:Addr) (vs:List V) (H:Hp) (_E:VK) (E:XK):Prop
 |mk (x y C:_) (c0:vs=[x,y]) (c1:Pm K cB cL H x y C) (c2:∀e H',ae H H'->E (.ref e) (some C) H')
theorem ZbI (F:aO K "need_lay" "need_lay" yT f fd)(X:F8 K mg cB cL)(D1:dD P w K mg base 5 "is_lay" tz (Bq K cB))(D2:Def P w K mg base 5 "is_lay" tz (yH K)):
  aJ P w K mg base (cJ P w) 6 f fd bv (Bd K cB cL):=by
 refine F.tF Hr (fun vs H Q E h=>?_) (fun aw A outer s H vs Q E hr h=>?_)
 ·obtain⟨x,y,C,rfl,_⟩:=h;rfl
 ·obtain⟨x,y,C,rfl,b,q⟩:=h;rcases b with ⟨rfl,b⟩|⟨rfl,wd,hg,b1,b2,b3⟩
  ·refine⟨_,Zk (ZP (Yh (Z1 (Wz D1 hr (Za (pv 0) (Zv 1))))) ZF Zs),?_⟩;exact⟨x,rfl,y,rfl,x,y,rfl,b,q⟩
  ·refine⟨_,Zk (ZP (Yh (Z1 (Zg D2 hr (Za (pv 0) (Zv 1))))) (Zk (UA Zfc X.mL X.xL rfl (Za ZA Zb))) Zs),?_⟩;refine⟨x,rfl,y,rfl,x,y,wd,hg,rfl,b1,b2,fun H' sm=>⟨_,rfl,?_⟩⟩;rw[b3];exact aq ⟨aK,fun e=>q e H' sm⟩
end
def vQ:List Str:=["NoBoard","NoLay","NoNumber","NoPoints","NoPoint","NoPaper","NoUnlike","NoPrime","NoRoot","NoTurn","TooFew","TooMany","NoText","NoLine","NoDeed"]
structure lD (K:Zke)(mg:Str->Option Value)(cS C:Addr)(iC:Nat):Prop where
 z:sj K C
 ms:mg "StepError" =some (.ref cS)
 xs:PySem.W.exmOne K (.ref C) (.ref cS)=some true
 m:∀i,i<15->∃c,mg (vQ.getD i "")=some (.ref c)/\PySem.W.kitOne K (.ref C) (.ref c)=some (decide (i=iC))
 mv:mg "ValueError" =none
 xv:PySem.W.kitOne K (.ref C) (.type "ValueError")=some true
abbrev BP:Stmt:=top 49
inductive yG (P:Program) (w:World) (K:Zke) (mg:Str->Option Value) (base:Heap) (cS:Addr) (k:Nat) (vs:List V) (H:Hp) (Q:VK) (_E:XK):Prop
 |mk (f fd sp C iC:_) (c0:vs=[.ref f]) (c1:iC<15) (c2:lD K mg cS C iC) (c3:(∀s,bK P w H s->PySem.W.FnAt f s)) (c4:aJ P w K mg base (cJ P w) k f fd [] sp) (c5:(∀s,BindsTo s fd ⟨[],[]⟩ [])) (c6:(∀Q' E',(∀e H',ae H H'->E' (.ref e) (some C) H')->sp [] H Q' E')) (c7:∀l H',ae H H'->H l=none->H' l=some (.lst [.int (iC:Int)])->Q (.ref l) H')
theorem mU:bo ["_law_call","_law_error","e","_law_marks"] ["_law_call"] (aR BP):=ZU .k
def cp (iC n:Nat):List V:=(List.range n).map fun i=>V.bl (decide (i=iC))
theorem Zf (h:H p=none):ae H (upd H p o):=fun b u hb=>by rw[Zh (Ze hb h)];exact hb
def Qi (C:Addr)(j:Nat)(b:Bool):TE:=fun σ H Q=> ∃e,σ[j]?=some (some (.ref e))/\H e=some (nV e C)/\Q (.bl b) H
theorem Jc (M:lD X.K X.mg cS C iC)(hg:X.mg "isinstance" =none)(i:Nat){y:Str}{p px py:Pos}(hi:i<15:=by decide)(hN:X.N[1]?=some y:=by rfl)(hv:pN X.env.scope y:=by first|exact Or.inl rfl|exact Or.inr (Or.inl rfl)|exact Or.inr (Or.inr rfl))(hd:(y==("__debug__" :Str))=false:=by decide)
  (cq:(y==("__classdict__" :Str))=false:=by decide) (h1:Gl X "isinstance" :=by rfl) (h2:Gl X (vQ.getD i ""):=by rfl) (h3:(vQ.getD i "" ==("__debug__" :Str))=false:=by rfl):PE X (.Call (.Name "isinstance" p) [.Name y px,.Name (vQ.getD i "") py] [] pos) (Qi C 1 (decide (i=iC))):=by
 obtain⟨c,m,k⟩:=M.m i hi;intro pins s σ H Q I ⟨e,h,he,q⟩;have z:=Zm (X:=X) (pos:=pos) (p:=p) WN h1 hg ZbZ (Za (pv (pos:=px) 1 hN hv hd cq) (Za (Wy (pos:=py) (v:=.ref c) h2 m rfl h3) Zb));exact z pins s σ H Q I ⟨_,h,e,C,_,_,_,rfl,he,M.z,fun _ h=>h,k,q⟩
theorem ZgV {k:Nat}(F:aO K "_law_refused" "_law_refused" BP f fd)(G:Gs mg):aJ P w K mg base aS (k+1) f fd ["_law_call"] (yG P w K mg base cS k):=by
 refine F.ok mU (fun vs H Q E h=>?_) (fun aw A outer s H vs Q E hr h=>?_)
 ·obtain⟨f,fd,sp,C,iC,rfl,_⟩:=h;rfl
 ·obtain⟨f,fd,sp,C,iC,rfl,hi,M,gm,Fl,w9,fA,q⟩:=h;refine⟨_,Zd (Zq (i:=1) mU.nd ZW)
   (Zd (Zcs (ic:=0) (ie:=2) rfl rfl rfl mU.nd rfl (Or.inl rfl) rfl rfl M.ms rfl hr (fun e=>Zk (Zq (i:=1) mU.nd (pv 2))))
   (Zd (Zq (i:=3) mU.nd (ZC (Za (Jc M G.isinstance 0) (Za (Jc M G.isinstance 1) (Za (Jc M G.isinstance 2) Zb)))))
   (Zd (Zq (i:=3) mU.nd (Zl YZ (pv 3) (ZC (Za (Jc M G.isinstance 3) (Za (Jc M G.isinstance 4) (Za (Jc M G.isinstance 5) Zb))))))
   (Zd (Zq (i:=3) mU.nd (Zl YZ (pv 3) (ZC (Za (Jc M G.isinstance 6) (Za (Jc M G.isinstance 7) (Za (Jc M G.isinstance 8) Zb))))))
   (Zd (Zq (i:=3) mU.nd (Zl YZ (pv 3) (ZC (Za (Jc M G.isinstance 9) (Za (Jc M G.isinstance 10) (Za (Jc M G.isinstance 11) Zb))))))
   (Zd (Zq (i:=3) mU.nd (Zl YZ (pv 3) (ZC (Za (Jc M G.isinstance 12) (Za (Jc M G.isinstance 13) (Za (Jc M G.isinstance 14) Zb))))))
   (Zd (ZP (Yh (Z1 (Zm WN rfl G.isinstance ZbZ (Za (pv 1) (Za (YB (v:=.ty "ValueError") rfl M.mv PyProof.Rows.Boot.«ValueError» rfl) Zb))))) (Zk (Zr ZW)) Zs)
   (Zk (Zr (Z7 ["_law_k","_law_marks"] 1 [3] (Z3 rfl G.range (Za Zc Zb)) (fun C s H fp=>pb 0)
    (fun C s H fp=>Ys (Z1 (ZV (show j6 (aV _ _ _ C s H fp) (HE K) from Z2) (pv 1) (pv 0)))) (fun C s H fp D=>ZK rfl (pv 0)))))))))))),?_⟩
  try dsimp only[cw]
  refine A7 ?_;intro jD Di qK wa kB wb kC qJ jq nk fo lP eO gK bX cF aY;refine aY _ _ ?_;refine⟨f,fd,sp,rfl,gm,Fl,w9,fA _ _ fun e H1 s1=>⟨e,C,rfl,rfl,M.xs,fun ub=>⟨_,rfl,?_⟩⟩⟩;have s2:ae H1 (upd H1 e (nV e C)):=Zf ub;have he:upd H1 e (nV e C) e=some (nV e C):=aj;generalize upd H1 e (nV e C)=H2 at s2 he;refine bX _ _ ?_;refine⟨e,rfl,he,e,rfl,he,e,rfl,he,aK,fun l1 iz=>?_⟩;have sa:ae H2 (upd H2 l1 (.lst (cp iC 3))):=Zf iz;have ha:upd H2 l1 (.lst (cp iC 3)) l1=some (.lst (cp iC 3)):=aj;show _;generalize hGa:upd H2 l1 (HO.lst (cp iC 3))=Ha at sa ha;rw[show upd H2 l1 (HO.lst [V.bl (decide (0=iC)),V.bl (decide (1=iC)),V.bl (decide (2=iC))])=Ha from hGa];have zR:=sa _ _ he;refine eO _ _ ?_;refine⟨_,rfl,e,rfl,zR,e,rfl,zR,e,rfl,zR,aK,fun m0 Kf=>⟨l1,m0,cp iC 3,_,rfl,rfl,Zf Kf _ _ ha,aj,aK,fun p0 zJ=>?_⟩⟩;have Ci:ae Ha (upd Ha m0 (.lst [V.bl (decide (3=iC)),V.bl (decide (4=iC)),V.bl (decide (5=iC))])):=Zf Kf;generalize upd Ha m0 (HO.lst [V.bl (decide (3=iC)),V.bl (decide (4=iC)),V.bl (decide (5=iC))])=yd at Ci zJ;have Cd:ae yd (upd yd p0 (.lst (cp iC 6))):=Zf zJ;have K3:upd yd p0 (.lst (cp iC 6)) p0=some (.lst (cp iC 6)):=aj;generalize hG0:upd yd p0 (HO.lst (cp iC 6))=AL at Cd K3;rw[show upd yd p0 (HO.lst (cp iC 3++[V.bl (decide (3=iC)),V.bl (decide (4=iC)),V.bl (decide (5=iC))]))=AL from hG0];have ub:=Cd _ _ (Ci _ _ zR);refine fo _ _ ?_;refine⟨_,rfl,e,rfl,ub,e,rfl,ub,e,rfl,ub,aK,fun m1 zL=>⟨p0,m1,cp iC 6,_,rfl,rfl,Zf zL _ _ K3,aj,aK,fun p1 gM=>?_⟩⟩;have Cg:ae AL (upd AL m1 (.lst [V.bl (decide (6=iC)),V.bl (decide (7=iC)),V.bl (decide (8=iC))])):=Zf zL;generalize upd AL m1 (HO.lst [V.bl (decide (6=iC)),V.bl (decide (7=iC)),V.bl (decide (8=iC))])=yc at Cg gM;have Cc:ae yc (upd yc p1 (.lst (cp iC 9))):=Zf gM;have K2:upd yc p1 (.lst (cp iC 9)) p1=some (.lst (cp iC 9)):=aj;generalize hG1:upd yc p1 (HO.lst (cp iC 9))=AK at Cc K2;rw[show upd yc p1 (HO.lst (cp iC 6++[V.bl (decide (6=iC)),V.bl (decide (7=iC)),V.bl (decide (8=iC))]))=AK from hG1];have zT:=Cc _ _ (Cg _ _ ub);refine jq _ _ ?_;refine⟨_,rfl,e,rfl,zT,e,rfl,zT,e,rfl,zT,aK,fun m2 gN=>⟨p1,m2,cp iC 9,_,rfl,rfl,Zf gN _ _ K2,aj,aK,fun p2 dQ=>?_⟩⟩;have Cf:ae AK (upd AK m2 (.lst [V.bl (decide (9=iC)),V.bl (decide (10=iC)),V.bl (decide (11=iC))])):=Zf gN;generalize upd AK m2 (HO.lst [V.bl (decide (9=iC)),V.bl (decide (10=iC)),V.bl (decide (11=iC))])=ya at Cf dQ;have Cb:ae ya (upd ya p2 (.lst (cp iC 12))):=Zf dQ;have K1:upd ya p2 (.lst (cp iC 12)) p2=some (.lst (cp iC 12)):=aj;generalize hG2:upd ya p2 (HO.lst (cp iC 12))=AJ at Cb K1;rw[show upd ya p2 (HO.lst (cp iC 9++[V.bl (decide (9=iC)),V.bl (decide (10=iC)),V.bl (decide (11=iC))]))=AJ from hG2];have l5:=Cb _ _ (Cf _ _ zT);refine kC _ _ ?_;refine⟨_,rfl,e,rfl,l5,e,rfl,l5,e,rfl,l5,aK,fun m3 nE=>⟨p2,m3,cp iC 12,_,rfl,rfl,Zf nE _ _ K1,aj,aK,fun p3 kK=>?_⟩⟩;have Ce:ae AJ (upd AJ m3 (.lst [V.bl (decide (12=iC)),V.bl (decide (13=iC)),V.bl (decide (14=iC))])):=Zf nE;generalize upd AJ m3 (HO.lst [V.bl (decide (12=iC)),V.bl (decide (13=iC)),V.bl (decide (14=iC))])=xZ at Ce kK;have Ca:ae xZ (upd xZ p3 (.lst (cp iC 15))):=Zf kK;have K0:upd xZ p3 (.lst (cp iC 15)) p3=some (.lst (cp iC 15)):=aj;generalize hG3:upd xZ p3 (HO.lst (cp iC 15))=Pc at Ca K0;rw[show upd xZ p3 (HO.lst (cp iC 12++[V.bl (decide (12=iC)),V.bl (decide (13=iC)),V.bl (decide (14=iC))]))=Pc from hG3];have XT:=Ca _ _ (Ce _ _ l5);refine kB _ _ ?_;refine⟨_,rfl,e,C,_,_,_,rfl,XT,M.z,fun _ h=>h,M.xv,_,rfl,?_⟩;refine ar ?_;refine qK _ _ ?_;refine⟨15,rfl,.d,.d,?_⟩;refine YK (n:=15) (fun i ys σ H4=>ys=((List.range i).filter fun k=>decide (k=iC)).map (fun k:Nat=>V.int (k:Int))/\H4=Pc/\∃v,σ=[v,some (.ref p3)]) ⟨rfl,rfl,none,rfl⟩ ?_ ?_
  ·rintro i ys σ H4 XE ⟨rfl,rfl,v,rfl⟩;have hm:dj (cp iC 15) (0+(i:Int))=some (V.bl (decide (i=iC))):=by rw[Zc4];refine ZJ ?_;unfold cp;rw[Zby,List.getElem?_range XE];rfl
   refine⟨_,rfl,_,rfl,p3,_,_,_,rfl,rfl,ak.of K0,hm,_,rfl,?_⟩;have er:((List.range (i+1)).filter fun k=>decide (k=iC))=((List.range i).filter fun k=>decide (k=iC))++(if decide (i=iC)=true then [i] else []):=by rw[Zcw,Za4];cases hd:decide (i=iC)<;>simp_all
   cases hd:decide (i=iC) with
   |true=>
    rw[hd]at er;refine aq ⟨_,rfl,?_,?_,rfl,_,rfl⟩
    ·rw[Zat,ZaH];have:=Zba (fun k=>decide (k=iC)) (List.range i);rw[ZcR]at this;omega
    ·rw[er,ZaQ rfl,ZaW,Zc4];rfl
   |false=>rw[hd]at er;exact ar ⟨by rw[er,ZaN Zam,Zbi],rfl,_,rfl⟩
  ·rintro ys σ H4 ⟨rfl,rfl,v,rfl⟩ p hp;have ef:((List.range 15).filter fun k=>decide (k=iC)).map (fun k:Nat=>V.int (k:Int))=[V.int (iC:Int)]:=by have f:∀n:Nat,n<15->(List.range 15).filter (fun k=>decide (k=n))=[n]:=.d;rw[f iC .o];rfl
   rw[ef];have oA:=s1.trans (s2.trans (sa.trans (Ci.trans (Cd.trans (Cg.trans (Cc.trans (Cf.trans (Cb.trans (Ce.trans Ca)))))))));exact q p _ (oA.trans (Zf hp)) (oA.free hp) aj
theorem bg.same (h:bg H p)(s:ae H H'):bg H' p:=by obtain⟨u,v,e,r⟩:=h;exact⟨u,v,s _ _ e,r⟩
def oo:V->Bool
 | .int _=>true
 | .bl _=>true
 | .str _=>true
 | .af=>true
 |_=>false
theorem NF {K:Zke} :∀{v:V},oo v=true->fG K H v
 | .int i,_=>⟨_,.int i⟩
 | .bl b,_=>⟨_,.bl b⟩
 | .str x,_=>⟨_,.str x⟩
 | .af,_=>⟨_,.af⟩
def qE:Lit->Bool
 | .sc v=>oo v
 | .tup xs=>xs.all oo
 |_=>true
def C7:Lit->Option (List V)
 | .tup xs=>some xs
 |_=>none
theorem Uk :∀{l:Lit},qE l=true->ja H v l->bJ H v=C7 l
 | .sc u,hp,h=>by
  have h':v=u:=h;subst h';cases v with
  |ref a=>cases hp
  |_=>rfl
 | .tup xs,_,⟨a,e,h⟩=>by rw[e,ZL h];rfl
 | .lst xs,_,⟨a,e,h⟩=>by rw[e,ZM,h];rfl
 | .gq,_,⟨a,e,h⟩=>by rw[e,ZM,h];rfl
theorem Fu {K:Zke}{v:V} :∀{l:Lit},qE l=true->ja H v l->iF K H v
 | .sc u,hp,h=>by have h':v=u:=h;subst h';refine⟨NF hp,fun xs e y hy=>?_⟩;rw[Uk (l:=.sc v) hp rfl]at e;cases e
 | .tup xs,hp,⟨a,e,h⟩=>by subst e;refine⟨⟨_,.tup h⟩,fun ys e y hy=>?_⟩;rw[ZL h]at e;cases e;exact NF (ZaK.mp hp y hy)
 | .lst xs,hp,⟨a,e,h⟩=>by subst e;refine⟨⟨_,.lst h⟩,fun ys e y hy=>?_⟩;rw[ZM,h]at e;cases e
 | .gq,hp,⟨a,e,h⟩=>by subst e;refine⟨⟨_,.dK h⟩,fun ys e y hy=>?_⟩;rw[ZM,h]at e;cases e
theorem Paired.app {α β:Type}{F:α->β->Prop} :∀{a c:List α}{b d:List β},Paired F a b->Paired F c d->Paired F (a++c) (b++d)
 |_,_,_,_,.nil,h=>h
 |_,_,_,_,.cons r t,h=>.cons r (Paired.app t h)
abbrev qw:Stmt:=top 50
def zq:List Lit:=[.tup [.int 0,.int 1],.tup [.int 1,.int 13],.tup [.int 13,.int 1],.tup [.int 1,.int 0],.tup [.int (-1),.int 2],.tup [.bl true,.int 2],.tup [.int 2,.bl true],.tup [.bl false,.int 1],.tup [.int 2],.tup [.int 2,.int 2,.int 2]]
def zo:List Lit:=[.lst [.int 2,.int 2],.sc .af,.sc (.int 4),.sc (.str "2x2"),.tup [.str "2",.int 2],.tup [.int 2,.af],.tup [.int (10^(29:Int).toNat),.int 2],.gq]
def L7 (l:Lit):Bool:=qE l&& !qM (C7 l)
theorem Zgc:(zq++zo).all L7=true:=.k
def pS (p:Addr)(H:Hp)(v:V):Prop:=v≠.ref p/\∀xs,bJ H v=some xs->∀y∈xs,y≠.ref p
inductive Bm (K:Zke) (vs:List V) (H:Hp) (Q:VK) (_E:XK):Prop
 |mk (p:Addr) (c0:vs=[.ref p]) (c1:bg H p) (c2:∀v H',av p H H'->bg H' p->mI K H' v->pS p H' v->Q v H')
def CO:List Expr:=match ck qw with | .Assign _ (.List es _) _::_=>es|_=> []
def CN:List Expr:=match ck qw with|_:: .Return (some (.Subscript (.BinOp _ _ (.List es _) _) _ _)) _::_=>es|_=> []
def SM (a b:List Expr):List Stmt:=match ck qw with
 | [.Assign x (.List _ p1) p2,.Return (some (.Subscript (.BinOp y o (.List _ p3) p4) z p5)) p6]=> [.Assign x (.List a p1) p2,.Return (some (.Subscript (.BinOp y o (.List b p3) p4) z p5)) p6]
 |_=> []
theorem Zf9:ck qw=SM CO CN:=by kernel_rfl
theorem Zgb:litsOf CO=some zq:=by kernel_rfl
theorem Zga:litsOf CN=some zo:=by kernel_rfl
theorem Hq:bo ["_law_state_here","_law_some"] sK (aR qw):=ZU .k
theorem ZgZ (F:aO K "_law_no_board" "_law_no_board" qw f fd)(D1:Def P w K mg base 1 "_law_take" db iK):aJ P w K mg base aS 2 f fd sK (Bm K):=by
 refine F.ok Hq (fun vs H Q E h=>?_) (fun aw A outer s H vs Q E hr h=>?_)
 ·obtain⟨p,rfl,_⟩:=h;rfl
 ·obtain⟨p,rfl,st,q⟩:=h;rw[Zf9];have i1:=Zgb;have i2:=Zga;generalize CO=Ls at i1;generalize CN=Lr at i2;refine⟨_,Zd (Zq (i:=1) Hq.nd (ZC (WB (ls:=zq) i1))) (Zk (Zr (ZV Z2 (Zl YZ (pv 1) (ZC (WB (ls:=zo) i2))) (Zg D1 hr (Za (pv 0) (Za Zc Zb)))))),?_⟩
  try dsimp only[cw]
  refine jf ?_;intro jD cF aY;refine fun bT H1 s1 jL n1=>?_;have l1:bT.length=10:=ZaM jL;refine⟨by rw[l1];decide,fun L1 Eo=>?_⟩;have s2:ae H1 (upd H1 L1 (.lst bT)):=Zf Eo;have eL:upd H1 L1 (.lst bT) L1=some (.lst bT):=aj;generalize upd H1 L1 (HO.lst bT)=H2 at s2 eL;refine aY _ _ ?_;refine⟨_,rfl,fun cf H3 s3 bW n2=>?_⟩;have l2:cf.length=8:=ZaM bW;refine⟨by rw[l2];decide,fun L2 kP=>?_⟩;have s4:ae H3 (upd H3 L2 (.lst cf)):=Zf kP;have eM:upd H3 L2 (.lst cf) L2=some (.lst cf):=aj;generalize upd H3 L2 (HO.lst cf)=H4 at s4 eM;refine⟨L1,L2,_,_,rfl,rfl,s4 _ _ (s3 _ _ eL),eM,by rw[l1,l2];decide,fun L3 nO=>?_⟩;have s5:ae H4 (upd H4 L3 (.lst (bT++cf))):=Zf nO;have eN:upd H4 L3 (.lst (bT++cf)) L3=some (.lst (bT++cf)):=aj;generalize upd H4 L3 (HO.lst (bT++cf))=H5 at s5 eN;have oA:ae H H5:=s1.trans (s2.trans (s3.trans (s4.trans s5)));have pr:Paired (ja H5) (bT++cf) (zq++zo):=Paired.app (Paired.bh jL fun _ _ h=>h.same (s2.trans (s3.trans (s4.trans s5)))) (Paired.bh bW fun _ _ h=>h.same (s4.trans s5));have cg:=st.same oA;refine⟨_,rfl,p,18,rfl,cg,.d,.d,fun r o h0 h18 dY=>?_⟩;obtain⟨u0,v0,xw,_⟩:=id cg;have C9:(bT++cf).length=18:=by rw[Zak,l1,l2]
  have nL:L3≠p:=fun z=>by
   rw[z,xw]at eN;have y:[V.int u0,V.int v0]=bT++cf:=by injection eN with y;injection y
   rw[<-y]at C9;cases C9
  have bj:r.toNat< (bT++cf).length:=by rw[C9];lia
  have gQ:=Zaj bj;have ff:=ZJ gQ;rw[ZbG h0]at ff;obtain⟨l,hl,jC⟩:=Paired.at pr gQ;have hb:=ZaK.mp Zgc l (Zao hl);unfold L7 at hb;rw[Zap]at hb;refine⟨L3,_,_,_,rfl,rfl,ak.of (by rw[Zh nL];exact eN),ff,?_⟩;have keep:∀c u,H5 c=some u->c≠p->upd H5 p o c=some u:=fun c u hc hn=>by rw[Zh hn];exact hc
  have ur:ja (upd H5 p o) (bT++cf)[r.toNat] l:=by
   cases l with
   |sc v=>exact jC
   |tup xs=>obtain⟨a,e,h⟩:=jC;exact⟨a,e,keep _ _ h fun z=>by rw[z,xw]at h;cases h⟩
   |lst xs=>
    obtain⟨a,e,h⟩:=jC;refine⟨a,e,keep _ _ h fun z=>?_⟩;have hm:V.ref a∈bT++cf:=by rw[<-e];exact ZbA bj
    obtain⟨_,_,y,_⟩:=id st;rcases Zay.mp hm with hm|hm
    ·have:=n1 a hm;rw[z,y]at this;cases this
    ·have:=n2 a hm;rw[z,(s1.trans s2) _ _ y]at this;cases this
   |gq=>obtain⟨a,e,h⟩:=jC;exact⟨a,e,keep _ _ h fun z=>by rw[z,xw]at h;cases h⟩
  have nr:pS p (upd H5 p o) (bT++cf)[r.toNat]:=by
   have Lu:upd H5 p o p=some o:=aj;cases l with
   |sc v=>have e:(bT++cf)[r.toNat]=v:=ur;rw[e];have hs:oo v=true:=hb.1;refine⟨fun z=>(by rw[z]at hs;cases hs),fun xs h y hy=>?_⟩;rw[Uk (l:=.sc v) hs rfl]at h;cases h
   |tup xs=>
    obtain⟨a,e,h⟩:=jC;have bN:a≠p:=fun z=>by rw[z,xw]at h;cases h
    rw[e];refine⟨fun z=>bN (by cases z;rfl),fun ys h2 y hy z=>?_⟩;rw[ZL (keep _ _ h bN)]at h2;cases h2;have hs:=ZaK.mp (show xs.all oo=true from hb.1) y hy;rw[z]at hs;cases hs
   |lst xs=>
    obtain⟨a,e,h⟩:=ur;have hm:V.ref a∈bT++cf:=by rw[<-e];exact ZbA bj
    obtain⟨_,_,y,_⟩:=id st;have bN:a≠p:=fun z=>by
     rcases Zay.mp hm with hm|hm
     ·have:=n1 a hm;rw[z,y]at this;cases this
     ·have:=n2 a hm;rw[z,(s1.trans s2) _ _ y]at this;cases this
    rw[e];refine⟨fun z=>bN (by cases z;rfl),fun ys h2 y hy=>?_⟩;rw[ZM,h]at h2;cases h2
   |gq=>
    obtain⟨a,e,h⟩:=jC;have bN:a≠p:=fun z=>by rw[z,xw]at h;cases h
    rw[e];refine⟨fun z=>bN (by cases z;rfl),fun ys h2 y hy=>?_⟩;rw[ZM,keep _ _ h bN]at h2;cases h2
  refine q _ _ (fun c u hc hn=>keep c u (oA _ _ hc) hn) dY ⟨Fu hb.1 ur,?_⟩ nr;rw[Uk hb.1 ur];simpa using hb.2
theorem Ul (h:(xs.length:Int)≠wd):jO wd hg (some xs)=false:=by show(decide ((xs.length:Int)=wd)&&_&&_)=false;rw[Zax h,Zbd,Zbd]
theorem Zgh {wd hg:Int}{k:Nat}(hn:y≠.af)(hw:bQ y 0 (hg-1)=false):jO wd hg (some (xs.take k++[y]++xs.drop (k+1)))=false:=by
 show(decide _&&((rowsOf (xs.take k++[y]++xs.drop (k+1))).all fun r=>bQ r 0 (hg-1))&&_)=false;have hm:y∈rowsOf (xs.take k++[y]++xs.drop (k+1)):=by unfold rowsOf;refine ZaL.mpr ⟨.s,by simp[hn]⟩
 have:((rowsOf (xs.take k++[y]++xs.drop (k+1))).all fun r=>bQ r 0 (hg-1))=false:=by rw[ZiW];intro h;have:=ZaK.mp h y hm;rw[hw]at this;cases this
 rw[this,Zc1,Zbd]
theorem Ob (a b:List V):rowsOf (a++b)=rowsOf a++rowsOf b:=by unfold rowsOf;rw[Za4]
theorem Zgi (hj:xs[j]?=some y)(DQ:j≠k)(hn:y≠.af):jO wd hg (some (xs.take k++[y]++xs.drop (k+1)))=false:=by
 show(decide _&&_&&decide (rowsOf (xs.take k++[y]++xs.drop (k+1))).Nodup)=false;have:¬(rowsOf (xs.take k++[y]++xs.drop (k+1))).Nodup:=by
  rw[Ob,Ob];have e1:rowsOf [y]=[y]:=by unfold rowsOf;simp[hn]
  rw[e1];intro nd;have oY:∀l:List V,y∈l->y∈rowsOf l:=fun l hl=>ZaL.mpr ⟨hl,by simp[hn]⟩;obtain⟨n1,n2,n3⟩:=ZcS.mp nd;obtain⟨m1,m2,m3⟩:=ZcS.mp n1;by_cases bj:j<k
  ·have:y∈xs.take k:=Zao (i:=j) (by rw[List.getElem?_take,ZaQ bj];exact hj);exact m3 y (oY _ this) y .s rfl
  ·have:y∈xs.drop (k+1):=Zao (i:=j-(k+1)) (by rw[Zb8,show k+1+(j-(k+1))=j by omega];exact hj);exact n3 y .s y (oY _ this) rfl
 rw[Zax this,Zc1]
def mH (K:Zke)(wd hg:Int)(H:Hp)(v:V):Prop:=iF K H v/\jO wd hg (bJ H v)=false
theorem mH.same {K:Zke}{wd hg:Int}{v:V}(b:mH K wd hg H v)(s:ae H H'):mH K wd hg H' v:=⟨b.1.same s,by rw[Wj b.1.1 s];exact b.2⟩
theorem ZfE {K:Zke}{wd hg:Int}{a:Addr}(h:H a=some (.tup xs))(hp:∀y∈xs,fG K H y)(hb:jO wd hg (some xs)=false):mH K wd hg H (.ref a):=by refine⟨⟨⟨_,.tup h⟩,fun ys e y hy=>?_⟩,by rw[ZL h];exact hb⟩;rw[ZL h]at e;cases e;exact hp y hy
theorem Nd {K:Zke}{wd hg:Int}{v:V}{l:Lit}(hp:qE l=true)(hn:C7 l=none)(h:ja H v l):mH K wd hg H v:=⟨Fu hp h,by rw[Uk hp h,hn];rfl⟩
theorem ZfF {K:Zke}{wd hg:Int}{a:Addr}(h:H a=some (.lst xs)):mH K wd hg H (.ref a):=by
 have e0:bJ H (.ref a)=none:=by rw[ZM,h];rfl
 exact⟨⟨⟨_,.lst h⟩,fun ys e=>by rw[e0]at e;cases e⟩,by rw[e0];rfl⟩
def sU:V->Bool
 | .int i=>decide (i.natAbs.log2<1920)
 | .bl _=>true
 | .af=>true
 | .str x=>x== "0" ||x== "1x1: ."
 |_=>false
def mY (H:Hp)(y:V):Prop:=sU y=true∨∃(b:Addr) (z:V),y=.ref b/\(H b=some (.tup [z])∨H b=some (.lst [z]))/\sU z=true
def pQ (p:Addr)(H:Hp)(v:V):Prop:=sU v=true∨(∃(a:Addr) (xs:List V),v=.ref a/\xs.length<=1000/\(H a=some (.tup xs)∨(a≠p/\H a=some (.lst xs)))/\∀y∈xs,mY H y)∨∃a:Addr,v=.ref a/\H a=some (.dK [])
theorem mY.same (h:mY H y)(s:ae H H'):mY H' y:=by
 rcases h with h|⟨b,z,e,h|h,hz⟩
 ·exact .inl h
 ·exact .inr ⟨b,z,e,.inl (s _ _ h),hz⟩
 ·exact .inr ⟨b,z,e,.inr (s _ _ h),hz⟩
theorem pQ.same (h:pQ p H v)(s:ae H H'):pQ p H' v:=by
 rcases h with h|⟨a,xs,e,hl,h|⟨n,h⟩,hy⟩|⟨a,e,h⟩
 ·exact .inl h
 ·exact .inr (.inl ⟨a,xs,e,hl,.inl (s _ _ h),fun y m=>(hy y m).same s⟩)
 ·exact .inr (.inl ⟨a,xs,e,hl,.inr ⟨n,s _ _ h⟩,fun y m=>(hy y m).same s⟩)
 ·exact .inr (.inr ⟨a,e,s _ _ h⟩)
def pR (K:Zke)(H:Hp)(y:V):Prop:=fG K H y/\mY H y
theorem pR.same {K:Zke}{y:V}(h:pR K H y)(s:ae H H'):pR K H' y:=⟨s.vM h.1,h.2.same s⟩
def eV (K:Zke)(p:Addr)(wd hg:Int)(H:Hp)(v:V):Prop:=mH K wd hg H v/\pQ p H v
theorem eV.same {K:Zke}{p:Addr}{wd hg:Int}{v:V}(b:eV K p wd hg H v)(s:ae H H'):eV K p wd hg H' v:=⟨b.1.same s,b.2.same s⟩
theorem Js {K:Zke}{p:Addr}{wd hg:Int}{a:Addr}(h:H a=some (.tup xs))(hp:∀y∈xs,pR K H y)(hb:jO wd hg (some xs)=false)(hl:xs.length<=1000:=by(simp only[Zak,ZaU,Zdg,ZaB,Za5];omega)):eV K p wd hg H (.ref a):=⟨ZfE h (fun y hy=>(hp y hy).1) hb,.inr (.inl ⟨a,xs,rfl,hl,.inl h,fun y hy=>(hp y hy).2⟩)⟩
theorem MS {K:Zke}{p:Addr}{wd hg:Int}{v:V}(hp:qE (.sc v)=true)(hs:sU v=true):eV K p wd hg H v:=⟨Nd (l:=.sc v) hp rfl rfl,.inl hs⟩
theorem ZfD {K:Zke}{p:Addr}{wd hg:Int}{a:Addr}(h:H a=some (.dK [])):eV K p wd hg H (.ref a):=⟨Nd (l:=.gq) rfl rfl ⟨a,rfl,h⟩,.inr (.inr ⟨a,rfl,h⟩)⟩
theorem ZfC {K:Zke}{p:Addr}{wd hg:Int}{a:Addr}(h:H a=some (.lst xs))(np:a≠p)(hl:xs.length<=1000)(hp:∀y∈xs,mY H y):eV K p wd hg H (.ref a):=⟨ZfF h,.inr (.inl ⟨a,xs,rfl,hl,.inr ⟨np,h⟩,hp⟩)⟩
theorem WL {K:Zke}{a b:Addr}{Q:VK}(ha:H a=some (.tup xs))(hb:H b=some (.tup ys))(hl:xs.length+ys.length<=1000)(q:∀(c:Addr) (H':Hp),ae H H'->H' c=some (.tup (xs++ys))->Q (.ref c) H'):fX K (.ref a) (.ref b) H Q:=by
 cases xs with
 |nil=>exact .inl ⟨a,b,ys,rfl,rfl,ah.of ha,ah.of hb,q b H (ae.refl H) hb⟩
 |cons x r=>
  refine .inr ⟨a,b,x::r,ys,rfl,rfl,ah.of ha,ah.of hb,.s,Zbl (Bx hl),fun e=>?_,fun e p hp=>?_⟩
  ·subst e;exact q a H (ae.refl H) (by rw[Zbi];exact ha)
  ·exact q p _ (Zf hp) aj
theorem rN {K:Zke}{a:Addr}{Q:VK}{k:Nat}(ha:H a=some (.tup xs))(hk:k<xs.length)(q:∀p:Addr,H p=none->Q (.ref p) (upd H p (.tup (xs.take k)))):oD K (.ref a) none (some (k:Int)) H Q:=by
 refine⟨a,xs,rfl,ah.of ha,fun h=>?_,fun p hp=>?_⟩
 ·rw[HT.oz]at h
  lia
 ·have e:dI xs none (some (k:Int))=xs.take k:=by unfold dI;rw[HT.yX,HT.oz,Zh3,Nat.sub_zero,Zdi .l]
  rw[e];exact q p hp
theorem kX {K:Zke}{a:Addr}{Q:VK}{k:Nat}(ha:H a=some (.tup xs))(hk:0<k)(jt:k<=xs.length)(q:∀p:Addr,H p=none->Q (.ref p) (upd H p (.tup (xs.drop k)))):oD K (.ref a) (some (k:Int)) none H Q:=by
 refine⟨a,xs,rfl,ah.of ha,fun h=>?_,fun p hp=>?_⟩
 ·rw[HT.oz]at h
  lia
 ·have e:dI xs (some (k:Int)) none=xs.drop k:=by unfold dI;rw[HT.yX,HT.oz,Zdi jt];exact ZbJ (by rw[Za5];lia)
  rw[e];exact q p hp
theorem m9 {K:Zke}{a:Addr}{y:V}{Q:VK}{k:Nat}{tl th GP:TE}(ha:H a=some (.tup xs))(hk:k<xs.length)(hl:xs.length<=100)
  (e1:∀H Q,Q (.ref a) H->te σ H Q) (e2:∀H Q,Q (.int (k:Int)) H->tl σ H Q) (e3:∀H Q,Q y H->th σ H Q) (e4:∀H Q,Q (.int ((k+1:Nat):Int)) H->GP σ H Q)
  (q:∀(c:Addr) (H':Hp),ae H H'->H' c=some (.tup (xs.take k++[y]++xs.drop (k+1)))->Q (.ref c) H'):
  dW (fX K) (dW (fX K) (uR (oD K) te uT (uS tl)) (cX (aI th bD))) (uR (oD K) te (uS GP) uT) σ H Q:=by
 refine e1 _ _ (e2 _ _ ⟨_,rfl,rN ha hk fun p1 gM=>e3 _ _ ⟨aK,fun p2 dQ=>?_⟩⟩);have s1:ae H (upd H p1 (.tup (xs.take k))):=Zf gM;have s2:=Zf (o:=.tup [y]) dQ;refine WL (s2 _ _ aj) aj (by rw[ZaB];simp;lia) fun c H3 s3 hc=>?_;have sA:=s1.trans (s2.trans s3);refine e1 _ _ (e4 _ _ ⟨_,rfl,?_⟩);show oD K (.ref a) (some ((k+1:Nat):Int)) none H3 (fun y H2=>fX K (.ref c) y H2 Q);refine kX (k:=k+1) (sA _ _ ha) .l .l fun p4 DE=>?_;have s4:=Zf (o:=.tup (xs.drop (k+1))) DE;refine WL (s4 _ _ hc) aj (by rw[Zak,ZaB,Za5];simp;omega) fun c2 H5 s5 eQ=>?_;exact q c2 H5 (sA.trans (s4.trans s5)) eQ
abbrev qv:Stmt:=top 51
def qF:List Lit:=[.sc (.int (-1)),.sc (.bl true),.sc (.bl false),.sc (.str "0"),.tup [.int 0],.sc (.int (10^(29:Int).toNat)),.lst [.int 0]]
def zA:List Lit:=[.sc (.int 0),.sc (.int 0),.sc (.int 0),.sc (.int 1),.sc (.int 1),.sc (.int 2),.sc (.int 3),.sc (.int 4),.sc (.int 5),.sc (.int 6),.sc (.int 7),.sc (.int 8)]
theorem Zf7 {K:Zke}{l:Lit}{hg:Int}(h2:hg<=12)(hl:l∈qF)(h:ja H v l):v≠.af/\bQ v 0 (hg-1)=false/\pR K H v:=by
 have hp:qE l=true:=ZaK.mp (show qF.all qE=true by decide+kernel) l hl;refine⟨?_,?_,(Fu hp h).1,?_⟩
 ·simp only[qF,Zas,Zbk,Zcp]at hl;rcases hl with rfl|rfl|rfl|rfl|rfl|rfl|rfl
  ·rw[show v=_ from h];simp
  ·rw[show v=_ from h];simp
  ·rw[show v=_ from h];simp
  ·rw[show v=_ from h];simp
  ·obtain⟨a,e,_⟩:=h;rw[e];simp
  ·rw[show v=_ from h];simp
  ·obtain⟨a,e,_⟩:=h;rw[e];simp
 ·simp only[qF,Zas,Zbk,Zcp]at hl;rcases hl with rfl|rfl|rfl|rfl|rfl|rfl|rfl
  ·rw[show v=_ from h];rfl
  ·rw[show v=_ from h];rfl
  ·rw[show v=_ from h];rfl
  ·rw[show v=_ from h];rfl
  ·obtain⟨a,e,_⟩:=h;rw[e];rfl
  ·rw[show v=_ from h];show(decide ((0:Int)<=10^(29:Int).toNat)&&decide ((10:Int)^(29:Int).toNat<=hg-1))=false;have:¬(10:Int)^(29:Int).toNat<=hg-1:=by
    have:(10:Int)^(29:Int).toNat=100000000000000000000000000000:=.d
    lia
   rw[Zax this,Zc1]
  ·obtain⟨a,e,_⟩:=h;rw[e];rfl
 ·simp only[qF,Zas,Zbk,Zcp]at hl;rcases hl with rfl|rfl|rfl|rfl|rfl|rfl|rfl
  ·rw[show v=_ from h];exact .inl .d
  ·rw[show v=_ from h];exact .inl .d
  ·rw[show v=_ from h];exact .inl .d
  ·rw[show v=_ from h];exact .inl .d
  ·obtain⟨a,e,h1⟩:=h;exact .inr ⟨a,.int 0,e,.inl h1,.d⟩
  ·rw[show v=_ from h];exact .inl .d
  ·obtain⟨a,e,h1⟩:=h;exact .inr ⟨a,.int 0,e,.inr h1,.d⟩
theorem Zha {r:Int}(h0:0<=r)(h1:r<12)(pr:Paired (ja H) vs zA):∃c:Nat,c<=8/\dj vs r=some (.int (c:Int)):=by
 have key:∀(vs:List V) (ls:List Lit),Paired (ja H) vs ls->ls.all (fun l=>match l with | .sc (.int i)=>decide (0<=i/\i<=8)|_=>false)=true->∀i:Nat,i<ls.length->∃c:Nat,c<=8/\vs[i]?=some (.int (c:Int)):=by
  intro vs ls pr
  induction pr with
  |nil=>intro _ i hi;simp at hi
  |cons r t ih=>
   rename_i v l dq ls';intro ha i hi;rw[Zcf,Zap]at ha;cases i with
   |zero=>
    cases l with
    |sc u=>
     have e:v=u:=r;subst e;cases v with
     |int j=>have hj:=ZbP ha.1;exact⟨j.toNat,.o,by simp;omega⟩
     |_=>cases ha.1
    |_=>cases ha.1
   |succ i=>obtain⟨c,h1,h2⟩:=ih ha.2 i (by simpa using hi);exact⟨c,h1,by simpa using h2⟩
 obtain⟨c,h2,h3⟩:=key vs zA pr .k r.toNat (by show r.toNat<12;omega);have:=ZJ h3;rw[ZbG h0]at this;exact⟨c,h2,this⟩
theorem WD (h:bP wd hg xs):∀x∈xs,x=.af∨∃i:Int,x=.int i:=fun x hx=>by
 by_cases e:x=.af
 ·exact .inl e
 ·have m:x∈rowsOf xs:=ZaL.mpr ⟨hx,by simp[e]⟩;have q':=h.row x m;cases x with
  |int i=>exact .inr ⟨i,rfl⟩
  |_=>cases q'
theorem MC {i:Int}(h0:0<=i)(h1:i<=12):sU (.int i)=true:=by obtain⟨n,rfl⟩:=ZhN h0;exact(by decide:∀n:Nat,n<13->sU (.int n)=true) n .o
theorem Jf {K:Zke}{wd hg:Int}(g2:hg<=12)(h:bP wd hg xs):∀x∈xs,pR K H x:=fun x hx=>by
 rcases WD h x hx with rfl|⟨i,rfl⟩
 ·exact⟨⟨_,.af⟩,.inl rfl⟩
 ·have hm:V.int i∈rowsOf xs:=ZaL.mpr ⟨hx,.s⟩;have hw:(decide (0<=i)&&decide (i<=hg-1))=true:=h.row _ hm;rw[Zap,ZaF,ZaF]at hw;exact⟨⟨_,.int i⟩,.inl (MC hw.1 .o)⟩
theorem Of:∀(xs:List V) (i:Int),V.int i∈xs->(∀x∈xs,x=.af∨∃j:Int,x=.int j)->∃j:Nat,xs[j]?=some (.int i)/\∀m y,m<j->xs[m]?=some y->dg y (.int i)=false
 | [],i,h,_=>by simp at h
 |x::r,i,h,hr=>by
  by_cases e:x=.int i
  ·exact⟨0,by rw[e];rfl,fun m y hm _=>absurd hm (Nat.not_lt_zero _)⟩
  ·have h':V.int i∈r:=by
    rcases Zas.mp h with z|z
    ·exact absurd z.symm e
    ·exact z
   obtain⟨j,hj,hn⟩:=Of r i h' fun y hy=>hr y (Zaq _ hy);refine⟨j+1,by simpa using hj,fun m y hm hy=>?_⟩;cases m with
   |zero=>
    have:y=x:=by simpa using hy.symm
    subst this;rcases hr y Zaz with rfl|⟨k,rfl⟩
    ·rfl
    ·show(k==i)=false;have:k≠i:=fun z=>e (by rw[z]);simpa using this
   |succ m=>exact hn m y .o (by simpa using hy)
inductive Bl (K:Zke) (vs:List V) (H:Hp) (Q:VK) (_E:XK):Prop
 |mk (p b l:Addr) (wd hg:Int) (xs:List V) (c0:vs=[.ref p,.ref b,.ref l]) (c1:bg H p) (c2:bS H (.ref b) wd hg) (c3:H l=some (.tup xs)) (c4:bP wd hg xs) (c5:∀v H',av p H H'->bg H' p->eV K p wd hg H' v->Q v H')
def CT:List Expr:=match ck qv with|_:: .Assign _ (.Subscript (.List (_::es) _) _ _) _::_=>es|_=> []
def CS:List Expr:=match ck qv with | [_,_,_,_,_,_,_,.Return (some (.Subscript _ (.Subscript (.List es _) _ _) _)) _]=>es|_=> []
def SQ (a b:List Expr):List Stmt:=match ck qv with
 | [s0,.Assign x (.Subscript (.List (y::_) p1) z p2) p3,s2,s3,s4,s5,s6,.Return (some (.Subscript u (.Subscript (.List _ q1) v q2) q3)) q4]=> [s0,.Assign x (.Subscript (.List (y::a) p1) z p2) p3,s2,s3,s4,s5,s6,.Return (some (.Subscript u (.Subscript (.List b q1) v q2) q3)) q4]
 |_=> []
theorem Zgd:ck qv=SQ CT CS:=by kernel_rfl
theorem Zgf:litsOf CT=some qF:=by kernel_rfl
theorem Zge:litsOf CS=some zA:=by kernel_rfl
theorem lI:bo ["_law_state_here","_law_board","_law_lay_here","_law_way","_law_at","_law_to","_law_odd","_law_rows","_law_twice","_law_row","_law_spot","_law_some"] am (aR qv):=ZU .k
theorem ZN (h:D.nx σ H):GX D σ H:=h
theorem ZX {t u:TS}(h:t {D with nx:=u D} σ H):ay t u D σ H:=h
theorem aaU {t u:TS}(h:∀U:L2.St->Hp->Prop,(∀ao H',u D ao H'->U ao H')->t {D with nx:=U} σ H):ay t u D σ H:=h _ fun _ _ q=>q
theorem OA {t u:TS}(R:L2.St->Hp->Prop)(h2:∀ao H',R ao H'->u D ao H')(h1:∀N:L2.St->Hp->Prop,(∀ao H',R ao H'->N ao H')->t {D with nx:=N} σ H):ay t u D σ H:=h1 _ h2
theorem ZB (h:te σ H fun v H1=>g v σ H1 D.nx):p7 te g D σ H:=h
theorem Fo {t:TA}(h:t σ H (O8 Q)):oh t σ H Q:=h
theorem Nu {ta:TE}(h:ta σ H fun x H1=>tr σ H1 fun xs H2=>Q (x::xs) H2):aI ta tr σ H Q:=h
theorem Zn {Q:L2.St->Hp->Prop}(h:Q (σ.set i (some v)) H):cH i v σ H Q:=h
theorem ZcL {K:Zke}{k:Nat}{tl:TE}(ha:H a=some (.tup xs))(hk:0<k)(jt:k<=xs.length)(e1:∀H Q,Q (.ref a) H->te σ H Q)(e2:∀H Q,Q (.int (k:Int)) H->tl σ H Q)
  (q:∀p:Addr,H p=none->Q (.ref p) (upd H p (.tup (xs.drop k)))):uR (oD K) te (uS tl) uT σ H Q:=e1 _ _ (e2 _ _ ⟨_,rfl,show oD K (.ref a) (some (k:Int)) none H Q from kX ha hk jt q⟩)
theorem ZgY (F:aO K "_law_no_lay" "_law_no_lay" qv f fd)(G:Gs mg)(D1:Def P w K mg base 1 "_law_take" db iK):aJ P w K mg base aS 2 f fd am (Bl K):=by
  refine F.ok lI (fun vs H Q E h=>?_) (fun aw A outer s H vs Q E hr h=>?_)
  · obtain⟨p,b,l,wd,hg,xs,rfl,_⟩:=h;rfl
  · obtain⟨p,b,l,wd,hg,xs,rfl,st,bd,hl,lay,q⟩:=h;rw[Zgd];have i1:=Zgf;have i2:=Zge;generalize CT=Ls at i1;generalize CS=Lr at i2;refine⟨_,Zd (FO (i:=3) (j:=4) (k:=5) rfl lI.nd rfl rfl rfl rfl rfl rfl
        (Za (Zg D1 hr (Za (pv 0) (Za Zc Zb))) (Za (Zg D1 hr (Za (pv 0) (Za (ZR 1) Zb))) (Za (Zg D1 hr (Za (pv 0) (Za Zc Zb))) Zb))))
      (Zd (Zq (i:=6) lI.nd (ZV Z2 (ZC (Za (ZR 1) (WB (ls:=qF) i1))) (Zg D1 hr (Za (pv 0) (Za Zc Zb)))))
      (Zd (Y6 ["_law_row"] 1 [] (i:=7) lI.nd (Wk (pv 2)) (fun C s H fp=>pb 0) (fun C s H fp=>Ys (Jb (Ji (pv 0)))) (fun C s H fp D=>ZK rfl (pv 0)))
      (Zd (Zq (i:=8) lI.nd (Zl ZG (pv 2) (Zj (Za ZW Zb))))
      (Zd (ZP (PW.pt (Jt (Zp (AB hr.mO) (pv 7) (ZC Zb)) (Y5 (Zp Aw (Zm Zx rfl G.len ZcY (Zv 2)) Zc))))
        (Zd (Zq (i:=9) lI.nd (ZV Z2 (pv 7) (Zl YV (pv 5) (Zm Zx rfl G.len ZcY (Zv 7)))))
        (Zd (Zq (i:=10) lI.nd (Zl YV (Zl Ya (Zl Ya (WA PySem.F.plainAttrs_tuple PySem.F.slot_tuple_index PySem.F.type_tuple_index ZdO (pv 2) (Zv 9)) Zc) (Zl YV (pv 4) (Zl Yx (Zm Zx rfl G.len ZcY (Zv 2)) Zc))) (Zm Zx rfl G.len ZcY (Zv 2))))
        (Zk (Zq (i:=8) lI.nd (Zl ZG (Zl ZG (Zz JE (pv 2) ZH (ZD (pv 10))) (Zj (Zv 9))) (Zz JE (pv 2) (ZD (Zl Ya (pv 10) Zc)) ZH)))))) Zs)
      (Zd (Zq (i:=11) lI.nd (ZC (Za (Zl ZG (Zl ZG (Zz JE (pv 2) ZH (ZD (pv 4))) (Zj (Zv 6))) (Zz JE (pv 2) (ZD (Zl Ya (pv 4) Zc)) ZH))
        (Za (pv 8) (Za (Zl ZG (pv 2) (Zj (Za ZW Zb))) (Za (Zz JE (pv 2) (ZD Zc) ZH) (Za (Yd Jz rfl G.list ZjA (Zv 2)) Zb)))))))
      (Zd (Zq (i:=11) lI.nd (Zl YZ (pv 11) (ZC (Za ZW (Za ZA (Za N8 (Za (Zl ZG (pv 2) (pv 2)) Zb)))))))
      (Zk (Zr (ZV Z2 (pv 11) (ZV Z2 (ZC (WB (ls:=zA) i2)) (pv 3))))))))))),?_⟩
    dsimp only[cw];refine GV ?_;intro jD wa kB wb kC qJ jq nk fo lP eO gK bX cF aY;obtain⟨hbt,w1,w2,g1,g2⟩:=id bd;have hb:H b=some (.tup [.int wd,.int hg]):=by obtain⟨a,e,h⟩:=ZO hbt;cases e;exact h
    obtain⟨u0,v0,ep,_⟩:=id st;have nN:b≠p:=YW hb ep (by intro z;cases z);have Kj:l≠p:=YW hl ep (by intro z;cases z);have hlen:=lay.len;refine⟨_,rfl,p,12,rfl,st,.d,.d,fun r1 o1 a1 a2 az=>?_⟩;refine⟨_,rfl,_,rfl,b,_,_,_,rfl,rfl,ah.of (by rw[Zh nN];exact hb),jE,p,wd,rfl,az,.l,.l,fun r2 o2 a3 a4 aF=>?_⟩;obtain⟨k2,rfl⟩:=ZhN a3;refine⟨_,rfl,p,12,rfl,aF,.d,.d,fun r3 o3 a5 a6 bw=>⟨_,_,_,rfl,?_⟩⟩;have x3:av p H (upd (upd (upd H p o1) p o2) p o3):=(av.upd.trans av.upd).trans av.upd;generalize upd (upd (upd H p o1) p o2) p o3=H3 at bw x3;have ue:=x3 _ _ hb nN;have iw:=x3 _ _ hl Kj;refine aY _ _ ?_;refine⟨_,rfl,b,_,_,_,rfl,rfl,ah.of ue,fQ,fun nh H4 s4 oI n4=>?_⟩;have lo:nh.length=7:=ZaM oI;refine⟨by show nh.length+1<=sizeLine;rw[lo];decide,fun L4 uf=>?_⟩;have s5:ae H4 (upd H4 L4 (.lst (V.int hg::nh))):=Zf uf;have e5:upd H4 L4 (.lst (V.int hg::nh)) L4=some (.lst (V.int hg::nh)):=aj;generalize upd H4 L4 (HO.lst (V.int hg::nh))=H5 at s5 e5;have jK:ae H3 H5:=s4.trans s5;refine⟨_,rfl,p,8,rfl,bw.same jK,.d,.d,fun r4 o4 a7 a8 dY=>?_⟩;obtain⟨u3,v3,Af,_⟩:=id bw;have Tj:L4≠p:=fun z=>by rw[z,s4 _ _ Af]at uf;cases uf
    have bj:r4.toNat< (V.int hg::nh).length:=by rw[ZaU,lo];lia
    have gQ:=Zaj bj;have ff:=ZJ gQ;rw[ZbG a7]at ff;have GB:av p H5 (upd H5 p o4):=av.upd;refine⟨L4,_,_,_,rfl,rfl,ak.of (by rw[Zh Tj];exact e5),ff,?_⟩;generalize hod:(V.int hg::nh)[r4.toNat]=od at gQ;have odd:od≠.af/\bQ od 0 (hg-1)=false/\pR K (upd H5 p o4) od:=by
      cases hr:r4.toNat with
      |zero=>
       rw[hr]at gQ;have e:V.int hg=od:=by simpa using gQ
       rw[<-e];refine⟨.s,?_,⟨_,.int hg⟩,.inl (MC .l .o)⟩;show(decide (0<=hg)&&decide (hg<=hg-1))=false;rw[Zax (show ¬hg<=hg-1 by lia),Zc1]
      |succ k=>
       rw[hr]at gQ;have hk:nh[k]?=some od:=by simpa using gQ
       obtain⟨lt,Xh,at4⟩:=YO oI hk;have jC:=at4.same s5;have ur:ja (upd H5 p o4) od lt:=by
         have CW:∀a,od=.ref a->a≠p:=fun a e z=>by have:=n4 a (by rw[<-e];exact Zao hk);rw[z,Af]at this;cases this
         cases lt with
         |sc v=>exact jC
         |tup ys=>obtain⟨a,e,h⟩:=jC;exact⟨a,e,by rw[Zh (CW a e)];exact h⟩
         |lst ys=>obtain⟨a,e,h⟩:=jC;exact⟨a,e,by rw[Zh (CW a e)];exact h⟩
         |gq=>obtain⟨a,e,h⟩:=jC;exact⟨a,e,by rw[Zh (CW a e)];exact h⟩
       exact Zf7 g2 (Zao Xh) ur
    have x6:av p H (upd H5 p o4):=(x3.trans jK.x).trans GB;generalize upd H5 p o4=H6 at dY odd x6;clear GB e5 uf;have fM:=x6 _ _ hl Kj;have KJ:=x6 _ _ hb nN;obtain⟨Sw,Su,Sv⟩:=odd;obtain⟨u6,v6,Lu,_⟩:=id dY;refine bX _ _ ?_;refine⟨_,rfl,l,rfl,⟨xs,ah.of fM⟩,?_⟩;refine Je (xs:=xs) (fun i ys σ H2=>ys=rowsOf (xs.take i)/\H2=H6/\∃v,σ=[v]) ⟨rfl,rfl,none,rfl⟩ (fun i ys σ H2 _ ⟨_,e2,_⟩=>by rw[e2];exact ah.of fM) ?_ ?_
    · rintro i r ys σ H2 bt ⟨rfl,rfl,v,rfl⟩;have et:rowsOf (xs.take (i+1))=rowsOf (xs.take i)++(if (!decide (r=V.af))=true then [r] else []):=by
        unfold rowsOf;rw[ZaO,bt,Za4];cases hh:(!decide (r=V.af)) with
        |true=>simp[hh]
        |false=>simp[hh]
      refine⟨r,rfl,_,rfl,?_⟩;cases hh:(!decide (r=V.af)) with
      |true=>
       rw[hh]at et;refine aq ?_;refine⟨r,rfl,?_,?_⟩
       · have:=Zba (fun x=>!decide (x=V.af)) (xs.take i);unfold rowsOf;rw[ZaH];rw[ZaB]at this;omega
       · exact⟨by rw[et,ZaQ rfl],rfl,_,rfl⟩
      |false=>rw[hh]at et;exact ar ⟨by rw[et,ZaN Zam,Zbi],rfl,_,rfl⟩
    · rintro ys σ H2 ⟨rfl,rfl,v,rfl⟩ R7 hR7;rw[ZaV];have s7:ae H2 (upd H2 R7 (.lst (rowsOf xs))):=Zf hR7;have e7:upd H2 R7 (.lst (rowsOf xs)) R7=some (.lst (rowsOf xs)):=aj;generalize upd H2 R7 (HO.lst (rowsOf xs))=H7 at s7 e7;refine eO _ _ ?_;refine⟨_,rfl,aK,fun t8 wu=>?_⟩;have s8:ae H7 (upd H7 t8 (.tup [.af])):=Zf wu;refine WL (s8 _ _ (s7 _ _ fM)) aj (by simp;lia) fun c9 H9 s9 X4=>?_;have Ra:ae H2 H9:=s7.trans (s8.trans s9);have RT:∀y∈xs++[V.af],pR K H9 y:=fun y hy=>by
        rcases Zay.mp hy with m|m
        · exact Jf g2 lay y m
        · rw[ZaE.mp m];exact⟨⟨_,.af⟩,.inl rfl⟩
      have bt9:eV K p wd hg H9 (.ref c9):=Js X4 RT (Ul (by rw[Zak];simp;lia));have e9:=(s8.trans s9) _ _ e7;have nx:∀(c9:Addr) v9 v10 (dJ:Hp),ae H2 dJ->eV K p wd hg dJ (.ref c9)->qJ [some (.ref p),some (.ref b),some (.ref l),some (.int r1),some (.int (k2:Int)),some (.int r3),some od,some (.ref R7),some (.ref c9),v9,v10,none] dJ:=fun c9 v9 v10 dJ bA uk=>jq _ _ (by
        have oX:=bA _ _ fM;refine ZB (Fo (Nu ?_));refine m9 (K:=K) (a:=l) (xs:=xs) (y:=od) (k:=k2) oX .o .l (fun H Q h=>⟨_,rfl,h⟩) (fun H Q h=>⟨_,rfl,h⟩) (fun H Q h=>⟨_,rfl,h⟩)
          (fun H Q h=> ⟨_,rfl,_,_,rfl,rfl,(by have e:((k2+1:Nat):Int)=(k2:Int)+1:=.l
                                              rw[e]at h;exact h)⟩) fun pJ n8 bV aab=>?_
        have b11:eV K p wd hg n8 (.ref pJ):=Js aab (fun y hy=>by
          rcases Zay.mp hy with m|m
          · rcases Zay.mp m with m|m
            · exact Jf g2 lay y (Zco m)
            · rw[ZaE.mp m];exact Sv.same (bA.trans bV)
          · exact Jf g2 lay y (Zb3 m)) (Zgh Sw Su)
        replace uk:=uk.same bV;have Ko:=bV _ _ oX;refine⟨_,rfl,_,rfl,aK,fun kh VI=>?_⟩;have da:=Zf (o:=.tup [V.af]) VI;refine WL (da _ _ Ko) aj (by simp;omega) fun pI mG dr aaa=>?_;have sA:=da.trans dr;have b13:eV K p wd hg mG (.ref pI):=Js aaa (fun y hy=>by
          rcases Zay.mp hy with m|m
          · exact Jf g2 lay y m
          · rw[ZaE.mp m];exact⟨⟨_,.af⟩,.inl rfl⟩) (Ul (by rw[Zak];simp;omega))
        have wQ:=sA _ _ Ko;refine Nu (ZcL (K:=K) (a:=l) (xs:=xs) (k:=1) wQ .l .l (fun H Q h=>⟨_,rfl,h⟩) (fun H Q h=>h) fun mz X9=>?_);have cn:=Zf (o:=.tup (xs.drop 1)) X9;have Mc:eV K p wd hg (upd mG mz (.tup (xs.drop 1))) (.ref mz):=Js aj (fun y hy=>Jf g2 lay y (Zb3 hy)) (Ul (by rw[Za5];lia));generalize upd mG mz (HO.tup (xs.drop 1))=uC at cn Mc;have Kn:=cn _ _ wQ;refine⟨_,rfl,l,xs,rfl,.inr (ah.of Kn),fun kY KG=>?_⟩;have cZ:=Zf (o:=.lst xs) KG;have SD:kY≠p:=fun z=>by have h:=cn _ _ (sA _ _ (bV _ _ (bA _ _ Lu)));rw[<-z,KG]at h;cases h
        have Mb:eV K p wd hg (upd uC kY (.lst xs)) (.ref kY):=ZfC aj SD .l fun y hy=>(Jf (K:=K) g2 lay y hy).2;generalize upd uC kY (HO.lst xs)=H15 at cZ Mb;refine⟨aK,fun L16 aak=>?_⟩;obtain⟨Pd,zz,Cs,e16⟩:=cU (o:=.lst [V.ref pJ,V.ref c9,V.ref pI,V.ref mz,V.ref kY]) aak;rw[zz];have Xr:=Cs _ _ (cZ _ _ Kn);refine kC _ _ ?_;refine⟨_,rfl,fun i5 X0=>?_⟩;have vB:=Zf (o:=.dK []) X0;have Ma:eV K p wd hg (upd Pd i5 (.dK [])) (.ref i5):=ZfD aj;generalize upd Pd i5 (HO.dK [])=H17 at vB Ma;have Km:=vB _ _ Xr;refine⟨_,rfl,_,rfl,WL Km Km .l fun mw F7 Cr X8=>?_⟩;have b18:eV K p wd hg F7 (.ref mw):=Js X8 (fun y hy=>by
          rcases Zay.mp hy with m|m
          · exact Jf g2 lay y m
          · exact Jf g2 lay y m) (Ul (by rw[Zak];omega))
        refine⟨aK,fun FZ aaj=>?_⟩;have HA:=Zf (o:=.lst [V.af,V.str "1x1: .",V.ref i5,V.ref mw]) aaj;refine⟨L16,FZ,_,_,rfl,rfl,HA _ _ (Cr _ _ (vB _ _ e16)),aj,(by show 5+4<=sizeLine;decide),fun AH aai=>?_⟩;have Hy:=Zf (o:=.lst ([V.ref pJ,V.ref c9,V.ref pI,V.ref mz,V.ref kY]++[V.af,V.str "1x1: .",V.ref i5,V.ref mw])) aai;have LF:upd (upd F7 FZ (.lst [V.af,V.str "1x1: .",V.ref i5,V.ref mw])) AH (.lst ([V.ref pJ,V.ref c9,V.ref pI,V.ref mz,V.ref kY]++[V.af,V.str "1x1: .",V.ref i5,V.ref mw])) AH=some (.lst ([V.ref pJ,V.ref c9,V.ref pI,V.ref mz,V.ref kY]++[V.af,V.str "1x1: .",V.ref i5,V.ref mw])):=aj;generalize upd (upd F7 FZ (.lst [V.af,V.str "1x1: .",V.ref i5,V.ref mw])) AH (HO.lst ([V.ref pJ,V.ref c9,V.ref pI,V.ref mz,V.ref kY]++[V.af,V.str "1x1: .",V.ref i5,V.ref mw]))=H20 at Hy LF;refine kB _ _ ?_;refine⟨_,rfl,fun Dj H21 Hx HL n21=>?_⟩;have li:Dj.length=12:=ZaM HL;refine⟨by rw[li];decide,fun Pa aah=>?_⟩;have Hw:=Zf (o:=.lst Dj) aah;obtain⟨ci,hci,hai⟩:=Zha a1 a2 HL;refine⟨_,rfl,Pa,_,_,_,rfl,rfl,ak.of aj,hai,?_⟩;have sB:=HA.trans (Hy.trans (Hx.trans Hw));have aaK:∀v∈[V.ref pJ,V.ref c9,V.ref pI,V.ref mz,V.ref kY]++[V.af,V.str "1x1: .",V.ref i5,V.ref mw],eV K p wd hg (upd H21 Pa (.lst Dj)) v:=by
          intro v hv;have sC:=Cr.trans sB;have sD:=vB.trans sC;have sE:=Cs.trans sD;have sF:=cZ.trans sE;have sG:=cn.trans sF;simp only[List.cons_append,Zdh,Zas,Zbk,Zcp]at hv;rcases hv with rfl|rfl|rfl|rfl|rfl|rfl|rfl|rfl|rfl
          · exact b11.same (sA.trans sG)
          · exact uk.same (sA.trans sG)
          · exact b13.same sG
          · exact Mc.same sF
          · exact Mb.same sE
          · exact MS rfl rfl
          · exact MS rfl .d
          · exact Ma.same sC
          · exact b18.same sB
        have Kg:ci< ([V.ref pJ,V.ref c9,V.ref pI,V.ref mz,V.ref kY]++[V.af,V.str "1x1: .",V.ref i5,V.ref mw]).length:=by show ci<9;lia
        refine⟨AH,_,_,_,rfl,rfl,ak.of ((Hx.trans Hw) _ _ LF),ZJ (Zaj Kg),?_⟩;have oA:=bA.trans (bV.trans (sA.trans (cn.trans (cZ.trans (Cs.trans (vB.trans (Cr.trans sB)))))));exact q _ _ (x6.trans oA.x) (dY.same oA) (aaK _ (ZbA Kg)))
      refine fo _ _ ?_;refine⟨_,rfl,ZaJ _,fun uL Vj=>?_⟩;have sz:ae H9 (upd H9 uL (.lst [])):=Zf Vj;have ez:upd H9 uL (.lst []) uL=some (.lst []):=aj;generalize upd H9 uL (HO.lst [])=dJ at sz ez;have bA:ae H2 dJ:=Ra.trans sz;refine⟨R7,uL,rowsOf xs,rfl,rfl,ak.of (sz _ _ e9),ak.of ez,_,rfl,?_⟩;have uk:=bt9.same sz;cases hE:(rowsOf xs).isEmpty with
      |true=>exact ar (ar (ZN (nx _ _ _ _ bA uk)))
      |false=>
       refine aq ?_;refine⟨_,rfl,l,xs,rfl,.inr (ah.of (bA _ _ fM)),_,_,rfl,rfl,_,rfl,?_⟩;refine Dk (fun h1=>?_) (fun _=>?_)
       · have nQ:1<xs.length:=by have:=ZbP h1;omega
         have nr:0< (rowsOf xs).length:=by
           cases VT:rowsOf xs with
           |nil=>rw[VT]at hE;cases hE
           |cons a b=>simp
         have Xb:0<=r3%((rowsOf xs).length:Int)/\r3%((rowsOf xs).length:Int)< ((rowsOf xs).length:Int):=⟨Zce _ .l,ZbQ _ .l⟩;have Kh:(r3%((rowsOf xs).length:Int)).toNat< (rowsOf xs).length:=.o;have Ef:=ZJ (Zaj Kh);rw[ZbG Xb.1]at Ef;have DI:(rowsOf xs)[(r3%((rowsOf xs).length:Int)).toNat]∈rowsOf xs:=ZbA Kh;generalize (rowsOf xs)[(r3%((rowsOf xs).length:Int)).toNat]=row at Ef DI;have Kc:row∈xs:=(ZaL.mp DI).1;have qV:row≠.af:=by simpa using (ZaL.mp DI).2
         obtain⟨ri,rfl⟩:∃ri:Int,row=.int ri:=by
           rcases WD lay row Kc with z|z
           · exact absurd z qV
           · exact z
         obtain⟨j,hj,jU⟩:=Of xs ri Kc (WD lay);have kO:j<xs.length:=(Zai.mp hj).1;have flat:xs.all iA=true:=ZaK.mpr fun x hx=>by rcases WD lay x hx with z|⟨i,z⟩<;>rw[z]<;>rfl
         have oX:=bA _ _ fM;refine⟨_,rfl,_,rfl,_,rfl,R7,_,rfl,.inl (ak.of (sz _ _ e9)),_,_,rfl,rfl,.l,R7,_,_,_,rfl,rfl,ak.of (sz _ _ e9),Ef,?_⟩;refine⟨_,rfl,.inr (.inl ⟨rfl,.inr ⟨_,oX⟩⟩),_,rfl,l,xs,.int ri,j,rfl,rfl,ah.of oX,rfl,flat,⟨_,hj,by show(ri==ri)=true;simp⟩,jU,?_⟩;have Bw:0<=((j:Int)+1+(k2:Int)%((xs.length:Int)-1))%(xs.length:Int)/\((j:Int)+1+(k2:Int)%((xs.length:Int)-1))%(xs.length:Int)< (xs.length:Int):=⟨Zce _ .l,ZbQ _ .l⟩;have QC:((j:Int)+1+(k2:Int)%((xs.length:Int)-1))%(xs.length:Int)≠(j:Int):=by
           have m1:0<=(k2:Int)%((xs.length:Int)-1):=Zce _ .l;have m2:(k2:Int)%((xs.length:Int)-1)< (xs.length:Int)-1:=ZbQ _ .l;generalize (k2:Int)%((xs.length:Int)-1)=m at m1 m2;intro hz;by_cases bj:(j:Int)+1+m< (xs.length:Int)
           · rw[ZiY .l bj]at hz
             lia
           · have e:((j:Int)+1+m)%(xs.length:Int)=(j:Int)+1+m-(xs.length:Int):=by rw[<-Int.sub_emod_right,ZiY .l .l]
             rw[e]at hz
             lia
         refine⟨_,_,rfl,rfl,_,rfl,_,rfl,l,xs,rfl,.inr (ah.of oX),_,_,rfl,rfl,_,_,rfl,rfl,.o,_,_,rfl,rfl,_,rfl,l,xs,rfl,.inr (ah.of oX),_,_,rfl,rfl,.o,?_⟩;refine Zn ?_;dsimp only;generalize ((j:Int)+1+(k2:Int)%((xs.length:Int)-1))%(xs.length:Int)=spz at Bw QC |-;obtain⟨sp,rfl⟩:=ZhN Bw.1;have VM:sp<xs.length:=.o;have VN:j≠sp:=.l;refine ZB ?_;refine m9 (K:=K) (a:=l) (xs:=xs) (y:=.int ri) (k:=sp) oX VM .l (fun H Q h=>⟨_,rfl,h⟩) (fun H Q h=>⟨_,rfl,h⟩) (fun H Q h=>⟨_,rfl,h⟩)
           (fun H Q h=> ⟨_,rfl,_,_,rfl,rfl,(by have e:((sp+1:Nat):Int)=(sp:Int)+1:=.l
                                               rw[e]at h;exact h)⟩) fun cz Hz Qy X1=>?_
         refine Zn ?_;dsimp only;have btz:eV K p wd hg Hz (.ref cz):=Js X1 (fun y hy=>by
           rcases Zay.mp hy with m|m
           · rcases Zay.mp m with m|m
             · exact Jf g2 lay y (Zco m)
             · rw[ZaE.mp m];exact Jf g2 lay _ (Zao hj)
           · exact Jf g2 lay y (Zb3 m)) (Zgi hj VN .s)
         exact nx _ _ _ _ (bA.trans Qy) btz
       · exact nx _ _ _ _ bA uk
abbrev BN:Stmt:=top 63
inductive yE (R:Hp->V->V->Prop) (vs:List V) (H:Hp) (Q:VK) (_E:XK):Prop
 |mk (x y:_) (c0:vs=[x,y]) (c1:R H x y) (c2:∀H',ae H H'->Q (.bl true) H')
theorem QT:bo pp pp (aR BN):=ZU .k
end U
namespace U
open PySem L2 PyProof.Rows PyProof.Rows.fS
def Rl (_:Hp)(x y:V):Prop:=(∃i:Int,x=.int i/\y=.int i)∨(∃k:Bool,x=.bl k/\y=.bl k)∨(x=.af/\y=.af)
theorem ZeP (F:aO K "_law_same" "_law_same" BN f fd)(G:Gs mg){k:Nat} :aJ P w K mg base aS (k+1) f fd pp (yE Rl):=by
 refine F.ok QT (fun vs H Q E h=>?_) (fun aw A outer s H vs Q E hr h=>?_)
 ·obtain⟨x,y,rfl,_⟩:=h;rfl
 ·obtain⟨x,y,rfl,r,q⟩:=h;refine⟨_,Zd (ZP (Z1 (Zm (Zah (a:= "tuple") (b:= "list")) rfl G.isinstance ZbZ (Za (pv 1) (Za (Zj (Za (YB (v:=.ty "tuple") rfl G.tuple ZhZ rfl) (Za (YB (v:=.ty "list") rfl G.list ZjA rfl) Zb))) Zb)))) ZF Zs)
   (Zk (Zr (Yw (YA Jl (Zm (Z8 (c:= "bool")) rfl G.isinstance ZbZ (Za (pv 0) (Za (YB (v:=.ty "bool") rfl G.bool boot_bool rfl) Zb)))
     (Zm (Z8 (c:= "bool")) rfl G.isinstance ZbZ (Za (pv 1) (Za (YB (v:=.ty "bool") rfl G.bool boot_bool rfl) Zb))) (iO _))
    (YJ (YA Jl (pv 0) (pv 1) (iO _)))))),?_⟩
  try dsimp only[cw]
  refine jf ?_;intro jD cF aY;refine⟨_,rfl,aK,fun t ht=>?_⟩;have s1:=Zf (o:=.tup [V.ty "tuple",V.ty "list"]) ht;rcases r with ⟨i,rfl,rfl⟩|⟨k,rfl,rfl⟩|⟨rfl,rfl⟩
  ·refine⟨_,t,_,_,rfl,ah.of aj,.inl ⟨i,rfl,rfl⟩,(show _=some false from rfl),_,rfl,ar ?_⟩;refine aY _ _ ?_;refine⟨_,rfl,_,_,_,rfl,.int i,(show _=some false from rfl),_,rfl,_,_,_,rfl,.int i,(show _=some false from rfl),rfl,_,rfl,?_⟩;refine aq ⟨_,rfl,_,rfl,rfl,?_⟩;have e:decide (V.int i=V.int i)=true:=Zau rfl;rw[e];exact q _ s1
  ·refine⟨_,t,_,_,rfl,ah.of aj,.inr (.inl ⟨k,rfl,rfl⟩),(show _=some false from rfl),_,rfl,ar ?_⟩;refine aY _ _ ?_;refine⟨_,rfl,_,_,_,rfl,.bl k,(show _=some true from rfl),_,rfl,_,_,_,rfl,.bl k,(show _=some true from rfl),rfl,_,rfl,?_⟩;refine aq ⟨_,rfl,_,rfl,(by cases k<;>rfl),?_⟩;have e:decide (V.bl k=V.bl k)=true:=Zau rfl;rw[e];exact q _ s1
  ·refine⟨_,t,_,_,rfl,ah.of aj,.inr (.inr (.inl ⟨rfl,rfl⟩)),(show _=some false from rfl),_,rfl,ar ?_⟩;refine aY _ _ ?_;refine⟨_,rfl,_,_,_,rfl,.af,(show _=some false from rfl),_,rfl,_,_,_,rfl,.af,(show _=some false from rfl),rfl,_,rfl,?_⟩;refine aq ⟨_,rfl,_,rfl,rfl,?_⟩;have e:decide (V.af=V.af)=true:=Zau rfl;rw[e];exact q _ s1
def Pl (Y:Cx)(cl:List (Str×Addr))(x:Str)(v:V)(H:Hp)(s:Shared):Prop:=∃c u,cl.lookup x=some c/\s.heap.IsCell c (some u)/\RelV v u/\H c=none/\c∉bz Y.stack
def TV (so si:Scope):Bool:=si.names.all fun z=>z.2 !=.free||so.names.lookup z.1==some .cell||so.names.lookup z.1==some .free
theorem Fh (h:TV X.env.scope scope=true):∀z∈scope.names,z.2=.free->X.env.kindOf z.1=some .cell∨X.env.kindOf z.1=some .free:=fun z hz e=>by
 have:=ZaK.mp h z hz;simp only[Ziz,bne_iff_ne,ne_eq,Zcr]at this;rcases this with (h|h)|h
 ·exact absurd e h
 ·exact .inl h
 ·exact .inr h
section
variable {Y:Cx}
theorem Zfz {i:Nat}{x:Str}{v:V}(I:ag Y pins σ H s)(hi:Y.N[i]?=some x)(qN:σ[i]?=some (some v))(hk:Y.env.scope.names.lookup x=some .cell)(gm:Y.fn x=true)(jx:(x,NameKind.free)∈scope.names):Pl Y (fO scope Y.env) x v H s:=by
 obtain⟨m,hn,hl⟩:=I.loc;obtain⟨u,r,l⟩:=hl i x v hi qN (.inr (.inl hk));obtain⟨c,hc⟩:=UT (env:=Y.env) jx;have e1:=(Jr hc).1;rcases l with ⟨bR,_⟩|⟨_,c',cW,o9⟩
 ·have:Y.env.scope.names.lookup x=some .local:=bR;rw[hk]at this;cases this
 ·rw[cW]at e1;have e2:c=c':=e1;subst e2;refine⟨c,u,hc,o9,r,I.iY x c cW,fun hm=>?_⟩;rcases Zas.mp (I.yA c hm) with z|z
  ·exact I.jZ x c cW z
  ·obtain⟨_,o,ho,_⟩:=I.ok.fN.mem z;exact absurd (ZaG (ZaA ho) (I.ok.pH x c gm cW)) (ZbM _)
theorem Zhi (h:(fO scope env).lookup z=some c):(z,NameKind.free)∈scope.names:=(Jr h).2
end
section
variable {cS c P fR:Addr}{kf:Nat}
abbrev lq (X:Cx):Str:=X.env.qual++ "<lambda>"
theorem YQ {P:Addr}(h:TabAt H P q)(s:ae H H'):TabAt H' P q:=by obtain⟨ps,h1,h2,h3⟩:=h;exact⟨ps,s _ _ h1,h2,fun pos cv z=>by obtain⟨d,e,g⟩:=h3 pos cv z;exact⟨d,e,s _ _ g⟩⟩
structure LCtx (X:Cx)(cS c P fR:Addr)(kf:Nat):Prop where
 lam:O9 X c P
 hR:∀b',Def X.prog X.w X.K X.mg b' (kf+2) "_law_refused" ["_law_call"] (yG X.prog X.w X.K X.mg b' cS (kf+1))
 room:bO (kf+2) X.A
 mR:X.mg "_law_refused" =some (.ref fR)
 kR:PySem.W.keepIn X.K (.ref fR)=true
structure LN (X:Cx)(x:Str)(i:Nat):Prop where
 nx:X.N[i]?=some x
 kx:X.env.scope.names.lookup x=some .cell
 fx:X.fn x=true
def rX (sp:Sp)(vs:List V)(C:Addr)(H:Hp):Prop:=∀Q' E',(∀e H',ae H H'->E' (.ref e) (some C) H')->sp vs H Q' E'
structure FY (params:Arguments)(body:Expr)(scope:Scope)(N:List Str):Prop where
 kind:scope.kind=.function
 co:scope.isCoroutine=false
 gen:scope.isGenerator=false
 lN:∀z∈scope.names,z.2≠.cell
 only:∀z∈scope.names,z.2=.free->z.1∈N
 free:∀x∈N,scope.names.lookup x=some .free
 bind:∀(q:Str) (cl:List (Str×Addr)) (pm:Value) (c:Addr) (ct:Value),bindArgs (PySem.W.kla_fn "<lambda>" q params body scope cl pm (.ref c) ct) ⟨[],[]⟩=pure []
def AR (X:Cx)(kf:Nat)(C:Addr)(f:Addr)(q:Str)(bd:Expr)(scope:Scope)(cl:List (Str×Addr))(N:List Str)(ws:List V)(Pre:Hp->Prop):Prop:=
 ∀(fP:Heap) (cc:Addr) (A:Around) (outer:List Env) (s2:Shared) (H2:Hp) (Q2:VK) (E2:XK),bO kf (A.deeper (PySem.W.envX q scope s2.heap.objs.size f (.ref cc) cl))->Pre H2->(∀e H',ae H2 H'->E2 (.ref e) (some C) H')->
  ∃t,PE (rM X.prog X.w X.K X.mg fP N q scope f (.ref cc) cl A outer s2 H2 E2) bd t/\t (ws.map some) H2 Q2
theorem Zep {iC:Nat}{cl:List (Str×Addr)}{Q:VK}{ws:List V}(L:LCtx X cS c P fR kf)
  (LS:FY params bd scope N) (I:ag X pins σ H s) (hl:FX H f q params bd scope cl) (hlen:ws.length=N.length) (md:∀(i:Nat) x v,N[i]?=some x->ws[i]?=some v->Pl X cl x v H s) (js:∀z c,cl.lookup z=some c->(z,NameKind.free)∈scope.names)
  (Xz:∀a b c,cl.lookup a=some c->cl.lookup b=some c->a=b) (hi:iC<15) (M:lD X.K X.mg cS C iC) (bad:AR X kf C f q bd scope cl N ws Pre) (pre:Pre H) (hq:∀l H',ae H H'->H l=none->H' l=some (.lst [.int (iC:Int)])->Q (.ref l) H'):
  wpAny (model X.prog X.w) X.A (call (.ref fR) [.ref f]) (EP X pins σ Q) X.xe s:=by
 obtain⟨fP,st,e0,cN⟩:=I.rebase;obtain⟨pm,cc,ct,hf,hc⟩:=hl;have T:Cells fP scope cl N ws:=⟨hlen,fun u hu=>by
   rcases hu with hu|hu
   ·exact absurd rfl (LS.lN _ (ZcF hu))
   ·exact LS.only _ (ZcF hu) rfl,fun i a v h1 h2=>by
   obtain⟨ax,ux,lx,⟨ox,gx,dx⟩,rx,nx,fx⟩:=md i a v h1 h2;exact⟨LS.free a (Zao h1),ax,ux,lx,⟨ox,cN _ _ gx nx fx,dx⟩,rx⟩,fun u c h=>LS.only _ (js u c h) rfl,Xz⟩
 have FL:aJ X.prog X.w X.K X.mg fP (cJ X.prog X.w) (kf+1) f (PySem.W.kla_fn "<lambda>" q params bd scope cl pm (.ref cc) ct) []
   (fun vs H2 Q2 E2=>(vs=[]/\H2 f=some (tM f q params bd scope cl pm cc ct)/\H2 cc=some (jY cc q))/\Pre H2/\∀e H',ae H2 H'->E2 (.ref e) (some C) H'):=by
  refine Zgj (k:=kf) T LS.kind LS.co LS.gen LS.lN (fun vs H2 Q2 E2 h=>h.1) fun A outer s2 H2 Q2 E2 iS h=>?_;exact bad fP cc A outer s2 H2 Q2 E2 iS h.2.1 h.2.2
 obtain⟨fR',fdR,FR,iT,hk,hb⟩:=L.hR fP;rw[L.mR]at iT;cases iT;refine wpAny_call (ZfG (FR.run X.A X.stack s H ⟨[.ref f],[]⟩ [.ref f] [.ref f] Q E0 L.room e0 (hb s [.ref f] I.cK rfl) (.cons rfl .nil)
  ⟨f,_,_,C,iC,rfl,hi,M,fun h au=>?_,FL,fun s2=>.of_eq (LS.bind q cl pm cc ct),fun Q' E' hE=>⟨⟨rfl,hf,hc⟩,pre,hE⟩,hq⟩) fun r s' h=>?_)
 ·have z:h.get? f=some _:=(au f _ hf).1;exact⟨_,_,_,_,z⟩
 ·cases r with
  |error e=>exact h.elim
  |ok fl=>
   cases fl with
   |ret u=>exact I.after h
   |next=>exact False.elim h
   |brk=>exact False.elim h
   |cont=>exact False.elim h
def P8 (X:Cx)(cS P:Addr)(kf:Nat)(bd:Expr)(scope:Scope)(N:List Str)(idx:List Nat):TE:=fun σ H Q=> ∃(ws:List V) (C:Addr) (iC:Nat) (Pre:Hp->Prop),ws.length=idx.length/\(∀(k i:Nat) v,idx[k]?=some i->ws[k]?=some v->σ[i]?=some (some v))/\TabAt H P (lq X)/\iC<15/\lD X.K X.mg cS C iC/\
 (∀f,AR X kf C f (lq X) bd scope (fO scope X.env) N ws Pre)/\(∀H',av P H H'->Pre H')/\∀l H',av P H H'->TabAt H' P (lq X)->H l=none->H' l=some (.lst [.int (iC:Int)])->Q (.ref l) H'
theorem FN {params:Arguments}{bd:Expr}{p lp:Pos}{idx:List Nat}(L:LCtx X cS c P fR kf)(LS:FY params bd scope N)(hN:idx.length=N.length)(LNs:∀(k:Nat) x i,N[k]?=some x->idx[k]?=some i->LN X x i)(hg:Gl X "_law_refused")(DY:defaultsOf params X.env=([],[]))
  (jx:∀z∈scope.names,z.2=.free->X.env.kindOf z.1=some .cell∨X.env.kindOf z.1=some .free):
  PE X (.Call (.Name "_law_refused" p) [.Lambda params bd scope lp] [] pos) (P8 X cS P kf bd scope N idx):=by
 intro pins s σ H Q I h;obtain⟨ws,C,iC,Pre,Vo,qN,tab,hi,M,bad,pre,q⟩:=h;refine ZcU (JZ I hg L.mR ?_ .d);have ha:PA X [.Lambda params bd scope lp] _:=Za (ZgO L.lam DY jx) Zb;refine ZiE (h₀:=X.base) I.ok.mod.qI L.kR (aH (ha pos pins s σ H (fun vs H1=> ∃f,vs=[.ref f]/\av P H H1/\TabAt H1 P (lq X)/\FX H1 f (lq X) params bd scope (fO scope X.env)) I ⟨tab,fun f H1 sx nf t1 l1=>⟨f,rfl,sx,t1,l1⟩⟩) fun us s1 ⟨vs,H1,I1,r,f,ev,sx,t1,l1⟩=>⟨I1.cK,?_⟩) rfl rfl;subst ev;obtain⟨u,rfl,ru⟩:=Zji r;cases ru;refine Zep L LS I1 l1 (by rw[Vo,hN]) (fun i x v h1 h2=>?_) (fun z c h=>Zhi h) (fun a b c h1 h2=>?_) hi M (bad f) (pre H1 sx) fun l H2 s2 nl hl=>q l H2 (sx.trans s2.x) (YQ t1 s2) ?_ hl
 ·have hi:i<idx.length:=by have:=(Zai.mp h1).1;omega
  have ei:=Zaj hi;have n:=LNs i x _ h1 ei;exact Zfz I1 n.nx (qN i _ v ei h2) n.kx n.fx (ZcF (LS.free x (Zao h1)))
 obtain⟨e1,m1⟩:=Jr h1;obtain⟨e2,m2⟩:=Jr h2;obtain⟨c1,g1⟩:=I1.ok.has a (jx _ m1 rfl);obtain⟨c2,g2⟩:=I1.ok.has b (jx _ m2 rfl);rw[g1]at e1;rw[g2]at e2;have z1:c1=c2:=by have y1:_=c1:=e1;have y2:_=c2:=e2;rw[<-y1,<-y2]
 subst z1;exact I1.ok.inj _ _ _ g1 g2;cases hh:H l with
 |none=>rfl
 |some u=>
  by_cases z:l=P
  ·obtain⟨ps,e,_⟩:=t1;rw[z,e]at nl;cases nl
  ·rw[sx _ _ hh z]at nl;cases nl
end
theorem Zhp {P p:Addr}(h:TabAt H P q)(s:av p H H')(hp:H p=some o)(h1:∀ps,o≠.cm ps)(h2:∀c,o≠jY c q):TabAt H' P q:=by obtain⟨ps,e,t,f⟩:=h;refine⟨ps,s _ _ e fun z=>by rw[z,hp]at e;cases e;exact h1 _ rfl,t,fun pos cv z=>?_⟩;obtain⟨d,e1,e2⟩:=f pos cv z;exact⟨d,e1,s _ _ e2 fun z=>by rw[z,hp]at e2;cases e2;exact h2 _ rfl⟩
theorem Ws {K:Zke}{p:Addr}{v:V}(t:fG K H v)(s:av p H H')(hn:v≠.ref p):bJ H' v=bJ H v:=by
 obtain⟨T,t⟩:=t;cases t with
 |tup e=>rw[ZL e,ZL (s _ _ e fun z=>hn (by rw[z]))]
 |lst e=>rw[ZM,ZM,e,s _ _ e fun z=>hn (by rw[z])]
 |de e=>rw[ZM,ZM,e,s _ _ e fun z=>hn (by rw[z])]
 |dK e=>rw[ZM,ZM,e,s _ _ e fun z=>hn (by rw[z])]
 |dT e=>rw[ZM,ZM,e,s _ _ e fun z=>hn (by rw[z])]
 |_=>rfl
theorem Mk {K:Zke}{p:Addr}{v:V}(t:fG K H v)(s:av p H H')(hn:v≠.ref p):fG K H' v:=by
 obtain⟨T,t⟩:=t;cases t with
 |tup e=>exact⟨_,.tup (s _ _ e fun z=>hn (by rw[z]))⟩
 |lst e=>exact⟨_,.lst (s _ _ e fun z=>hn (by rw[z]))⟩
 |de e=>exact⟨_,.de (s _ _ e fun z=>hn (by rw[z]))⟩
 |dK e=>exact⟨_,.dK (s _ _ e fun z=>hn (by rw[z]))⟩
 |dT e=>exact⟨_,.dT (s _ _ e fun z=>hn (by rw[z]))⟩
 |af=>exact⟨_,.af⟩
 |bl b=>exact⟨_,.bl b⟩
 |int i=>exact⟨_,.int i⟩
 |str x=>exact⟨_,.str x⟩
 |kT x=>exact⟨_,.kT x⟩
theorem Fb {K:Zke}{p:Addr}{v:V}(t:iF K H v)(s:av p H H')(n:pS p H v):iF K H' v:=by refine⟨Mk t.1 s n.1,fun xs e y hy=>?_⟩;rw[Ws t.1 s n.1]at e;exact Mk (t.2 xs e y hy) s (n.2 xs e y hy)
theorem Nx {K:Zke}{p q:Addr}{v:V}(t:fG K H v)(s:av q H H')(hq:v≠.ref q)(n:pS p H v):pS p H' v:=⟨n.1,fun xs e=>n.2 xs (by rw[<-Ws t s hq];exact e)⟩
theorem UW {K:Zke}{p:Addr}{v:V}(b:mI K H v)(s:av p H H')(n:pS p H v):mI K H' v:=⟨Fb b.1 s n,by rw[Ws b.1.1 s n.1];exact b.2⟩
theorem Fs {K:Zke}{wd hg:Int}{p:Addr}{v:V}(b:mH K wd hg H v)(s:av p H H')(n:pS p H v):mH K wd hg H' v:=⟨Fb b.1 s n,by rw[Ws b.1.1 s n.1];exact b.2⟩
theorem Jm {K:Zke}{P:Addr}{ps:Array Value}{v:V}(t:iF K H v)(h:H P=some (.cm ps)):pS P H v:=by
 have key:∀y,fG K H y->y≠.ref P:=fun y ⟨T,ty⟩ z=>by
  subst z;cases ty with
  |lst e=>rw[h]at e;cases e
  |de e=>rw[h]at e;cases e
  |tup e=>rw[h]at e;cases e
  |dK e=>rw[h]at e;cases e
  |dT e=>rw[h]at e;cases e
 exact⟨key v t.1,fun xs e y hy=>key y (t.2 xs e y hy)⟩
theorem Zd5 (h:bS H (.ref b) wd hg)(s:av p H H')(hp:H p=some (.cm ps)):bS H' (.ref b) wd hg:=by obtain⟨a,e,ha⟩:=ZO h.1;cases e;exact⟨ZL (s _ _ ha fun z=>by rw[z,hp]at ha;cases ha),h.2⟩
abbrev kr:Arguments:= {posonlyargs:=[],args:=[],vararg:=none,kwonlyargs:=[],kw_defaults:=[],kwarg:=none,defaults:=[]}
theorem My (xs:List V):(bE xs).Pairwise fun a b=>a.1<b.1:=by unfold bE;refine ZhL.mpr (Zde ?_ (List.pairwise_lt_range (n:=xs.length)));intro a b rm p hp q hq;obtain⟨r,hr,rfl⟩:=Zbp.mp hp;obtain⟨r',bt,rfl⟩:=Zbp.mp hq;show(a:Int)< (b:Int);omega
def qD (ps:List (Int×Int)):List aN:=ps.flatMap fun a=>(ps.filter fun b=>decide (a.1<b.1)).map fun b=>(a.1,a.2,b.1,b.2)
theorem WW (ps:List (Int×Int)):eX ps=qD ps:=by unfold eX lL qD pairsOf;rw[ZaV]
theorem Y1 {f:α->β}{l:List α}(h:l.Nodup):(l.map f).Nodup↔∀a∈l,∀b∈l,f a=f b->a=b:=by
 rw[Zbg,Zc0];constructor
 ·intro pw a ha b hb e;obtain⟨i,hi,rfl⟩:=Zek ha;obtain⟨j,hj,rfl⟩:=Zek hb;have p:=Zc2.mp pw;rcases Nat.lt_trichotomy i j with q|q|q
  ·exact absurd e (p i j hi hj q)
  ·subst q;rfl
  ·exact absurd e.symm (p j i hj hi q)
 ·intro inj;refine List.Pairwise.imp_of_mem ?_ (Zbg.mp h);intro a b ha hb ne e;exact ne (inj a ha b hb e)
theorem JJ (xs:List V):(eX (bE xs)).Nodup:=by have:=UE xs;rw[Zbg,Zc0]at this;exact Zbg.mpr (Zde (fun h e=>h (by rw[e])) this)
theorem JX {p:aN} :p∈eX (bE xs)↔∃l o:Nat,l<o/\o<xs.length/\∃a b,rowAt xs l=some a/\rowAt xs o=some b/\p=((l:Int),a,(o:Int),b):=by
 rw[WW];unfold qD;rw[Zdm];constructor
 ·rintro⟨a,ha,hq⟩;obtain⟨b,hb,rfl⟩:=Za2.mp hq;obtain⟨fE,gR⟩:=ZaL.mp hb;obtain⟨l,hl,hr,e⟩:=Jj.mp ha;obtain⟨o,ho,bt,e'⟩:=Jj.mp fE;have:=ZbP gR;refine⟨l,o,.l,ho,a.2,b.2,hr,bt,by rw[e,e']⟩
 ·rintro⟨l,o,h1,h2,a,b,h3,h4,rfl⟩;exact⟨((l:Int),a),Jj.mpr ⟨l,.l,h3,rfl⟩,Za2.mpr ⟨((o:Int),b),ZaL.mpr ⟨Jj.mpr ⟨o,h2,h4,rfl⟩,Zau (by show(l:Int)<o;lia)⟩,rfl⟩⟩
def uv (xs:List V):Prop:=∀p∈eX (bE xs),∀q∈eX (bE xs),dR (dX p) (dX q)->p=q
theorem ZhD (h:a.2.2.1≠b.2.2.1∨a.2.2.2≠b.2.2.2):iP a b=true∨iP b a=true:=by
 unfold iP;simp only[Yr,YG,ZhK,Zcp]
 lia
theorem ZfL {r:Option aN}(f:oa (bF xs xs.length) r):r.isNone=true↔uv xs:=by
 have mem:∀{p:aN},p∈eX (bE xs)->dX p∈bF xs xs.length:=fun hp=>(Z9 xs).mem_iff.mp (Zdj hp);cases r with
 |none=>
  refine⟨fun _ p hp q hq s=>?_,fun _=>rfl⟩;refine ZiN fun ne=>?_;obtain⟨l,o,_,_,a,b,g1,g2,rfl⟩:=JX.mp hp;obtain⟨l',o',_,_,a',b',g3,g4,rfl⟩:=JX.mp hq;have d:(l:Int)≠(l':Int)∨(o:Int)≠(o':Int):=by refine ZiN fun c=>ne ?_;have e1:l=l':=.l;have e2:o=o':=.l;subst e1 e2;rw[g1]at g3;rw[g2]at g4;cases g3;cases g4;rfl
  rcases ZhD (a:=dX ((l:Int),a,(o:Int),b)) (b:=dX ((l':Int),a',(o':Int),b')) d with z|z
  ·have:=f _ (mem hp) _ (mem hq) s;rw[z]at this;cases this
  ·have:=f _ (mem hq) _ (mem hp) ⟨s.1.symm,s.2.symm⟩;rw[z]at this;cases this
 |some k=>
  refine⟨fun h=>(by cases h),fun h=>?_⟩;obtain⟨⟨a,ha,b,hb,s,l,_⟩,_⟩:=f;obtain⟨p,hp,rfl⟩:=Za2.mp ((Z9 xs).mem_iff.mpr ha);obtain⟨q,hq,rfl⟩:=Za2.mp ((Z9 xs).mem_iff.mpr hb);rw[h p hp q hq s]at l;unfold iP at l;simp only[Yr,YG,ZhK,Zcp]at l
  lia
def jb (xs ys:List V):Prop:=ys.length=xs.length/\∀(i:Nat) (v:V),ys[i]?=some v->v=.af∨xs[i]?=some v
theorem OU (h:jb xs ys)(e:rowAt ys i=some r):rowAt xs i=some r:=by
 unfold rowAt at e |-;cases ey:ys[i]? with
 |none=>rw[ey]at e;cases e
 |some v=>
  rw[ey]at e;rcases h.2 i v ey with rfl|q
  ·cases e
  ·rw[q];exact e
theorem ZdX (h:jb xs ys)(u:uv xs):uv ys:=by
 have sub:∀{p:aN},p∈eX (bE ys)->p∈eX (bE xs):=fun {p} hp=>by obtain⟨l,o,h1,h2,a,b,g1,g2,rfl⟩:=JX.mp hp;exact JX.mpr ⟨l,o,h1,by rw[<-h.1];exact h2,a,b,OU h g1,OU h g2,rfl⟩
 exact fun p hp q hq s=>u p (sub hp) q (sub hq) s
theorem Wv:∀{xs ys:List V},jb xs ys->(rowsOf ys).Sublist (rowsOf xs)
 | [],[],_=>.refl _
 | [],_::_,h=>by simp[jb]at h
 |_::_,[],h=>by simp[jb]at h
 |x::xs,y::ys,h=>by
  have ht:jb xs ys:=⟨by have:=h.1;simpa using this,fun i v e=>by have:=h.2 (i+1) v (by simpa using e);simpa using this⟩;have ih:=Wv ht;unfold rowsOf at ih |-;rcases h.2 0 y rfl with rfl|q
  ·rw[ZbY .s];exact ih.trans ((List.sublist_cons_self x xs).filter _)
  ·have:x=y:=by simpa using q
   subst this;by_cases z:(!decide (x=V.af))=true
   ·rw[Zdb (p:=fun x=>!decide (x=V.af)) z,Zdb (p:=fun x=>!decide (x=V.af)) z];exact ih.cons₂ x
   ·rw[ZbY (p:=fun x=>!decide (x=V.af)) z,ZbY (p:=fun x=>!decide (x=V.af)) z];exact ih
theorem ZdZ (l:bP wd hg xs)(h:jb xs ys):bP wd hg ys:=
 ⟨by rw[h.1];exact l.len,fun r hr=>l.row r ((Wv h).subset hr),l.nd.sublist (Wv h)⟩
end U
namespace U.S
open PySem L2 PyProof.Rows
def sk (a b:Int×Int):List Int:=[b.1-a.1,b.2-a.2]
def pk:List (Int×Int)->List (List Int)
 | []=> []
 |a::r=>r.map (sk a)++pk r
def bH (xs:List V):Bool:=decide (pk (bE xs)).Nodup
def qp (p:aN):List Int:=[p.2.2.1-p.1,p.2.2.2-p.2.1]
theorem Ff:∀{ps:List (Int×Int)},(ps.Pairwise fun a b=>a.1<b.1)->(qD ps).map qp=pk ps
 | [],_=>rfl
 |a::l,h=>by
  obtain⟨h1,h2⟩:=ZbD.mp h;have ih:=Ff h2;have e:qD (a::l)=(l.map fun b=>(a.1,a.2,b.1,b.2))++qD l:=by
   unfold qD;rw[Zh0]
   congr 1
   ·rw[ZbY .s,List.filter_eq_self.mpr fun b hb=>Zau (h1 b hb)]
   ·rw[List.flatMap_def,List.flatMap_def]
    congr 1
    refine List.map_congr_left fun c hc=>?_;rw[ZbY (by have:=h1 c hc;simp;omega)]
  rw[e,ZaW,ih,Zdq];rfl
theorem Nl (p q:aN):dR (dX p) (dX q)↔qp p=qp q:=by unfold dR dX qp;simp
theorem Y9 (xs:List V):bH xs=true↔uv xs:=by
 unfold bH;rw[ZhO,<-Ff (My xs),<-WW,Y1 (JJ xs)];unfold uv;constructor
 ·intro h p hp q hq s;exact h p hp q hq ((Nl p q).mp s)
 ·intro h p hp q hq s;exact h p hp q hq ((Nl p q).mpr s)
theorem ME {r:Option aN}(f:oa (bF xs xs.length) r):r.isNone=bH xs:=by have h1:=ZfL f;have h2:=Y9 xs;cases hr:r.isNone<;>cases hu:bH xs<;>simp_all
def aQ (hg:Nat)(xs:List V)(l:Nat):List Int:=((List.range hg).map fun(k:Nat)=>(k:Int)).filter fun r=>!aZ (.int r) xs&&bH (xs.set l (.int r))
theorem Yl (h:H p=none):ae H (upd H p o):=fun b u hb=>by rw[Zh (Ze hb h)];exact hb
theorem Oc (hv:v≠.af):∀{xs:List V}{i:Nat},xs[i]?=some V.af->(rowsOf (xs.set i v)).Perm (v::rowsOf xs)
 | [],_,h=>by simp at h
 |x::xs,0,h=>by
  have:x=.af:=by simpa using h
  subst this;rw[ZiI];unfold rowsOf;rw[Zdb (by simpa using hv),ZbY .s]
 |x::xs,i+1,h=>by
  have ih:=Oc hv (xs:=xs) (i:=i) (by simpa using h);rw[List.set_cons_succ];unfold rowsOf at ih |-;by_cases z:(!decide (x=V.af))=true
  ·rw[Zdb (p:=fun x=>!decide (x=V.af)) z,Zdb (p:=fun x=>!decide (x=V.af)) z];exact(ih.cons x).trans (List.Perm.swap v x _)
  ·rw[ZbY (p:=fun x=>!decide (x=V.af)) z,ZbY (p:=fun x=>!decide (x=V.af)) z];exact ih
theorem Om {r:Int}(h:V.int r∈xs):aZ (.int r) xs=true:=by unfold aZ;exact Zda.mpr ⟨_,h,by simp[dg]⟩
theorem WE {r:Int}(h:bP wd hg xs)(hi:xs[i]?=some V.af)(h0:0<=r)(h1:r<hg)(hn:aZ (.int r) xs=false):bP wd hg (xs.set i (.int r)):=by
 have pm:=Oc (v:=.int r) (by intro z;cases z) hi;refine⟨by rw[Zgy];exact h.len,fun x hx=>?_,pm.nodup_iff.mpr (ZcV.mpr ⟨fun m=>?_,h.nd⟩)⟩
 ·rcases Zas.mp (pm.mem_iff.mp hx) with rfl|hx
  ·show(decide (0<=r)&&decide (r<=hg-1))=true;rw[Zau h0,Zau .l];rfl
  ·exact h.row x hx
 ·have:=Om (ZaL.mp m).1;rw[hn]at this;cases this
theorem NU (h:bP wd hg xs):xs.all iA=true:=ZaK.mpr fun v hv=>by rcases h.ok v hv with rfl|⟨i,rfl⟩<;>rfl
theorem Yz {K:Zke}{a b:Addr}{Q:VK}(h1:H a=some (.tup xs))(h2:H b=some (.tup ys))(hl:xs.length+ys.length<=1000)(q:∀t H',ae H H'->H' t=some (.tup (xs++ys))->Q (.ref t) H'):fX K (.ref a) (.ref b) H Q:=by
 cases xs with
 |nil=>exact .inl ⟨a,b,ys,rfl,rfl,ah.of h1,ah.of h2,q b H (ae.refl _) h2⟩
 |cons x xs=>refine .inr ⟨a,b,_,_,rfl,rfl,ah.of h1,ah.of h2,.s,by rw[ZaH];lia,fun e=>?_,fun _ p hp=>q p _ (Yl hp) aj⟩;subst e;exact q a H (ae.refl _) (by rw[Zbi];exact h1)
theorem rN {i:Nat}(h:i<xs.length):dI xs none (some (i:Int))=xs.take i:=by unfold dI;rw[HT.yX,HT.oz,Zdi .l];simp
theorem kX {i:Nat}(h:i<xs.length):dI xs (some ((i:Int)+1)) none=xs.drop (i+1):=by unfold dI;rw[show(i:Int)+1=((i+1:Nat):Int) from rfl,HT.yX,HT.oz,Zdi .l];exact ZbJ .s
abbrev BG:Stmt:=top 28
inductive uZ (vs:List V) (H:Hp) (Q:VK) (_E:XK):Prop
 |mk (l:Addr) (xs:List V) (i:Nat) (v:V) (c0:vs=[.ref l,.int i,v]) (c1:H l=some (.tup xs)) (c2:i<xs.length) (c3:xs.length<=12) (c4:∀t H',ae H H'->H' t=some (.tup (xs.set i v))->Q (.ref t) H')
theorem QP:bo re re (aR BG):=ZU .k
theorem R9 (F:aO K "with_point" "with_point" BG f fd):aJ P w K mg base aS 1 f fd re uZ:=by
 refine F.ok QP (fun vs H Q E h=>?_) (fun aw A outer s H vs Q E hr h=>?_)
 ·obtain⟨l,xs,i,v,rfl,_⟩:=h;rfl
 ·obtain⟨l,xs,i,v,rfl,hl,hi,h12,q⟩:=h;refine⟨_,Zk (Zr (Zl ZG (Zl ZG (Zz JE (pv 0) ZH (ZD (pv 1))) (Zj (Zv 2))) (Zz JE (pv 0) (ZD (Zl Ya (pv 1) Zc)) ZH))),?_⟩;refine⟨_,rfl,_,rfl,_,rfl,l,xs,rfl,ah.of hl,?_,fun p hp=>?_⟩
  ·rintro⟨_,z⟩;rw[HT.oz]at z
   lia
  obtain⟨H1,zz,s1,e1⟩:=cU (o:=.tup (dI xs none (some (i:Int)))) hp;rw[zz];rw[rN hi]at e1;refine⟨_,rfl,aK,fun p2 dQ=>?_⟩;obtain⟨H2,zz,s2,e2⟩:=cU (o:=.tup [v]) dQ;rw[zz];refine Yz (s2 _ _ e1) e2 (by rw[ZaB];simp;lia) fun t3 H3 s3 e3=>?_;refine⟨_,rfl,_,rfl,_,_,rfl,rfl,_,rfl,l,xs,rfl,ah.of ((s1.trans (s2.trans s3)) _ _ hl),?_,fun p4 DE=>?_⟩
  ·rintro⟨z,_⟩;rw[show(i:Int)+1=((i+1:Nat):Int) from rfl,HT.oz]at z
   lia
  obtain⟨H4,zz,s4,e4⟩:=cU (o:=.tup (dI xs (some ((i:Int)+1)) none)) DE;rw[zz];rw[kX hi]at e4;refine Yz (s4 _ _ e3) e4 (by rw[Zak,ZaB,Za5];simp;omega) fun t5 H5 s5 e5=>?_;refine q t5 H5 (s1.trans (s2.trans (s3.trans (s4.trans s5)))) ?_;rw[e5,ZaP,ZhP,ZaQ hi];rfl
def Ab (xs:List V)(l:Nat)(i:Nat):List Int:=((List.range i).map fun(k:Nat)=>(k:Int)).filter fun r=>!aZ (.int r) xs&&bH (xs.set l (.int r))
theorem Zb1 (xs:List V)(l i:Nat):Ab xs l (i+1)=Ab xs l i++(if (!aZ (.int (i:Int)) xs&&bH (xs.set l (.int (i:Int))))=true then [(i:Int)] else []):=by unfold Ab;rw[Zcw,ZaW,Za4];cases h:(!aZ (.int (i:Int)) xs&&bH (xs.set l (.int (i:Int))))<;>simp_all
abbrev Cm:Stmt:=top 36
inductive ki (vs:List V) (H:Hp) (Q:VK) (_E:XK):Prop
 |mk (b l:Addr) (i:Nat) (wd hg:Int) (xs:List V) (c0:vs=[.ref b,.ref l,.int i]) (c1:bS H (.ref b) wd hg) (c2:H l=some (.tup xs)) (c3:bP wd hg xs) (c4:xs[i]?=some .af) (c5:∀(q:Addr) (H':Hp),ae H H'->H q=none->H' q=some (.lst ((aQ hg.toNat xs i).map V.int))->Q (.ref q) H')
theorem Q0:bo on on (aR Cm):=ZU .k
theorem So (F:aO K "free_rows" "free_rows" Cm f fd)(G:Gs mg)(Dun:Def P w K mg base 11 "is_unlike" bv Bf)(uE:Def P w K mg base 1 "with_point" re uZ):aJ P w K mg base aS 12 f fd on ki:=by
 refine F.ok Q0 (fun vs H Q E h=>?_) (fun aw A outer s H vs Q E hr h=>?_)
 ·obtain⟨b,l,i,wd,hg,xs,rfl,_⟩:=h;rfl
 ·obtain⟨b,l,i,wd,hg,xs,rfl,bd,hl,ly,hi,q⟩:=h;refine⟨_,Zk (Zr (Z7 ["row","board","lay","line"] 1 [0,1,2] (Z3 rfl G.range (Za (ZR 0) Zb)) (fun C s H fp=>pb 0)
   (fun C s H fp=>Ys (PW.pt (Jt (Zp (show bf (aV _ _ _ C s H fp) (compareOp .NotIn) (vH K true) from YT) (pv 0) (pv 2)) (Y5 (Z1 (Zg Dun hr (Za (pv 1) (Za (Zg uE (hr.mono .d) (Za (pv 2) (Za (pv 3) (Zv 0)))) Zb))))))))
   (fun C s H fp D=>ZK rfl (pv 0)))),?_⟩
  obtain⟨b',eb,hb⟩:=ZO bd.1;cases eb;have bZ:i<xs.length:=(Zai.mp hi).1;have zv:xs.length<=12:=by
   have h1:=ly.len;have h2:=bd.2.2.1
   lia
  have g1:=bd.2.2.2.1;have g2:=bd.2.2.2.2;refine⟨_,rfl,b,_,1,.int hg,rfl,rfl,ah.of hb,rfl,_,rfl,.l,.l,?_⟩;refine YK (fun k ys σ H1=> ∃v,σ=[v,some (.ref b),some (.ref l),some (.int i)]/\ae H H1/\ys=(Ab xs i k).map V.int/\ys.length<=k) ⟨_,rfl,ae.refl _,rfl,ZaJ _⟩ ?_ ?_
  ·rintro k ys σ H1 hk ⟨v,rfl,s1,rfl,hlen⟩;have es:=Zb1 xs i k;rw[Zc4];refine Zn ?_;dsimp only[List.set];refine⟨_,rfl,_,rfl,l,xs,rfl,.inr (ah.of (s1 _ _ hl)),rfl,NU ly,_,rfl,?_⟩;cases hn:aZ (.int (k:Int)) xs with
   |true=>rw[hn]at es;refine ar ?_;refine ar ⟨_,rfl,s1,?_,.l⟩;rw[es];simp
   |false=>
    rw[hn]at es;refine aq ?_;refine⟨_,rfl,_,rfl,_,rfl,_,rfl,l,xs,i,.int (k:Int),rfl,s1 _ _ hl,bZ,zv,fun t H2 s2 e2=>?_⟩;refine⟨.ref b,.ref t,wd,hg,_,rfl,⟨bd.same (s1.trans s2),ZL e2,WE ly hi .l .l hn⟩,fun H3 r s3 fi=>⟨_,rfl,?_⟩⟩;rw[ME fi];have dr:=s1.trans (s2.trans s3);cases hu:bH (xs.set i (.int (k:Int))) with
    |true=>rw[hu]at es;refine aq ⟨_,rfl,by rw[ZaH];lia,⟨_,rfl,dr,?_,by rw[Zak];simp at hlen |-;omega⟩⟩;rw[es];simp
    |false=>rw[hu]at es;refine ar ⟨_,rfl,dr,?_,.o⟩;rw[es];simp
  ·rintro ys σ H1 ⟨v,rfl,s1,rfl,hlen⟩ p hp;exact q p _ (s1.trans (Yl hp)) (s1.free hp) aj
theorem OW (f:α->List β)(n:Nat):∀l:List α,(∀a∈l,(f a).length<=n)->(l.flatMap f).length<=l.length*n
 | [],_=>.s
 |a::l,h=>by have h1:=h a Zaz;have h2:=OW f n l fun b hb=>h b (Zaq _ hb);rw[Zh0,Zak,ZaU,Nat.succ_mul];omega
theorem J9 (hg:Nat)(xs:List V)(l:Nat):(aQ hg xs l).length<=hg:=by unfold aQ;refine Zbb (Zba _ _) ?_;rw[Zat,ZcR];exact Zal _
def iG (H:Hp)(v:V)(xs:List V):Prop:=∃t:Addr,v=.ref t/\H t=some (.tup xs)
theorem iG.same (h:iG H v xs)(s:ae H H'):iG H' v xs:=let ⟨t,e,h1⟩:=h;⟨t,e,s _ _ h1⟩
theorem WR (s:ae H H1)(n:H L=none):ae H (upd H1 L o):=fun b u h=>by rw[Zh (Ze h n)];exact s b u h
theorem Wl {α β:Type}{F:α->β->Prop} :∀{a c:List α}{b d:List β},Paired F a b->Paired F c d->Paired F (a++c) (b++d)
 |_,_,_,_,.nil,h=>h
 |_,_,_,_,.cons x y,h=>.cons x (Wl y h)
theorem JL {r:Int} :r∈aQ hg xs l↔(0<=r/\r<hg)/\aZ (.int r) xs=false/\bH (xs.set l (.int r))=true:=by
 unfold aQ;rw[ZaL,Za2,Zap,Zcg];constructor
 ·rintro⟨⟨k,hk,rfl⟩,h⟩;rw[Zbf]at hk;exact⟨.o,h⟩
 ·rintro⟨h,h'⟩;exact⟨⟨r.toNat,Zbf.mpr .o,.o⟩,h'⟩
end U.S
namespace U.T
open PySem L2 PyProof.Rows
theorem sv {t:TE}{Q:VK}(R:V->Hp->Prop)(h2:∀v H',R v H'->Q v H')(h1:∀Q':VK,(∀v H',R v H'->Q' v H')->t σ H Q'):t σ H Q:=h1 Q h2
end U.T
namespace U.S
open PySem L2 PyProof.Rows
theorem OD (xs:List V):dU xs=bH xs:=by
 have h:dU xs=true↔bH xs=true:=by
  unfold dU bH;rw[ZhO,ZhO,<-Ff (My xs),<-WW,<-((Z9 xs).map keyOf).nodup_iff,Zdq];rw[Y1 (JJ xs),Y1 (JJ xs)];have e:∀p q:aN,(keyOf∘dX) p=(keyOf∘dX) q↔qp p=qp q:=fun p q=>by unfold keyOf dX qp;simp
  constructor
  ·intro h a ha b hb z;exact h a ha b hb ((e a b).mpr z)
  ·intro h a ha b hb z;exact h a ha b hb ((e a b).mp z)
 cases h1:dU xs<;>cases h2:bH xs<;>simp_all
def Ii (ys:List V):Bool:=decide (rowsOf ys).Nodup
def nU (ys:List V):Bool:=Ii ys&&bH ys
theorem Y3 :nU ys=true↔(rowsOf ys).Nodup/\uv ys:=by unfold nU Ii;rw[Zap,ZhO,Y9]
theorem ZcG (h:jb xs ys)(g:nU xs=true):nU ys=true:=by obtain⟨h1,h2⟩:=Y3.mp g;exact Y3.mpr ⟨h1.sublist (Wv h),ZdX h h2⟩
theorem ZdY {b rest:List V} :jb (b++rest) (b++List.replicate rest.length V.af):=by
 refine⟨.s,fun i u hu=>?_⟩;by_cases h1:i<b.length
 ·rw[Zbw h1]at hu |-;exact .inr hu
 ·rw[Zbt .o,Zef]at hu;split at hu
  ·exact .inl (by simpa using hu.symm)
  ·cases hu
theorem OX {α β:Type}{f g:α->Option β} :∀{l:List α},(∀x∈l,f x=g x)->l.filterMap f=l.filterMap g
 | [],_=>rfl
 |a::l,h=>by rw[ZbE,ZbE,h a Zaz,OX fun x hx=>h x (Zaq _ hx)]
theorem Zew (xs:List V)(n:Nat):bE (xs++List.replicate n V.af)=bE xs:=by
 unfold bE;rw[Zak,Ze7,Zik,Zik,<-List.range'_append_1 (s:=0),Zia];have e2:(List.range' (0+xs.length) n).filterMap (fun l=>(rowAt (xs++List.replicate n V.af) l).map fun r=>((l:Int),r))=[]:=by
  rw[ZiM];intro l hl;rw[List.mem_range'_1]at hl;have:rowAt (xs++List.replicate n V.af) l=none:=by unfold rowAt;rw[Zbt .o,Zef];split<;>rfl
  rw[this];rfl
 have e1:(List.range' 0 xs.length).filterMap (fun l=>(rowAt (xs++List.replicate n V.af) l).map fun r=>((l:Int),r))=(List.range' 0 xs.length).filterMap (fun l=>(rowAt xs l).map fun r=>((l:Int),r)):=by refine OX fun l hl=>?_;rw[List.mem_range'_1]at hl;unfold rowAt;rw[Zbw .o]
 simp only[e1,e2,Zbi]
theorem Zed (b:List V)(n:Nat):bH (b++List.replicate n V.af)=bH b:=by unfold bH;rw[Zew]
theorem WS (a b:List V):rowsOf (a++b)=rowsOf a++rowsOf b:=by unfold rowsOf;rw[Za4]
theorem Zfe {b rest:List V}(g:nU (b++rest)=true):nU b=true:=by
 obtain⟨h1,h2⟩:=Y3.mp (ZcG ZdY g);refine Y3.mpr ⟨?_,?_⟩
 ·rw[WS]at h1;exact(ZcS.mp h1).1
 ·have:=(Y9 _).mpr h2;rw[Zed]at this;exact(Y9 _).mp this
def qy (hg:Nat):List Int:=(List.range hg).map fun(k:Nat)=>(k:Int)
def mD (hg:Nat):Option V->List Int
 |some (.int r)=> [r]
 |_=>qy hg
def oK (hg:Nat)(xs:List V)(i:Nat)(b:List V):List (List V):=((mD hg xs[i]?).filter fun r=>!aZ (.int r) b&&bH (b++[.int r])).map fun r=>b++[V.int r]
def df (hg:Nat)(xs:List V):Nat->List (List V)
 |0=> [[]]
 |i+1=>(df hg xs i).flatMap (oK hg xs i)
theorem Uo (hg:Nat)(xs:List V):∀i,∀b∈df hg xs i,b.length=i/\nU b=true/\∃ks:List Int,b=ks.map V.int
 |0,b,h=>by
  have:b=[]:=by simpa[df] using h
  subst this;exact⟨rfl,rfl,[],rfl⟩
 |i+1,b,h=>by
  unfold df at h;obtain⟨a,ha,hm⟩:=Zdm.mp h;obtain⟨h1,h2,ks,rfl⟩:=Uo hg xs i a ha;unfold oK at hm;obtain⟨r,hr,rfl⟩:=Za2.mp hm;obtain⟨_,iS⟩:=ZaL.mp hr;rw[Zap,Zcg]at iS;refine⟨by rw[Zak,h1];rfl,Y3.mpr ⟨?_,(Y9 _).mp iS.2⟩,ks++[r],.s⟩;rw[WS];refine ZcS.mpr ⟨(Y3.mp h2).1,by unfold rowsOf;simp,fun x hx y hy e=>?_⟩;have fv:y=.int r:=by unfold rowsOf at hy;simpa using (ZaL.mp hy).1
  subst fv;subst e;have:=Om (ZaL.mp hx).1;rw[iS.1]at this;cases this
theorem Zhb (ok:gU xs)(h:aZ (.int r) xs=true):V.int r∈xs:=by
 unfold aZ at h;obtain⟨y,hy,e⟩:=Zda.mp h;rcases ok y hy with z|⟨j,z⟩
 ·rw[z]at e;simp[dg]at e
 ·rw[z]at e;have:j=r:=by simpa[dg] using e
  rw[<-this,<-z];exact hy
end U.S
namespace U
open PySem L2 PyProof.Rows PyProof.Rows.fS U.S
def fm (q:aN):I4:=(q.2.2.1,q.2.2.2,q.1,q.2.1)
def fk (a b:I4):Bool:=decide ([b.2.2.1,b.2.2.2]=[a.2.2.1,a.2.2.2])
def qd (a b:I4):aN:=(a.1,a.2.1,b.1,b.2.1)
def fJ:List I4->List aN
 | []=> []
 |a::r=>(r.filter (fk a)).map (qd a)++fJ r
def gH (a b:I4):Prop:=a.1<b.1∨(a.1=b.1/\a.2.1<b.2.1)
theorem ZgI :fk a b=true↔a.2.2.1=b.2.2.1/\a.2.2.2=b.2.2.2:=by
 unfold fk;simp only[ZaF,Zjy,and_true]
 lia
theorem Zht (h:gH a c∨(a=c/\(b=d∨gH b d))):aM (aW (qd c d)) (aW (qd a b))=false:=by rw[nf];unfold aW qd;unfold gH at h;simp only[Yr,YG,ZhK,Zcp];rcases h with h|⟨rfl,rfl|h⟩<;>lia
def FR (ks:List I4):Option aN->Prop
 |none=> ∀a∈ks,∀b∈ks,fk a b=true->¬gH a b
 |some k=>(∃a∈ks,∃b∈ks,fk a b=true/\gH a b/\k=qd a b)/\∀a∈ks,∀b∈ks,fk a b=true->gH a b->aM (aW (qd a b)) (aW k)=false
theorem Nw (h:gH a a):False:=by unfold gH at h;lia
theorem Zgg (h:gH a b)(h':gH b a):False:=by unfold gH at h h';omega
theorem NY:∀{ks:List I4},ks.Pairwise gH->FR ks (fJ ks).head?
 | [],_=>fun a ha=>by cases ha
 |a::r,h=>by
  obtain⟨h1,h2⟩:=ZbD.mp h;have ih:=NY h2;have pf:=h2.filter (fk a);unfold fJ;cases hf:r.filter (fk a) with
  |nil=>
   rw[Zh7,Zdh];have no:∀y∈r,fk a y=true->False:=fun y hy s=>by have:y∈r.filter (fk a):=ZaL.mpr ⟨hy,s⟩;rw[hf]at this;cases this
   have cut:∀x∈a::r,∀y∈a::r,fk x y=true->gH x y->x∈r/\y∈r:=fun x hx y hy s l=>by
    rcases Zas.mp hx with ex|fK
    ·rcases Zas.mp hy with ey|fv
     ·rw[ex,ey]at l;exact(Nw l).elim
     ·rw[ex]at s;exact(no y fv s).elim
    ·rcases Zas.mp hy with ey|fv
     ·rw[ey]at l;exact(Zgg l (h1 x fK)).elim
     ·exact⟨fK,fv⟩
   cases hh:(fJ r).head? with
   |none=>rw[hh]at ih;intro x hx y hy s l;obtain⟨fK,fv⟩:=cut x hx y hy s l;exact ih x fK y fv s l
   |some k=>rw[hh]at ih;obtain⟨⟨p,hp,q,hq,s,l,e⟩,m⟩:=ih;refine⟨⟨p,Zaq _ hp,q,Zaq _ hq,s,l,e⟩,fun x hx y hy s l=>?_⟩;obtain⟨fK,fv⟩:=cut x hx y hy s l;exact m x fK y fv s l
  |cons b t=>
   rw[hf]at pf;have hb:b∈r.filter (fk a):=by rw[hf];exact Zaz
   obtain⟨fE,gR⟩:=ZaL.mp hb;refine⟨⟨a,Zaz,b,Zaq _ fE,gR,h1 b fE,rfl⟩,fun x hx y hy s l=>Zht ?_⟩;rcases Zas.mp hx with ex|fK
   ·rw[ex]at s l;rcases Zas.mp hy with ey|fv
    ·rw[ey]at l;exact(Nw l).elim
    ·have:y∈r.filter (fk a):=ZaL.mpr ⟨fv,s⟩;rw[hf]at this;rcases Zas.mp this with e|ht
     ·exact .inr ⟨ex.symm,.inl e.symm⟩
     ·exact .inr ⟨ex.symm,.inr ((ZbD.mp pf).1 y ht)⟩
   ·exact .inl (h1 x fK)
theorem ZdR {p q:aN}(hp:p∈bF xs xs.length)(hq:q∈bF xs xs.length)(e1:p.2.2.1=q.2.2.1)(e2:p.2.2.2=q.2.2.2):p=q:=by
 obtain⟨l,o,_,_,ep⟩:=FA.mp hp;obtain⟨l',o',_,_,eq⟩:=FA.mp hq;obtain⟨a,b,h1,h2,rfl⟩:=YM.mp ep;obtain⟨a',b',h3,h4,rfl⟩:=YM.mp eq;have l1:l=l':=by have:(l:Int)=l':=e1;lia
 have l2:o=o':=by have:(o:Int)=o':=e2;lia
 subst l1 l2;rw[h1]at h3;rw[h2]at h4;cases h3;cases h4;rfl
theorem ZfQ (h:fm p=fm q):p=q:=by obtain⟨a,b,c,d⟩:=p;obtain⟨a',b',c',d'⟩:=q;simp only[fm,Zio]at h;obtain⟨h1,h2,h3,h4⟩:=h;subst h1 h2 h3 h4;rfl
theorem TU {ks:List I4}(pm:ks.Perm ((bF xs xs.length).map fm))(rise:(ks.map aW).Pairwise fun a b=>aM b a=false):oa (bF xs xs.length) (fJ ks).head? :=by
 have mem:∀k,k∈ks↔∃p∈bF xs xs.length,fm p=k:=fun k=>by rw[pm.mem_iff,Za2]
 have nd:ks.Nodup:=pm.nodup_iff.mpr ((Y1 (JY xs _)).mpr fun a _ b _ e=>ZfQ e);have pw:ks.Pairwise gH:=by rw[Zc0]at rise;refine(List.Pairwise.and rise (Zbg.mp nd)).imp_of_mem ?_;intro a b ha hb ⟨h,ne⟩;obtain⟨p,hp,rfl⟩:=(mem a).mp ha;obtain⟨q,hq,rfl⟩:=(mem b).mp hb;rw[nf]at h;have d:¬(p.2.2.1=q.2.2.1/\p.2.2.2=q.2.2.2):=fun⟨e1,e2⟩=>ne (ZbT fm (ZdR hp hq e1 e2));unfold aW fm at h;simp only[Yr,YG,ZhK,Zcp]at h;show p.2.2.1<q.2.2.1∨(p.2.2.1=q.2.2.1/\p.2.2.2<q.2.2.2);omega
 have fr:=NY pw;have mm:∀{p},p∈bF xs xs.length->fm p∈ks:=fun hp=>(mem _).mpr ⟨_,hp,rfl⟩;have sm:∀{p q:aN},dR p q↔fk (fm p) (fm q)=true:=fun {p q} =>by rw[ZgI];rfl
 have lt:∀{p q:aN},iP p q=true↔gH (fm p) (fm q):=fun {p q} =>by unfold iP gH fm;simp only[Yr,YG,ZhK,Zcp]
 cases hh:(fJ ks).head? with
 |none=>rw[hh]at fr;intro a ha b hb s;rw[nf,lt];exact fr _ (mm ha) _ (mm hb) (sm.mp s)
 |some k=>rw[hh]at fr;obtain⟨⟨a,ha,b,hb,s,l,e⟩,m⟩:=fr;obtain⟨p,hp,rfl⟩:=(mem a).mp ha;obtain⟨q,hq,rfl⟩:=(mem b).mp hb;exact⟨⟨p,hp,q,hq,sm.mpr s,lt.mpr l,e⟩,fun x hx y hy s' l'=>m _ (mm hx) _ (mm hy) (sm.mp s') (lt.mp l')⟩
def oO (ks:List I4)(i:Nat):List aN:=match ks[i]? with
 |some a=>((ks.drop (i+1)).filter (fk a)).map (qd a)
 |none=> []
def qH (ks:List I4)(i:Nat):List aN:=(List.range i).flatMap (oO ks)
theorem ZbS {ks:List I4}(h:ks[i]?=some a):qH ks (i+1)=qH ks i++((ks.drop (i+1)).filter (fk a)).map (qd a):=by unfold qH;rw[Zcw,Zfx,List.flatMap_singleton];unfold oO;rw[h]
theorem C8:∀ks:List I4,qH ks ks.length=fJ ks
 | []=>rfl
 |a::r=>by
  have ih:=C8 r;unfold qH at ih |-;rw[ZaU,List.range_succ_eq_map,Zh0,List.flatMap_map];show _++List.flatMap (fun i=>oO (a::r) (i+1)) _=_;have e:(fun i=>oO (a::r) (i+1))=oO r:=by funext i;unfold oO;rw[List.getElem?_cons_succ,List.drop_succ_cons]
  rw[e,ih];rfl
theorem Uj (h:nY H v q)(s:ae H H'):nY H' v q:=by obtain⟨t,t',e,h1,h2⟩:=h;exact⟨t,t',e,s _ _ h1,s _ _ h2⟩
theorem MG (e:H L=some (.lst zs))(h:gw H v k):gw (upd H L o) v k:=by obtain⟨t,rfl,h1⟩:=h;refine⟨t,rfl,?_⟩;rw[Zh (fun z=>by rw[z,e]at h1;cases h1)];exact h1
abbrev BU:Stmt:=top 56
abbrev Tb:List Str:=["_law_lay_here","_law_some","_law_found","_law_at","_law_line","_law_other","_law_step"]
theorem qt:bo Tb ii (aR BU):=ZU .k
inductive oj (K:Zke) (vs:List V) (H:Hp) (Q:VK) (E:XK):Prop
 |mk (a:Addr) (xs:List V) (ev:vs=[.ref a]) (ha:H a=some (.tup xs)) (ok:gU xs) (hl:xs.length<=12) (gT:(bF xs xs.length).length<=144)
  (q:∀(l:Addr) (H':Hp) (rs:List V) (S:List I4),ae H H'->H l=none->H' l=some (.lst rs)->Paired (gw H') rs (fJ S)->S.Perm ((bF xs xs.length).map fm)->((S.map aW).Pairwise fun a b=>aM b a=false)->(fJ S).length<=20800->Q (.ref l) H')
theorem Zhy (F:aO K "_law_like" "_law_like" BU f fd)(G:Gs mg)(Dls:Def P w K mg base 1 "_law_steps" ii (yI K)):aJ P w K mg base aS 2 f fd ii (oj K):=by
 refine F.ok qt (fun vs H Q E h=>?_) (fun aw A outer s H vs Q E hr h=>?_)
 ·obtain⟨a,xs,rfl,_⟩:=h;rfl
 ·obtain⟨a,xs,rfl,ha,ok,hl,gT,q⟩:=h;have hu:=hr.units;refine⟨_,Zd (Zq (i:=1) qt.nd (Zm (WM (ZgH (ZeJ (Zis (by decide:2<=64) _) hu))) rfl G.sorted PyProof.Rows.Boot.«sorted» (Za (Z7 ["_law_step","_law_line","_law_other"] 3 [] (Yi (Zg Dls (hr.mono .d) (Zv 0)))
    (fun C s H fp=>show PG (aV _ _ _ C s H fp) _ (mj K 3 (dC (cH 0) (dC (cH 1) (dC (cH 2) mn)))) from Yk rfl (Zo (pb 0) (Zo (pb 1) (Zo (pb 2) Z4)))) (fun C s H fp=>Ym)
    (fun C s H fp D=>ZK rfl (Zj (Za (pv 1) (Za (pv 2) (Zv 0)))))) Zb)))
   (Zd (Zq (i:=2) qt.nd (ZC Zb))
   (Zd (YY Zb0 rfl (N9 rfl G.enumerate (Zv 1))
     (Yk rfl (Zo (ZE (i:=3) qt.nd) (Zo (Yk rfl (Zo (ZE (i:=4) qt.nd) (Zo (ZE (i:=5) qt.nd) (Zo (ZE (i:=6) qt.nd) Z4)))) Z4)))
     (Zk (YI (WA ZbV ZiZ Zi0 Ot (pv 2) (Za
      (Z7 ["_law_one","_law_line","_law_other","_law_step"] 1 [4,5,6] (Yi (Zz Nq (pv 1) (ZD (Zl Ya (pv 3) Zc)) ZH)) (fun C s H fp=>pb 0)
       (fun C s H fp=>Ys (Zp (show bf (aV _ _ _ C s H fp) (compareOp .Eq) (fun x y H Q=> ∃(a b:Addr) (ns ms:List Int),x=.ref a/\y=.ref b/\ah K H a (ns.map V.int)/\ah K H b (ms.map V.int)/\Q (.bl (decide (ns=ms))) H) from FH hr.mO) (ZV (show j6 (aV _ _ _ C s H fp) (gF K) from Yb) (pv 0) Zc) (pv 3)))
       (fun C s H fp D=>ZK rfl (Zj (Za (pv 1) (Za (pv 2) (Za (ZV (show j6 (aV _ _ _ C s H fp) (gF K) from Yb) (pv 0) Zc) (Za (ZV (show j6 (aV _ _ _ C s H fp) (gF K) from Yb) (pv 0) Zc) Zb))))))) Zb)))))
   (Zk (Zr (pv 2))))),?_⟩
  try dsimp only[cw]
  refine P5 ?_;intro jD lP eO gK bX cF aY;refine(ZB ⟨_,rfl,a,xs,rfl,ah.of ha,ha,ok,hl,fun fa H1 rs s1 CV hf pr=>?_⟩);generalize hS:bF xs xs.length=S at pr gT q;have TQ:rs.length=S.length:=ZaM pr;refine⟨fa,rfl,⟨rs,ak.of hf⟩,?_⟩;refine Ye (xs:=rs) (fun i ys σ H2=> ∃v0 v1 v2,σ=[v0,v1,v2]/\ae H1 H2/\Paired (nY H2) ys ((S.take i).map fm)/\ys.length<=i) ⟨_,_,_,rfl,ae.refl _,.nil,ZaJ _⟩ (fun i ys σ H2 _ ⟨_,_,_,_,s2,_⟩=>ak.of (s2 _ _ hf)) ?_ ?_
  ·rintro i v ys σ H2 hv ⟨v0,v1,v2,rfl,s2,bW,bY⟩;obtain⟨p,hp,t,t',rfl,ht,dw⟩:=YO pr hv;have hi:i<rs.length:=(Zai.mp hv).1;refine⟨t,_,rfl,ah.of (s2 _ _ ht),rfl,_,_,rfl,_,_,rfl,_,_,rfl,rfl,?_⟩;refine⟨_,rfl,_,rfl,_,rfl,aK,fun t2 qS=>⟨by rw[ZaH];lia,?_⟩⟩;obtain⟨H3,zz,s3,e3⟩:=cU (o:=.tup [V.int p.2.2.1,V.int p.2.2.2,V.ref t']) qS;rw[zz];refine⟨_,_,_,rfl,s2.trans s3,?_,by rw[Zak];simp;omega⟩;rw[ZaO,hp,ZaW];exact Zc9 (Paired.bh bW fun v q' hq=>Uj hq s3) ⟨t2,t',rfl,e3,(s2.trans s3) _ _ dw⟩
  ·rintro ys σ H2 ⟨v0,v1,v2,rfl,s2,bW,bY⟩ p hp;obtain⟨H3,zz,s3,e3⟩:=cU (o:=.lst ys) hp;rw[zz];rw[TQ,ZaV]at bW;refine⟨p,ys,S.map fm,rfl,ak.of e3,Paired.bh bW fun v q' hq=>Uj hq s3,.l,fun r dq ik qV zH DA oI=>Zn ?_⟩;dsimp only[List.set];obtain⟨H4,zz,s4,e4⟩:=cU (o:=.lst dq) qV;rw[zz];have oH:Paired (nY H4) dq ik:=Paired.bh oI fun v q' hq=>Uj hq s4;have lk:ik.length=S.length:=by rw[zH.length_eq,Zat]
   have lv:dq.length=ik.length:=ZaM oH;have cn:=s1.trans (s2.trans (s3.trans s4));clear pr bW oI s2 s3 s4 e3 hf hp qV;refine aY _ _ (ZB ⟨ZaJ _,fun M hM=>Zn ?_⟩);dsimp only[List.set];obtain⟨H5,zz,s5,e5⟩:=cU (o:=.lst []) hM;rw[zz];have nM:=cn.free hM;have EL:=s5 _ _ e4;have vL:Paired (nY H5) dq ik:=Paired.bh oH fun v q' hq=>Uj hq s5;refine bX _ _ ⟨_,rfl,r,rfl,⟨_,ak.of EL⟩,?_⟩;refine OZ (xs:=dq) (fun i σ H6=> ∃zs x3 x4 x5 x6,σ=[some (.ref a),some (.ref r),some (.ref M),x3,x4,x5,x6]/\av M H5 H6/\H6 M=some (.lst zs)/\Paired (gw H6) zs (qH ik i)/\zs.length<=i*144) ⟨_,_,_,_,_,rfl,fun _ _ h _=>h,e5,.nil,ZaJ _⟩
    (fun i σ H6 _ ⟨_,_,_,_,_,_,s6,_⟩=>ak.of (s6 _ _ EL fun z=>by rw[z]at e4;rw[e4]at hM;cases hM)) ?_ ?_
   ·rintro i v T σ H6 hv hT ⟨zs,x3,x4,x5,x6,rfl,s6,e6,fH,nF⟩;obtain⟨k,hk,t,t',rfl,ht,dw⟩:=YO vL hv;have hi:i<dq.length:=(Zai.mp hv).1;have nt:∀{q:Addr}{ws:List V},H5 q=some (.tup ws)->q≠M:=fun h z=>by rw[z,e5]at h;cases h
    have nr:r≠M:=fun z=>by rw[z]at e4;rw[e4]at hM;cases hM
    have sT:ae H6 (upd H6 T (.par [.int (i:Int),.ref t])):=fun e o hc=>by rw[Zh (Ze hc hT)];exact hc
    have eT:upd H6 T (.par [.int (i:Int),.ref t]) T=some (.par [.int (i:Int),.ref t]):=aj;generalize upd H6 T (HO.par [.int (i:Int),.ref t])=H7 at sT eT;have wx:=sT _ _ (s6 _ _ ht (nt ht));have e7:=sT _ _ e6;refine⟨T,_,rfl,ah.vO eT,rfl,_,_,rfl,Zn ?_⟩;dsimp only[List.set];refine⟨_,_,rfl,t,_,rfl,ah.of wx,rfl,_,_,rfl,Zn ?_⟩;dsimp only[List.set];refine⟨_,_,rfl,Zn ?_⟩;dsimp only[List.set];refine⟨_,_,rfl,Zn ?_⟩;dsimp only[List.set];refine⟨rfl,rfl,?_⟩;have er7:=sT _ _ (s6 _ _ EL nr);refine⟨_,rfl,.inl ⟨rfl,_,ak.of e7⟩,_,rfl,_,rfl,_,_,rfl,rfl,_,rfl,r,dq,rfl,ak.of er7,fun c hc=>?_⟩;have ec:dI dq (some ((i:Int)+1)) none=dq.drop (i+1):=U.S.kX hi;rw[ec];obtain⟨H8,zz,s8,e8⟩:=cU (o:=.lst (dq.drop (i+1))) hc;rw[zz];refine⟨c,rfl,⟨_,ak.of e8⟩,?_⟩;have jJ:=sT.trans s8;have zd:Paired (nY H8) (dq.drop (i+1)) (ik.drop (i+1)):=by
     have:∀(n:Nat) {vs:List V}{ks:List I4},Paired (nY H8) vs ks->Paired (nY H8) (vs.drop n) (ks.drop n):=fun n=>by
      induction n with
      |zero=>exact fun h=>h
      |succ n ih=>
       intro vs ks h;cases h with
       |nil=>exact .nil
       |cons _ h=>exact ih h
     exact this _ (Paired.bh vL fun v q' hq=>by obtain⟨t,t',e,h1,h2⟩:=hq;exact⟨t,t',e,jJ _ _ (s6 _ _ h1 (nt h1)),jJ _ _ (s6 _ _ h2 (nt h2))⟩)
    have wu:=jJ _ _ (s6 _ _ dw (nt dw));have el:=ZbS hk;have TH:(dq.drop (i+1)).length<=143:=by rw[Za5];lia
    have C4:=ZaM zd;generalize dq.drop (i+1)=ds at e8 zd TH C4;generalize ik.drop (i+1)=dk at zd el C4;refine Ye (xs:=ds) (fun j us ao H9=> ∃v,ao=[v,some (.int k.1),some (.int k.2.1),some (.ref t')]/\ae H8 H9/\Paired (gw H9) us (((dk.take j).filter (fk k)).map (qd k))/\us.length<=j) ⟨_,rfl,ae.refl _,.nil,ZaJ _⟩ (fun j us ao H9 _ ⟨_,_,s9,_⟩=>ak.of (s9 _ _ e8)) ?_ ?_
    ·rintro j u us ao H9 tR ⟨v0,rfl,s9,oG,Xq⟩;obtain⟨m,hm,tm,PQ,rfl,zL,gN⟩:=YO zd tR;have hj:j<ds.length:=(Zai.mp tR).1;refine Zn ?_;dsimp only[List.set];have et:dk.take (j+1)=dk.take j++[m]:=by rw[ZaO,hm];rfl
     have DK:=s9 _ _ zL;refine⟨_,rfl,tm,_,_,_,rfl,rfl,ah.of DK,rfl,_,rfl,PQ,t',[m.2.2.1,m.2.2.2],[k.2.2.1,k.2.2.2],rfl,rfl,ah.of (s9 _ _ gN),ah.of (s9 _ _ wu),_,rfl,?_⟩;show if fk k m=true then _ else _
     rw[et,Za4,ZaW];cases hs:fk k m with
     |true=>refine aq ⟨_,rfl,_,rfl,_,rfl,tm,_,_,_,rfl,rfl,ah.of DK,rfl,_,rfl,tm,_,_,_,rfl,rfl,ah.of DK,rfl,aK,fun t4 jr=>⟨by rw[ZaH];lia,?_⟩⟩;have bA:=Zf (o:=.tup [V.int k.1,V.int k.2.1,V.int m.1,V.int m.2.1]) jr;refine⟨_,rfl,s9.trans bA,?_,by rw[Zak];simp;omega⟩;simp only[List.filter_cons,hs,Zgx,List.filter_nil,Zbv,Zh7];exact Zc9 (Paired.bh oG fun v q' hq=>hq.same bA) ⟨t4,rfl,aj⟩
     |false=>refine ar ⟨_,rfl,s9,?_,.l⟩;simpa[hs] using oG
    ·rintro us ao H9 ⟨v0,rfl,s9,oG,Xq⟩ N hN;rw[C4,ZaV]at oG;obtain⟨dJ,zz,bA,Aj⟩:=cU (o:=.lst us) hN;rw[zz];have Cq:=jJ.trans (s9.trans bA);have eM:=Cq _ _ e6;refine⟨M,N,zs,us,rfl,rfl,eM,Aj,by rw[ZaH];lia,ZN ?_⟩;refine⟨_,_,_,_,_,rfl,fun b o h n=>by rw[Zh n];exact Cq _ _ (s6 b o h n),aj,?_,by rw[Zak];lia⟩;rw[el];exact Wl (Paired.bh fH fun v q' hq=>MG eM (hq.same Cq)) (Paired.bh oG fun v q' hq=>MG eM (hq.same bA))
   ·rintro σ H6 ⟨zs,x3,x4,x5,x6,rfl,s6,e6,fH,nF⟩;rw[lv,C8]at fH;have sA:ae H H6:=fun b o h=>s6 _ _ (s5 _ _ (cn b o h)) (fun z=>by rw[z,nM]at h;cases h);have lz:=ZaM fH;subst hS;refine eO _ _ ?_;exact⟨_,rfl,q M H6 zs _ sA nM e6 fH zH DA .l⟩
end U
namespace U.S
open PySem L2 PyProof.Rows
theorem AW (n:Nat):L2.upTo (n+1)=L2.upTo n++[.int (n:Int)]:=by unfold L2.upTo;rw[Zcw,ZaW];rfl
theorem mem_upTo {x:V}(h:x∈L2.upTo n):∃j:Nat,j<n/\x=.int (j:Int):=by unfold L2.upTo at h;obtain⟨j,hj,e⟩:=Za2.mp h;exact⟨j,Zbf.mp hj,e.symm⟩
theorem ZgU (ok:gU xs)(i:Nat)(r:Int):gU (xs.set i (.int r)):=fun x hx=>by
 rcases List.mem_or_eq_of_mem_set hx with h|h
 ·exact ok x h
 ·exact .inr ⟨r,h⟩
theorem Uf {i:Nat}(h:i<xs.length)(v:V):xs.take i++[v]++xs.drop (i+1)=xs.set i v:=by rw[ZhP,ZaQ h,ZaP];rfl
theorem Zfg (hg:Nat)(xs:List V)(i:Nat):(((L2.upTo hg).filter fun r=>!aZ r xs).filter fun r=>bH (xs.set i r))=(aQ hg xs i).map V.int:=by
 rw[List.filter_filter];unfold aQ L2.upTo;rw[List.filter_map,List.filter_map,Zdq];show List.map _ _=List.map (fun k:Nat=>V.int (k:Int)) _
 congr 1
 refine List.filter_congr fun k _=>?_;exact Bool.and_comm _ _
abbrev BZ:Stmt:=top 57
abbrev Td:List Str:=["_law_board","_law_lay_here","_law_line","_law_some"]
theorem Ht:bo Td im (aR BZ):=ZU .k
theorem Si (F:aO K "_law_free" "_law_free" BZ f fd)(G:Gs mg)(Gf:Def P w K mg base 2 "_law_unlike" ii u9):aJ P w K mg base aS 3 f fd im ki:=by
 refine F.ok Ht (fun vs H Q E h=>?_) (fun aw A outer s H vs Q E hr h=>?_)
 ·obtain⟨b,l,i,wd,hg,xs,rfl,_⟩:=h;rfl
 ·obtain⟨b,l,i,wd,hg,xs,rfl,bd,hl,ly,hx,q⟩:=h;refine⟨_,Zd (Y6 ["_law_row","_law_lay_here"] 1 [1] (i:=3) Ht.nd (Z3 rfl G.range (Za (ZR 0) Zb)) (fun C s H fp=>pb 0) (fun C s H fp=>Ys (Zp (show bf (aV _ _ _ C s H fp) (compareOp .NotIn) (vH K true) from YT) (pv 0) (pv 1))) (fun C s H fp D=>ZK rfl (pv 0)))
   (Zk (Zr (Z7 ["_law_row","_law_lay_here","_law_line"] 1 [1,2] (Yi (pv 3)) (fun C s H fp=>pb 0) (fun C s H fp=>Ys (Z1 (Zg Gf hr (Za (Zl (show bf (aV _ _ _ C s H fp) (binaryOp .Add) (fX K) from ZG) (Zl (show bf (aV _ _ _ C s H fp) (binaryOp .Add) (fX K) from ZG) (Zz (show pP (aV _ _ _ C s H fp) (tD K) from ZS) (pv 1) ZH (ZD (pv 2))) (Zj (Zv 0))) (Zz (show pP (aV _ _ _ C s H fp) (tD K) from ZS) (pv 1) (ZD (Zl (show bf (aV _ _ _ C s H fp) (binaryOp .Add) _ from Ya) (pv 2) Zc)) ZH)) Zb)))) (fun C s H fp D=>ZK rfl (pv 0))))),?_⟩
  try dsimp only[cw]
  refine jf ?_;intro jD cF aY;obtain⟨b',eb,hb⟩:=ZO bd.1;cases eb;obtain⟨_,w1,w2,g1,g2⟩:=id bd;have flat:=NU ly;refine(ZB ⟨_,rfl,b,_,_,_,rfl,rfl,ah.of hb,fQ,hg,rfl,.l,.l,?_⟩);refine YK (n:=hg.toNat) (fun j ys ao H'=>ys=(L2.upTo j).filter (fun r=>!aZ r xs)/\H'=H/\∃v,ao=[v,some (.ref l)]) ⟨rfl,rfl,none,rfl⟩ ?_ ?_
  ·rintro j ys ao H' hj ⟨rfl,rfl,v,rfl⟩;have eu:(L2.upTo (j+1)).filter (fun r=>!aZ r xs)=(L2.upTo j).filter (fun r=>!aZ r xs)++(if (!aZ (.int (0+(j:Int))) xs)=true then [V.int (0+(j:Int))] else []):=by rw[AW,Za4,Zc4];cases hh:(!aZ (.int (j:Int)) xs)<;>simp[hh]
   refine⟨_,rfl,_,rfl,l,xs,rfl,.inr (ah.of hl),rfl,flat,_,rfl,?_⟩;show if (!aZ (.int (0+(j:Int))) xs)=true then _ else _
   cases hh:(!aZ (.int (0+(j:Int))) xs) with
   |true=>
    rw[hh]at eu;refine aq ⟨_,rfl,?_,?_⟩
    ·have:=Zba (fun r=>!aZ r xs) (L2.upTo j);have e2:(L2.upTo j).length=j:=by unfold L2.upTo;simp
     rw[ZaH]
     lia
    ·exact⟨by rw[eu,ZaQ rfl],rfl,_,rfl⟩
   |false=>rw[hh]at eu;exact ar ⟨by rw[eu,ZaN Zam,Zbi],rfl,_,rfl⟩
  ·rintro ys ao H' ⟨rfl,rfl,v,rfl⟩ L hL;have fin:=Zfg hg.toNat xs i;have Ki:((L2.upTo hg.toNat).filter fun r=>!aZ r xs).length<=12:=by
    have:=Zba (fun r=>!aZ r xs) (L2.upTo hg.toNat);have e2:(L2.upTo hg.toNat).length=hg.toNat:=by unfold L2.upTo;simp
    lia
   have good:∀y∈(L2.upTo hg.toNat).filter (fun r=>!aZ r xs),∃j:Int,y=.int j:=fun y hy=>by obtain⟨j,_,e⟩:=mem_upTo (ZaL.mp hy).1;exact⟨_,e⟩
   generalize (L2.upTo hg.toNat).filter (fun r=>!aZ r xs)=ls at fin Ki good;obtain⟨H5,zz,sL,rC⟩:=cU (o:=.lst ls) hL;rw[zz];have hi:i<xs.length:=(Zai.mp hx).1;have wl:xs.length<=12:=by have:=ly.len;lia
   refine aY _ _ ?_;refine⟨_,rfl,L,rfl,⟨ls,ak.of rC⟩,?_⟩;refine Ye (xs:=ls) (fun j ys ao j7=>ys=(ls.take j).filter (fun r=>bH (xs.set i r))/\ae H5 j7/\∃v,ao=[v,some (.ref l),some (.int (i:Int))]) ⟨rfl,ae.refl _,none,rfl⟩ (fun j ys ao j7 _ ⟨_,s',_⟩=>ak.of (s' _ _ rC)) ?_ ?_
   ·rintro j y ys ao j7 hy ⟨rfl,s',v,rfl⟩;obtain⟨jj,ey⟩:=good y (Zao hy);have eu:(ls.take (j+1)).filter (fun r=>bH (xs.set i r))=(ls.take j).filter (fun r=>bH (xs.set i r))++(if bH (xs.set i y)=true then [y] else []):=by rw[ZaO,hy,Za4];cases hh:bH (xs.set i y)<;>simp[hh]
    have fM:=s' _ _ (sL _ _ hl);refine⟨_,rfl,_,rfl,_,rfl,l,xs,rfl,fM,fun c1 H7 s7 e7=>⟨_,rfl,aK,fun c2 eQ=>?_⟩⟩;rw[rN hi]at e7;have k2:=Zf (o:=.tup [y]) eQ;refine Yz (k2 _ _ e7) aj (by rw[ZaB];simp;lia) fun c3 H8 s8 e8=>?_;have tX:=s8 _ _ (k2 _ _ (s7 _ _ fM));refine⟨_,rfl,_,rfl,_,_,rfl,rfl,_,rfl,l,xs,rfl,tX,fun c4 H9 s9 e9=>?_⟩;rw[kX hi]at e9;refine Yz (s9 _ _ e8) e9 (by rw[Zak,ZaB,Za5];simp;omega) fun c5 dJ bA Aj=>?_;rw[Uf hi]at Aj;have sA:=s7.trans (k2.trans (s8.trans (s9.trans bA)));refine⟨c5,_,rfl,Aj,?_,by rw[Zgy];exact wl,fun n8 bV=>⟨_,rfl,?_⟩⟩
    ·rw[ey];exact ZgU ly.ok _ _
    rw[OD];cases hh:bH (xs.set i y) with
    |true=>
     rw[hh]at eu;refine aq ⟨_,rfl,?_,?_⟩
     ·have:=Zba (fun r=>bH (xs.set i r)) (ls.take j);have h2:=List.length_take_le j ls;rw[ZaH];have:=(Zai.mp hy).1
      lia
     ·exact⟨by rw[eu,ZaQ rfl],s'.trans (sA.trans bV),_,rfl⟩
    |false=>rw[hh]at eu;exact ar ⟨by rw[eu,ZaN Zam,Zbi],s'.trans (sA.trans bV),_,rfl⟩
   ·rintro ys ao j7 ⟨rfl,s',v,rfl⟩ p hp;rw[ZaV,fin]at *
    refine q p _ (sL.trans (s'.trans (Zf hp))) ?_ aj;cases e:H' p with
    |none=>rfl
    |some o=>rw[(sL.trans s') _ _ e]at hp;cases hp
theorem MQ {hg:Nat}(h:hg<=7)(o:Option V):(mD hg o).length<=7:=by
 unfold mD;split
 ·simp
 ·unfold qy;simp;exact h
theorem Og {hg:Nat}(h:hg<=7)(xs:List V):∀i,(df hg xs i).length<=7^i
 |0=>by simp[df]
 |i+1=>by
  have ih:=Og h xs i;unfold df;refine Zbb (OW _ 7 _ fun a _=>?_) ?_
  ·unfold oK;rw[Zat];exact Zbb (Zba _ _) (MQ h _)
  ·rw[Nat.pow_succ];exact Zfh _ ih
theorem Zfl {hg:Nat}(h:hg<=7)(xs:List V){i:Nat}(hi:i<=6):(df hg xs i).length<=117649:=
 Zbb (Og h xs i) (Zbb (Nat.pow_le_pow_right .d hi) .d)
inductive yN (vs:List V) (H:Hp) (Q:VK) (_E:XK):Prop
 |mk (b l:Addr) (wd hg:Int) (xs:List V) (c0:vs=[.ref b,.ref l]) (c1:bS H (.ref b) wd hg) (c2:H l=some (.tup xs)) (c3:bP wd hg xs) (c4:wd<=6) (c5:hg<=7) (c6:∀(q:Addr) (H':Hp) (ts:List V),ae H H'->H q=none->H' q=some (.lst ts)->Paired (iG H') ts (df hg.toNat xs xs.length)->Q (.ref q) H')
def uh (hg:Nat)(xs:List V)(i j:Nat):List (List V):=((df hg xs i).take j).flatMap (oK hg xs i)
theorem Zb6 (e:(df hg xs i)[j]?=some b):uh hg xs i (j+1)=uh hg xs i j++oK hg xs i b:=by unfold uh;rw[ZaO,e,Zfx];simp
theorem Zds (n:Nat):L2.upTo n=(qy n).map V.int:=by unfold L2.upTo qy;rw[Zdq];rfl
theorem MF (e:H L=some (.lst zs))(h:iG H v k):iG (upd H L o) v k:=by obtain⟨t,rfl,h1⟩:=h;refine⟨t,rfl,?_⟩;rw[Zh (fun z=>by rw[z,e]at h1;cases h1)];exact h1
abbrev B5:Stmt:=top 54
abbrev Te:List Str:=["_law_board","_law_lay_here","_law_found","_law_line","_law_longer","_law_begun","_law_some"]
theorem qu:bo Te rc (aR B5):=ZU .k
theorem Sj (F:aO K "_law_fits" "_law_fits" B5 f fd)(G:Gs mg)(Gf:Def P w K mg base 2 "_law_unlike" ii u9):aJ P w K mg base aS 3 f fd rc yN:=by
 refine F.ok qu (fun vs H Q E h=>?_) (fun aw A outer s H vs Q E hr h=>?_)
 ·obtain⟨b,l,wd,hg,xs,rfl,_⟩:=h;rfl
 ·obtain⟨b,l,wd,hg,xs,rfl,bd,hl,ly,w6,g7,q⟩:=h;refine⟨_,Zd (Zq (i:=2) qu.nd (ZC (Za (Zj Zb) Zb)))
   (Zd (YY Zb0 rfl (Z3 rfl G.range (Za (ZR 0) Zb)) (ZE (i:=3) qu.nd)
    (Zd (Zq (i:=4) qu.nd (ZC Zb))
    (Zd (YY Zb0 rfl (Yi (pv 2)) (ZE (i:=5) qu.nd)
     (Zd (Zq (i:=6) qu.nd (Jd (Jb (WU (ZV Yb (pv 1) (pv 3)))) (Yd Wi rfl G.list ZjA (Za (Yd Ua rfl G.range boot_range (Za (ZR 0) Zb)) Zb)) (ZC (Za (ZV Yb (pv 1) (pv 3)) Zb))))
     (Zk (YI (WA ZbV ZiZ Zi0 Ot (pv 4) (Za
      (Z7 ["_law_row","_law_begun"] 1 [5] (Yi (pv 6)) (fun C s H fp=>pb 0)
       (fun C s H fp=>Ys (PW.pt (Jt (Zp (show bf (aV _ _ _ C s H fp) (compareOp .NotIn) (vH K true) from YT) (pv 0) (pv 1)) (Y5 (Z1 (Zg Gf hr (Za (Zl (show bf (aV _ _ _ C s H fp) (binaryOp .Add) (fX K) from ZG) (pv 1) (Zj (Zv 0))) Zb)))))))
       (fun C s H fp D=>ZK rfl (Zl (show bf (aV _ _ _ C s H fp) (binaryOp .Add) (fX K) from ZG) (pv 1) (Zj (Zv 0))))) Zb))))))
    (Zk (Zq (i:=2) qu.nd (pv 4))))))
   (Zk (Zr (pv 2)))),?_⟩
  try dsimp only[cw]
  refine sy ?_;intro jD gK bX cF aY;obtain⟨b',eb,hb⟩:=ZO bd.1;cases eb;obtain⟨_,w1,_,g1,_⟩:=id bd;have eH:(hg.toNat:Int)=hg:=.l;have K9:hg.toNat<=7:=.l;have ll:=ly.len;refine(ZB ⟨ZaJ _,fun p hp=>⟨aK,fun L0 xl=>Zn ?_⟩⟩);dsimp only[List.set];have s1:=Yl (o:=.tup []) hp;have e1:upd H p (.tup []) p=some (.tup []):=aj;generalize upd H p (HO.tup [])=H1 at s1 e1 xl;obtain⟨H2,zz,s2,e2⟩:=cU (o:=.lst [.ref p]) xl;rw[zz];have dN:=s1.trans s2;have Tn:=s1.free xl;refine aY _ _ ⟨_,rfl,b,_,_,_,rfl,rfl,ah.of (dN _ _ hb),jE,wd,rfl,.l,.l,?_⟩;refine Y0 (n:=wd.toNat) (fun i σ H'=> ∃fa ts x3 x4 x5 x6,σ=[some (.ref b),some (.ref l),some (.ref fa),x3,x4,x5,x6]/\ae H H'/\H fa=none/\H' fa=some (.lst ts)/\Paired (iG H') ts (df hg.toNat xs i)) ⟨L0,_,_,_,_,_,rfl,dN,Tn,e2,.cons ⟨p,rfl,s2 _ _ e1⟩ .nil⟩ ?_ ?_
  ·rintro i σ H3 hi ⟨fa,ts,x3,x4,x5,x6,rfl,s3,CV,xx,bC⟩;rw[Zc4];refine Zn ?_;dsimp only[List.set];have gT:=Zfl K9 xs (i:=i) .l;have TJ:=ZaM bC;have gQ:i<xs.length:=.l;obtain⟨v,hv⟩:∃v,xs[i]?=some v:=⟨_,Zaj gQ⟩;refine ZX (ZB ⟨ZaJ _,fun L hL=>Zn ?_⟩);dsimp only[List.set];have sL:=Yl (o:=.lst []) hL;have eL:upd H3 L (.lst []) L=some (.lst []):=aj;have nLf:fa≠L:=Ze xx hL;have nL:=s3.free hL;generalize upd H3 L (HO.lst [])=H4 at sL eL;refine ZX ⟨_,rfl,fa,rfl,⟨ts,ak.of (sL _ _ xx)⟩,?_⟩;refine WJ (xs:=ts) (fun j σ H5=> ∃zs x5 x6,σ=[some (.ref b),some (.ref l),some (.ref fa),some (.int (i:Int)),some (.ref L),x5,x6]/\ae H3 H5/\H5 L=some (.lst zs)/\Paired (iG H5) zs (uh hg.toNat xs i j)/\zs.length<=j*7) ⟨_,_,_,rfl,sL,eL,.nil,ZaJ _⟩ (fun j σ H5 _ ⟨_,_,_,_,s5,_⟩=>ak.of (s5 _ _ xx)) ?_ ?_
   ·rintro j v' σ H5 ir ⟨zs,x5,x6,rfl,s5,pE,oH,oW⟩;obtain⟨fs,nI,t,rfl,ht⟩:=Paired.at bC ir;have hj:j<ts.length:=(Zai.mp ir).1;obtain⟨lfs,_,ks,eks⟩:=Uo hg.toNat xs i fs (Zao nI);have vF:gU fs:=fun x hx=>by rw[eks]at hx;obtain⟨k,_,rfl⟩:=Za2.mp hx;exact .inr ⟨k,rfl⟩
    have flat:fs.all iA=true:=ZaK.mpr fun x hx=>by rcases vF x hx with z|⟨j,z⟩<;>rw[z]<;>rfl
    have lU:=s5 _ _ ht;have zV:=(s3.trans s5) _ _ hb;have Kl:=(s3.trans s5) _ _ hl;refine Zn ?_;dsimp only[List.set];refine ZX (ZB (T.sv (t:=uU _ _ _) (fun v H'=> ∃S,v=.ref S/\ae H5 H'/\H5 S=none/\H' S=some (.lst ((mD hg.toNat xs[i]?).map V.int))) ?_ ?_))
    case refine_2=>
     intro Q' hq;refine⟨_,rfl,_,rfl,l,xs,(i:Int),v,rfl,rfl,ah.of Kl,ZJ hv,_,rfl,?_⟩;rcases ly.ok v (Zao hv) with rfl|⟨r,rfl⟩
     ·refine aq ⟨_,rfl,b,_,_,_,rfl,rfl,ah.of zV,fQ,hg,rfl,fun q1 eZ=>⟨q1,hg,rfl,aj,.l,.l,fun S hS=>hq _ _ ⟨S,rfl,(Yl eZ).trans (Yl hS),(Yl eZ).free hS,?_⟩⟩⟩;rw[aj,hv,Zds];rfl
     ·refine ar ⟨_,rfl,_,rfl,l,xs,(i:Int),_,rfl,rfl,ah.of Kl,ZJ hv,aK,fun S hS=>hq _ _ ⟨S,rfl,Yl hS,hS,?_⟩⟩;rw[aj,hv];rfl
    rintro v6 H6 ⟨S,rfl,s6,nS,eS⟩;refine Zn ?_;dsimp only[List.set];have yZ:=s5.trans s6;have nSL:S≠L:=fun z=>by rw[z,pE]at nS;cases nS
    have rL:=s6 _ _ pE;have VG:=s6 _ _ lU;have T4:=MQ K9 xs[i]?;have en:oK hg.toNat xs i fs=((mD hg.toNat xs[i]?).filter fun r=>!aZ (.int r) fs&&bH (fs++[.int r])).map fun r=>fs++[V.int r]:=rfl;have xp:=Zb6 nI;generalize mD hg.toNat xs[i]?=ask at eS T4 en;refine⟨_,rfl,.inl ⟨rfl,_,ak.of rL⟩,_,rfl,S,rfl,⟨_,ak.of eS⟩,?_⟩;refine Ye (xs:=ask.map V.int) (fun k us ao H7=> ∃v,ao=[v,some (.ref t)]/\ae H6 H7/\Paired (iG H7) us (((ask.take k).filter fun r=>!aZ (.int r) fs&&bH (fs++[.int r])).map fun r=>fs++[V.int r])/\us.length<=k) ⟨_,rfl,ae.refl _,.nil,ZaJ _⟩ (fun k us ao H7 _ ⟨_,_,s7,_⟩=>ak.of (s7 _ _ eS)) ?_ ?_
    ·rintro k u us ao H7 hu ⟨v0,rfl,s7,fH,nF⟩;rw[Zby]at hu;obtain⟨r,bt,rfl⟩:=Zbp.mp hu;have hk:k<ask.length:=(Zai.mp bt).1;refine Zn ?_;dsimp only[List.set];have wx:=s7 _ _ VG;have et:ask.take (k+1)=ask.take k++[r]:=by rw[ZaO,bt];rfl
     refine⟨_,rfl,_,rfl,t,fs,rfl,.inr (ah.of wx),rfl,flat,_,rfl,?_⟩;cases hn:aZ (.int r) fs with
     |true=>refine ar (ar ⟨_,rfl,s7,?_,.l⟩);rw[et,Za4,ZaW];simpa[hn] using fH
     |false=>
      refine aq ?_;refine⟨_,rfl,_,rfl,aK,fun t8 wu=>?_⟩;obtain⟨H8,zz,s8,e8⟩:=cU (o:=.tup [.int r]) wu;rw[zz];refine Yz (s8 _ _ wx) e8 (by simp;lia) fun t9 H9 s9 e9=>?_;refine⟨t9,_,rfl,e9,fun x hx=>?_,by rw[Zak];simp;lia,fun dJ bA=>⟨_,rfl,?_⟩⟩
      ·rcases Zay.mp hx with z|z
       ·exact vF x z
       ·exact .inr ⟨r,ZaE.mp z⟩
      rw[OD];have oB:=s8.trans (s9.trans bA);cases hu:bH (fs++[.int r]) with
      |true=>refine aq ⟨_,rfl,_,rfl,aK,fun iI Dx=>?_⟩;obtain⟨n8,zz,bV,e11⟩:=cU (o:=.tup [.int r]) Dx;rw[zz];refine Yz ((oB.trans bV) _ _ wx) e11 (by simp;omega) fun kh H12 da e12=>⟨by rw[ZaH];lia,_,rfl,s7.trans (oB.trans (bV.trans da)),?_,by rw[Zak];simp;omega⟩;rw[et,Za4,ZaW];simp only[List.filter_cons,hn,hu,ZiO,Bool.and_self,Zgx,List.filter_nil,Zbv,Zh7];exact Zc9 (Paired.bh fH fun v q' hq=>iG.same hq (oB.trans (bV.trans da))) ⟨kh,rfl,e12⟩
      |false=>refine ar ⟨_,rfl,s7.trans oB,?_,.o⟩;rw[et,Za4,ZaW];simpa[hn,hu] using Paired.bh fH fun v q' hq=>iG.same hq oB
    ·rintro us ao H7 ⟨v0,rfl,s7,fH,nF⟩ M hM;rw[Zat]at fH nF;rw[ZaV,<-en]at fH;obtain⟨H8,zz,sM,eM⟩:=cU (o:=.lst us) hM;rw[zz];have jJ:=s7.trans sM;have rK:=jJ _ _ rL;refine⟨L,M,zs,us,rfl,rfl,rK,eM,by rw[ZaH];lia,ZN ?_⟩;refine⟨_,_,_,rfl,WR (yZ.trans jJ) hL,aj,?_,by rw[Zak];lia⟩;rw[xp];exact Wl (Paired.bh oH fun v q' hq=>MF rK (iG.same hq (s6.trans jJ))) (Paired.bh fH fun v q' hq=>MF rK (iG.same hq sM))
   ·rintro σ H5 ⟨zs,x5,x6,rfl,s5,pE,oH,oW⟩;dsimp only;refine ZB ⟨_,rfl,Zn ?_⟩;dsimp only[List.set];refine⟨L,zs,_,_,_,_,rfl,s3.trans s5,nL,pE,?_⟩;have e:uh hg.toNat xs i ts.length=df hg.toNat xs (i+1):=by unfold uh;rw[TJ,ZaV];rfl
    rw[<-e];exact oH
  ·rintro σ H3 ⟨fa,ts,x3,x4,x5,x6,rfl,s3,CV,xx,bC⟩;rw[show wd.toNat=xs.length by lia]at bC;refine bX _ _ ?_;exact⟨_,rfl,q fa H3 ts s3 CV xx bC⟩
inductive Tg
 |af
 |bl (b:Bool)
 |int (i:Int)
 |str (s:Str)
 |tup (ts:List Tg)
 |lst (ts:List Tg)
def qr (v:V):Tg->Prop
 | .af=>v=.af
 | .bl b=>v=.bl b
 | .int i=>v=.int i
 | .str s=>v=.str s
 |_=>False
def aE (H:Hp):Nat->V->Tg->Prop
 |0,v,t=>qr v t
 |n+1,v,t=>match t with
  | .tup ts=> ∃p vs,v=.ref p/\H p=some (.tup vs)/\Paired (aE H n) vs ts/\vs.length<=1000
  | .lst ts=> ∃p vs,v=.ref p/\H p=some (.lst vs)/\Paired (aE H n) vs ts/\vs.length<=1000
  |t=>qr v t
theorem Yv :∀{n:Nat}{v:V}{t:Tg},qr v t->aE H n v t
 |0,_,_,h=>h
 |n+1,v,t,h=>by cases t<;>first|exact h|exact h.elim
inductive O2 (H:Hp) (n:Nat) (v:V) (t:Tg):Prop
 |af (e:v=.af) (et:t=.af)
 |bl (b:Bool) (e:v=.bl b) (et:t=.bl b)
 |int (i:Int) (e:v=.int i) (et:t=.int i)
 |str (s:Str) (e:v=.str s) (et:t=.str s)
 |tup (m:Nat) (p:Addr) (vs:List V) (ts:List Tg) (en:n=m+1) (e:v=.ref p) (et:t=.tup ts) (h:H p=some (.tup vs)) (pr:Paired (aE H m) vs ts) (z:vs.length<=1000)
 |lst (m:Nat) (p:Addr) (vs:List V) (ts:List Tg) (en:n=m+1) (e:v=.ref p) (et:t=.lst ts) (h:H p=some (.lst vs)) (pr:Paired (aE H m) vs ts) (z:vs.length<=1000)
theorem Zhr {n:Nat}{v:V} :∀{t:Tg},qr v t->O2 H n v t
 | .af,h=>.af h rfl
 | .bl b,h=>.bl b h rfl
 | .int i,h=>.int i h rfl
 | .str s,h=>.str s h rfl
 | .tup _,h=>h.elim
 | .lst _,h=>h.elim
theorem aE.c :∀{n:Nat}{v:V}{t:Tg},aE H n v t->O2 H n v t
 |0,_,_,h=>Zhr h
 |n+1,v,.tup ts,⟨p,vs,e,h,pr,z⟩=>.tup n p vs ts rfl e rfl h pr z
 |n+1,v,.lst ts,⟨p,vs,e,h,pr,z⟩=>.lst n p vs ts rfl e rfl h pr z
 |n+1,v,.af,h=>.af h rfl
 |n+1,v,.bl b,h=>.bl b h rfl
 |n+1,v,.int i,h=>.int i h rfl
 |n+1,v,.str s,h=>.str s h rfl
theorem aE.tup :∀{n:Nat}{v:V}{ts:List Tg},aE H n v (.tup ts)->∃m p vs,n=m+1/\v=.ref p/\H p=some (.tup vs)/\Paired (aE H m) vs ts/\vs.length<=1000
 |0,_,_,h=>h.elim
 |n+1,_,_,⟨p,vs,e,h,pr,z⟩=>⟨n,p,vs,rfl,e,h,pr,z⟩
theorem aE.map {B:Addr->Prop}(k1:∀p vs,B p->H p=some (.tup vs)->H' p=some (.tup vs))(k2:∀p vs,B p->H p=some (.lst vs)->H' p=some (.lst vs))(hB:∀p o,H p=some o->B p):∀{n:Nat}{v:V}{t:Tg},aE H n v t->aE H' n v t:=fun {n} =>by
 induction n with
 |zero=>intro v t h;exact h
 |succ n ih=>
  intro v t h;cases t with
  |tup ts=>obtain⟨p,vs,e,h1,pr,z⟩:=h;exact⟨p,vs,e,k1 _ _ (hB _ _ h1) h1,Paired.bh pr fun _ _ h=>ih h,z⟩
  |lst ts=>obtain⟨p,vs,e,h1,pr,z⟩:=h;exact⟨p,vs,e,k2 _ _ (hB _ _ h1) h1,Paired.bh pr fun _ _ h=>ih h,z⟩
  |_=>exact h
theorem aE.same (s:ae H H')(h:aE H n v t):aE H' n v t:=
 aE.map (B:=fun _=>True) (fun _ _ _ h=>s _ _ h) (fun _ _ _ h=>s _ _ h) (fun _ _ _=>trivial) h
def aE.up {H:Hp} :∀{n:Nat}{v:V}{t:Tg},aE H n v t->aE H (n+1) v t:=fun {n} =>by
 induction n with
 |zero=>intro v t h;exact Yv h
 |succ n ih=>
  intro v t h;cases t with
  |tup ts=>obtain⟨p,vs,e,h1,pr,z⟩:=h;exact⟨p,vs,e,h1,Paired.bh pr fun _ _ h=>ih h,z⟩
  |lst ts=>obtain⟨p,vs,e,h1,pr,z⟩:=h;exact⟨p,vs,e,h1,Paired.bh pr fun _ _ h=>ih h,z⟩
  |_=>exact h
theorem aE.le {n m:Nat}(h:aE H n v t)(le:n<=m):aE H m v t:=by
 induction le with
 |refl=>exact h
 |step _ ih=>exact aE.up ih
def dS (a b:Int):Tg->Bool
 | .int i=>decide (a<=i)&&decide (i<=b)
 |_=>false
def uO:Tg->Option (List Tg)
 | .tup ts=>some ts
 |_=>none
def G3:Tg->Bool
 | .str _=>true
 |_=>false
def xq (w:Str):Tg->Bool
 | .str s=>decide (s=w)
 |_=>false
theorem Au {K:Zke}{n:Nat}{v:V}{t:Tg}(h:aE H n v t):fG K H v:=by
 cases h.c with
 |af e=>subst e;exact⟨_,.af⟩
 |bl b e=>subst e;exact⟨_,.bl b⟩
 |int i e=>subst e;exact⟨_,.int i⟩
 |str z e=>subst e;exact⟨_,.str z⟩
 |tup m p vs ts en e et hp=>subst e;exact⟨_,.tup hp⟩
 |lst m p vs ts en e et hp=>subst e;exact⟨_,.lst hp⟩
theorem Fd {K:Zke}{n:Nat}{v:V}{t:Tg}(h:aE H n v t):∃T,fF K H v (.type T)/\PySem.W.kitOne K (.type T) (.type "tuple")=some (uO t).isSome/\PySem.W.kitOne K (.type T) (.type "str")=some (G3 t):=by
 cases h.c with
 |af e et=>subst e et;exact⟨_,.af,rfl,rfl⟩
 |bl b e et=>subst e et;exact⟨_,.bl b,rfl,rfl⟩
 |int i e et=>subst e et;exact⟨_,.int i,rfl,rfl⟩
 |str z e et=>subst e et;exact⟨_,.str z,rfl,rfl⟩
 |tup m p vs ts en e et hp=>subst e et;exact⟨_,.tup hp,rfl,rfl⟩
 |lst m p vs ts en e et hp=>subst e et;exact⟨_,.lst hp,rfl,rfl⟩
theorem NO (h:aE H n v t):bQ v a b=dS a b t:=by
 cases h.c with
 |af e et=>subst e et;rfl
 |bl b e et=>subst e et;rfl
 |int i e et=>subst e et;rfl
 |str z e et=>subst e et;rfl
 |tup m p vs ts en e et hp=>subst e et;rfl
 |lst m p vs ts en e et hp=>subst e et;rfl
theorem Ja :∀{n:Nat}{v:V}{i:Int},aE H n v (.int i)->v=.int i
 |0,_,_,h=>h
 |_+1,_,_,h=>h
theorem Az :∀{n:Nat}{v:V}{i:Str},aE H n v (.str i)->v=.str i
 |0,_,_,h=>h
 |_+1,_,_,h=>h
end U.S
namespace L2
open PySem PySem.Spec PyProof.Rows SeqAt
inductive RF (x:V) (y:V) (H:Hp) (Q:VK):Prop
 |mk (n:Nat) (t:U.S.Tg) (w:Str) (c0:y=.str w) (c1:U.S.aE H n x t) (c2:Q (.bl (U.S.xq w t)) H)
theorem ZgS (hu:X.A.units<cLine):bf X (compareOp .Eq) RF:=by
 intro pins s σ H x y v u Q I rx ry h;obtain⟨n,t,w,rfl,ht,q⟩:=h;obtain⟨tk,rfl⟩:=ry;have fin:∀b,b=U.S.xq w t->EP X pins σ Q (.bool b) s:=fun b e=>by subst e;exact⟨.bl _,H,I,rfl,q⟩
 cases ht.c with
 |af e et=>subst e et;cases rx;exact ZiR (fin _ rfl)
 |bl b e et=>subst e et;cases rx;exact ZiJ (fin _ rfl)
 |int i e et=>subst e et;obtain⟨t',rfl⟩:=rx;exact ZiS (fin _ rfl)
 |str z e et=>subst e et;obtain⟨t',rfl⟩:=rx;exact eq_str (fin _ (by unfold U.S.xq;rw[Zcc];simp))
 |tup m p vs ts en e et hp=>subst e et;cases rx;obtain⟨aa,rv,pl,_⟩:=I.tuple (ah.of hp);exact RcAt.tuple_str _ _ pl hu _ _ _ _ (fin _ rfl)
 |lst m p vs ts en e et hp=>subst e et;cases rx;obtain⟨aa,rv,pl,_⟩:=I.list (ak.of hp);exact RcAt.list_str _ _ pl.isList hu _ _ _ _ (fin _ rfl)
end L2
namespace U.S
open PySem L2 PyProof.Rows
def dh (xs:List V)(i:Int):Bool:=decide (0<=i)&&decide (i<=(xs.length:Int)-1)&&decide (xs[i.toNat]?=some .af)
def lh (xs:List V):Tg->Bool
 | .int i=>dh xs i
 |_=>false
theorem MT {i:Int}(h:dh xs i=true):0<=i/\xs[i.toNat]?=some .af:=by unfold dh at h;simp only[Zap,ZaF]at h;exact⟨h.1.1,h.2⟩
theorem Wr (h:dS a b t=true):∃i,t=.int i/\a<=i/\i<=b:=by
 cases t with
 |int i=>have h':(decide (a<=i)&&decide (i<=b))=true:=h;rw[Zap,ZaF,ZaF]at h';exact⟨i,rfl,h'⟩
 |_=>cases h
def iV (w:Str):List Tg->Bool
 |h::_=>xq w h
 | []=>false
def fe (w:Str)(n:Nat):Tg->Bool
 | .tup ts=>decide (ts.length=n)&&iV w ts
 |_=>false
abbrev B6:Stmt:=top 26
inductive yK (K:Zke) (vs:List V) (H:Hp) (Q:VK) (_E:XK):Prop
 |mk (l:Addr) (x:V) (xs:List V) (c0:vs=[.ref l,x]) (c1:H l=some (.tup xs)) (c2:fG K H x) (c3:Q (.bl (bQ x 0 ((xs.length:Int)-1))) H)
theorem QX:bo io io (aR B6):=ZU .k
theorem Sl (F:aO K "is_line" "is_line" B6 f fd)(G:Gs mg)(D1:Def P w K mg base 2 "is_whole_within" nw (uY K)):aJ P w K mg base aS 3 f fd io (yK K):=by
 refine F.ok QX (fun vs H Q E h=>?_) (fun aw A outer s H vs Q E hr h=>?_)
 ·obtain⟨l,x,xs,rfl,_⟩:=h;rfl
 ·obtain⟨l,x,xs,rfl,hl,t,q⟩:=h;refine⟨_,Zk (Zr (Zg D1 hr (Za (pv 1) (Za Zc (Za (Zl Yx (Zm Zx rfl G.len ZcY (Zv 0)) Zc) Zb))))),?_⟩;exact⟨_,rfl,_,rfl,l,xs,rfl,.inr (ah.of hl),_,_,rfl,rfl,x,0,_,rfl,t,q⟩
abbrev B8:Stmt:=top 27
inductive vc (vs:List V) (H:Hp) (Q:VK) (_E:XK):Prop
 |mk (l:Addr) (x:V) (n:Nat) (t:Tg) (xs:List V) (c0:vs=[.ref l,x]) (c1:H l=some (.tup xs)) (c2:aE H n x t) (c3:Q (.bl (lh xs t)) H)
theorem QZ:bo io io (aR B8):=ZU .k
theorem Sn (F:aO K "is_bare_line" "is_bare_line" B8 f fd)(D1:Def P w K mg base 3 "is_line" io (yK K)):aJ P w K mg base aS 4 f fd io vc:=by
 refine F.ok QZ (fun vs H Q E h=>?_) (fun aw A outer s H vs Q E hr h=>?_)
 ·obtain⟨l,x,n,t,xs,rfl,_⟩:=h;rfl
 ·obtain⟨l,x,n,t,xs,rfl,hl,hx,q⟩:=h;refine⟨_,Zk (Zr (Yw (Zg D1 hr (Za (pv 0) (Zv 1))) (YJ (AD (WU (ZV Yb (pv 0) (pv 1))))))),?_⟩;refine⟨_,rfl,_,rfl,l,x,xs,rfl,hl,Au hx,_,rfl,?_⟩;rw[NO hx];cases h:dS 0 ((xs.length:Int)-1) t with
  |false=>
   have e:lh xs t=false:=by
    cases t with
    |int i=>have h':(decide (0<=i)&&decide (i<=(xs.length:Int)-1))=false:=h;show dh xs i=false;unfold dh;rw[h'];rfl
    |_=>rfl
   rw[e]at q;exact ar q
  |true=>obtain⟨i,rfl,h0,h1⟩:=Wr h;have ex:=Ja hx;subst ex;have e:lh xs (.int i)=(decide (0<=i)&&decide (i<=(xs.length:Int)-1)&&decide (xs[i.toNat]?=some .af)):=rfl;rw[e,Zau h0,Zau h1]at q;have hi:i.toNat<xs.length:=.o;have ff:=ZJ (Zaj hi);rw[ZbG h0]at ff;refine aq ⟨_,rfl,_,rfl,l,_,_,_,rfl,rfl,ah.of hl,ff,?_⟩;rw[Zaj hi,show decide (some xs[i.toNat]=some V.af)=decide (xs[i.toNat]=V.af) from Zdl.mpr ⟨Za3,fun h=>ZbT _ h⟩,Zbo]at q;exact q
abbrev B7:Stmt:=top 38
inductive sP (vs:List V) (H:Hp) (Q:VK) (_E:XK):Prop
 |mk (v:V) (m:Nat) (t:Tg) (w':Str) (n:Nat) (c0:vs=[v,.str w',.int (n:Int)]) (c1:1<=n) (c2:aE H m v t) (c3:Q (.bl (fe w' n t)) H)
theorem QY:bo mo mo (aR B7):=ZU .k
theorem Sm (F:aO K "is_headed" "is_headed" B7 f fd)(D1:Def P w K mg base 1 "is_tuple_of" ss (p8 K)):aJ P w K mg base aS 2 f fd mo sP:=by
 refine F.ok QY (fun vs H Q E h=>?_) (fun aw A outer s H vs Q E hr h=>?_)
 ·obtain⟨v,m,t,w',n,rfl,_⟩:=h;rfl
 ·obtain⟨v,m,t,w',n,rfl,n1,ht,q⟩:=h;have hu:=hr.mO;refine⟨_,Zk (Zr (Yw (Zg D1 (hr.mono .d) (Za (pv 0) (Zv 2))) (YJ (YA (ZgS hu) (ZR 0) (pv 1) (iO _))))),?_⟩;refine⟨_,rfl,_,rfl,v,n,rfl,Au ht,_,rfl,?_⟩;cases ht.c with
  |tup m' p vs ts en e et h pr z=>
   subst en e et;have e2:fe w' n (.tup ts)=(decide (ts.length=n)&&iV w' ts):=rfl;rw[e2]at q;rw[ZL h];show(if decide ((vs.length:Int)=(n:Int))=true then _ else _);have hl:=ZaM pr;by_cases hn:ts.length=n
   ·rw[Zau hn,Zbo]at q;rw[Zau (by rw[hl,hn])];cases pr with
    |nil=>simp at hn;omega
    | @cons a _ r _ h1 h2=>exact aq ⟨_,rfl,p,_,_,_,rfl,rfl,ah.of h,ZJ (show(a::r)[0]?=some a from rfl),_,rfl,m',_,w',rfl,h1,q⟩
   ·rw[Zax hn,Zbd]at q;rw[Zax (fun z=>hn (by rw[<-hl];exact Int.ofNat.inj z))];exact ar q
  |af e et=>subst e et;exact ar q
  |bl b e et=>subst e et;exact ar q
  |int i e et=>subst e et;exact ar q
  |str z e et=>subst e et;exact ar q
  |lst m p vs ts en e et h=>subst e et;rw[ZM,h];exact ar q
def bM (xs:List V)(i:Int):Int:=match xs[i.toNat]? with|some (.int r)=>r|_=>0
def gG (xs:List V)(i:Int):Bool:=bQ (.int i) 0 ((xs.length:Int)-1)&& !decide (xs[i.toNat]?=some .af)
def lO (xs:List V)(a b c d:Int):Bool:=[a,b,c,d].all (gG xs)&&((decide (a<b)&&(decide (c<d)&&HT.lexLt [a,b] [c,d]))&&decide ([b-a,bM xs b-bM xs a]=[d-c,bM xs d-bM xs c]))
theorem m9 (ok:gU xs){i:Int}(h:gG xs i=true):0<=i/\i.toNat<xs.length/\dj xs i=some (.int (bM xs i)):=by
 unfold gG at h;rw[Zap]at h;obtain⟨h1,h2⟩:=h;have hw:(decide (0<=i)&&decide (i<=(xs.length:Int)-1))=true:=h1;rw[Zap,ZaF,ZaF]at hw;have hi:i.toNat<xs.length:=.o;refine⟨hw.1,hi,?_⟩;have ff:=ZJ (Zaj hi);rw[ZbG hw.1]at ff;rw[ff];unfold bM;rw[Zaj hi]at h2 |-;rcases ok _ (ZbA hi) with e|⟨r,e⟩
 ·rw[e]at h2;simp at h2
 ·rw[e]
def eG (xs:List V):Tg->Bool
 | .int i=>gG xs i
 |_=>false
def tK (xs:List V):List Tg->Bool
 | [.int a,.int b,.int c,.int d]=>lO xs a b c d
 |_=>false
def Iq (xs:List V):Tg->Bool
 | .tup ts=>(ts.drop 1).all (eG xs)&&tK xs (ts.drop 1)
 |_=>false
def gJ (xs:List V)(t:Tg):Bool:=fe "like" 5 t&&Iq xs t
theorem Ov (h:dS 0 ((xs.length:Int)-1) t=false):eG xs t=false:=by
 cases t with
 |int i=>have h':bQ (.int i) 0 ((xs.length:Int)-1)=false:=h;show gG xs i=false;unfold gG;rw[h'];rfl
 |_=>rfl
theorem AE (h:eG xs t=true):∃i,t=.int i/\gG xs i=true:=by
 cases t with
 |int i=>exact⟨i,rfl,h⟩
 |_=>cases h
theorem RV {xs:List α}{ys:List β}(h:Paired R xs ys)(e:ys.length=5):∃x0 x1 x2 x3 x4 y0 y1 y2 y3 y4,xs=[x0,x1,x2,x3,x4]/\ys=[y0,y1,y2,y3,y4]/\R x0 y0/\R x1 y1/\R x2 y2/\R x3 y3/\R x4 y4:=by
 match ys,e with
 | [_,_,_,_,_],_=>cases h with|cons h0 h=>cases h with|cons h1 h=>cases h with|cons h2 h=>cases h with|cons h3 h=>cases h with|cons h4 h=>cases h;exact⟨_,_,_,_,_,_,_,_,_,_,rfl,rfl,h0,h1,h2,h3,h4⟩
abbrev BY:Stmt:=top 39
inductive yJ (vs:List V) (H:Hp) (Q:VK) (_E:XK):Prop
 |mk (l:Addr) (v:V) (n:Nat) (tr:Tg) (xs:List V) (c0:vs=[.ref l,v]) (c1:H l=some (.tup xs)) (c2:gU xs) (c3:aE H n v tr) (c4:∀H',ae H H'->Q (.bl (gJ xs tr)) H')
abbrev Tc:List Str:=["lay","thing","line","other","here","there","rises"]
theorem sY:bo Tc io (aR BY):=ZU .k
theorem Sg (F:aO K "is_like_paper" "is_like_paper" BY f fd)(G:Gs mg)(Dil:Def P w K mg base 3 "is_line" io (yK K))(pU:Def P w K mg base 2 "is_headed" mo sP):aJ P w K mg base aS 4 f fd io yJ:=by
 refine F.ok sY (fun vs H Q E h=>?_) (fun aw A outer s H vs Q E hr h=>?_)
 ·obtain⟨l,v,n,tr,xs,rfl,_⟩:=h;rfl
 ·obtain⟨l,v,n,tr,xs,rfl,hl,ok,iR,q⟩:=h;have hu:=hr.mO;refine⟨_,Zd (ZP (Yh (Z1 (Zg pU (hr.mono .d) (Za (pv 1) (Za ZA (Za Zc Zb)))))) (Zk (Zr YC)) Zs)
   (Zd (ZP (Yh (Z1 (Zm JQ rfl G.all boot_all (Za (Z7 ["line","lay"] 1 [0] (Wk (Zz ZS (pv 1) (ZD Zc) ZH)) (fun C s H fp=>pb 0) (fun C s H fp=>Ym)
    (fun C s H fp D=>ZK rfl (Yw (Zg Dil hr (Za (pv 1) (Zv 0))) (YJ (AD (Ji (ZV (show j6 (aV _ _ _ C s H fp) (gF K) from Yb) (pv 1) (pv 0)))))))) Zb)))) (Zk (Zr YC)) Zs)
   (Zd (Ju (Zz ZS (pv 1) (ZD Zc) ZH) (Yk rfl (Zo (ZE (i:=2) sY.nd) (Zo (ZE (i:=3) sY.nd) (Zo (ZE (i:=4) sY.nd) (Zo (ZE (i:=5) sY.nd) Z4))))))
   (Zd (Zq (i:=6) sY.nd (Yw (YA W6 (pv 2) (pv 3) (iO _)) (Yw (YA W6 (pv 4) (pv 5) (iO _)) (YJ (YA (ZgR hu) (Zj (Za (pv 2) (Zv 3))) (Zj (Za (pv 4) (Zv 5))) (iO _))))))
   (Zk (Zr (Yw (pv 6) (YJ (YA (FH hu) (Zj (Za (Zl Yx (pv 3) (pv 2)) (Za (Zl Yx (ZV Yb (pv 0) (pv 3)) (ZV Yb (pv 0) (pv 2))) Zb)))
    (Zj (Za (Zl Yx (pv 5) (pv 4)) (Za (Zl Yx (ZV Yb (pv 0) (pv 5)) (ZV Yb (pv 0) (pv 4))) Zb))) (iO _))))))))),?_⟩
  try dsimp only[cw]
  refine A8 ?_;intro jD nk fo lP eO gK bX cF aY;refine⟨_,rfl,v,n,tr, "like",5,rfl,.d,iR,_,rfl,?_⟩;have eL:gJ xs tr=(fe "like" 5 tr&&Iq xs tr):=rfl;cases hd:fe "like" 5 tr with
  |false=>rw[hd,Zbd]at eL;rw[eL]at q;exact aq (q _ (ae.refl _))
  |true=>
   rw[hd,Zbo]at eL;refine ar (ZN ?_);dsimp only;obtain⟨ts,rfl⟩:∃ts,tr=.tup ts:=by cases tr<;>first|exact⟨_,rfl⟩|cases hd
   obtain⟨m,t,vs,en,ev,dw,pr,_⟩:=iR.tup;subst ev;have hlen:ts.length=5:=by have uc:(decide (ts.length=5)&&iV "like" ts)=true:=hd;rw[Zap,ZaF]at uc;exact uc.1
   obtain⟨x0,x1,x2,x3,x4,y0,y1,y2,y3,y4,rfl,rfl,r0,r1,r2,r3,r4⟩:=RV pr hlen;have eL':gJ xs (.tup [y0,y1,y2,y3,y4])=([y1,y2,y3,y4].all (eG xs)&&tK xs [y1,y2,y3,y4]):=eL;refine aY _ _ ⟨_,rfl,_,rfl,t,_,rfl,dw,fun u H1 s1 e1=>⟨u,rfl,⟨_,ah.of e1⟩,?_⟩⟩;have mq:H1 u=some (.tup [x1,x2,x3,x4]):=e1;have iz:=s1 _ _ hl;have wz:=s1 _ _ dw;have RM:Paired (aE H1 m) [x1,x2,x3,x4] [y1,y2,y3,y4]:=.cons (r1.same s1) (.cons (r2.same s1) (.cons (r3.same s1) (.cons (r4.same s1) .nil)));refine Je (xs:=[x1,x2,x3,x4]) (fun i ys σ H2=>ys=([y1,y2,y3,y4].take i).map (fun y=>V.bl (eG xs y))/\H2=H1/\∃v,σ=[v,some (.ref l)]) ⟨rfl,rfl,none,rfl⟩ (fun i ys σ H2 _ ⟨_,e2,_⟩=>by rw[e2];exact ah.of mq) ?_ ?_
   ·rintro i y ys σ H2 hy ⟨rfl,rfl,v,rfl⟩;obtain⟨yi,jQ,ry⟩:=YO RM hy;have hlen:(List.map (fun y=>V.bl (eG xs y)) (List.take i [y1,y2,y3,y4])).length<sizeLine:=by rw[Zat,ZaH,ZaB];have:[y1,y2,y3,y4].length=4:=rfl;omega
    have Ka:∀bb,bb=eG xs yi->List.map (fun y=>V.bl (eG xs y)) (List.take i [y1,y2,y3,y4])++[V.bl bb]=List.map (fun y=>V.bl (eG xs y)) (List.take (i+1) [y1,y2,y3,y4]):=fun bb e=>by rw[ZaO,jQ,ZaW,e];rfl
    refine⟨_,rfl,_,rfl,l,y,xs,rfl,iz,Au ry,_,rfl,?_⟩;rw[NO ry];cases qP:dS 0 ((xs.length:Int)-1) yi with
    |false=>exact ar ⟨hlen,Ka _ (Ov qP).symm,rfl,_,rfl⟩
    |true=>obtain⟨i',rfl,h0,h1⟩:=Wr qP;have:=Ja ry;subst this;have hi:i'.toNat<xs.length:=.o;have ff:=ZJ (Zaj hi);rw[ZbG h0]at ff;refine aq ⟨_,rfl,_,rfl,l,_,_,_,rfl,rfl,ah.of iz,ff,hlen,Ka _ ?_,rfl,_,rfl⟩;have Dt:bQ (.int i') 0 ((xs.length:Int)-1)=true:=qP;show _=gG xs i';unfold gG;rw[Dt,Zaj hi,Zbo];exact ZbT _ (Zdl.mpr ⟨fun h=>ZbT _ h,Za3⟩)
   ·rintro ys σ H2 ⟨rfl,rfl,v,rfl⟩ p hp;have s2:ae H2 (upd H2 p (.lst (List.map (fun y=>V.bl (eG xs y)) (List.take [x1,x2,x3,x4].length [y1,y2,y3,y4])))):=Zf hp;refine⟨p,[y1,y2,y3,y4].map (eG xs),rfl,ak.of aj,_,rfl,?_⟩;have eA:([y1,y2,y3,y4].map (eG xs)).all id=[y1,y2,y3,y4].all (eG xs):=.s;rw[eA];generalize upd H2 p (HO.lst (List.map (fun y=>V.bl (eG xs y)) (List.take [x1,x2,x3,x4].length [y1,y2,y3,y4])))=H3 at s2;have s3:=s1.trans s2;rw[eL']at q;cases dc:[y1,y2,y3,y4].all (eG xs) with
    |false=>rw[dc]at q;exact aq (q _ s3)
    |true=>
     refine ar (ZN ?_);dsimp only;have pA:=ZaK.mp dc;obtain⟨a,rfl,pa⟩:=AE (pA y1 .s);obtain⟨b,rfl,pb⟩:=AE (pA y2 .s);obtain⟨c,rfl,pc⟩:=AE (pA y3 .s);obtain⟨d,rfl,pd⟩:=AE (pA y4 .s);have v1:=Ja r1;have v2:=Ja r2;have v3:=Ja r3;have v4:=Ja r4;subst v1 v2 v3 v4;rw[dc,Zbo]at q;replace q:∀H',ae H H'->Q (.bl (lO xs a b c d)) H':=q;have dc:[a,b,c,d].all (gG xs)=true:=by simp[pa,pb,pc,pd]
     have pB:∀y∈[a,b,c,d],gG xs y=true:=ZaK.mp dc;obtain⟨_,_,aA⟩:=m9 ok (pB a .s);obtain⟨_,_,aB⟩:=m9 ok (pB b .s);obtain⟨_,_,aC⟩:=m9 ok (pB c .s);obtain⟨_,_,aD⟩:=m9 ok (pB d .s);refine bX _ _ (ZB ⟨_,rfl,_,rfl,t,_,rfl,s2 _ _ wz,fun v2 H4 s4 e4=>?_⟩);have Ah:H4 v2=some (.tup [V.int a,V.int b,V.int c,V.int d]):=e4;refine⟨v2,_,rfl,ah.of Ah,rfl,_,_,rfl,_,_,rfl,_,_,rfl,_,_,rfl,rfl,?_⟩;dsimp only[List.set];have gO:=s4 _ _ (s2 _ _ iz);refine eO _ _ (ZB (T.sv (t:=Ba _ _) (fun v H'=>v=.bl (decide (a<b)&&(decide (c<d)&&HT.lexLt [a,b] [c,d]))/\ae H4 H') ?_ ?_))
     case refine_2=>
      intro Q' hq;refine⟨_,rfl,_,rfl,_,_,rfl,rfl,_,rfl,?_⟩;cases h1:decide (a<b) with
      |false=>exact ar (hq _ _ ⟨by rw[h1];rfl,ae.refl _⟩)
      |true=>
       refine aq ⟨_,rfl,_,rfl,_,_,rfl,rfl,_,rfl,?_⟩;cases h2:decide (c<d) with
       |false=>exact ar (hq _ _ ⟨by rw[h1,h2];rfl,ae.refl _⟩)
       |true=>refine aq ⟨_,rfl,_,rfl,aK,fun p1 gM=>⟨_,rfl,_,rfl,aK,fun p2 dQ=>?_⟩⟩;have k1:=Zf (o:=.tup [V.int a,V.int b]) gM;have k2:=Zf (o:=.tup [V.int c,V.int d]) dQ;exact⟨p1,p2,[a,b],[c,d],rfl,rfl,ah.of (k2 _ _ aj),ah.of aj,hq _ _ ⟨by rw[h1,h2];rfl,k1.trans k2⟩⟩
     rintro v5 H5 ⟨rfl,s5⟩;refine Zn ?_;dsimp only[List.set];have oW:=s5 _ _ gO;have tw:=s3.trans (s4.trans s5);have eq:lO xs a b c d=((decide (a<b)&&(decide (c<d)&&HT.lexLt [a,b] [c,d]))&&decide ([b-a,bM xs b-bM xs a]=[d-c,bM xs d-bM xs c])):=by unfold lO;rw[dc,Zbo]
     rw[eq]at q;refine fo _ _ ?_;refine⟨_,rfl,_,rfl,?_⟩;cases hR:(decide (a<b)&&(decide (c<d)&&HT.lexLt [a,b] [c,d])) with
     |false=>rw[hR]at q;exact ar (q _ tw)
     |true=>rw[hR,Zbo]at q;refine aq ⟨_,rfl,_,rfl,_,_,rfl,rfl,_,rfl,_,rfl,l,_,_,_,rfl,rfl,ah.of oW,aB,_,rfl,_,rfl,l,_,_,_,rfl,rfl,ah.of oW,aA,_,_,rfl,rfl,aK,fun p1 gM=>?_⟩;have k1:=Zf (o:=.tup [V.int (b-a),V.int (bM xs b-bM xs a)]) gM;have fM:=k1 _ _ oW;refine⟨_,rfl,_,rfl,_,_,rfl,rfl,_,rfl,_,rfl,l,_,_,_,rfl,rfl,ah.of fM,aD,_,rfl,_,rfl,l,_,_,_,rfl,rfl,ah.of fM,aC,_,_,rfl,rfl,aK,fun p2 dQ=>?_⟩;have k2:=Zf (o:=.tup [V.int (d-c),V.int (bM xs d-bM xs c)]) dQ;exact⟨p1,p2,[b-a,bM xs b-bM xs a],[d-c,bM xs d-bM xs c],rfl,rfl,ah.of (k2 _ _ aj),ah.of aj,q _ (tw.trans (k1.trans k2))⟩
def om (hg:Int)(xs:List V):Tg->Bool
 | .tup [_,.int i]=>dh xs i&&decide (aQ hg.toNat xs i.toNat=[])
 |_=>false
def g9 (hg:Int)(xs:List V)(t:Tg):Bool:=fe "shut" 2 t&&om hg xs t
theorem NM {h x:Tg}(b:lh xs x=false):om hg xs (.tup [h,x])=false:=by
 cases x with
 |int i=>have b':dh xs i=false:=b;show(dh xs i&&_)=false;rw[b'];rfl
 |_=>rfl
theorem Nf (h:lh xs t=true):∃i,t=.int i/\dh xs i=true:=by
 cases t with
 |int i=>exact⟨i,rfl,h⟩
 |_=>cases h
theorem Fx {w:Str}(h:fe w n t=true):∃ts,t=.tup ts/\ts.length=n/\iV w ts=true:=by
 cases t with
 |tup ts=>have h':(decide (ts.length=n)&&iV w ts)=true:=h;rw[Zap,ZaF]at h';exact⟨ts,rfl,h'⟩
 |_=>cases h
theorem RW {xs:List α}{ys:List β}(h:Paired R xs ys)(e:ys.length=2):∃x0 x1 y0 y1,xs=[x0,x1]/\ys=[y0,y1]/\R x0 y0/\R x1 y1:=by
 match ys,e with
 | [_,_],_=>cases h with|cons h0 h=>cases h with|cons h1 h=>cases h;exact⟨_,_,_,_,rfl,rfl,h0,h1⟩
theorem CI {xs:List α}{ys:List β}(h:Paired R xs ys)(e:ys.length=3):∃x0 x1 x2 y0 y1 y2,xs=[x0,x1,x2]/\ys=[y0,y1,y2]/\R x0 y0/\R x1 y1/\R x2 y2:=by
 match ys,e with
 | [_,_,_],_=>cases h with|cons h0 h=>cases h with|cons h1 h=>cases h with|cons h2 h=>cases h;exact⟨_,_,_,_,_,_,rfl,rfl,h0,h1,h2⟩
abbrev BO:Stmt:=top 40
inductive yF (vs:List V) (H:Hp) (Q:VK) (_E:XK):Prop
 |mk (b l:Addr) (v:V) (n:Nat) (tr:Tg) (wd hg:Int) (xs:List V) (c0:vs=[.ref b,.ref l,v]) (c1:bS H (.ref b) wd hg) (c2:H l=some (.tup xs)) (c3:bP wd hg xs) (c4:aE H n v tr) (c5:∀H',ae H H'->Q (.bl (g9 hg xs tr)) H')
abbrev S7:List Str:=al
theorem QU:bo S7 al (aR BO):=ZU .k
theorem Sb (F:aO K "is_shut_paper" "is_shut_paper" BO f fd)(uH:Def P w K mg base 4 "is_bare_line" io vc)(pU:Def P w K mg base 2 "is_headed" mo sP)(gA:Def P w K mg base 12 "free_rows" on ki):aJ P w K mg base aS 13 f fd al yF:=by
 refine F.ok QU (fun vs H Q E h=>?_) (fun aw A outer s H vs Q E hr h=>?_)
 ·obtain⟨b,l,v,n,tr,wd,hg,xs,rfl,_⟩:=h;rfl
 ·obtain⟨b,l,v,n,tr,wd,hg,xs,rfl,bd,hl,ly,iR,q⟩:=h;have hu:=hr.mO;refine⟨_,Zk (Zr (Yw (Zg pU (hr.mono .d) (Za (pv 2) (Za ZA (Za Zc Zb)))) (Yw (Zg uH (hr.mono .d) (Za (pv 1) (Za (ZR 2) Zb)))
   (YJ (YA (WX hu) (Zg gA hr (Za (pv 0) (Za (pv 1) (Za (ZR 2) Zb)))) (ZC Zb) (iO _)))))),?_⟩
  refine⟨_,rfl,v,n,tr, "shut",2,rfl,.d,iR,_,rfl,?_⟩;have eL:g9 hg xs tr=(fe "shut" 2 tr&&om hg xs tr):=rfl;cases hd:fe "shut" 2 tr with
  |false=>rw[hd,Zbd]at eL;rw[eL]at q;exact ar (q _ (ae.refl _))
  |true=>
   rw[hd,Zbo]at eL;obtain⟨ts,rfl,hlen,_⟩:=Fx hd;obtain⟨m,t,vs,en,ev,dw,pr,_⟩:=iR.tup;subst ev;obtain⟨x0,x1,y0,y1,rfl,rfl,r0,r1⟩:=RW pr hlen;refine aq ⟨_,rfl,_,rfl,t,_,_,_,rfl,rfl,ah.of dw,ZJ (show([x0,x1]:List V)[1]?=some x1 from rfl),l,x1,m,y1,xs,rfl,hl,r1,_,rfl,?_⟩;cases hb:lh xs y1 with
   |false=>rw[eL,NM hb]at q;exact ar (q _ (ae.refl _))
   |true=>
    obtain⟨i,rfl,cj⟩:=Nf hb;have v1:=Ja r1;subst v1;have eS:om hg xs (.tup [y0,.int i])=(dh xs i&&decide (aQ hg.toNat xs i.toNat=[])):=rfl;rw[eL,eS,cj,Zbo]at q;obtain⟨i0,hx⟩:=MT cj;have ei:((i.toNat:Nat):Int)=i:=ZbG i0;refine aq ⟨_,rfl,_,rfl,_,rfl,t,_,_,_,rfl,rfl,ah.of dw,ZJ (show([x0,V.int i]:List V)[1]?=some (V.int i) from rfl),b,l,i.toNat,wd,hg,xs,(by rw[ei];rfl),bd,hl,ly,hx,fun v H1 s1 nv e1=>?_⟩;refine⟨ZaJ _,fun p hp=>?_⟩;have k1:=Zf (o:=.lst []) hp;refine⟨v,p,_,rfl,rfl,ak.of (k1 _ _ e1),ak.of aj,?_⟩;have e2:((aQ hg.toNat xs i.toNat).map V.int).isEmpty=decide (aQ hg.toNat xs i.toNat=[]):=by cases aQ hg.toNat xs i.toNat<;>rfl
    rw[e2];exact q _ (s1.trans k1)
def lu:Option Int->Option Int->Option Int
 |some a,some b=>some (a+b)
 |_,_=>none
def dM:List (Option Int)->Option Int
 | []=>some 0
 |o::r=>lu o (dM r)
theorem Zd6 {a b:Option Int} :(lu a b).isSome=(a.isSome&&b.isSome):=by cases a<;>cases b<;>rfl
theorem JT:∀l:List (Option Int),(dM l).isSome=l.all Option.isSome
 | []=>rfl
 |o::r=>by show(lu o (dM r)).isSome=_;rw[Zd6,JT r,Zcf]
def iD (f:List V->Tg->Option Int)(hg:Int)(xs:List V):Tg->Option Int
 | .tup [_,.int i,.tup ts]=>if (dh xs i&&(!(aQ hg.toNat xs i.toNat).isEmpty&&decide (ts.length=(aQ hg.toNat xs i.toNat).length)))=true then dM (((aQ hg.toNat xs i.toNat).zip ts).map fun rt=>f (xs.set i.toNat (.int rt.1)) rt.2) else none
 |_=>none
def fg (f:List V->Tg->Option Int)(hg:Int)(xs:List V)(t:Tg):Option Int:=if fe "cases" 3 t=true then iD f hg xs t else none
def aU (hg:Int):Nat->List V->Tg->Option Int
 |0,_,_=>none
 |n+1,xs,t=>if gJ xs t=true then some 1 else if g9 hg xs t=true then some 1 else fg (aU hg n) hg xs t
theorem W9 {f:List V->Tg->Option Int}{h x y:Tg}(b:lh xs x=false):iD f hg xs (.tup [h,x,y])=none:=by
 cases x with
 |int i=>
  have b':dh xs i=false:=b;cases y with
  |tup ts=>show(if (dh xs i&&_)=true then _ else none)=none;rw[b',Zbd];exact ZaN Zam
  |_=>rfl
 |_=>rfl
theorem UU {f:List V->Tg->Option Int}{h y:Tg}(n:uO y=none):iD f hg xs (.tup [h,.int i,y])=none:=by
 cases y with
 |tup ts=>cases n
 |_=>rfl
inductive gB (n:Nat) (vs:List V) (H:Hp) (Q:VK) (_E:XK):Prop
 |mk (b l:Addr) (v:V) (wd hg:Int) (xs:List V) (m:Nat) (t:Tg) (c0:vs=[.ref b,.ref l,v]) (c1:bS H (.ref b) wd hg) (c2:H l=some (.tup xs)) (c3:bP wd hg xs) (c4:n=m+1) (c5:aE H (2*m+1) v t) (c6:∀H',ae H H'->Q (.bl (aU hg n xs t).isSome) H')
abbrev yW:Stmt:=top 41
inductive G8 (n:Nat) (vs:List V) (H:Hp) (Q:VK) (_E:XK):Prop
 |mk (b l:Addr) (v:V) (wd hg:Int) (xs:List V) (t:Tg) (c0:vs=[.ref b,.ref l,v]) (c1:bS H (.ref b) wd hg) (c2:H l=some (.tup xs)) (c3:bP wd hg xs) (c4:aE H (2*n+1) v t) (c5:∀H',ae H H'->Q (.bl (fg (aU hg n) hg xs t).isSome) H')
abbrev To:List Str:=["board","lay","thing","line","papers","rows"]
theorem yR:bo To al (aR yW):=ZU .k
theorem ZhA {n k:Nat}(F:aO K "is_cases_paper" "is_cases_paper" yW f fd)(G:Gs mg)(uH:Def P w K mg base 4 "is_bare_line" io vc)(pU:Def P w K mg base 2 "is_headed" mo sP)(gA:Def P w K mg base 12 "free_rows" on ki)(AM:Def P w K mg base 1 "is_tuple_of" ss (p8 K))(uE:Def P w K mg base 1 "with_point" re uZ)
  (hk:12<=k) (Dp:Def P w K mg base k "is_paper" al (gB n)):aJ P w K mg base aS (k+1) f fd al (G8 n):=by
 refine F.ok yR (fun vs H Q E h=>?_) (fun aw A outer s H vs Q E hr h=>?_)
 ·obtain⟨b,l,v,wd,hg,xs,t,rfl,_⟩:=h;rfl
 ·obtain⟨b,l,v,wd,hg,xs,tr,rfl,bd,hl,ly,iR,q⟩:=h;have hu:=hr.mO;refine⟨_,Zd (ZP (PW.pt (JB (Yh (Z1 (Zg pU (hr.mono .l) (Za (pv 2) (Za ZA (Za Zc Zb)))))) (JG (Yh (Z1 (Zg uH (hr.mono .l) (Za (pv 1) (Za (ZR 2) Zb)))))))) (Zk (Zr YC)) Zs)
   (Zd (Ju (Zz ZS (pv 2) (ZD Zc) ZH) (Yk rfl (Zo (ZE (i:=3) yR.nd) (Zo (ZE (i:=4) yR.nd) Z4))))
   (Zd (Zq (i:=5) yR.nd (Zg gA (hr.mono hk) (Za (pv 0) (Za (pv 1) (Zv 3)))))
   (Zd (ZP (PW.pt (JB (Zp (WX hu) (pv 5) (ZC Zb)) (JG (Yh (Z1 (Zg AM (hr.mono .l) (Za (pv 4) (Za (Zm Zx rfl G.len ZcY (Zv 5)) Zb)))))))) (Zk (Zr YC)) Zs)
   (Zk (Zr (Zm JQ rfl G.all boot_all (Za (Z7 ["row","paper","board","lay","line"] 2 [0,1,3] (ZfV rfl G.zip (Za (pv 5) (Zv 4)))
    (fun C s H fp=>show PG (aV _ _ _ C s H fp) _ (mj K 2 (dC (cH 0) (dC (cH 1) mn))) from Yk rfl (Zo (pb 0) (Zo (pb 1) Z4))) (fun C s H fp=>Ym)
    (fun C s H fp D'=>ZK rfl (Zg Dp hr (Za (pv 2) (Za (Zg uE (hr.mono .o) (Za (pv 3) (Za (pv 4) (Zv 0)))) (Zv 1)))))) Zb))))))),?_⟩
  try dsimp only[cw]
  refine A8 ?_;intro jD nk fo lP eO gK bX cF aY;have eL:fg (aU hg n) hg xs tr=if fe "cases" 3 tr=true then iD (aU hg n) hg xs tr else none:=rfl
  refine⟨_,rfl,v,_,tr, "cases",3,rfl,.d,iR,_,rfl,?_⟩;cases hd:fe "cases" 3 tr with
  |false=>rw[hd,ZaN Zam]at eL;rw[eL]at q;exact aq (aq (q _ (ae.refl _)))
  |true=>
   rw[hd,ZaQ rfl]at eL;rw[eL]at q;obtain⟨ts0,rfl,hlen,_⟩:=Fx hd;obtain⟨m,t,vs,en,ev,ht,RP,_⟩:=iR.tup;subst ev;obtain⟨x0,x1,x2,y0,y1,y2,rfl,rfl,r0,r1,r2⟩:=CI RP hlen;refine ar ⟨_,rfl,_,rfl,t,_,_,_,rfl,rfl,ah.of ht,ZJ (show([x0,x1,x2]:List V)[1]?=some x1 from rfl),l,x1,m,y1,xs,rfl,hl,r1,_,rfl,?_⟩;cases hb:lh xs y1 with
   |false=>rw[W9 hb]at q;exact aq (q _ (ae.refl _))
   |true=>
    obtain⟨i,rfl,cj⟩:=Nf hb;have v1:=Ja r1;subst v1;obtain⟨i0,hx⟩:=MT cj;have ei:((i.toNat:Nat):Int)=i:=ZbG i0;refine ar (ZN ?_);dsimp only;refine aY _ _ (ZB ⟨_,rfl,_,rfl,t,_,rfl,ht,fun v2 H1 s1 e1=>?_⟩);have mq:H1 v2=some (.tup [V.int i,x2]):=e1;refine⟨v2,_,rfl,ah.of mq,rfl,_,_,rfl,_,_,rfl,rfl,?_⟩;dsimp only[List.set];refine bX _ _ (ZB ⟨_,rfl,_,rfl,_,rfl,b,l,i.toNat,wd,hg,xs,(by rw[ei];rfl),bd.same s1,s1 _ _ hl,ly,hx,fun v3 H2 s2 nv e2=>Zn ?_⟩);dsimp only[List.set];have dN:=s1.trans s2;refine eO _ _ ⟨_,rfl,ZaJ _,fun p hp=>?_⟩;have k1:=Zf (o:=.lst []) hp;refine⟨v3,p,_,rfl,rfl,ak.of (k1 _ _ e2),ak.of aj,_,rfl,?_⟩;generalize upd H2 p (HO.lst [])=H3 at k1;have e3:=k1 _ _ e2;have cb:=dN.trans k1;have mf:∀r∈aQ hg.toNat xs i.toNat,0<=r/\r<hg.toNat/\aZ (.int r) xs=false:=fun r hr=>⟨(JL.mp hr).1.1,(JL.mp hr).1.2,(JL.mp hr).2.1⟩;have fl:(aQ hg.toNat xs i.toNat).length<=12:=by
     have:=J9 hg.toNat xs i.toNat;obtain⟨_,_,_,_,pj⟩:=id bd
     lia
    have vI:=r2.same cb;have eC:∀ts,iD (aU hg n) hg xs (.tup [y0,.int i,.tup ts])=if (dh xs i&&(!(aQ hg.toNat xs i.toNat).isEmpty&&decide (ts.length=(aQ hg.toNat xs i.toNat).length)))=true then dM (((aQ hg.toNat xs i.toNat).zip ts).map fun rt=>aU hg n (xs.set i.toNat (.int rt.1)) rt.2) else none:=fun ts=>rfl
    have eN:uO y2=none->(iD (aU hg n) hg xs (.tup [y0,.int i,y2])).isSome=false:=fun z=>by rw[UU z];rfl
    have eF:(aQ hg.toNat xs i.toNat).isEmpty=true->(iD (aU hg n) hg xs (.tup [y0,.int i,y2])).isSome=false:=fun z=>by
     cases h2:y2 with
     |tup ts=>rw[eC,z,Bool.not_true,Zbd,Zc1,ZaN Zam];rfl
     |_=>rfl
    generalize aQ hg.toNat xs i.toNat=fs at e3 mf fl eC eF;have eE:(List.map V.int fs).isEmpty=fs.isEmpty:=by cases fs<;>rfl
    rw[eE];cases nI:fs.isEmpty with
    |true=>rw[eF nI]at q;exact aq (aq (q _ cb))
    |false=>
     refine ar ⟨_,rfl,_,rfl,v3,_,rfl,.inl (ak.of e3),x2,_,rfl,Au vI,_,rfl,?_⟩;have no:uO y2=none->∀(H':Hp),ae H H'->Q (.bl false) H':=fun z H' s'=>by rw[<-eN z];exact q H' s'
     cases vI.c with
     |af e et=>subst e et;exact aq (no rfl _ cb)
     |bl _ e et=>subst e et;exact aq (no rfl _ cb)
     |int _ e et=>subst e et;exact aq (no rfl _ cb)
     |str _ e et=>subst e et;exact aq (no rfl _ cb)
     |lst _ _ _ _ en e et h=>subst e et;rw[ZM,h];exact aq (no rfl _ cb)
     |tup m2 qa ps ts EI e et jS bC _=>
     subst e et;rw[eC,cj,nI,Zbo,ZiO,Zbo]at q;rw[ZL jS];show(if (!decide ((ps.length:Int)=((fs.map V.int).length:Int)))=true then _ else _);have cG:ps.length=ts.length:=ZaM bC;by_cases hlen:ts.length=fs.length
     case neg=>rw[Zax hlen,ZaN Zam]at q;rw[Zax (by rw[Zat,cG];exact fun z=>hlen (Int.ofNat.inj z))];exact aq (q _ cb)
     rw[Zau hlen,ZaQ rfl,JT,Zh9]at q;rw[Zau (by rw[Zat,cG,hlen])];refine ar (ZN ?_);dsimp only;have pL:=bd.same cb;have iw:=cb _ _ hl;obtain⟨n',rfl⟩:∃n',n=n'+1:=⟨n-1,.l⟩;have rJ:m2=2*n'+1:=.l;subst rJ;have lf:(fs.map V.int).length=ps.length:=by rw[Zat,cG,hlen]
     refine fo _ _ ?_;refine⟨_,rfl,_,rfl,v3,qa,rfl,⟨_,_,ak.of e3,ah.of jS⟩,?_⟩;refine ZdL (xs:=fs.map V.int) (zs:=ps) lf (fun j ys σ H4=> ∃v0 v1,σ=[v0,v1,some (.ref b),some (.ref l),some (.int i)]/\ae H3 H4/\ys=((fs.zip ts).take j).map fun rt=>V.bl (aU hg (n'+1) (xs.set i.toNat (.int rt.1)) rt.2).isSome) ⟨_,_,rfl,ae.refl _,rfl⟩ (fun j ys σ H4 _ ⟨_,_,_,s4,_⟩=>⟨ak.of (s4 _ _ e3),ah.of (s4 _ _ jS)⟩) ?_ ?_
     ·rintro j x y T ys σ H4 kF lQ hT ⟨v0,v1,rfl,s4,rfl⟩;rw[Zby,Zbp]at kF;obtain⟨r,bt,rfl⟩:=kF;obtain⟨pW,kI,ff⟩:=YO bC lQ;have sT:=Zf (o:=.par [V.int r,y]) hT;obtain⟨CD,CC,rn⟩:=mf r (Zao bt);have hi:i.toNat<xs.length:=(Zai.mp hx).1;have wl:xs.length<=12:=by have:=ly.len;obtain⟨_,_,mK,_,_⟩:=id bd;lia
      have rh:r<hg:=.l;refine⟨T,_,rfl,ah.vO aj,rfl,_,_,rfl,_,_,rfl,rfl,?_⟩;refine⟨_,rfl,_,rfl,_,rfl,_,rfl,l,xs,i.toNat,.int r,(by rw[ei];rfl),(sT _ _ (s4 _ _ iw)),hi,wl,fun t5 H5 s5 e5=>⟨_,rfl,?_⟩⟩;refine⟨b,t5,y,wd,hg,_,n',pW,rfl,pL.same (s4.trans (sT.trans s5)),e5,WE ly hx CD rh rn,rfl,ff.same (s4.trans (sT.trans s5)),fun H6 s6=>⟨?_,_,_,rfl,s4.trans (sT.trans (s5.trans s6)),?_⟩⟩
      ·rw[Zat,ZaH,ZaB,ZhM]
       lia
      ·have hz:(fs.zip ts)[j]?=some (r,pW):=ZcB.mpr ⟨bt,kI⟩;rw[ZaO,hz,ZaW];rfl
     ·rintro ys σ H4 ⟨v0,v1,rfl,s4,rfl⟩ p5 tU;refine⟨p5,((fs.zip ts).take (fs.map V.int).length).map fun rt=>(aU hg (n'+1) (xs.set i.toNat (.int rt.1)) rt.2).isSome,rfl,?_,?_⟩
      ·rw[Zdq];exact ak.of aj
      ·have e:(fs.zip ts).take (fs.map V.int).length=fs.zip ts:=ZbJ (by rw[ZhM,Zat];exact Nat.min_le_left _ _);rw[e,Zh9];exact q _ (cb.trans (s4.trans (Zf tU)))
abbrev sZ:Stmt:=top 42
theorem BB:bo al al (aR sZ):=ZU .k
theorem ZgX {k:Nat}(F:aO K "is_paper" "is_paper" sZ f fd):aJ P w K mg base aS (k+1) f fd al (gB 0):=
 F.ok BB (fun vs H Q E h=>by obtain⟨b,l,v,wd,hg,xs,m,t,rfl,_⟩:=h;rfl) (fun aw A outer s H vs Q E hr h=>by obtain⟨b,l,v,wd,hg,xs,m,t,rfl,bd,hl,ly,e,_⟩:=h;cases e)
theorem Zhx {n k:Nat}(F:aO K "is_paper" "is_paper" sZ f fd)(uF:Def P w K mg base 6 "need_lay" bv u7)(pT:Def P w K mg base 4 "is_like_paper" io yJ)(AN:Def P w K mg base 13 "is_shut_paper" al yF)
  (hk:13<=k) (Dkp:Def P w K mg base k "is_cases_paper" al (G8 n)):aJ P w K mg base aS (k+1) f fd al (gB (n+1)):=by
 refine F.ok BB (fun vs H Q E h=>?_) (fun aw A outer s H vs Q E hr h=>?_)
 ·obtain⟨b,l,v,wd,hg,xs,m,t,rfl,_⟩:=h;rfl
 ·obtain⟨b,l,v,wd,hg,xs,m,t,rfl,bd,hl,ly,e,hT,q⟩:=h;cases e;refine⟨_,Zd (YI (Zg uF (hr.mono .l) (Za (pv 0) (Zv 1))))
   (Zk (Zr (Mi (Zg pT (hr.mono .l) (Za (pv 1) (Zv 2))) (Mi (Zg AN (hr.mono hk) (Za (pv 0) (Za (pv 1) (Zv 2)))) (YJ (Zg Dkp hr (Za (pv 0) (Za (pv 1) (Zv 2))))))))),?_⟩
  try dsimp only[cw]
  refine jf ?_;intro jD cF aY;refine⟨_,rfl,_,rfl,.ref b,.ref l,wd,hg,xs,rfl,⟨bd,ZL hl,ly⟩,fun H1 s1=>?_⟩;dsimp only;have iz:=s1 _ _ hl;have KR:=hT.same s1;have eE:aU hg (n+1) xs t=if gJ xs t=true then some 1 else if g9 hg xs t=true then some 1 else fg (aU hg n) hg xs t:=rfl
  rw[eE]at q;refine aY _ _ ?_;refine⟨_,rfl,_,rfl,l,v,_,t,xs,rfl,iz,ly.ok,KR,fun H2 s2=>⟨_,rfl,?_⟩⟩;cases hL:gJ xs t with
  |true=>rw[hL,ZaQ rfl]at q;exact aq (q _ (s1.trans s2))
  |false=>
   rw[hL,ZaN Zam]at q;refine ar ⟨_,rfl,_,rfl,_,rfl,b,l,v,_,t,wd,hg,xs,rfl,(bd.same s1).same s2,s2 _ _ iz,ly,KR.same s2,fun H3 s3=>⟨_,rfl,?_⟩⟩;cases hS:g9 hg xs t with
   |true=>rw[hS,ZaQ rfl]at q;exact aq (q _ (s1.trans (s2.trans s3)))
   |false=>rw[hS,ZaN Zam]at q;have cb:=s1.trans (s2.trans s3);exact ar ⟨_,rfl,_,rfl,_,rfl,b,l,v,wd,hg,xs,t,rfl,bd.same cb,cb _ _ hl,ly,hT.same cb,fun H4 s4=>q _ (cb.trans s4)⟩
theorem CH (dP:∀(k:Nat) (sp:Sp),(∀f fd,aO K "is_paper" "is_paper" sZ f fd->aJ P w K mg base aS k f fd al sp)->Def P w K mg base k "is_paper" al sp)
  (dK:∀(k:Nat) (sp:Sp),(∀f fd,aO K "is_cases_paper" "is_cases_paper" yW f fd->aJ P w K mg base aS k f fd al sp)->Def P w K mg base k "is_cases_paper" al sp) (G:Gs mg)
  (uF:Def P w K mg base 6 "need_lay" bv u7) (pT:Def P w K mg base 4 "is_like_paper" io yJ) (AN:Def P w K mg base 13 "is_shut_paper" al yF)
  (uH:Def P w K mg base 4 "is_bare_line" io vc) (pU:Def P w K mg base 2 "is_headed" mo sP) (gA:Def P w K mg base 12 "free_rows" on ki) (AM:Def P w K mg base 1 "is_tuple_of" ss (p8 K)) (uE:Def P w K mg base 1 "with_point" re uZ):
  ∀n,Def P w K mg base (13+2*n) "is_paper" al (gB n)
 |0=>dP _ _ fun f fd F=>ZgX F
 |n+1=>dP _ _ fun f fd F=>Zhx F uF pT AN (by show 13<=13+2*n+1;lia) (dK _ _ fun f fd F=>ZhA F G uH pU gA AM uE (by show 12<=13+2*n;lia) (CH dP dK G uF pT AN uH pU gA AM uE n))
theorem Nr:∀{l:List (Option Int)}{e:Int},dM l=some e->∃es:List Int,l=es.map some/\e=es.sum
 | [],e,h=>⟨[],rfl,by cases h;rfl⟩
 |o::r,e,h=>by
  have h':lu o (dM r)=some e:=h;cases o with
  |none=>cases h'
  |some a=>
   cases hr:dM r with
   |none=>rw[hr]at h';cases h'
   |some b=>rw[hr]at h';obtain⟨es,e1,e2⟩:=Nr hr;cases h';exact⟨a::es,by rw[e1];rfl,by rw[e2];simp⟩
theorem Jp {w:Str}{n:Nat}(h:fe w (n+1) t=true):∃r,t=.tup (.str w::r)/\r.length=n:=by
 obtain⟨ts,rfl,hl,h1⟩:=Fx h;cases ts with
 |nil=>cases hl
 |cons y r=>
  have nQ:xq w y=true:=h1;cases y with
  |str s=>have h2:decide (s=w)=true:=nQ;rw[ZaF]at h2;subst h2;exact⟨r,rfl,by simpa using hl⟩
  |_=>cases nQ
theorem OR {f:List V->Tg->Option Int}{hg:Int}(h:iD f hg xs t=some e):∃y i ts,t=.tup [y,.int i,.tup ts]/\dh xs i=true/\aQ hg.toNat xs i.toNat≠[]/\ts.length=(aQ hg.toNat xs i.toNat).length/\dM (((aQ hg.toNat xs i.toNat).zip ts).map fun rt=>f (xs.set i.toNat (.int rt.1)) rt.2)=some e:=by
 unfold iD at h;split at h
 ·rename_i y i ts;split at h
  ·rename_i hc;rw[Zap,Zap,ZaF]at hc;exact⟨y,i,ts,rfl,hc.1,fun z=>by rw[z]at hc;exact absurd hc.2.1 .d,hc.2.2,h⟩
  ·cases h
 ·cases h
abbrev vq:Stmt:=top 43
inductive sQ (n:Nat) (vs:List V) (H:Hp) (Q:VK) (_E:XK):Prop
 |mk (v:V) (t:Tg) (m:Nat) (hg:Int) (xs:List V) (e:Int) (c0:vs=[v]) (c1:n=m+1) (c2:aE H (2*m+1) v t) (c3:aU hg n xs t=some e) (c4:∀H',ae H H'->Q (.int e) H')
theorem Hu:bo ["paper"] ["paper"] (aR vq):=ZU .k
theorem Zg2 {k:Nat}(F:aO K "ends_of" "ends_of" vq f fd):aJ P w K mg base aS (k+1) f fd ["paper"] (sQ 0):=
 F.ok Hu (fun vs H Q E h=>by obtain⟨v,t,m,hg,xs,e,rfl,_⟩:=h;rfl) (fun aw A outer s H vs Q E hr h=>by obtain⟨v,t,m,hg,xs,e,rfl,z,_⟩:=h;cases z)
theorem ZhB (F:aO K "ends_of" "ends_of" vq f fd)(G:Gs mg)(De:Def P w K mg base k "ends_of" ["paper"] (sQ n)):aJ P w K mg base aS (k+1) f fd ["paper"] (sQ (n+1)):=by
 refine F.ok Hu (fun vs H Q E h=>?_) (fun aw A outer s H vs Q E hr h=>?_)
 ·obtain⟨v,t,m,hg,xs,e,rfl,_⟩:=h;rfl
 ·obtain⟨v,t,m,hg,xs,e,rfl,z,hT,he,q⟩:=h;cases z;refine⟨_,Zd (ZP (Zp xQ (ZR 0) ZA) (Zk (Zr Zc)) Zs)
   (Zk (Zr (Zm ZfA rfl G.sum boot_sum (Za (Z7 ["case"] 1 [] (Wk (ZR 0)) (fun C s H fp=>pb 0) (fun C s H fp=>Ym)
    (fun C s H fp D=>ZK rfl (Zg De hr (Zv 0)))) Zb)))),?_⟩
  try dsimp only[cw]
  refine jf ?_;intro jD cF aY;have eE:aU hg (n+1) xs t=if gJ xs t=true then some 1 else if g9 hg xs t=true then some 1 else fg (aU hg n) hg xs t:=rfl
  rw[eE]at he;have two:(∃(w':Str) (k:Nat),fe w' (k+1) t=true/\w'≠ "cases" /\e=1)∨fg (aU hg n) hg xs t=some e:=by
   cases h1:gJ xs t with
   |true=>rw[h1,ZaQ rfl]at he;cases he;exact .inl ⟨"like",4,((Zap _ _).mp h1).1,.d,rfl⟩
   |false=>
    rw[h1,ZaN Zam]at he;cases h2:g9 hg xs t with
    |true=>rw[h2,ZaQ rfl]at he;cases he;exact .inl ⟨"shut",1,((Zap _ _).mp h2).1,.d,rfl⟩
    |false=>rw[h2,ZaN Zam]at he;exact .inr he
  rcases two with ⟨w',k',hd,ne,rfl⟩|hc
  ·obtain⟨r,rfl,_⟩:=Jp hd;obtain⟨m',p,vs,_,rfl,hp,pr,_⟩:=hT.tup;cases pr with
   | @cons x0 _ xr _ h1 h2=>
   have e1:=Az h1;subst e1;refine⟨_,rfl,p,_,_,_,rfl,rfl,ah.of hp,ZJ (show(V.str w'::xr)[0]?=some (V.str w') from rfl),rfl,_,rfl,?_⟩;rw[Zax (show ¬V.str w'=V.str "cases" from fun z=>ne (V.str.inj z))];exact aq (q _ (ae.refl _))
  ·cases hd:fe "cases" 3 t with
   |false=>
    have z:fg (aU hg n) hg xs t=none:=by unfold fg;rw[hd,ZaN Zam]
    rw[z]at hc;cases hc
   |true=>
    have z:fg (aU hg n) hg xs t=iD (aU hg n) hg xs t:=by unfold fg;rw[hd,ZaQ rfl]
    rw[z]at hc;obtain⟨y,i,ts,rfl,_,_,hlen,hs⟩:=OR hc;obtain⟨m,p,vs,en,rfl,hp,pr,_⟩:=hT.tup;obtain⟨x0,x1,x2,y0,y1,y2,rfl,ey,r0,r1,r2⟩:=CI pr rfl;injection ey with EE ey;injection ey with ED ey;injection ey with ey2 _;subst EE ED ey2;obtain⟨r',er,_⟩:=Jp hd;injection er with er;injection er with er _;subst er;have v0:=Az r0;subst v0;obtain⟨m2,qa,ps,EI,rfl,hq,bC,_⟩:=r2.tup;obtain⟨n',rfl⟩:∃n',n=n'+1:=⟨n-1,.l⟩;have rJ:m2=2*n'+1:=.l;subst rJ;refine⟨_,rfl,p,_,_,_,rfl,rfl,ah.of hp,ZJ (show([V.str "cases",x1,V.ref qa]:List V)[0]?=some (V.str "cases") from rfl),rfl,_,rfl,?_⟩;refine ar (ZN ?_);dsimp only;obtain⟨es,KC,rfl⟩:=Nr hs;have cG:ps.length=ts.length:=ZaM bC;have hel:es.length=ts.length:=by
     have:=ZbT List.length KC;rw[Zat,Zat,ZhM]at this
     lia
    refine aY _ _ ?_;refine⟨_,rfl,p,_,_,_,rfl,rfl,ah.of hp,ZJ (show([V.str "cases",x1,V.ref qa]:List V)[2]?=some (V.ref qa) from rfl),qa,rfl,⟨_,ah.of hq⟩,?_⟩;refine Je (xs:=ps) (fun j ys σ H2=>(∃v,σ=[v])/\ae H H2/\ys=(es.take j).map V.int) ⟨⟨_,rfl⟩,ae.refl _,rfl⟩ (fun j ys σ H2 _ ⟨_,s2,_⟩=>ah.of (s2 _ _ hq)) ?_ ?_
    ·rintro j y' ys σ H2 hy ⟨⟨v,rfl⟩,s2,rfl⟩;obtain⟨tr,kI,ff⟩:=YO bC hy;have hj:=(Zai.mp hy).1;have Ku:j<es.length:=.l;have Xy:j< (aQ hg.toNat xs i.toNat).length:=.l;have hz:((aQ hg.toNat xs i.toNat).zip ts)[j]?=some ((aQ hg.toNat xs i.toNat)[j],tr):=ZcB.mpr ⟨Zaj Xy,kI⟩;have l5:some (aU hg (n'+1) (xs.set i.toNat (.int (aQ hg.toNat xs i.toNat)[j])) tr)=some (some es[j]):=by have h1:=ZbT (fun l:List (Option Int)=>l[j]?) KC;simp only[Zby,hz,ZjB,Zaj Ku]at h1;exact h1
     injection l5 with l5;refine⟨_,rfl,y',tr,n',hg,_,_,rfl,rfl,ff.same s2,l5,fun H3 s3=>⟨?_,⟨_,rfl⟩,s2.trans s3,?_⟩⟩
     ·rw[Zat,ZaH,ZaB]
      lia
     ·rw[ZaO,Zaj Ku,ZaW];rfl
    ·rintro ys σ H2 ⟨⟨v,rfl⟩,s2,rfl⟩ p5 tU;have e:es.take ps.length=es:=ZbJ .l;rw[e];exact⟨p5,es,rfl,ak.of aj,q _ (s2.trans (Zf tU))⟩
theorem ends (dE:∀(k:Nat) (sp:Sp),(∀f fd,aO K "ends_of" "ends_of" vq f fd->aJ P w K mg base aS k f fd ["paper"] sp)->Def P w K mg base k "ends_of" ["paper"] sp)(G:Gs mg):∀n,Def P w K mg base (1+n) "ends_of" ["paper"] (sQ n)
 |0=>dE _ _ fun f fd F=>Zg2 F
 |n+1=>dE _ _ fun f fd F=>ZhB F G (ends dE G n)
structure Exc (K:Zke)(mg:Str->Option Value)(n:Str)(c:Addr):Prop where
 m:mg n=some (.ref c)
 x:PySem.W.excIn K c uq "ValueError.__new__" =true
abbrev vv:Stmt:=top 44
inductive qm (n:Nat) (vs:List V) (H:Hp) (Q:VK) (_E:XK):Prop
 |mk (b l:Addr) (v:V) (wd hg:Int) (xs:List V) (t:Tg) (e:Int) (c0:vs=[.ref b,.ref l,v]) (c1:bS H (.ref b) wd hg) (c2:H l=some (.tup xs)) (c3:bP wd hg xs) (c4:aE H (2*n+1) v t) (c5:aU hg (n+1) xs t=some e) (c6:∀H',ae H H'->Q (.int e) H')
theorem BD:bo dL dL (aR vv):=ZU .k
theorem Ss {n k j:Nat}(F:aO K "ends_many" "ends_many" vv f fd)(fT:Def P w K mg base k "is_paper" al (gB (n+1)))(hj:j<=k)(Deo:Def P w K mg base j "ends_of" ["paper"] (sQ (n+1))):aJ P w K mg base aS (k+1) f fd dL (qm n):=by
 refine F.ok BD (fun vs H Q E h=>?_) (fun aw A outer s H vs Q E hr h=>?_)
 ·obtain⟨b,l,v,wd,hg,xs,t,e,rfl,_⟩:=h;rfl
 ·obtain⟨b,l,v,wd,hg,xs,t,e,rfl,bd,hl,ly,hT,hp,q⟩:=h;refine⟨_,Zd (ZP (Yh (Z1 (Zg fT hr (Za (pv 0) (Za (pv 1) (Zv 2)))))) ZF Zs) (Zk (Zr (Zg Deo (hr.mono hj) (Zv 2)))),?_⟩
  try dsimp only[cw]
  refine jf ?_;intro jD cF aY;refine⟨_,rfl,_,rfl,_,rfl,b,l,v,wd,hg,xs,n,t,rfl,bd,hl,ly,rfl,hT,fun H1 s1=>⟨_,rfl,?_⟩⟩;rw[hp];refine ar (ZN ?_);refine aY _ _ ?_;exact⟨_,rfl,v,t,n,hg,xs,e,rfl,rfl,hT.same s1,hp,fun H2 s2=>q _ (s1.trans s2)⟩
inductive sR (n:Nat) (cP:Addr) (vs:List V) (H:Hp) (_E:VK) (E:XK):Prop
 |mk (b l:Addr) (v:V) (wd hg:Int) (xs:List V) (t:Tg) (c0:vs=[.ref b,.ref l,v]) (c1:bS H (.ref b) wd hg) (c2:H l=some (.tup xs)) (c3:bP wd hg xs) (c4:aE H (2*n+1) v t) (c5:aU hg (n+1) xs t=none) (c6:∀e H',ae H H'->E (.ref e) (some cP) H')
theorem Sq {n k:Nat}(F:aO K "ends_many" "ends_many" vv f fd)(X:Exc K mg "NoPaper" cP)(fT:Def P w K mg base k "is_paper" al (gB (n+1))):aJ P w K mg base (cJ P w) (k+1) f fd dL (sR n cP):=by
 refine F.tF BD (fun vs H Q E h=>?_) (fun aw A outer s H vs Q E hr h=>?_)
 ·obtain⟨b,l,v,wd,hg,xs,t,rfl,_⟩:=h;rfl
 ·obtain⟨b,l,v,wd,hg,xs,t,rfl,bd,hl,ly,hT,hp,q⟩:=h;refine⟨_,Zd (ZP (Yh (Z1 (Zg fT hr (Za (pv 0) (Za (pv 1) (Zv 2)))))) (Zk (UA Zfc X.m X.x rfl (Za ZA Zb))) Zs) ZF,?_⟩
  try dsimp only[cw]
  refine jf ?_;intro jD cF aY;refine⟨_,rfl,_,rfl,_,rfl,b,l,v,wd,hg,xs,n,t,rfl,bd,hl,ly,rfl,hT,fun H1 s1=>⟨_,rfl,?_⟩⟩;rw[hp];exact aq ⟨aK,fun e=>q e H1 s1⟩
inductive gD (K:Zke) (cB cL:Addr) (vs:List V) (H:Hp) (_E:VK) (E:XK):Prop
 |mk (x y z C:_) (c0:vs=[x,y,z]) (c1:Pm K cB cL H x y C) (c2:∀e H',ae H H'->E (.ref e) (some C) H')
theorem Sd {k:Nat}(F:aO K "is_paper" "is_paper" sZ f fd)(hk:6<=k)(R:dD P w K mg base 6 "need_lay" bv (Bd K cB cL)):aJ P w K mg base (cJ P w) (k+1) f fd al (gD K cB cL):=by
 refine F.tF BB (fun vs H Q E h=>?_) (fun aw A outer s H vs Q E hr h=>?_)
 ·obtain⟨x,y,z,C,rfl,_⟩:=h;rfl
 ·obtain⟨x,y,z,C,rfl,b,q⟩:=h;refine⟨_,Zd (YI (Wz R (hr.mono hk) (Za (pv 0) (Zv 1)))) ZF,?_⟩
  try dsimp only[cw]
  refine jf ?_;intro jD cF aY;exact⟨x,rfl,y,rfl,x,y,C,rfl,b,q⟩
theorem Sr (F:aO K "ends_many" "ends_many" vv f fd)(R:dD P w K mg base k "is_paper" al (gD K cB cL)):aJ P w K mg base (cJ P w) (k+1) f fd dL (gD K cB cL):=by
 refine F.tF BD (fun vs H Q E h=>?_) (fun aw A outer s H vs Q E hr h=>?_)
 ·obtain⟨x,y,z,C,rfl,_⟩:=h;rfl
 ·obtain⟨x,y,z,C,rfl,b,q⟩:=h;refine⟨_,Zd (ZP (Yh (Z1 (Wz R hr (Za (pv 0) (Za (pv 1) (Zv 2)))))) ZF Zs) ZF,?_⟩
  try dsimp only[cw]
  refine jf ?_;intro jD cF aY;exact⟨x,rfl,y,rfl,z,rfl,x,y,z,C,rfl,b,q⟩
end U.S
namespace U.S
open PySem L2 PyProof.Rows PyProof.Rows.fS
theorem Mr :dg y .af=true↔y=.af:=by cases y<;>simp[dg]
def uD (hg:Int)(b xs:List V):Prop:=jb b xs/\nU b=true/\∀(j:Nat) v,b[j]?=some v->∃r:Int,v=.int r/\0<=r/\r<hg
theorem M6 (hg:Nat)(xs:List V):∀i,∀b∈df hg xs i,∀j,j<i->∃r∈mD hg xs[j]?,b[j]?=some (.int r)
 |0,_,_,_,hj=>.l
 |i+1,b,h,j,hj=>by
  unfold df at h;obtain⟨a,ha,hm⟩:=Zdm.mp h;obtain⟨h1,_,_⟩:=Uo hg xs i a ha;unfold oK at hm;obtain⟨r,hr,rfl⟩:=Za2.mp hm;rcases Nat.lt_succ_iff_lt_or_eq.mp hj with hj|rfl
  ·obtain⟨r',bt,e⟩:=M6 hg xs i a ha j hj;exact⟨r',bt,by rw[Zbw .o];exact e⟩
  ·exact⟨r,(ZaL.mp hr).1,by rw[Zbt .l,h1,ZiH];rfl⟩
theorem Zhf {wd hg:Int}{b:List V}(ly:bP wd hg xs)(h0:0<=hg)(h:b∈df hg.toNat xs xs.length):uD hg b xs:=by
 obtain⟨h1,h2,_⟩:=Uo hg.toNat xs xs.length b h;have at_:=M6 hg.toNat xs xs.length b h;refine⟨⟨h1.symm,fun i v e=>?_⟩,h2,fun j v e=>?_⟩
 ·rcases ly.ok v (Zao e) with z|⟨r,rfl⟩
  ·exact .inl z
  ·obtain⟨r',bt,e'⟩:=at_ i (Zai.mp e).1;rw[e]at bt;have:r'=r:=by simpa[mD] using bt
   rw[this]at e';exact .inr e'
 ·have hj:j<xs.length:=by rw[<-h1];exact(Zai.mp e).1
  obtain⟨r,hr,e'⟩:=at_ j hj;rw[e]at e';cases e';refine⟨r,rfl,?_⟩;have hx:=Zaj hj;rw[hx]at hr;rcases ly.ok xs[j] (ZbA hj) with z|⟨r',z⟩
  ·rw[z]at hr;have:r∈qy hg.toNat:=hr;unfold qy at this;obtain⟨k,hk,rfl⟩:=Za2.mp this;have:=Zbf.mp hk
   lia
  ·rw[z]at hr;have e2:r=r':=by simpa[mD] using hr
   have hw:=ly.row (.int r') (ZaL.mpr ⟨by rw[<-z];exact ZbA hj,.s⟩);have Dt:(decide (0<=r')&&decide (r'<=hg-1))=true:=hw;rw[Zap,ZaF,ZaF]at Dt;omega
theorem ZfS (ok:gU xs){i:Int}(h:gG xs i=true):0<=i/\i.toNat<xs.length/\rowAt xs i.toNat=some (bM xs i):=by
 obtain⟨h0,hi,_⟩:=m9 ok h;refine⟨h0,hi,?_⟩;unfold gG at h;rw[Zap]at h;have h2:=h.2;unfold rowAt bM;rw[Zaj hi]at h2 |-;rcases ok _ (ZbA hi) with e|⟨r,e⟩
 ·rw[e]at h2;simp at h2
 ·rw[e];rfl
theorem ZcJ (xs:List V):jb xs xs:=⟨rfl,fun _ _ e=>.inr e⟩
theorem Zg5 {wd hg:Int}(ly:bP wd hg xs){j:Nat}{v:V}(e:xs[j]?=some v)(hn:v≠.af):∃r:Int,v=.int r/\0<=r/\r<hg:=by
 have hm:=Zao e;rcases ly.ok v hm with z|⟨r,rfl⟩
 ·exact absurd z hn
 ·have hw:(decide (0<=r)&&decide (r<=hg-1))=true:=ly.row (.int r) (ZaL.mpr ⟨hm,.s⟩);rw[Zap,ZaF,ZaF]at hw;exact⟨r,rfl,hw.1,.o⟩
theorem Zf8 (h:aZ .af xs=false){j:Nat}{v:V}(e:xs[j]?=some v):v≠.af:=fun z=>by
 subst z;have:aZ .af xs=true:=by unfold aZ;exact Zda.mpr ⟨_,Zao e,Mr.mpr rfl⟩
 rw[h]at this;cases this
theorem Zfj {wd hg:Int}(ly:bP wd hg xs)(un:bH xs=true)(h:aZ .af xs=false):uD hg xs xs:=
 ⟨ZcJ xs,Y3.mpr ⟨ly.nd,(Y9 _).mp un⟩,fun _ _ e=>Zg5 ly e (Zf8 h e)⟩
theorem Zfk {b:List V}(hx:xs[j]?=some .af)(f:uD hg b (xs.set j (.int r))):uD hg b xs:=by
 obtain⟨⟨h1,h2⟩,g,rg⟩:=f;rw[Zgy]at h1;refine⟨⟨h1,fun i v e=>?_⟩,g,rg⟩;by_cases hi:j=i
 ·subst hi;rw[hx]at e;cases e;exact .inl rfl
 ·exact h2 i v (by rw[Zfd hi];exact e)
theorem ZfB {j:Nat}(hx:xs[j]?=some .af):dh xs (j:Int)=true:=by have hj:=(Zai.mp hx).1;unfold dh;rw[Zb2,Zau hx,Zau (by lia:(0:Int)<=j),Zau (by lia:(j:Int)<=(xs.length:Int)-1)];rfl
theorem Ay (e:rowAt xs i=some r)(hi:i<xs.length):gG xs (i:Int)=true/\bM xs (i:Int)=r:=by
 have h:xs[i]?=some (.int r):=by
  unfold rowAt at e;cases hx:xs[i]? with
  |none=>rw[hx]at e;cases e
  |some v=>
   rw[hx]at e;cases v<;>first|(cases e;done)|skip
   case int z=>cases e;rfl
 unfold gG bM;rw[Zb2,h];refine⟨?_,rfl⟩;rw[Zap];refine⟨?_,.s⟩;show(decide ((0:Int)<=i)&&decide ((i:Int)<=(xs.length:Int)-1))=true;rw[Zau .o,Zau .o];rfl
theorem Oh {hg:Int}{b:List V}(f:uD hg b xs):∀i,i<=xs.length->b.take i∈df hg.toNat xs i
 |0,_=>by simp[df]
 |i+1,hi=>by
  have ih:=Oh f i .l;obtain⟨fw,g,rg⟩:=f;have DR:i<b.length:=by rw[<-fw.1];lia
  have gQ:i<xs.length:=.l;obtain⟨r,e,r0,r1⟩:=rg i b[i] (Zaj DR);have e2:b.take i++[V.int r]=b.take (i+1):=by rw[ZaO,Zaj DR,e];rfl
  have g2:nU (b.take (i+1))=true:=Zfe (rest:=b.drop (i+1)) (by rw[Za9];exact g);unfold df;refine Zdm.mpr ⟨b.take i,ih,?_⟩;unfold oK;refine Za2.mpr ⟨r,ZaL.mpr ⟨?_,?_⟩,e2⟩
  ·rw[Zaj gQ];rcases fw.2 i xs[i] (Zaj gQ) with z|z
   ·rw[z];show r∈qy hg.toNat;exact Za2.mpr ⟨r.toNat,Zbf.mpr .o,by show((r.toNat:Nat):Int)=r;lia⟩
   ·rw[Zaj DR,e]at z;rw[<-Za3 z];simp[mD]
  ·obtain⟨nd,un⟩:=Y3.mp g2;rw[e2,(Y9 _).mpr un,Bool.and_true,Zcg];rw[<-e2,WS]at nd;cases oY:aZ (.int r) (b.take i) with
   |false=>rfl
   |true=>
    have ok:gU (b.take i):=fun x hx=>by obtain⟨j,hj⟩:=ZaX (Zco hx);obtain⟨r',e',_⟩:=rg j x hj;exact .inr ⟨r',e'⟩
    have m:=Zhb ok oY;have:=(ZcS.mp nd).2.2 (.int r) (ZaL.mpr ⟨m,.s⟩) (.int r) (by simp[rowsOf]);exact absurd rfl this
theorem M7 {hg:Int}{b:List V}(f:uD hg b xs):b∈df hg.toNat xs xs.length:=by
 have:=Oh f xs.length (Zal _)
 rwa [f.1.1,ZaV,<-f.1.1]at this
theorem vT {x:aN} :x∈U.fJ S↔∃(i j:Nat) (k q:I4),i<j/\S[i]?=some k/\S[j]?=some q/\[q.2.2.1,q.2.2.2]=[k.2.2.1,k.2.2.2]/\x=U.qd k q:=by
 rw[<-U.C8];unfold U.qH;rw[Zdm];constructor
 ·rintro⟨i,hi,h⟩;have hk:=Zaj (Zbf.mp hi);unfold U.oO at h;rw[hk]at h;obtain⟨q,hq,e⟩:=Za2.mp h;obtain⟨hq,hd⟩:=ZaL.mp hq;obtain⟨j,hj⟩:=ZaX hq;rw[Zb8]at hj;exact⟨i,i+1+j,_,q,.l,hk,hj,ZbP hd,e.symm⟩
 ·rintro⟨i,j,k,q,lt,hk,hq,e,rfl⟩;have hi:=(Zai.mp hk).1;refine⟨i,Zbf.mpr hi,?_⟩;unfold U.oO;rw[hk];refine Za2.mpr ⟨q,ZaL.mpr ⟨?_,Zau e⟩,rfl⟩;have:(S.drop (i+1))[j-(i+1)]?=some q:=by rw[Zb8,show i+1+(j-(i+1))=j by omega];exact hq
  exact Zao this
theorem JU (ok:gU xs)(h:gG xs i=true):∃l:Nat,i=l/\l<xs.length/\rowAt xs l=some (bM xs i):=by obtain⟨h0,h1,h2⟩:=ZfS ok h;exact⟨i.toNat,.l,h1,h2⟩
theorem NW (ok:gU xs){S:List I4}(pm:S.Perm ((bF xs xs.length).map U.fm))(so:(S.map aW).Pairwise fun a b=>aM b a=false)(a b c d:Int):((a,b,c,d):aN)∈U.fJ S↔lO xs a b c d=true:=by
 have mem:∀{k:I4},k∈S↔∃l o:Nat,l<o/\o<xs.length/\∃p q,rowAt xs l=some p/\rowAt xs o=some q/\k=((l:Int),(o:Int),(o:Int)-l,q-p):=fun {k} =>by
  rw[pm.mem_iff,Za2];constructor
  ·rintro⟨s,hs,rfl⟩;obtain⟨p,hp,rfl⟩:=Za2.mp ((Z9 xs).mem_iff.mpr hs);obtain⟨l,o,h1,h2,a,b,e1,e2,rfl⟩:=JX.mp hp;exact⟨l,o,h1,h2,a,b,e1,e2,rfl⟩
  ·rintro⟨l,o,h1,h2,p,q,e1,e2,rfl⟩;refine⟨dX ((l:Int),p,(o:Int),q),(Z9 xs).mem_iff.mp (Zdj (JX.mpr ⟨l,o,h1,h2,p,q,e1,e2,rfl⟩)),rfl⟩
 have nd:S.Nodup:=pm.nodup_iff.mpr (by refine Zc0.mpr ((JY xs xs.length).imp fun {x y} h z=>h ?_);have z1:x.2.2.1=y.2.2.1:=ZbT (·.1) z;have z2:x.2.2.2=y.2.2.2:=ZbT (·.2.1) z;have z3:x.1=y.1:=ZbT (·.2.2.1) z;have z4:x.2.1=y.2.1:=ZbT (·.2.2.2) z;obtain⟨x1,x2,x3,x4⟩:=x;obtain⟨y1,y2,y3,y4⟩:=y;dsimp only at z1 z2 z3 z4;rw[z1,z2,z3,z4])
 have G9:=Zc0.mp so;rw[vT];constructor
 ·rintro⟨i,j,k,q,lt,hk,hq,e,ex⟩;obtain⟨l1,o1,h1,h2,p1,q1,e1,f1,rfl⟩:=mem.mp (Zao hk);obtain⟨l2,o2,h3,h4,p2,q2,e2,f2,rfl⟩:=mem.mp (Zao hq);have z1:a=l1:=ZbT (·.1) ex;have z2:b=o1:=ZbT (·.2.1) ex;have z3:c=l2:=ZbT (·.2.2.1) ex;have z4:d=o2:=ZbT (·.2.2.2) ex;subst z1 z2 z3 z4;injection e with s1 e;injection e with s2 e;dsimp only at s1 s2;obtain⟨b1,i1⟩:=Ay e1 .l;obtain⟨b2,i2⟩:=Ay f1 h2;obtain⟨b3,i3⟩:=Ay e2 .l;obtain⟨b4,i4⟩:=Ay f2 h4;have hi:=(Zai.mp hk);have hj:=(Zai.mp hq);have le:=Zc2.mp G9 i j hi.1 hj.1 lt;have ne:=Zc2.mp nd i j hi.1 hj.1 lt;rw[hi.2,hj.2]at le ne;have lx:aM [(l1:Int),o1] [(l2:Int),o2]=true:=by
   cases hh:aM [(l1:Int),o1] [(l2:Int),o2] with
   |true=>rfl
   |false=>exfalso;have vW:aM [(l2:Int),o2,(o2:Int)-l2,q2-p2] [(l1:Int),o1,(o1:Int)-l1,q1-p1]=false:=le;rw[nf]at vW hh;simp only[Yr,YG,ZhK,Zcp]at vW hh;have z1:l1=l2:=.o;have z2:o1=o2:=.o;subst z1 z2;rw[e1]at e2;rw[f1]at f2;cases e2;cases f2;exact ne rfl
  unfold lO;rw[Zcf,Zcf,Zcf,Zcf,List.all_nil,b1,b2,b3,b4,i1,i2,i3,i4,Zau (by lia:(l1:Int)<o1),Zau (by omega:(l2:Int)<o2),<-s1,<-s2,Jw,lx];simp
 ·intro h;unfold lO at h;rw[Zap,Zap,Zap,Zap,ZaF,ZaF,ZaF,ZaK]at h;obtain⟨pB,⟨rm,cq,qY⟩,jR⟩:=h;obtain⟨l1,z1,a1,a2⟩:=JU ok (pB a .s);obtain⟨o1,z2,b1,b2⟩:=JU ok (pB b .s);obtain⟨l2,z3,c1,c2⟩:=JU ok (pB c .s);obtain⟨o2,z4,d1,d2⟩:=JU ok (pB d .s);have m1:(((l1:Int),(o1:Int),(o1:Int)-l1,bM xs b-bM xs a):I4)∈S:=mem.mpr ⟨l1,o1,.l,b1,_,_,a2,b2,rfl⟩;have m2:(((l2:Int),(o2:Int),(o2:Int)-l2,bM xs d-bM xs c):I4)∈S:=mem.mpr ⟨l2,o2,.o,d1,_,_,c2,d2,rfl⟩;obtain⟨i,hi⟩:=ZaX m1;obtain⟨j,hj⟩:=ZaX m2;rw[Jw,z1,z2,z3,z4]at qY;injection jR with s1 jR;injection jR with s2 jR;refine⟨i,j,_,_,?_,hi,hj,?_,by rw[z1,z2,z3,z4];rfl⟩
  ·rcases Nat.lt_trichotomy i j with lt|rfl|lt
   ·exact lt
   ·rw[hi]at hj;injection hj with hj;have y1:(l1:Int)=l2:=ZbT (·.1) hj;have y2:(o1:Int)=o2:=ZbT (·.2.1) hj;simp only[Yr,YG,ZhK,Zcp]at qY;omega
   ·exfalso;have bZ:=Zai.mp hi;have zO:=Zai.mp hj;have le:=Zc2.mp G9 j i zO.1 bZ.1 lt;rw[bZ.2,zO.2]at le;have vW:aM [(l1:Int),o1,(o1:Int)-l1,bM xs b-bM xs a] [(l2:Int),o2,(o2:Int)-l2,bM xs d-bM xs c]=false:=le;rw[nf]at vW;simp only[Yr,YG,ZhK,Zcp]at vW qY;omega
  ·show [(o2:Int)-l2,bM xs d-bM xs c]=[(o1:Int)-l1,bM xs b-bM xs a];rw[<-s2,show(o2:Int)-l2=(o1:Int)-l1 by lia]
theorem UJ {S:List I4}(pm:S.Perm ((bF xs xs.length).map U.fm))(so:(S.map aW).Pairwise fun a b=>aM b a=false):(U.fJ S).isEmpty=bH xs:=by have f:=U.TU pm so;have e:=ME f;rw[<-e];cases U.fJ S<;>rfl
theorem OV {wd hg:Int}(h0:0<=hg)(ly:bP wd hg (xs.set j (.int r)))(hx:xs[j]?=some .af)(h:df hg.toNat xs xs.length=[]):df hg.toNat (xs.set j (.int r)) (xs.set j (.int r)).length=[]:=by
 cases e:df hg.toNat (xs.set j (.int r)) (xs.set j (.int r)).length with
 |nil=>rfl
 |cons b t=>have f:=Zfk hx (Zhf ly h0 (by rw[e];exact Zaz));have:=M7 f;rw[h]at this;cases this
theorem OI {wd hg:Int}(ly:bP wd hg xs)(un:bH xs=true)(h:df hg.toNat xs xs.length=[]):aZ .af xs=true:=by
 cases e:aZ .af xs with
 |true=>rfl
 |false=>have:=M7 (Zfj ly un e);rw[h]at this;cases this
def Iz:Tg->Bool
 | .int _=>true
 | .bl _=>true
 |_=>false
def LY:Tg->Bool
 | .bl _=>true
 |_=>false
theorem ZgF {K:Zke}{n:Nat}{v:V}{t:Tg}(h:aE H n v t):∃T,fF K H v (.type T)/\PySem.W.kitOne K (.type T) (.type "int")=some (Iz t)/\PySem.W.kitOne K (.type T) (.type "bool")=some (LY t):=by
 cases h.c with
 |af e et=>subst e et;exact⟨_,.af,rfl,rfl⟩
 |bl b e et=>subst e et;exact⟨_,.bl b,rfl,rfl⟩
 |int i e et=>subst e et;exact⟨_,.int i,rfl,rfl⟩
 |str z e et=>subst e et;exact⟨_,.str z,rfl,rfl⟩
 |tup m p vs ts en e et hp=>subst e et;exact⟨_,.tup hp,rfl,rfl⟩
 |lst m p vs ts en e et hp=>subst e et;exact⟨_,.lst hp,rfl,rfl⟩
def zf:Option Int->V
 |none=>.af
 |some e=>.int e
theorem Fy {w:Str}{k:Nat}(h:∀s r,t≠.tup (.str s::r)):fe w (k+1) t=false:=by
 cases e:fe w (k+1) t with
 |false=>rfl
 |true=>obtain⟨r,z,_⟩:=Jp e;exact absurd z (h w r)
theorem Y7 {w s:Str}(h:s≠w):fe w k (.tup (.str s::r))=false:=by show(decide _&&decide (s=w))=false;rw[Zax h,Zc1]
theorem Fw {w:Str}{r:List Tg} :fe w k (.tup (.str w::r))=decide (r.length+1=k):=by show(decide _&&decide (w=w))=_;rw[Zau rfl,Bool.and_true];rfl
theorem Y8 {n:Nat} :aU hg (n+1) xs t=if gJ xs t=true then some 1 else if g9 hg xs t=true then some 1 else fg (aU hg n) hg xs t:=rfl
theorem M3 {n:Nat}(h:∀s r,t≠.tup (.str s::r)):aU hg (n+1) xs t=none:=by rw[Y8];unfold gJ g9 fg;rw[Fy h,Fy h,Fy h,Zbd,Zbd];simp
theorem UQ {n:Nat}{s:Str}(h1:s≠ "like")(h2:s≠ "shut")(h3:s≠ "cases"):aU hg (n+1) xs (.tup (.str s::r))=none:=by rw[Y8];unfold gJ g9 fg;rw[Y7 h1,Y7 h2,Y7 h3,Zbd,Zbd];simp
theorem W3 {n:Nat}{r:List Tg} :aU hg (n+1) xs (.tup (.str "like" ::r))=if (decide (r.length+1=5)&&(r.all (eG xs)&&tK xs r))=true then some 1 else none:=by
 rw[Y8];have e:gJ xs (.tup (.str "like" ::r))=(decide (r.length+1=5)&&(r.all (eG xs)&&tK xs r)):=by unfold gJ;rw[Fw];rfl
 rw[e];unfold g9 fg;rw[Y7 .d,Y7 .d,Zbd];simp
theorem Wa {n:Nat}{r:List Tg} :aU hg (n+1) xs (.tup (.str "shut" ::r))=if (decide (r.length+1=2)&&om hg xs (.tup (.str "shut" ::r)))=true then some 1 else none:=by
 rw[Y8];have e:g9 hg xs (.tup (.str "shut" ::r))=(decide (r.length+1=2)&&om hg xs (.tup (.str "shut" ::r))):=by unfold g9;rw[Fw]
 rw[e];unfold gJ fg;rw[Y7 .d,Y7 .d,Zbd];simp
theorem Jy {n:Nat}{r:List Tg} :aU hg (n+1) xs (.tup (.str "cases" ::r))=if r.length+1=3 then iD (aU hg n) hg xs (.tup (.str "cases" ::r)) else none:=by rw[Y8];unfold gJ g9 fg;rw[Y7 .d,Y7 .d,Zbd,Zbd,Fw];simp
theorem ZcN (h:dS 0 ((xs.length:Int)-1) t=false):lh xs t=false:=by
 cases t with
 |int i=>have h':(decide (0<=i)&&decide (i<=(xs.length:Int)-1))=false:=h;show dh xs i=false;unfold dh;rw[h'];rfl
 |_=>rfl
theorem OT {n:Nat}{s:Str}(hs:s= "shut" ∨s= "cases")(h:lh xs y=false):aU hg (n+1) xs (.tup (.str s::y::r))=none:=by
 rcases hs with rfl|rfl
 ·rw[Wa];refine ZaN fun z=>?_;rw[Zap,ZaF]at z;cases r with
  |nil=>rw[NM h]at z;exact Zam z.2
  |cons a b=>have:=z.1;simp at this
 ·rw[Jy];by_cases hl:(y::r).length+1=3
  ·rw[ZaQ hl]
   match r,hl with
   | [a],_=>exact W9 h
  ·rw[ZaN hl]
theorem Ze8 {s:Str} :aZ (.str s) [.str "shut",.str "cases"]=(decide (s= "shut")||decide (s= "cases")):=by
 show(dg (.str "shut") (.str s)||(dg (.str "cases") (.str s)||false))=_;have e:∀a b:Str,dg (.str a) (.str b)=decide (b=a):=fun a b=>by show(a==b)=_;rw[Zcc,Zcr,ZaF];exact eq_comm
 rw[e,e,Bool.or_false]
theorem Oz {o:Option Int} :∀{l:List (Option Int)},dM (l++[o])=lu (dM l) o
 | []=>by cases o<;>simp[dM,lu]
 |a::l=>by show lu a (dM (l++[o]))=lu (lu a (dM l)) o;rw[Oz];cases a<;>cases dM l<;>cases o<;>simp[lu,Int.add_assoc]
theorem Oy:∀{l:List (Option Int)},none∈l->dM l=none
 |a::l,h=>by
  show lu a (dM l)=none;rcases Zas.mp h with rfl|h
  ·rfl
  ·rw[Oy h];cases a<;>rfl
theorem Nc :∀{r:List Tg},r.all (dS a b)=true->∃ks:List Int,r=ks.map Tg.int
 | [],_=>⟨[],rfl⟩
 |y::r,h=>by rw[Zcf,Zap]at h;obtain⟨i,rfl,_⟩:=Wr h.1;obtain⟨ks,rfl⟩:=Nc h.2;exact⟨i::ks,rfl⟩
theorem NG {n:Nat} :∀{vs:List V}{ks:List Int},Paired (aE H n) vs (ks.map Tg.int)->vs=ks.map V.int
 |_,[],.nil=>rfl
 |_::_,k::ks,.cons h t=>by rw[Ja h,NG t];rfl
theorem NX (ok:gU xs){S:List I4}(pm:S.Perm ((bF xs xs.length).map U.fm))(so:(S.map aW).Pairwise fun a b=>aM b a=false)(ks:List Int):decide (ks∈(U.fJ S).map aW)=(decide ((ks.map Tg.int).length+1=5)&&((ks.map Tg.int).all (eG xs)&&tK xs (ks.map Tg.int))):=by
 have hi:=NW ok pm so;rw[Zcc,ZaF,Zap,Zap,ZaF,Zat];constructor
 ·intro h;obtain⟨⟨a,b,c,d⟩,hq,rfl⟩:=Za2.mp h;have hl:=(hi a b c d).mp hq;refine⟨rfl,?_,hl⟩;have h':=hl;unfold lO at h';rw[Zap,ZaK]at h';show [Tg.int a,.int b,.int c,.int d].all (eG xs)=true;simp only[Zcf,List.all_nil,Bool.and_true,Zap];exact⟨h'.1 a .s,h'.1 b .s,h'.1 c .s,h'.1 d .s⟩
 ·rintro⟨hl,_,h⟩
  match ks,hl with
  | [a,b,c,d],_=>exact Za2.mpr ⟨(a,b,c,d),(hi a b c d).mpr h,rfl⟩
theorem vJ :∀{r:List Tg},r.all (dS 0 ((xs.length:Int)-1))=false->r.all (eG xs)=false
 | [],h=>by cases h
 |y::r,h=>by
  rw[Zcf]at h |-;cases h1:dS 0 ((xs.length:Int)-1) y with
  |false=>rw[Ov h1,Zbd]
  |true=>rw[h1,Zbo]at h;rw[vJ h,Zc1]
theorem Zhs {ks:List aN}(h:Paired (gw H) vs ks):Paired (dm H) vs (ks.map aW):=by
 induction h with
 |nil=>exact .nil
 |cons h _ ih=>obtain⟨t,e,ht⟩:=h;exact .cons ⟨t,e,ht⟩ ih
abbrev BV:Stmt:=top 55
theorem QW:bo lm lm (aR BV):=ZU .k
inductive yD (vs:List V) (H:Hp) (Q:VK) (_E:XK):Prop
 |mk (x:V) (n:Nat) (t:Tg) (a b:Int) (c0:vs=[x,.int a,.int b]) (c1:aE H n x t) (c2:Q (.bl (dS a b t)) H)
theorem Sf (F:aO K "_law_whole" "_law_whole" BV f fd)(G:Gs mg):aJ P w K mg base aS 1 f fd lm yD:=by
 refine F.ok QW (fun vs H Q E h=>?_) (fun aw A outer s H vs Q E hr h=>?_)
 ·obtain⟨x,n,t,a,b,rfl,_⟩:=h;rfl
 ·obtain⟨x,n,t,a,b,rfl,ht,q⟩:=h;refine⟨_,Zk (Zr (Yw (Zm (Z8 (c:= "int")) rfl G.isinstance ZbZ (Za (pv 0) (Za (YB (v:=.ty "int") rfl G.int boot_int rfl) Zb)))
   (Yw (MK (Zm (Z8 (c:= "bool")) rfl G.isinstance ZbZ (Za (pv 0) (Za (YB (v:=.ty "bool") rfl G.bool boot_bool rfl) Zb))))
   (YJ (N7 Ax Ax (pv 1) (pv 0) (pv 2)))))),?_⟩
  obtain⟨T,ty,e1,e2⟩:=ZgF (K:=K) ht;refine⟨_,rfl,x,_,_,rfl,ty,e1,_,rfl,?_⟩;cases h1:Iz t with
  |false=>
   have e:dS a b t=false:=by cases t<;>first|rfl|cases h1
   rw[e]at q;exact ar q
  |true=>
   refine aq ⟨_,rfl,_,_,_,rfl,ty,e2,_,rfl,_,rfl,?_⟩;cases h2:LY t with
   |true=>
    have e:dS a b t=false:=by cases t<;>first|rfl|cases h2
    rw[e]at q;exact ar q
   |false=>
    obtain⟨i,rfl⟩:∃i,t=.int i:=by cases t<;>first|exact⟨_,rfl⟩|(cases h1;done)|(cases h2;done)
    have:=Ja ht;subst this;have e:dS a b (.int i)=(decide (a<=i)&&decide (i<=b)):=rfl;rw[e]at q;refine aq ⟨_,rfl,_,rfl,_,_,rfl,rfl,_,rfl,?_⟩;cases e1:decide (a<=i) with
    |false=>rw[e1]at q;exact ar q
    |true=>rw[e1]at q;exact aq ⟨_,rfl,_,_,rfl,rfl,q⟩
abbrev vo:Stmt:=top 58
abbrev Tf:List Str:=["_law_board","_law_lay_here","_law_thing","_law_fine","_law_rows","_law_found","_law_at","_law_row","_law_ends_here"]
theorem mW:bo Tf bi (aR vo):=ZU .k
inductive ql (n:Nat) (vs:List V) (H:Hp) (Q:VK) (_E:XK):Prop
 |mk (b l:Addr) (v:V) (wd hg:Int) (xs:List V) (m:Nat) (t:Tg) (c0:vs=[.ref b,.ref l,v]) (c1:bS H (.ref b) wd hg) (c2:H l=some (.tup xs)) (c3:bP wd hg xs) (c4:n=m+1) (c5:aE H (2*m+1) v t) (c6:∀H',ae H H'->Q (zf (aU hg n xs t)) H')
theorem Zg0 {k:Nat}(F:aO K "_law_ends" "_law_ends" vo f fd):aJ P w K mg base aS (k+1) f fd bi (ql 0):=
 F.ok mW (fun vs H Q E h=>by obtain⟨b,l,v,wd,hg,xs,m,t,rfl,_⟩:=h;rfl) (fun aw A outer s H vs Q E hr h=>by obtain⟨b,l,v,wd,hg,xs,m,t,rfl,_,_,_,h,_⟩:=h;cases h)
theorem Zhz {n k:Nat}(F:aO K "_law_ends" "_law_ends" vo f fd)(G:Gs mg)(yg:Def P w K mg base 1 "_law_whole" lm yD)(jH:Def P w K mg base 2 "_law_like" ii (oj K))(gA:Def P w K mg base 3 "_law_free" im ki)
  (hk:3<=k) (De:Def P w K mg base k "_law_ends" bi (ql n)):aJ P w K mg base aS (k+1) f fd bi (ql (n+1)):=by
 refine F.ok mW (fun vs H Q E h=>?_) (fun aw A outer s H vs Q E hr h=>?_)
 ·obtain⟨b,l,v,wd,hg,xs,m,t,rfl,_⟩:=h;rfl
 ·obtain⟨b,l,v,wd,hg,xs,m,t,rfl,bd,hl,ly,em,hT,q⟩:=h;cases em;have hu:=Wg hr;have lT:=Zdd hu;refine⟨_,Zd (ZP (PW.pt (JB (Yh (Z1 (Zm (Z8 (c:= "tuple")) rfl G.isinstance ZbZ (Za (pv 2) (Za (YB (v:=.ty "tuple") rfl G.tuple ZhZ rfl) Zb))))) (JB (Zp W6 (Zm Zx rfl G.len ZcY (Zv 2)) Zc) (JG (Yh (Z1 (Zm (Z8 (c:= "str")) rfl G.isinstance ZbZ (Za (ZR 2) (Za (YB (v:=.ty "str") rfl G.str PyProof.Rows.Boot.«str» rfl) Zb))))))))) (Zk (Zr ZW)) Zs)
   (Zd (ZP (Zp Jl (ZR 2) ZA)
    (Zd (Zq (i:=3) mW.nd (Zm JQ rfl G.all boot_all (Za (Z7 ["_law_line","_law_board"] 1 [0] (Wk (Zz ZS (pv 2) (ZD Zc) ZH)) (fun C s H fp=>pb 0) (fun C s H fp=>Ym)
      (fun C s H fp D=>ZK rfl (Zg yg (hr.mono .l) (Za (pv 0) (Za Zc (Za (Zl (show bf (aV _ _ _ C s H fp) (binaryOp .Sub) _ from Yx) (ZV (show j6 (aV _ _ _ C s H fp) (gF K) from Yb) (pv 1) Zc) Zc) Zb)))))) Zb)))
    (Zk (Zr (Jd (PW.pt (Jt (Z1 (pv 3)) (Y5 (Zp (Zf2 hu) (Zz ZS (pv 2) (ZD Zc) ZH) (Zg jH (hr.mono .l) (Zv 1)))))) Zc ZW)))) Zs)
   (Zd (ZP (PW.pt (JB (Zp YT (ZR 2) (Zj (Za ZA (Za ZA Zb)))) (JB (Yh (Z1 (Zg yg (hr.mono .o) (Za (ZR 2) (Za Zc (Za (Zl Yx (ZR 0) Zc) Zb)))))) (JG (Jb (Ji (ZV Yb (pv 1) (ZR 2)))))))) (Zk (Zr ZW)) Zs)
   (Zd (Zq (i:=4) mW.nd (Zg gA (hr.mono hk) (Za (pv 0) (Za (pv 1) (Za (ZR 2) Zb)))))
   (Zd (ZP (Zp Jl (ZR 2) ZA) (Zk (Zr (Jd (PW.pt (Jt (Zp Jl (Zm Zx rfl G.len ZcY (Zv 2)) Zc) (Y5 (Zp (WX lT) (pv 4) (ZC Zb))))) Zc ZW))) Zs)
   (Zd (ZP (PW.pt (JB (Zp xQ (Zm Zx rfl G.len ZcY (Zv 2)) Zc) (JB (Zp (WX lT) (pv 4) (ZC Zb)) (JB (Yh (Z1 (Zm (Z8 (c:= "tuple")) rfl G.isinstance ZbZ (Za (ZR 2) (Za (YB (v:=.ty "tuple") rfl G.tuple ZhZ rfl) Zb))))) (JG (Zp xQ (Zm Zx rfl G.len ZcY (Za (ZR 2) Zb)) (Zm Zx rfl G.len ZcY (Zv 4)))))))) (Zk (Zr ZW)) Zs)
   (Zd (Zq (i:=5) mW.nd Zc)
   (Zd (YY Zb0 rfl (N9 rfl G.enumerate (Zv 4)) (Yk rfl (Zo (ZE (i:=6) mW.nd) (Zo (ZE (i:=7) mW.nd) Z4)))
    (Zd (Zq (i:=8) mW.nd (Zg De hr (Za (pv 0) (Za (Zl ZG (Zl ZG (Zz ZS (pv 1) ZH (ZD (ZR 2))) (Zj (Zv 7))) (Zz ZS (pv 1) (ZD (Zl Ya (ZR 2) Zc)) ZH)) (Za (ZV Yb (ZR 2) (pv 6)) Zb)))))
    (Zd (ZP (Jb (WU (pv 8))) (Zk (Zr ZW)) Zs)
    (Zk (Zq (i:=5) mW.nd (Zl Ya (pv 5) (pv 8)))))))
   (Zk (Zr (pv 5)))))))))),?_⟩
  try dsimp only[cw]
  refine A7 ?_;intro jD Di qK wa kB wb kC qJ jq nk fo lP eO gK bX cF aY;obtain⟨b',eb,hb⟩:=ZO bd.1;cases eb;obtain⟨_,w1,mK,g1,pj⟩:=id bd;have hlen:=ly.len;have gT:(bF xs xs.length).length<=144:=by
   rw[<-(Z9 xs).length_eq,Zat];have h1:=JV (bE xs);have h2:=Ug xs;have h5:=Zh5 (show(bE xs).length<=12 by lia) (show(bE xs).length<=12 by omega)
   lia
  have aar:[V.str "shut",V.str "cases"].all iA=true:=.d;have no:(∀s r,t≠.tup (.str s::r))->∀H',ae H H'->Q .af H':=fun h H' s'=>by have:=q H' s';rw[M3 h]at this;exact this
  obtain⟨T,ty,eT,_⟩:=Fd (K:=K) hT;refine⟨_,rfl,v,_,_,rfl,ty,eT,_,rfl,?_⟩;cases hT.c with
  |af e et=>subst e et;exact aq (aq (no (fun _ _ z=>by cases z) _ (ae.refl _)))
  |bl _ e et=>subst e et;exact aq (aq (no (fun _ _ z=>by cases z) _ (ae.refl _)))
  |int _ e et=>subst e et;exact aq (aq (no (fun _ _ z=>by cases z) _ (ae.refl _)))
  |str _ e et=>subst e et;exact aq (aq (no (fun _ _ z=>by cases z) _ (ae.refl _)))
  |lst _ _ _ _ en e et h=>subst e et;exact aq (aq (no (fun _ _ z=>by cases z) _ (ae.refl _)))
  |tup m p vs ts en e et hp pr _=>
  subst e et;have em:m=2*n:=.l;subst em;have wj:vs.length=ts.length:=ZaM pr;refine ar ⟨_,rfl,p,_,rfl,.inr (ah.of hp),_,_,rfl,rfl,_,rfl,?_⟩;cases pr with
  |nil=>exact aq (aq (no (fun _ _ z=>by cases z) _ (ae.refl _)))
  | @cons x0 y0 vr tr r0 pr=>
  cases pr with
  |nil=>
   refine aq (aq ?_);have z:aU hg (n+1) xs (.tup [y0])=none:=by
    cases y0 with
    |str s=>
     by_cases h1:s= "like"
     ·subst h1;rw[W3];rfl
     ·by_cases h2:s= "shut"
      ·subst h2;rw[Wa];rfl
      ·by_cases h3:s= "cases"
       ·subst h3;rw[Jy];rfl
       ·exact UQ h1 h2 h3
    |_=>exact M3 (fun _ _ z=>by cases z)
   have:=q _ (ae.refl _);rw[z]at this;exact this
  | @cons x1 y1 vr tr r1 pr=>
  have n2:decide ((((x0::x1::vr).length:Nat):Int)<2)=false:=by simp;lia
  rw[n2];have yz:dj (x0::x1::vr) 0=some x0:=ZJ (show(x0::x1::vr)[0]?=some x0 from rfl);have uV:dj (x0::x1::vr) 1=some x1:=ZJ (show(x0::x1::vr)[1]?=some x1 from rfl);obtain⟨T0,PM,_,eT0⟩:=Fd (K:=K) r0;refine ar ⟨_,rfl,p,_,_,_,rfl,rfl,ah.of hp,yz,x0,_,_,rfl,PM,eT0,_,rfl,?_⟩;cases hs:G3 y0 with
  |false=>exact aq (no (fun s r z=>by cases z;cases hs) _ (ae.refl _))
  |true=>
  obtain⟨sw,rfl⟩:∃s,y0=.str s:=by cases y0<;>first|exact⟨_,rfl⟩|cases hs
  have ex0:=Az r0;subst ex0;refine ar (ZN ?_);dsimp only;refine aY _ _ ⟨_,rfl,p,_,_,_,rfl,rfl,ah.of hp,yz,rfl,_,rfl,?_⟩;by_cases wO:sw= "like"
  ·subst wO;rw[show decide (V.str "like" =V.str "like")=true from Zau rfl];refine aq ?_;rw[W3]at q;refine ZX (ZB ⟨_,rfl,_,rfl,p,_,rfl,hp,fun u H1 s1 e1=>⟨u,rfl,⟨_,ah.of e1⟩,?_⟩⟩);have mq:H1 u=some (.tup (x1::vr)):=by rw[e1];rw[show(some (1:Int))=some (((0:Nat):Int)+1) from rfl,U.S.kX (i:=0) .s];rfl
   have fE:=s1 _ _ hb;have vK:Paired (aE H1 (2*n)) (x1::vr) (y1::tr):=Paired.bh (.cons r1 pr) fun _ _ h=>h.same s1;have lrr:vr.length=tr.length:=ZaM pr;have Vr:(x1::vr).length<=1000:=by rename_i hz;simp at hz |-;lia
   generalize hR:y1::tr=R at vK q;generalize hV:x1::vr=W at vK mq Vr;have lW:=ZaM vK;refine Je (xs:=W) (fun i ys σ H2=>ys=(R.take i).map (fun y=>V.bl (dS 0 (wd-1) y))/\H2=H1/\∃v,σ=[v,some (.ref b)]) ⟨rfl,rfl,none,rfl⟩ (fun i ys σ H2 _ ⟨_,e2,_⟩=>by rw[e2];exact ah.of mq) ?_ ?_
   ·rintro i y ys σ H2 hy ⟨rfl,rfl,v,rfl⟩;obtain⟨yi,jQ,ry⟩:=YO vK hy;have hi:=(Zai.mp hy).1;refine Zn ?_;dsimp only[List.set];refine⟨_,rfl,_,rfl,b,_,_,_,rfl,rfl,ah.of fE,jE,_,_,rfl,rfl,y,_,yi,0,wd-1,rfl,ry,?_,?_,rfl,_,rfl⟩
    ·rw[Zat,ZaH,ZaB]
     lia
    ·rw[ZaO,jQ,ZaW];rfl
   ·rintro ys σ H2 ⟨rfl,rfl,v,rfl⟩ L hL;have s2:ae H2 (upd H2 L (.lst (List.map (fun y=>V.bl (dS 0 (wd-1) y)) (List.take W.length R)))):=Zf hL;rw[lW,ZaV]at s2 |-;refine⟨L,R.map (dS 0 (wd-1)),rfl,by rw[Zdq];exact ak.of aj,Zn ?_⟩;have eA:(R.map (dS 0 (wd-1))).all id=R.all (dS 0 (wd-1)):=by rw[Zh9];rfl
    rw[eA];generalize upd H2 L (HO.lst (List.map (fun y=>V.bl (dS 0 (wd-1) y)) R))=H3 at s2;dsimp only[List.set];have cb:=s1.trans s2;have ew:wd-1=(xs.length:Int)-1:=.l;cases dc:R.all (dS 0 (wd-1)) with
    |false=>rw[ew]at dc;rw[vJ dc,Zbd,Zc1,ZaN Zam]at q;exact⟨_,rfl,_,rfl,ar (ar (q _ cb))⟩
    |true=>
     refine⟨_,rfl,_,rfl,aq ?_⟩;obtain⟨ks,wR⟩:=Nc dc;subst wR;have hW:=NG vK;refine⟨_,rfl,_,rfl,p,_,rfl,cb _ _ hp,fun u2 H4 s4 e4=>⟨_,rfl,.mk l xs rfl ((cb.trans s4) _ _ hl) ly.ok .l gT fun q5 H5 zs S s5 _ e5 oH pm so _=>?_⟩⟩;rw[show(some (1:Int))=some (((0:Nat):Int)+1) from rfl,U.S.kX (i:=0) .s]at e4;have Ah:H4 u2=some (.tup (x1::vr)):=e4;rw[hV,hW]at Ah;refine⟨q5,zs,ks,(U.fJ S).map aW,⟨u2,rfl,s5 _ _ Ah⟩,rfl,ak.of e5,Zhs oH,_,rfl,?_⟩;rw[NX ly.ok pm so];have q5:=q _ (cb.trans (s4.trans s5));cases hh:(decide ((ks.map Tg.int).length+1=5)&&((ks.map Tg.int).all (eG xs)&&tK xs (ks.map Tg.int))) with
     |true=>rw[hh,ZaQ rfl]at q5;exact aq q5
     |false=>rw[hh,ZaN Zam]at q5;exact ar q5
  ·rw[Zax (show ¬V.str sw=V.str "like" from fun z=>wO (V.str.inj z))];refine ar (ZN ?_);dsimp only;refine bX _ _ ⟨_,rfl,p,_,_,_,rfl,rfl,ah.of hp,yz,aK,fun c hc=>?_⟩;obtain⟨H1,zz,m1,ec⟩:=cU (o:=.tup [V.str "shut",V.str "cases"]) hc;rw[zz];refine⟨c,_,rfl,.inr (ah.of ec),rfl,aar,_,rfl,?_⟩;have gM:=m1 _ _ hp;rw[show(if true=true then !aZ (V.str sw) [V.str "shut",V.str "cases"] else aZ (V.str sw) [V.str "shut",V.str "cases"])= !(decide (sw= "shut")||decide (sw= "cases")) by rw[ZaQ rfl,Ze8]];cases hw:(decide (sw= "shut")||decide (sw= "cases")) with
   |false=>rw[Bool.or_eq_false_iff,decide_eq_false_iff_not,decide_eq_false_iff_not]at hw;rw[UQ wO hw.1 hw.2]at q;exact aq (aq (q _ m1))
   |true=>
   rw[Ziz,ZaF,ZaF]at hw;have qO:=r1.same m1;refine ar ⟨_,rfl,p,_,_,_,rfl,rfl,ah.of gM,uV,_,rfl,b,_,_,_,rfl,rfl,ah.of (m1 _ _ hb),jE,_,_,rfl,rfl,x1,_,y1,0,wd-1,rfl,qO,_,rfl,?_⟩;have ew:wd-1=(xs.length:Int)-1:=.l;cases qP:dS 0 (wd-1) y1 with
   |false=>rw[ew]at qP;rw[OT hw (ZcN qP)]at q;exact aq (aq (q _ m1))
   |true=>
   obtain⟨i,rfl,i0,i1⟩:=Wr qP;have ex1:=Ja r1;subst ex1;obtain⟨j,rfl⟩:∃j:Nat,i=j:=⟨i.toNat,.l⟩;have hj:j<xs.length:=.l;refine ar ⟨_,rfl,_,rfl,p,_,_,_,rfl,rfl,ah.of gM,uV,l,_,_,_,rfl,rfl,ah.of (m1 _ _ hl),ZJ (Zaj hj),_,rfl,?_⟩;have pD:dh xs (j:Int)=decide (xs[j]=V.af):=by unfold dh;rw[Zau i0,Zau (by lia:(j:Int)<=(xs.length:Int)-1),Zb2,Zaj hj,Zbo,Zbo];exact Zdl.mpr ⟨Za3,fun h=>ZbT _ h⟩
   by_cases Dr:xs[j]=V.af
   case neg=>rw[Zax Dr]at pD |-;rw[OT hw (show lh xs (.int (j:Int))=false from pD)]at q;exact aq (q _ m1)
   rw[Zau Dr]at pD |-;have hx:xs[j]?=some .af:=by rw[Zaj hj,Dr]
   refine ar (ZN ?_);dsimp only;refine eO _ _ (ZB ⟨_,rfl,_,rfl,_,rfl,p,_,_,_,rfl,rfl,ah.of gM,uV,b,l,j,wd,hg,xs,rfl,bd.same m1,m1 _ _ hl,ly,hx,fun L H2 s2 nv e2=>Zn ?_⟩);dsimp only[List.set];have dQ:=s2 _ _ gM;have dN:=m1.trans s2;refine fo _ _ ⟨_,rfl,p,_,_,_,rfl,rfl,ah.of dQ,yz,rfl,_,rfl,?_⟩;by_cases wC:sw= "shut"
   ·subst wC;rw[show decide (V.str "shut" =V.str "shut")=true from Zau rfl];rw[Wa]at q;refine aq ⟨_,rfl,p,_,rfl,.inr (ah.of dQ),rfl,_,rfl,?_⟩;cases pr with
    | @cons x2 y2 vr tr r2 pr=>rw[Zax (show ¬V.int (((V.str "shut" ::V.int (j:Int)::x2::vr).length:Nat):Int)=V.int 2 from fun z=>by have:=V.int.inj z;simp at this;lia)];rw[ZaN .s]at q;exact ar (ar (q _ dN))
    |nil=>
     have eS:om hg xs (.tup [.str "shut",.int (j:Int)])=(dh xs j&&decide (aQ hg.toNat xs (j:Int).toNat=[])):=rfl;rw[eS,pD,Zbo,Zb2]at q;refine aq ⟨_,rfl,ZaJ _,fun d hd=>?_⟩;have m3:=Zf (o:=.lst ([]:List V)) hd;refine⟨L,d,_,rfl,rfl,ak.of (m3 _ _ e2),ak.of aj,_,rfl,?_⟩;have e3:((aQ hg.toNat xs j).map V.int).isEmpty=decide (aQ hg.toNat xs j=[]):=by cases aQ hg.toNat xs j<;>rfl
     rw[e3];have q3:=q _ (dN.trans m3);cases hh:decide (aQ hg.toNat xs j=[]) with
     |true=>rw[hh]at q3;exact aq q3
     |false=>rw[hh]at q3;exact ar q3
   rw[Zax (show ¬V.str sw=V.str "shut" from fun z=>wC (V.str.inj z))];have X3:sw= "cases" :=hw.resolve_left wC;subst X3;refine ar (ZN ?_);dsimp only;refine jq _ _ ⟨_,rfl,p,_,rfl,.inr (ah.of dQ),rfl,_,rfl,?_⟩;rw[Jy]at q;cases pr with
   |nil=>exact aq (aq (q _ dN))
   | @cons x2 y2 vr tr r2 pr=>
   cases pr with
   | @cons x3 y3 vr tr r3 pr=>rw[Zax (show ¬V.int (((V.str "cases" ::V.int (j:Int)::x2::x3::vr).length:Nat):Int)=V.int 3 from fun z=>by have:=V.int.inj z;simp at this;lia)];rw[ZaN .s]at q;exact aq (aq (q _ dN))
   |nil=>
   rw[ZaQ (show [Tg.int (j:Int),y2].length+1=3 from rfl)]at q;have Bb:dj [V.str "cases",V.int (j:Int),x2] 2=some x2:=ZJ (show [V.str "cases",V.int (j:Int),x2][2]?=some x2 from rfl);refine ar ⟨_,rfl,ZaJ _,fun d hd=>?_⟩;have m3:=Zf (o:=.lst ([]:List V)) hd;have ed:upd H2 d (.lst ([]:List V)) d=some (.lst []):=aj;generalize upd H2 d (.lst ([]:List V))=H3 at m3 ed;have e3:=m3 _ _ e2;have kK:=m3 _ _ dQ;have cb:=m1.trans (s2.trans m3);have vI:=r2.same cb;refine⟨L,d,_,rfl,rfl,ak.of e3,ak.of ed,_,rfl,?_⟩;have eC:∀ts,iD (aU hg n) hg xs (.tup [.str "cases",.int (j:Int),.tup ts])=if (dh xs j&&(!(aQ hg.toNat xs j).isEmpty&&decide (ts.length=(aQ hg.toNat xs j).length)))=true then dM (((aQ hg.toNat xs j).zip ts).map fun rt=>aU hg n (xs.set j (.int rt.1)) rt.2) else none:=fun ts=>rfl
   have eE:((aQ hg.toNat xs j).map V.int).isEmpty=(aQ hg.toNat xs j).isEmpty:=by cases aQ hg.toNat xs j<;>rfl
   rw[eE];cases zQ:(aQ hg.toNat xs j).isEmpty with
   |true=>
    have z:iD (aU hg n) hg xs (.tup [.str "cases",.int (j:Int),y2])=none:=by
     cases y2 with
     |tup ts=>rw[eC,zQ,Bool.not_true,Zbd,Zc1,ZaN Zam]
     |_=>rfl
    rw[z]at q;exact aq (aq (q _ cb))
   |false=>
   obtain⟨T2,PL,eT2,_⟩:=Fd (K:=K) vI;refine ar ⟨_,rfl,p,_,_,_,rfl,rfl,ah.of kK,Bb,x2,_,_,rfl,PL,eT2,_,rfl,?_⟩;have vP:uO y2=none->∀(H':Hp),ae H H'->Q .af H':=fun z H' s'=>by have:=q H' s';rw[UU z]at this;exact this
   cases vI.c with
   |af e et=>subst e et;exact aq (aq (vP rfl _ cb))
   |bl _ e et=>subst e et;exact aq (aq (vP rfl _ cb))
   |int _ e et=>subst e et;exact aq (aq (vP rfl _ cb))
   |str _ e et=>subst e et;exact aq (aq (vP rfl _ cb))
   |lst _ _ _ _ en e et h=>subst e et;exact aq (aq (vP rfl _ cb))
   |tup m2 qa ps ts EI e et jS bC _=>
   subst e et;obtain⟨n',rfl⟩:∃n',n=n'+1:=⟨n-1,.l⟩;have rJ:m2=2*n'+1:=.l;subst rJ;refine ar ⟨_,rfl,p,_,_,_,rfl,rfl,ah.of kK,Bb,qa,_,rfl,.inr (ah.of jS),_,rfl,L,_,rfl,.inl (ak.of e3),rfl,_,rfl,?_⟩;have TF:ps.length=ts.length:=ZaM bC;rw[eC,pD,zQ,Zbo,ZiO,Zbo]at q;by_cases wm:ts.length=(aQ hg.toNat xs j).length
   case neg=>rw[Zax wm,ZaN Zam]at q;rw[Zax (show ¬V.int (ps.length:Int)=V.int (((aQ hg.toNat xs j).map V.int).length:Int) from fun z=>wm (by have:=V.int.inj z;rw[Zat]at this;lia))];exact aq (q _ cb)
   rw[Zau wm,ZaQ rfl]at q;rw[show(!decide (V.int (ps.length:Int)=V.int (((aQ hg.toNat xs j).map V.int).length:Int)))=false by rw[Zat,TF,wm];simp];refine ar (ZN ?_);dsimp only;refine kC _ _ (ZB (Zn ?_));dsimp only[List.set];generalize bY:((aQ hg.toNat xs j).zip ts).map (fun rt=>aU hg (n'+1) (xs.set j (.int rt.1)) rt.2)=es at q;have TX:es.length=(aQ hg.toNat xs j).length:=by rw[<-bY,Zat,ZhM,wm,Nat.min_self]
   refine kB _ _ ⟨_,rfl,L,rfl,⟨_,ak.of e3⟩,?_⟩;refine OZ (xs:=(aQ hg.toNat xs j).map V.int) (fun i σ H'=> ∃e x6 x7 x8,σ=[some (.ref b),some (.ref l),some (.ref p),none,some (.ref L),some (.int e),x6,x7,x8]/\ae H3 H'/\dM (es.take i)=some e) ⟨_,_,_,_,rfl,ae.refl _,rfl⟩ (fun i σ H' _ ⟨_,_,_,_,_,s',_⟩=>ak.of (s' _ _ e3)) ?_ ?_
   ·rintro i v T σ H4 hv hT ⟨e,x6,x7,x8,rfl,s4,he⟩;rw[Zby,Zbp]at hv;obtain⟨r,bt,rfl⟩:=hv;have hi:=(Zai.mp bt).1;obtain⟨⟨CD,CC⟩,rn,ru⟩:=JL.mp (Zao bt);have sT:=Zf (o:=.par [.int (i:Int),.int r]) hT;refine⟨T,_,rfl,ah.vO aj,rfl,_,_,rfl,_,_,rfl,rfl,?_⟩;generalize upd H4 T (HO.par [V.int (i:Int),V.int r])=H5 at sT;dsimp only[List.set];have jK:=s4.trans sT;have tw:=cb.trans jK;have oW:=tw _ _ hl;have tU:=tw _ _ hp;refine ZX (ZB ⟨_,rfl,_,rfl,_,rfl,p,_,_,_,rfl,rfl,ah.of tU,uV,_,rfl,l,xs,rfl,oW,fun c1 J1 q1 f1=>⟨_,rfl,aK,fun c2 eQ=>?_⟩⟩);rw[rN hj]at f1;have q2:=Zf (o:=.tup [V.int r]) eQ;refine Yz (q2 _ _ f1) aj (by rw[ZaB];simp;lia) fun c3 J3 q3 f3=>?_;have qz:=q1.trans (q2.trans q3);refine⟨_,rfl,_,rfl,p,_,_,_,rfl,rfl,ah.of (qz _ _ tU),uV,_,_,rfl,rfl,_,rfl,l,xs,rfl,qz _ _ oW,fun c4 J4 q4 f4=>?_⟩;rw[kX hj]at f4;refine Yz (q4 _ _ f3) f4 (by rw[Zak,ZaB,Za5];simp;omega) fun c5 J5 q5 f5=>?_;rw[Uf hj]at f5;have sA:=qz.trans (q4.trans q5);have Ct:=tw.trans sA;have tQ:=Zaj (l:=ps) (i:=i) .l;obtain⟨pW,kI,ff⟩:=YO bC tQ;have hz:((aQ hg.toNat xs j).zip ts)[i]?=some (r,pW):=ZcB.mpr ⟨bt,kI⟩;have DW:es[i]?=some (aU hg (n'+1) (xs.set j (.int r)) pW):=by rw[<-bY,Zby,hz];rfl
    refine⟨_,rfl,p,_,_,_,rfl,rfl,ah.of (Ct _ _ hp),Bb,_,rfl,qa,_,_,_,rfl,rfl,ah.of ((jK.trans sA) _ _ jS),ZJ tQ,?_⟩;refine⟨b,c5,_,wd,hg,_,n',pW,rfl,bd.same Ct,f5,WE ly hx CD .l rn,rfl,ff.same (jK.trans sA),fun H6 s6=>Zn ?_⟩;dsimp only[List.set];generalize aU hg (n'+1) (xs.set j (.int r)) pW=oe at DW;cases oe with
    |none=>refine ZX ⟨_,rfl,_,rfl,aq ?_⟩;rw[Oy (Zao DW)]at q;exact q _ (Ct.trans s6)
    |some e'=>refine ZX ⟨_,rfl,_,rfl,ar (ZN ?_)⟩;dsimp only;refine ZB ⟨_,rfl,_,rfl,_,_,rfl,rfl,Zn ?_⟩;dsimp only[List.set];refine⟨_,_,_,_,rfl,jK.trans (sA.trans s6),?_⟩;rw[ZaO,DW];show dM (es.take i++[some e'])=_;rw[Oz,he];rfl
   ·rintro σ H4 ⟨e,x6,x7,x8,rfl,s4,he⟩;refine qK _ _ ?_;refine⟨_,rfl,?_⟩;have:=q _ (cb.trans s4);rw[Zat,<-TX,ZaV]at he;rw[he]at this;exact this
theorem Iu (dE:∀(k:Nat) (sp:Sp),(∀f fd,aO K "_law_ends" "_law_ends" vo f fd->aJ P w K mg base aS k f fd bi sp)->Def P w K mg base k "_law_ends" bi sp)(G:Gs mg)
  (yg:Def P w K mg base 1 "_law_whole" lm yD) (jH:Def P w K mg base 2 "_law_like" ii (oj K)) (gA:Def P w K mg base 3 "_law_free" im ki):∀n,Def P w K mg base (4+n) "_law_ends" bi (ql n)
 |0=>dE _ _ fun f fd F=>Zg0 F
 |n+1=>dE _ _ fun f fd F=>Zhz F G yg jH gA (by show 3<=4+n;lia) (Iu dE G yg jH gA n)
end U.S
namespace U.S
open PySem L2 PyProof.Rows
mutual
def dG:Tg->PyData
 | .af=>.none
 | .bl b=>.bool b
 | .int i=>.int i
 | .str s=>.str s
 | .tup ts=>.tuple (gr ts)
 | .lst ts=>.list (gr ts)
def gr:List Tg->List PyData
 | []=> []
 |t::r=>dG t::gr r
end
def tL (i:Int):Nat:=if i.natAbs<100 then 3 else if i.natAbs<10^30 then 31 else 100000000
mutual
def aT:Tg->Nat
 | .af=>4
 | .bl _=>5
 | .int i=>tL i
 | .str s=>(PyData.str s).shown.length
 | .tup ts=>bU ts+3
 | .lst ts=>bU ts+3
def bU:List Tg->Nat
 | []=>0
 |t::r=>aT t+2+bU r
end
theorem Yy {i:Int}(h:i.natAbs<100):tL i=3:=ZaQ h
theorem ZdC {i:Int}(h:tL i<100000000):(PyData.int i).shown.length<=tL i/\(PyData.int i).showable=true:=by
 have lg:∀n:Nat,n<10^30->n.log2<1920:=fun n hn=>by
  by_cases h0:n=0
  ·subst h0;decide
  ·exact(Nat.log2_lt h0).mpr (Zjs hn .d)
 have sl:∀k:Nat,i.natAbs<10^k->0<k->(PyData.int i).shown.length<=k+1:=fun k hk h0=>by have e:=int_text_length_le10 (k:=k) h0 hk;show(Str.ofString (toString i)).length<=k+1;rw[PySem.ofString_length];exact e
 unfold tL at h |-;by_cases h1:i.natAbs<100
 ·rw[ZaQ h1];exact⟨sl 2 h1 .d,by simp only[PyData.showable,ZaF];exact lg _ (Zjs h1 .d)⟩
 ·rw[ZaN h1]at h |-;by_cases h2:i.natAbs<10^30
  ·rw[ZaQ h2];exact⟨sl 30 h2 .d,by simp only[PyData.showable,ZaF];exact lg _ h2⟩
  ·rw[ZaN h2]at h;exact absurd h (ZbM _)
mutual
theorem NK:∀t:Tg,aT t<100000000->(dG t).shown.length<=aT t/\(dG t).showable=true/\(dG t).hasDict=false
 | .af,_=>⟨.d,rfl,rfl⟩
 | .bl b,_=>⟨by cases b<;>decide,rfl,rfl⟩
 | .int i,h=>by
  have h':tL i<100000000:=by simpa only[aT] using h
  have:=ZdC h';exact⟨by simpa only[aT,dG] using this.1,by simpa only[dG] using this.2,by simp only[dG,PyData.hasDict]⟩
 | .str s,_=>⟨by simp only[aT,dG];exact Zal _,by simp only[dG,PyData.showable],by simp only[dG,PyData.hasDict]⟩
 | .tup ts,h=>by
  have h':bU ts+3<100000000:=by simpa only[aT] using h
  obtain⟨h1,h2,h3⟩:=By ts .l;have h4:=tupleText_len_le (PyData.shownAll (gr ts));refine⟨?_,by simpa only[dG,PyData.showable] using h2,by simpa only[dG,PyData.hasDict] using h3⟩;simp only[dG,PyData.shown,aT]
  lia
 | .lst ts,h=>by
  have h':bU ts+3<100000000:=by simpa only[aT] using h
  obtain⟨h1,h2,h3⟩:=By ts .o;have h4:=listText_len_le (PyData.shownAll (gr ts));refine⟨?_,by simpa only[dG,PyData.showable] using h2,by simpa only[dG,PyData.hasDict] using h3⟩;simp only[dG,PyData.shown,aT]
  lia
theorem By:∀ts:List Tg,bU ts<100000000->((PyData.shownAll (gr ts)).map (·.length)).sum+2*(PyData.shownAll (gr ts)).length<=bU ts/\PyData.showableAll (gr ts)=true/\PyData.hasDictAll (gr ts)=false
 | [],_=>⟨by simp[gr,PyData.shownAll,bU],rfl,rfl⟩
 |t::r,h=>by
  have h':aT t+2+bU r<100000000:=by simpa only[bU] using h
  obtain⟨a1,a2,a3⟩:=NK t .l;obtain⟨b1,b2,b3⟩:=By r .l;refine⟨?_,by simp only[gr,PyData.showableAll,a2,b2,Bool.and_self],by simp only[gr,PyData.hasDictAll,a3,b3,Bool.or_self]⟩;simp only[gr,PyData.shownAll,Zbv,List.sum_cons,ZaU,bU]
  lia
end
theorem Zfw :∀{n:Nat}{v:V}{t:Tg},aE H n v t->(dG t).depth<=n:=fun {n} =>by
 induction n with
 |zero=>intro v t h;cases t<;>first|exact h.elim|(simp only[dG,PyData.depth];exact Zal _)
 |succ n ih=>
  have all:∀{vs:List V}{ts:List Tg},Paired (aE H n) vs ts->PyData.depthAll (gr ts)<=n:=by
   intro vs ts pr
   induction pr with
   |nil=>simp[gr,PyData.depthAll]
   |cons h _ wc=>simp only[gr,PyData.depthAll];exact Nat.max_le.mpr ⟨ih h,wc⟩
  intro v t h;cases t with
  |tup ts=>obtain⟨p,vs,_,_,pr,_⟩:=h;have:=all pr;simp only[dG,PyData.depth];lia
  |lst ts=>obtain⟨p,vs,_,_,pr,_⟩:=h;have:=all pr;simp only[dG,PyData.depth];omega
  |_=>simp only[dG,PyData.depth];exact ZaJ _
theorem Zhq :∀{n:Nat}{v:V}{t:Tg},aE H n v t->Sh H v (dG t):=fun {n} =>by
  induction n with
  |zero=>
   intro v t h;cases t with
   |af=>have e:v=.af:=h
        subst e;exact .af
   |bl b=>have e:v=.bl b:=h
          subst e;exact .bl b
   |int b=>have e:v=.int b:=h
           subst e;exact .int b
   |str b=>have e:v=.str b:=h
           subst e;exact .str b
   |tup ts=>exact h.elim
   |lst ts=>exact h.elim
  |succ n ih=>
   have all:∀{vs:List V}{ts:List Tg},Paired (aE H n) vs ts->rT H vs (gr ts):=by
     intro vs ts pr
     induction pr with
     |nil=>exact .nil
     |cons h _ wc=>exact .cons (ih h) wc
   intro v t h;cases t with
   |tup ts=>obtain⟨p,vs,e,hp,pr,_⟩:=h;subst e;exact .tup hp (all pr)
   |lst ts=>obtain⟨p,vs,e,hp,pr,_⟩:=h;subst e;exact .lst hp (all pr)
   |af=>have e:v=.af:=h
        subst e;exact .af
   |bl b=>have e:v=.bl b:=h
          subst e;exact .bl b
   |int b=>have e:v=.int b:=h
           subst e;exact .int b
   |str b=>have e:v=.str b:=h
           subst e;exact .str b
def uG:Nat->Nat
 |0=>0
 |m+1=>36+7*uG m
def nX:Nat->Tg->Prop
 |0,_=>False
 |m+1,t=>aT t<=uG (m+1)/\(∀ts,t=.tup ts->∀u∈ts,aT u<=uG (m+1))/\∀y z ts,t=.tup [y,z,.tup ts]->ts.length<=7/\∀u∈ts,nX m u
theorem Mm (m:Nat):36<=uG (m+1):=by unfold uG;lia
theorem MD (ts:List Tg):aT (.tup ts)=bU ts+3:=by simp only[aT]
theorem Uu {z:Nat} :∀{ts:List Tg},(∀u∈ts,aT u<=z)->bU ts<=ts.length*(z+2)
 | [],_=>by simp[bU]
 |t::r,h=>by
  have h1:=h t Zaz;have h2:=Uu fun u hu=>h u (Zaq _ hu);simp only[bU,ZaU,ZjN,Nat.one_mul]
  lia
theorem Nt {z y:Nat}{t':Tg}(ht:aT t'<=y):∀{ts:List Tg}(i:Nat),(∀u∈ts,aT u<=z)->bU (ts.set i t')<=ts.length*(z+2)+(y+2)
 | [],_,_=>by simp[bU]
 |t::r,0,h=>by
  have h2:=Uu fun u hu=>h u (Zaq _ hu);simp only[ZiI,bU,ZaU,ZjN,Nat.one_mul]
  lia
 |t::r,i+1,h=>by
  have h1:=h t Zaz;have h2:=Nt ht i fun u hu=>h u (Zaq (a:=u) _ hu);simp only[List.set_cons_succ,bU,ZaU,ZjN,Nat.one_mul]
  lia
theorem FI {i:Int}(h0:0<=i)(h:i<100):aT (.int i)=3:=by simp only[aT];exact Yy .l
theorem YR:aT (.str "like")=6/\aT (.str "shut")=6/\aT (.str "cases")=7:=by refine⟨?_,?_,?_⟩<;>simp only[aT]<;>decide+kernel
end U.S
namespace U.S
open PySem L2 PyProof.Rows PyProof.Rows.fS
def pM (xs:List V):Nat:=xs.countP fun v=>decide (v=V.af)
theorem OK (h:xs[j]?=some .af):pM (xs.set j (.int r))+1=pM xs:=by
 obtain⟨hj,e⟩:=Zai.mp h;have hp:0<pM xs:=List.countP_pos_iff.mpr ⟨.af,by rw[<-e];exact ZbA hj,.s⟩;unfold pM at hp |-;rw[List.countP_set hj,e];simp only[decide_true,Zgx];rw[show decide (V.int r=V.af)=false from rfl];simp only[ZcX,Zh2]
 lia
theorem OJ {j:Nat}(h:xs[j]?=some .af):0<pM xs:=by obtain⟨hj,e⟩:=Zai.mp h;exact List.countP_pos_iff.mpr ⟨.af,by rw[<-e];exact ZbA hj,.s⟩
def mask (p:Addr)(H:Hp):Hp:=fun a=>if a=p then none else H a
theorem Yt (h:H a=some o)(n:a≠p):mask p H a=some o:=by unfold mask;rw[ZaN n];exact h
theorem JM (x:av p H H'):ae (mask p H) (mask p H'):=fun a o h=>by
 unfold mask at h |-;by_cases n:a=p
 ·rw[ZaQ n]at h;cases h
 ·rw[ZaN n]at h |-;exact x a o h n
theorem WC :ae (mask p H) H:=fun a o h=>by
 unfold mask at h;by_cases n:a=p
 ·rw[ZaQ n]at h;cases h
 ·rw[ZaN n]at h;exact h
theorem Yf (st:bg H p)(h:H l=some (.tup xs)):l≠p:=by obtain⟨_,_,e,_⟩:=st;exact YW h e (by intro z;cases z)
theorem JK (st:bg H p)(h:H l=none):l≠p:=by obtain⟨_,_,e,_⟩:=st;intro z;rw[z,e]at h;cases h
theorem Aq (bd:bS H (.ref b) wd hg)(x:av p H H')(st:bg H p):bS H' (.ref b) wd hg:=by obtain⟨b',eb,hb⟩:=ZO bd.1;cases eb;exact⟨ZL (x _ _ hb (Yf st hb)),bd.2⟩
theorem Zei {a b c d:Int}(ha:0<=a/\a<100)(hb:0<=b/\b<100)(hc:0<=c/\c<100)(hd:0<=d/\d<100)(m:Nat):nX (m+1) (.tup (.str "like" ::[a,b,c,d].map Tg.int)):=by
 have h:=Mm m;have e:aT (.tup (.str "like" ::[a,b,c,d].map Tg.int))=31:=by simp only[aT,bU,List.map];rw[Yy .l,Yy .l,Yy .l,Yy .l];have:=YR.1;simp only[aT]at this;rw[this]
 refine⟨by rw[e];lia,fun ts z u hu=>?_,fun y z ts e=>by simp at e⟩;cases z;rcases Zas.mp hu with rfl|hu
 ·rw[YR.1];lia
 ·obtain⟨i,hi,rfl⟩:=Za2.mp hu;simp only[Zas,Zbk,Zcp]at hi;rw[FI .l .l]
  lia
theorem Zeh {i:Int}(hi:0<=i/\i<100)(m:Nat):nX (m+1) (.tup [.str "shut",.int i]):=by
 have h:=Mm m;have e:aT (.tup [.str "shut",.int i])=16:=by simp only[aT,bU];rw[Yy .o];have:=YR.2.1;simp only[aT]at this;rw[this]
 refine⟨by rw[e];lia,fun ts z u hu=>?_,fun y z ts e=>by simp at e⟩;cases z;simp only[Zas,Zbk,Zcp]at hu;rcases hu with rfl|rfl
 ·rw[YR.2.1];lia
 ·rw[FI hi.1 hi.2];lia
theorem Zdz {i:Int}{ts:List Tg}{m:Nat}(hi:0<=i/\i<100)(hl:ts.length<=7)(h:∀u∈ts,nX (m+1) u):nX (m+2) (.tup [.str "cases",.int i,.tup ts]):=by
 have e1:uG (m+1+1)=36+7*uG (m+1):=rfl;have h1:=Uu (z:=uG (m+1)) (ts:=ts) fun u hu=>(h u hu).1;have h2:ts.length*(uG (m+1)+2)<=7*(uG (m+1)+2):=Zfh _ hl;have e:aT (.tup [.str "cases",.int i,.tup ts])=bU ts+22:=by
  simp only[aT,bU];rw[Yy .l];have:=YR.2.2;simp only[aT]at this;rw[this]
  lia
 refine⟨by rw[e];lia,fun PN z u hu=>?_,fun y z PN e=>?_⟩
 ·cases z;simp only[Zas,Zbk,Zcp]at hu;rcases hu with rfl|rfl|rfl
  ·rw[YR.2.2];lia
  ·rw[FI hi.1 hi.2];lia
  ·rw[MD];lia
 ·injection e with e;injection e with _ e;injection e with _ e;injection e with e _;injection e with e;subst e;exact⟨hl,h⟩
def kZ (xs:List V)(n:Nat):List Nat:=(List.range n).filter fun l=>decide (xs[l]?=some V.af)
theorem ZcO {n:Nat} :kZ xs (n+1)=kZ xs n++if decide (xs[n]?=some V.af)=true then [n] else []:=by unfold kZ;rw[Zcw,Za4];cases h:decide (xs[n]?=some V.af)<;>simp[h]
theorem OH {n l:Nat}(h:l∈kZ xs n):xs[l]?=some V.af:=ZbP (ZaL.mp h).2
theorem OG (xs:List V)(n:Nat):(kZ xs n).length<=n:=by have:=Zba (fun l=>decide (xs[l]?=some V.af)) (List.range n);rw[ZcR]at this;exact this
theorem Ng (h:aZ .af xs=true):kZ xs xs.length≠[]:=fun z=>by unfold aZ at h;obtain⟨y,hy,e⟩:=Zda.mp h;obtain⟨l,hl⟩:=ZaX hy;have nG:=(Zai.mp hl).1;have:l∈kZ xs xs.length:=ZaL.mpr ⟨Zbf.mpr nG,by rw[hl,Mr.mp e];exact Zau rfl⟩;rw[z]at this;cases this
theorem JA {r:Int}(h0:0<=r)(h:r<vs.length):∃v,dj vs r=some v/\vs[r.toNat]?=some v:=by have hi:r.toNat<vs.length:=.o;have:=ZJ (Zaj hi);rw[ZbG h0]at this;exact⟨_,this,Zaj hi⟩
abbrev vm:Stmt:=top 62
abbrev S8:List Str:=["_law_state_here","_law_board","_law_lay_here","_law_some","_law_bare","_law_many","_law_line","_law_rows","_law_later"]
theorem mV:bo S8 am (aR vm):=ZU .k
inductive qk (n:Nat) (vs:List V) (H:Hp) (Q:VK) (_E:XK):Prop
 |mk (p b l:Addr) (wd hg:Int) (xs:List V) (m:Nat) (c0:vs=[.ref p,.ref b,.ref l]) (c1:bg H p) (c2:bS H (.ref b) wd hg) (c3:H l=some (.tup xs)) (c4:bP wd hg xs) (c5:(bH xs=true->df hg.toNat xs xs.length=[]/\hg<=7/\pM xs<=m)) (c6:n=m+1) (c7:∀v H' t,av p H H'->bg H' p->aE (mask p H') (2*m+1) v t->(aU hg n xs t).isSome=true->nX (m-1+1) t->Q v H')
theorem ZgW {k:Nat}(F:aO K "_law_paper" "_law_paper" vm f fd):aJ P w K mg base aS (k+1) f fd am (qk 0):=
 F.ok mV (fun vs H Q E h=>by obtain⟨p,b,l,wd,hg,xs,m,rfl,_⟩:=h;rfl) (fun aw A outer s H vs Q E hr h=>by obtain⟨p,b,l,wd,hg,xs,m,rfl,_,_,_,_,_,h,_⟩:=h;cases h)
theorem Zhw {n k:Nat}(F:aO K "_law_paper" "_law_paper" vm f fd)(G:Gs mg)(cQ:Def P w K mg base 1 "_law_take" db iK)(jH:Def P w K mg base 2 "_law_like" ii (oj K))(gA:Def P w K mg base 3 "_law_free" im ki)
  (hk:3<=k) (Dp:Def P w K mg base k "_law_paper" am (qk n)):aJ P w K mg base aS (k+1) f fd am (qk (n+1)):=by
 refine F.ok mV (fun vs H Q E h=>?_) (fun aw A outer s H vs Q E hr h=>?_)
 ·obtain⟨p,b,l,wd,hg,xs,m,rfl,_⟩:=h;rfl
 ·obtain⟨p,b,l,wd,hg,xs,m,rfl,st,bd,hl,ly,ft,em,q⟩:=h;cases em;have hu:=Wg hr;have lT:=Zdd hu;refine⟨_,Zd (Zq (i:=3) mV.nd (Zg jH (hr.mono .l) (Zv 2)))
   (Zd (ZP (Zp (AB lT) (pv 3) (ZC Zb)) (Zk (Zr (Zl ZG (Zj (Za ZA Zb)) (ZV Z2 (pv 3) (Zg cQ (hr.mono .l) (Za (pv 0) (Za (Zm Zx rfl G.len ZcY (Zv 3)) Zb))))))) Zs)
   (Zd (Y6 ["_law_line","_law_lay_here"] 1 [2] (i:=4) mV.nd (Z3 rfl G.range (Za (ZR 1) Zb)) (fun C s H fp=>pb 0) (fun C s H fp=>Ys (Jb (WU (ZV (show j6 (aV _ _ _ C s H fp) (gF K) from Yb) (pv 1) (pv 0))))) (fun C s H fp D=>ZK rfl (pv 0)))
   (Zd (Y6 ["_law_line","_law_board","_law_lay_here"] 1 [1,2] (i:=4) mV.nd (Yi (pv 4)) (fun C s H fp=>pb 0) (fun C s H fp=>Ym) (fun C s H fp D=>ZK rfl (Zj (Za (Zm (show fh (aV _ _ _ C s H fp) (.builtin "len") (HD K) from Zx) rfl G.len ZcY (Za (Zg gA (hr.mono hk) (Za (pv 1) (Za (pv 2) (Zv 0)))) Zb)) (Zv 0)))))
   (Zd (Ju (Jd (Zp Aw (Zg cQ (hr.mono .o) (Za (pv 0) (Za Zc Zb))) Zc) (Zm (Zd3 hu) rfl G.min boot_min (Zv 4)) (ZV Z2 (pv 4) (Zg cQ (hr.mono .o) (Za (pv 0) (Za (Zm Zx rfl G.len ZcY (Zv 4)) Zb))))) (Yk rfl (Zo (ZE (i:=5) mV.nd) (Zo (ZE (i:=6) mV.nd) Z4))))
   (Zd (ZP (Zp Jl (pv 5) Zc) (Zk (Zr (Zj (Za ZA (Zv 6))))) Zs)
   (Zd (Zq (i:=7) mV.nd (Zg gA (hr.mono hk) (Za (pv 1) (Za (pv 2) (Zv 6)))))
   (Zd (Y6 ["_law_row","_law_lay_here","_law_line"] 1 [2,6] (i:=8) mV.nd (Yi (pv 7)) (fun C s H fp=>pb 0) (fun C s H fp=>Ym) (fun C s H fp D=>ZK rfl (Zl (show bf (aV _ _ _ C s H fp) (binaryOp .Add) (fX K) from ZG) (Zl (show bf (aV _ _ _ C s H fp) (binaryOp .Add) (fX K) from ZG) (Zz (show pP (aV _ _ _ C s H fp) (tD K) from ZS) (pv 1) ZH (ZD (pv 2))) (Zj (Zv 0))) (Zz (show pP (aV _ _ _ C s H fp) (tD K) from ZS) (pv 1) (ZD (Zl (show bf (aV _ _ _ C s H fp) (binaryOp .Add) _ from Ya) (pv 2) Zc)) ZH))))
   (Zk (Zr (Zj (Za ZA (Za (pv 6) (Za (Yd Y2 rfl G.tuple ZhZ (Za (Z7 ["_law_one","_law_state_here","_law_board"] 1 [0,1] (Yi (pv 8)) (fun C s H fp=>pb 0) (fun C s H fp=>Ym) (fun C s H fp D=>ZK rfl (Zg Dp hr (Za (pv 1) (Za (pv 2) (Zv 0)))))) Zb)) Zb))))))))))))),?_⟩
  try dsimp only[cw]
  refine A7 ?_;intro jD Di qK wa kB wb kC qJ jq nk fo lP eO gK bX cF aY;obtain⟨b',eb,xc⟩:=ZO bd.1;cases eb;obtain⟨_,w1,mK,g1,pj⟩:=id bd;have h0:0<=hg:=.l;have hlen:=ly.len;have gT:(bF xs xs.length).length<=144:=by
   rw[<-(Z9 xs).length_eq,Zat];have h1:=JV (bE xs);have h2:=Ug xs;have h5:=Zh5 (show(bE xs).length<=12 by lia) (show(bE xs).length<=12 by omega)
   lia
  refine(ZB ⟨_,rfl,.mk l xs rfl hl ly.ok .l gT fun L1 H1 zs S s1 Ik e1 jL pm so lz=>Zn ?_⟩);dsimp only[List.set];have az:=st.same s1;refine aY _ _ ⟨_,rfl,ZaJ _,fun d hd=>?_⟩;have k1:=Zf (o:=.lst ([]:List V)) hd;refine⟨L1,d,zs,rfl,rfl,ak.of (k1 _ _ e1),ak.of aj,_,rfl,?_⟩;generalize upd H1 d (.lst ([]:List V))=H2 at k1;have e2:=k1 _ _ e1;have aF:=az.same k1;have dN:=s1.trans k1;have Tu:=ZaM jL;have qQ:=UJ pm so;have pe:L1≠p:=JK st Ik;cases wg:zs.isEmpty with
  |false=>
   have bN:0<zs.length:=Zeq.mpr fun z=>by rw[z]at wg;cases wg
   refine aq ⟨aK,fun d1 iV=>?_⟩;obtain⟨H3,zz,k2,xy⟩:=cU (o:=.tup [V.str "like"]) iV;rw[zz];have e3:=k2 _ _ e2;have bw:=aF.same k2;refine⟨_,rfl,_,rfl,_,rfl,L1,_,rfl,.inl (ak.of e3),p,_,rfl,bw,.l,.l,fun r o r0 r1 cT=>?_⟩;obtain⟨H4,zz,x4⟩:=newX H3 p o;rw[zz]at cT |-;obtain⟨v,hv,ir⟩:=JA r0 r1;obtain⟨k,bR,t,rfl,et⟩:=YO jL ir;have Lq:=k2 _ _ (k1 _ _ et);have et4:=x4 _ _ Lq (Yf bw Lq);have ed4:=x4 _ _ xy (Yf bw xy);refine⟨L1,zs,r,_,rfl,rfl,ak.of (x4 _ _ e3 pe),hv,?_⟩;obtain⟨a1,a2,a3,a4⟩:=k;refine Yz ed4 et4 (by show 1+4<=1000;decide) fun c H5 s5 e5=>?_;have cg:=cT.same s5;have hB:lO xs a1 a2 a3 a4=true:=(NW ly.ok pm so a1 a2 a3 a4).mp (Zao bR);have em:aU hg (n+1) xs (.tup (.str "like" ::[a1,a2,a3,a4].map Tg.int))=some 1:=by rw[W3,<-NX ly.ok pm so];rw[Zau (show [a1,a2,a3,a4]∈(U.fJ S).map aW from Za2.mpr ⟨(a1,a2,a3,a4),Zao bR,rfl⟩)];rfl
   refine q (.ref c) H5 (.tup (.str "like" ::[a1,a2,a3,a4].map Tg.int)) ((dN.trans k2).x.trans (x4.trans s5.x)) cg ?_ (by rw[em];rfl) (by
    have Et:=hB;unfold lO at Et;rw[Zap,ZaK]at Et;have pb:∀y∈[a1,a2,a3,a4],0<=y/\y<100:=fun y hy=>by
     obtain⟨z1,z2,_⟩:=m9 ly.ok (Et.1 y hy)
     lia
    exact Zei (pb a1 .s) (pb a2 .s) (pb a3 .s) (pb a4 .s) _)
   exact⟨c,_,rfl,Yt e5 (Yf cg e5),.cons (Yv rfl) (.cons (Yv rfl) (.cons (Yv rfl) (.cons (Yv rfl) (.cons (Yv rfl) .nil)))),by show 5<=1000;decide⟩
  |true=>
   have un:bH xs=true:=by
    rw[<-qQ];have:zs.length=0:=by rw[Zjh.mp wg];rfl
    rw[Tu]at this;rw[Zex this];rfl
   obtain⟨f0,g7,hb⟩:=ft un;have KH:=Ng (OI ly un f0);refine ar (ZN ?_);dsimp only;have gR:=dN _ _ xc;have bY:=dN _ _ hl;refine bX _ _ (ZB ⟨_,rfl,b,_,_,_,rfl,rfl,ah.of gR,jE,wd,rfl,.l,.l,?_⟩);refine YK (n:=wd.toNat) (fun j ys ao H'=>ys=(kZ xs j).map (fun l:Nat=>V.int (l:Int))/\H'=H2/\∃v,ao=[v,some (.ref l)]) ⟨rfl,rfl,none,rfl⟩ ?_ ?_
   ·rintro j ys ao H' hj ⟨rfl,rfl,v,rfl⟩;have Ks:j<xs.length:=.l;rw[Zc4];refine⟨_,rfl,_,rfl,l,_,_,_,rfl,rfl,ah.of bY,ZJ (Zaj Ks),_,rfl,?_⟩;have e:decide (xs[j]=V.af)=decide (xs[j]?=some V.af):=by rw[Zaj Ks];exact Zdl.mpr ⟨fun h=>ZbT _ h,Za3⟩
    rw[e];have hs:=ZcO (xs:=xs) (n:=j);have kM:=OG xs j;cases hd:decide (xs[j]?=some V.af) with
    |true=>rw[hd,ZaQ rfl]at hs;exact aq ⟨_,rfl,by rw[Zat,ZaH];lia,by rw[hs,ZaW];rfl,rfl,_,rfl⟩
    |false=>rw[hd,ZaN Zam,Zbi]at hs;exact ar ⟨by rw[hs],rfl,_,rfl⟩
   rintro ys ao H' ⟨rfl,rfl,v,rfl⟩ L hL;obtain⟨H3,zz,k3,eL⟩:=cU (o:=.lst ((kZ xs wd.toNat).map (fun l:Nat=>V.int (l:Int)))) hL;rw[zz];refine Zn ?_;dsimp only[List.set];have ewd:wd.toNat=xs.length:=.l;rw[ewd]at eL;have Xp:=OG xs xs.length;have DJ:∀l∈kZ xs xs.length,xs[l]?=some V.af:=fun l h=>OH h;generalize kZ xs xs.length=bs at eL KH Xp DJ;have iw:=k3 _ _ bY;have pL:=bd.same (dN.trans k3);have bw:=aF.same k3;refine eO _ _ (ZB ⟨_,rfl,L,rfl,⟨_,ak.of eL⟩,?_⟩);refine Ye (xs:=bs.map (fun l:Nat=>V.int (l:Int))) (fun j ys ao H'=>(∃v,ao=[v,some (.ref b),some (.ref l)])/\ae H3 H'/\Paired (dm H') ys ((bs.take j).map fun l=> [((aQ hg.toNat xs l).length:Int),(l:Int)])/\ys.length=j) ⟨⟨_,rfl⟩,ae.refl _,.nil,rfl⟩ (fun j ys ao H' _ ⟨_,s',_⟩=>ak.of (s' _ _ eL)) ?_ ?_
   ·rintro j y ys ao H' hy ⟨⟨v,rfl⟩,s',pr,qZ⟩;rw[Zby,Zbp]at hy;obtain⟨ln,kM,rfl⟩:=hy;have hx:=DJ ln (Zao kM);have Kv:=(Zai.mp kM).1;refine Zn ?_;dsimp only[List.set]
    try unfold pZ
    refine aq ?_;refine⟨_,rfl,_,rfl,_,rfl,b,l,ln,wd,hg,xs,rfl,pL.same s',s' _ _ iw,ly,hx,fun fq H4 s4 nf e4=>?_⟩;refine⟨fq,_,rfl,.inl (ak.of e4),_,rfl,aK,fun t ht=>?_⟩;have k5:=Zf (o:=.tup [V.int (((aQ hg.toNat xs ln).map V.int).length:Int),V.int (ln:Int)]) ht;refine⟨by rw[qZ,ZaH];lia,⟨_,rfl⟩,s'.trans (s4.trans k5),?_,by rw[Zak,qZ];rfl⟩;rw[ZaO,kM,ZaW];refine Zc9 (Paired.bh pr fun v k h=>h.same (s4.trans k5)) ⟨t,rfl,?_⟩;rw[aj,Zat];rfl
   rintro ys ao H' ⟨⟨v,rfl⟩,s',pr,qZ⟩ L2 kP;rw[Zat,ZaV]at pr;have k6:=Zf (o:=.lst ys) kP;have kU:upd H' L2 (.lst ys) L2=some (.lst ys):=aj;have vL:Paired (dm (upd H' L2 (.lst ys))) ys (bs.map fun l=> [((aQ hg.toNat xs l).length:Int),(l:Int)]):=Paired.bh pr fun v k h=>h.same k6;generalize upd H' L2 (HO.lst ys)=H6 at k6 kU vL;refine Zn ?_;dsimp only[List.set];have yZ:=s'.trans k6;have dY:=bw.same yZ;have Tz:ys.length=bs.length:=by rw[qZ,Zat]
   have hyp:0<ys.length:=by rw[Tz];exact Zeq.mpr KH
   have KY:L2≠p:=fun z=>by obtain⟨_,_,e,_⟩:=bw;rw[z,s' _ _ e]at kP;cases kP
   refine fo _ _ (ZB (U.T.sv (t:=uU _ _ _) (fun v H'=> ∃(t:Addr) (ln:Nat),v=.ref t/\H' t=some (.tup [.int ((aQ hg.toNat xs ln).length:Int),.int (ln:Int)])/\xs[ln]?=some .af/\av p H6 H'/\bg H' p) ?_ ?_))
   case refine_2=>
    intro Q' hq;refine⟨_,rfl,p,3,rfl,dY,.d,.d,fun r o r0 r1 gZ=>⟨_,_,rfl,rfl,_,rfl,?_⟩⟩;obtain⟨H7,zz,x7⟩:=newX H6 p o;rw[zz]at gZ |-;have fH:Paired (dm H7) ys (bs.map fun l=> [((aQ hg.toNat xs l).length:Int),(l:Int)]):=Paired.bh vL fun v k ⟨t,e,h⟩=>⟨t,e,x7 _ _ h (Yf dY h)⟩;have EK:=x7 _ _ kU KY;have hit:∀{H8:Hp}{v:V}{k:List Int},k∈(bs.map fun l=> [((aQ hg.toNat xs l).length:Int),(l:Int)])->dm H8 v k->av p H6 H8->bg H8 p->Q' v H8:=fun {H8 v k} hk ht x s=>by obtain⟨ln,hm,rfl⟩:=Za2.mp hk;obtain⟨t,rfl,et⟩:=ht;exact hq _ _ ⟨t,ln,rfl,et,DJ ln hm,x,s⟩
    cases decide (r>0) with
    |true=>refine aq ⟨_,rfl,L2,ys,_,rfl,ak.of EK,fH,fun z=>?_,fun v k _ hk ht _=>hit hk ht x7 gZ⟩;rw[z]at hyp;exact ZbM _ hyp
    |false=>refine ar ⟨_,rfl,_,rfl,_,rfl,L2,_,rfl,.inl (ak.of EK),p,_,rfl,gZ,.l,.l,fun r2 o2 RK RJ jg=>?_⟩;obtain⟨H8,zz,x8⟩:=newX H7 p o2;rw[zz]at jg |-;obtain⟨v,hv,ir⟩:=JA RK RJ;obtain⟨k,bR,t,rfl,et⟩:=YO fH ir;refine⟨L2,ys,r2,_,rfl,rfl,ak.of (x8 _ _ EK KY),hv,hit (Zao bR) ⟨t,rfl,x8 _ _ et (Yf gZ et)⟩ (x7.trans x8) jg⟩
   rintro v' H7 ⟨t,ln,rfl,et,hx,x7,gZ⟩;refine⟨t,_,rfl,ah.of et,rfl,_,_,rfl,_,_,rfl,rfl,?_⟩;dsimp only[List.set];have Rc:=dN.trans (k3.trans yZ);have yu:=Rc.x.trans x7;have bd7:=Aq bd yu st;have nF:=yu _ _ hl (Yf st hl);have qY:=(Zai.mp hx).1;have nN:=OJ hx;have eM:decide (V.int ((aQ hg.toNat xs ln).length:Int)=V.int 0)=decide (aQ hg.toNat xs ln=[]):=Zdl.mpr ⟨fun z=>Zex (Int.ofNat.inj (V.int.inj z)),fun z=>by rw[z];rfl⟩;refine jq _ _ ⟨_,rfl,rfl,_,rfl,?_⟩;rw[eM];have pD:dh xs (ln:Int)=true:=ZfB hx;by_cases hF:aQ hg.toNat xs ln=[]
   ·rw[Zau hF];refine aq ⟨_,rfl,aK,fun d hd=>?_⟩;have k8:=Zf (o:=.tup [V.str "shut",V.int (ln:Int)]) hd;have em:aU hg (n+1) xs (.tup [.str "shut",.int (ln:Int)])=some 1:=by rw[Wa];have eS:om hg xs (.tup [.str "shut",.int (ln:Int)])=(dh xs ln&&decide (aQ hg.toNat xs (ln:Int).toNat=[])):=rfl;rw[eS,pD,Zb2,Zau hF];rfl
    refine q (.ref d) _ (.tup [.str "shut",.int (ln:Int)]) (yu.trans k8.x) (gZ.same k8) ?_ (by rw[em];rfl) (Zeh .l _);exact⟨d,_,rfl,Yt aj (JK gZ hd),.cons (Yv rfl) (.cons (Yv rfl) .nil),by show 2<=1000;decide⟩
   rw[Zax hF];refine ar (ZN ?_);dsimp only;obtain⟨n',rfl⟩:∃n',n=n'+1:=⟨n-1,.l⟩;refine kC _ _ (ZB ⟨_,rfl,_,rfl,_,rfl,b,l,ln,wd,hg,xs,rfl,bd7,nF,ly,hx,fun R H8 s8 nR eR=>Zn ?_⟩);dsimp only[List.set];have mf:∀r∈aQ hg.toNat xs ln,(0<=r/\r<hg.toNat)/\aZ (.int r) xs=false/\bH (xs.set ln (.int r))=true:=fun r hr=>JL.mp hr;have fl:(aQ hg.toNat xs ln).length<=12:=by
    have:=J9 hg.toNat xs ln
    lia
   have eC:∀ts,iD (aU hg (n'+1)) hg xs (.tup [.str "cases",.int (ln:Int),.tup ts])=if (dh xs ln&&(!(aQ hg.toNat xs ln).isEmpty&&decide (ts.length=(aQ hg.toNat xs ln).length)))=true then dM (((aQ hg.toNat xs ln).zip ts).map fun rt=>aU hg (n'+1) (xs.set ln (.int rt.1)) rt.2) else none:=fun ts=>rfl
   have fl7:(aQ hg.toNat xs ln).length<=7:=by
    have:=J9 hg.toNat xs ln
    lia
   generalize aQ hg.toNat xs ln=fs at eR mf fl eC hF fl7;have wK:1<=n':=by
    obtain⟨r,hr⟩:=ZiP fs hF;obtain⟨⟨r0,r1⟩,rn,ru⟩:=mf r hr;have vU:=WE ly hx r0 .l rn;have jy:=Ng (OI vU ru (OV h0 vU hx f0));obtain⟨l',nG⟩:=ZiP _ jy;have:=OJ (OH nG);have:=OK (r:=r) hx
    lia
   have tX:=s8 _ _ nF;refine kB _ _ (ZB ⟨_,rfl,R,rfl,⟨_,ak.of eR⟩,?_⟩);refine Ye (xs:=fs.map V.int) (fun j ys ao H'=>(∃v,ao=[v,some (.ref l),some (.int (ln:Int))])/\ae H8 H'/\Paired (iG H') ys ((fs.take j).map fun r=>xs.set ln (.int r))/\ys.length=j) ⟨⟨_,rfl⟩,ae.refl _,.nil,rfl⟩ (fun j ys ao H' _ ⟨_,s',_⟩=>ak.of (s' _ _ eR)) ?_ ?_
   ·rintro j y ys ao H' hy ⟨⟨v,rfl⟩,s',pr,qZ⟩;rw[Zby,Zbp]at hy;obtain⟨r,bt,rfl⟩:=hy;have Kv:=(Zai.mp bt).1;refine Zn ?_;dsimp only[List.set]
    try unfold pZ
    refine aq ?_;refine⟨_,rfl,_,rfl,_,rfl,l,xs,rfl,s' _ _ tX,fun c1 J1 q1 f1=>⟨_,rfl,aK,fun c2 eQ=>?_⟩⟩;rw[rN qY]at f1;have q2:=Zf (o:=.tup [V.int r]) eQ;refine Yz (q2 _ _ f1) aj (by rw[ZaB];simp;omega) fun c3 J3 q3 f3=>?_;have qz:=q1.trans (q2.trans q3);refine⟨_,rfl,_,rfl,_,_,rfl,rfl,_,rfl,l,xs,rfl,qz _ _ (s' _ _ tX),fun c4 J4 q4 f4=>?_⟩;rw[kX qY]at f4;refine Yz (q4 _ _ f3) f4 (by rw[Zak,ZaB,Za5];simp;omega) fun c5 J5 q5 f5=>?_;rw[Uf qY]at f5;have sA:=qz.trans (q4.trans q5);refine⟨by rw[qZ,ZaH];lia,⟨_,rfl⟩,s'.trans sA,?_,by rw[Zak,qZ];rfl⟩;rw[ZaO,bt,ZaW];exact Zc9 (Paired.bh pr fun v k ⟨t,e,h⟩=>⟨t,e,sA _ _ h⟩) ⟨c5,rfl,f5⟩
   rintro og ao H9 ⟨⟨v2,rfl⟩,s9,oG,Xj⟩ L3 nO;rw[Zat,ZaV]at oG;have oQ:=Zf (o:=.lst og) nO;have jz:upd H9 L3 (.lst og) L3=some (.lst og):=aj;have HN:Paired (iG (upd H9 L3 (.lst og))) og (fs.map fun r=>xs.set ln (.int r)):=Paired.bh oG fun v k ⟨t,e,h⟩=>⟨t,e,oQ _ _ h⟩;generalize upd H9 L3 (HO.lst og)=dJ at oQ jz HN;refine Zn ?_;dsimp only[List.set];have oB:=s8.trans (s9.trans oQ);have sN:=gZ.same oB;have GI:=yu.trans oB.x;have aaH:=Aq bd GI st;have aag:L3≠p:=fun z=>by obtain⟨_,_,e,_⟩:=gZ;rw[z,s9 _ _ (s8 _ _ e)]at nO;cases nO
   have Tx:og.length=fs.length:=by rw[Xj,Zat]
   refine qK _ _ ?_;refine⟨_,rfl,_,rfl,L3,rfl,⟨_,ak.of jz⟩,?_⟩;refine Ye (xs:=og) (fun j ys ao H'=>(∃v,ao=[v,some (.ref p),some (.ref b)])/\av p dJ H'/\bg H' p/\∃ts,Paired (aE (mask p H') (2*n'+1)) ys ts/\ts.length=j/\∀(i:Nat) r t,fs[i]?=some r->ts[i]?=some t->(aU hg (n'+1) (xs.set ln (.int r)) t).isSome=true/\nX (n'-1+1) t) ⟨⟨_,rfl⟩,av.refl _ _,sN,[],.nil,rfl,fun i r t _ z=>by simp at z⟩ (fun j ys ao H' _ ⟨_,x',_⟩=>ak.of (x' _ _ jz aag)) ?_ ?_
   ·rintro j y ys ao H' hy ⟨⟨v,rfl⟩,x',ai,ts,ze,bj,dc⟩;obtain⟨zs,IB,tt,rfl,Lp⟩:=YO HN hy;rw[Zby,Zbp]at IB;obtain⟨r,bt,rfl⟩:=IB;have Kv:=(Zai.mp bt).1;obtain⟨⟨r0,r1⟩,rn,ru⟩:=mf r (Zao bt);have vU:=WE ly hx r0 .l rn;refine Zn ?_;dsimp only[List.set]
    try unfold pZ
    refine aq ?_;refine⟨_,rfl,_,rfl,_,rfl,p,b,tt,wd,hg,_,n',rfl,ai,Aq aaH x' sN,x' _ _ Lp (Yf sN Lp),vU,fun _=>⟨OV h0 vU hx f0,g7,by have:=OK (r:=r) hx;lia⟩,rfl,fun v2 n8 iI yt yC Dx XU Qz=>?_⟩;have Tv:=ZaM ze;refine⟨by rw[Tv,bj,ZaH];lia,⟨_,rfl⟩,x'.trans yt,yC,ts++[iI],Zc9 (Paired.bh ze fun v t h=>h.same (JM yt)) Dx,by rw[Zak,bj];rfl,fun i r' t' wD qR=>?_⟩;by_cases hi:i<ts.length
    ·rw[Zbw hi]at qR;exact dc i r' t' wD qR
    ·have oZ:=(Zai.mp qR).1;rw[Zak]at oZ;have XD:i=ts.length:=by simp at oZ;lia
     subst XD;rw[Zbt (Zal _),ZiH]at qR;rw[bj,bt]at wD;cases wD;cases qR;exact⟨XU,Qz⟩
   rintro jc ao n8 ⟨⟨v,rfl⟩,yt,yC,ts,ze,bj,dc⟩ L4 uf;have VB:ts.length=fs.length:=by rw[bj,Tx]
   refine⟨L4,_,rfl,.inl ⟨ak.of aj,fun c hc=>?_⟩⟩;refine⟨aK,fun d hd=>?_⟩;have zy:=(Zf (o:=.lst jc) uf).trans (Zf (o:=.tup jc) hc);have zx:=Zf (o:=.tup [V.str "cases",V.int (ln:Int),V.ref c]) hd;have G6:=(yC.same zy).same zx;have em:(aU hg (n'+1+1) xs (.tup [.str "cases",.int (ln:Int),.tup ts])).isSome=true:=by
    rw[Jy,ZaQ (show [Tg.int (ln:Int),.tup ts].length+1=3 from rfl),eC,pD,Zau VB];have zQ:fs.isEmpty=false:=by cases fs with|nil=>exact absurd rfl hF|cons=>rfl
    rw[zQ,ZiO,Zbo,Zbo,ZaQ rfl,JT,Zh9,ZaK];rintro⟨r,t⟩ hm;obtain⟨i,hi⟩:=ZaX hm;obtain⟨h1,h2⟩:=ZcB.mp hi;exact(dc i r t h1 h2).1
   refine q (.ref d) _ (.tup [.str "cases",.int (ln:Int),.tup ts]) (GI.trans (yt.trans (zy.trans zx).x)) G6 ?_ em (by obtain⟨Im,rfl⟩:∃Im,n'=Im+1:=⟨n'-1,.l⟩;refine Zdz .l .l fun u hu=>?_;obtain⟨i,hi⟩:=ZaX hu;have bZ:=(Zai.mp hi).1;exact(dc i _ u (Zaj .l) hi).2)
   have HM:Paired (aE (mask p _) (2*n'+1)) jc ts:=Paired.bh ze fun v t h=>h.same (JM (zy.trans zx).x);have ec:=zx _ _ (aj:upd (upd n8 L4 (.lst jc)) c (.tup jc) c=some (.tup jc));refine⟨d,_,rfl,Yt aj (JK (yC.same zy) hd),.cons (Yv rfl) (.cons (Yv rfl) (.cons ?_ .nil)),by show 3<=1000;decide⟩;exact⟨c,jc,rfl,Yt ec (Yf G6 ec),HM,by rw[ZaM HM];lia⟩
theorem Ip (dE:∀(k:Nat) (sp:Sp),(∀f fd,aO K "_law_paper" "_law_paper" vm f fd->aJ P w K mg base aS k f fd am sp)->Def P w K mg base k "_law_paper" am sp)(G:Gs mg)
  (cQ:Def P w K mg base 1 "_law_take" db iK) (jH:Def P w K mg base 2 "_law_like" ii (oj K)) (gA:Def P w K mg base 3 "_law_free" im ki):∀n,Def P w K mg base (4+n) "_law_paper" am (qk n)
 |0=>dE _ _ fun f fd F=>ZgW F
 |n+1=>dE _ _ fun f fd F=>Zhw F G cQ jH gA (by show 3<=4+n;lia) (Ip dE G cQ jH gA n)
def ba (p:Addr)(d z:Nat)(H:Hp)(v:V):Prop:=∃t,aE (mask p H) d v t/\aT t<=z
def UP (p:Addr)(d z n:Nat)(H:Hp)(v:V):Prop:=∃a vs,v=.ref a/\H a=some (.tup vs)/\(∀x∈vs,ba p d z H x)/\vs.length<=n
theorem ba.x (h:ba p d z H v)(s:av p H H'):ba p d z H' v:=let ⟨t,h,hz⟩:=h;⟨t,h.same (JM s),hz⟩
theorem ba.same (s:ae H H')(h:ba p d z H v):ba p d z H' v:=h.x s.x
theorem ba.le {d e z y:Nat}(h:ba p d z H v)(le:d<=e)(lz:z<=y):ba p e y H v:=let ⟨t,h,hz⟩:=h;⟨t,aE.le h le,Zbb hz lz⟩
theorem UP.same (s:ae H H')(h:UP p d z n H v):UP p d z n H' v:=let ⟨a,vs,e,h1,h2,h3⟩:=h;⟨a,vs,e,s _ _ h1,fun x hx=>(h2 x hx).same s,h3⟩
theorem UP.le {d e z y n:Nat}(h:UP p d z n H v)(le:d<=e)(lz:z<=y):UP p e y n H v:=let ⟨a,vs,e,h1,h2,h3⟩:=h;⟨a,vs,e,h1,fun x hx=>(h2 x hx).le le lz,h3⟩
theorem AA {R:V->Tg->Prop}{z:Nat} :∀{vs:List V},(∀x∈vs,∃t,R x t/\aT t<=z)->∃ts,Paired R vs ts/\∀u∈ts,aT u<=z
 | [],_=>⟨[],.nil,fun _ h=>nomatch h⟩
 |v::vs,h=>by
  obtain⟨t,ht,hz⟩:=h v Zaz;obtain⟨ts,tS,wg⟩:=AA fun x hx=>h x (Zaq _ hx);refine⟨t::ts,.cons ht tS,fun u hu=>?_⟩;rcases Zas.mp hu with rfl|hu
  ·exact hz
  ·exact wg u hu
theorem MI {z:Nat}(h:Paired R vs ts)(hz:∀u∈ts,aT u<=z):∀x∈vs,∃t,R x t/\aT t<=z:=fun x hx=>by obtain⟨i,hi⟩:=ZaX hx;obtain⟨t,qR,ht⟩:=YO h hi;exact⟨t,ht,hz t (Zao qR)⟩
theorem Fc {z n:Nat}(pr:Paired R vs ts)(hz:∀u∈ts,aT u<=z)(hn:vs.length<=n):bU ts+3<=n*(z+2)+3:=by have h1:=Uu hz;have h2:ts.length*(z+2)<=n*(z+2):=Zfh _ (by rw[<-ZaM pr];exact hn);omega
theorem UP.tg (h:UP p d z n H v)(st:bg H p)(hn:n<=1000):ba p (d+1) (n*(z+2)+3) H v:=by obtain⟨a,vs,e,h1,h2,h3⟩:=h;obtain⟨ts,pr,hz⟩:=AA h2;exact⟨.tup ts,⟨a,vs,e,Yt h1 (Yf st h1),pr,.l⟩,by rw[MD];exact Fc pr hz h3⟩
def Gv (σ:L2.St)(H0:Hp)(R:Hp->V->Prop)(te:TE):Prop:=∀H Q,ae H0 H->(∀v H',ae H H'->R H' v->Q v H')->te σ H Q
def Ga (σ:L2.St)(H0:Hp)(R:Hp->V->Prop)(n:Nat)(ta:TA):Prop:=∀H Q,ae H0 H->(∀vs H',ae H H'->vs.length=n->(∀v∈vs,R H' v)->Q vs H')->ta σ H Q
def Go (σ:L2.St)(H0:Hp)(tp:TO):Prop:=∀H Q,ae H0 H->(∀o H',ae H H'->Q o H')->tp σ H Q
def Gi (_:Hp)(v:V):Prop:=∃i,v=.int i
def Keeps (R:Hp->V->Prop):Prop:=∀H H' v,ae H H'->R H v->R H' v
theorem bG :Keeps (ba p d z):=fun _ _ _ s h=>h.same s
theorem Iw :Keeps (UP p d z n):=fun _ _ _ s h=>h.same s
theorem T6:Keeps Gi:=fun _ _ _ _ h=>h
section
variable {K:Zke}{H0:Hp}{R R':Hp->V->Prop}{p:Addr}{d z n m:Nat}{ta tb:TE}
theorem Wn (k:Keeps R)(h:σ[i]?=some (some v))(r:R H0 v):Gv σ H0 R (dA i):=fun H Q s q=>⟨v,h,q v H (ae.refl _) (k _ _ _ s r)⟩
theorem rP (r:∀H,R H v):Gv σ H0 R (tC v):=fun H Q s q=>q v H (ae.refl _) (r H)
theorem xN (h:Gv σ H0 R te)(i:∀H v,ae H0 H->R H v->R' H v):Gv σ H0 R' te:=fun H Q s q=>h H Q s fun v H' s' r=>q v H' s' (i H' v (s.trans s') r)
theorem YE:Ga σ H0 R 0 bD:=fun H Q s q=>q [] H (ae.refl _) rfl (fun v hv=>by cases hv)
theorem ZI (k:Keeps R)(h:Gv σ H0 R te)(t:Ga σ H0 R n tr):Ga σ H0 R (n+1) (aI te tr):=fun H Q s q=>h H _ s fun v H1 s1 r=>t H1 _ (s.trans s1) fun vs H2 s2 hl hr=>q (v::vs) H2 (s1.trans s2) (by rw[ZaU,hl]) (fun x hx=>by
 rcases Zas.mp hx with rfl|hx
 ·exact k _ _ _ s2 r
 ·exact hr x hx)
theorem Y4 (h:Ga σ H0 (ba p d z) n tr)(hn:n<=m)(hm:n<=1000):Gv σ H0 (UP p d z m) (cX tr):=fun H Q s q=>h H _ s fun vs H1 s1 hl hr=>⟨by rw[hl,ZaH];lia,fun a ha=>q (.ref a) _ (s1.trans (Zf ha)) ⟨a,vs,rfl,aj,fun x hx=>(hr x hx).same (Zf ha),.l⟩⟩
theorem Jh (ha:Gv σ H0 (UP p d z n) ta)(hb:Gv σ H0 (UP p d z m) tb)(hz:n+m<=1000):Gv σ H0 (UP p d z (n+m)) (dW (fX K) ta tb):=fun H Q s q=>ha H _ s fun x H1 s1 hx=>hb H1 _ (s.trans s1) fun y H2 s2 hy=>by
 obtain⟨a,vs,rfl,ea,ma,la⟩:=hx.same s2;obtain⟨b,ws,rfl,eb,mb,lb⟩:=hy;refine Yz ea eb .l fun t H3 s3 e3=>q _ H3 (s1.trans (s2.trans s3)) ⟨t,_,rfl,e3,fun x hx=>?_,by rw[Zak];lia⟩;rcases Zay.mp hx with hx|hx
 ·exact(ma x hx).same s3
 ·exact(mb x hx).same s3
theorem JC:Go σ H0 uT:=fun H Q s q=>q none H (ae.refl _)
theorem Yu (h:Gv σ H0 Gi te):Go σ H0 (uS te):=fun H Q s q=>h H _ s fun v H1 s1 ⟨i,e⟩=>⟨i,e,q (some i) H1 s1⟩
theorem Jq (h:Gv σ H0 (UP p d z n) te)(hl:Go σ H0 tl)(hh:Go σ H0 th):Gv σ H0 (UP p d z n) (uR (tD K) te tl th):=fun H Q s q=>h H _ s fun x H1 s1 hx=>hl H1 _ (s.trans s1) fun lo H2 s2=>hh H2 _ (s.trans (s1.trans s2)) fun hi H3 s3=>by obtain⟨a,vs,rfl,ea,ma,la⟩:=hx.same (s2.trans s3);refine⟨a,vs,rfl,ea,fun c H4 s4 e4=>q _ H4 (s1.trans (s2.trans (s3.trans s4))) ⟨c,_,rfl,e4,fun x hx=>?_,Zbb (JP vs lo hi) la⟩⟩;unfold dI at hx;exact(ma x (Zb3 (Zco hx))).same s4
theorem Zgp (h:Gv σ H0 (fun H v=> ∃a vs,v=.ref a/\H a=some (.tup vs)/\(∀x∈vs,ba p d z H x)/\2<=vs.length) te):Gv σ H0 (UP p d z 2) (GZ K te):=fun H Q s q=>h H _ s fun x H1 s1 hx=>by obtain⟨a,vs,rfl,ea,ma,la⟩:=hx;exact⟨a,vs,rfl,ah.of ea,la,fun c ys hm hl hc=>q _ _ (s1.trans (Zf hc)) ⟨c,ys,rfl,aj,fun x hx=>(ma x (hm x hx)).same (Zf hc),hl⟩⟩
theorem Zhc (st:bg H0 p)(h:Gv σ H0 (UP p d z n) te)(hn:n<=1000):Gv σ H0 (ba p (d+1) (n*(z+2)+3)) (A9 (HC K) (aI te bD)):=fun H Q s q=>h H _ s fun x H1 s1 hx=>by obtain⟨a,vs,rfl,ea,ma,la⟩:=hx;refine⟨a,vs,rfl,.inr (ah.of ea),fun c hc=>q _ _ (s1.trans (Zf hc)) ?_⟩;obtain⟨ts,pr,hz⟩:=AA fun x hx=>(ma x hx).same (Zf (o:=.lst vs) hc);exact⟨.lst ts,⟨c,vs,rfl,Yt aj (JK (st.same (s.trans s1)) hc),pr,.o⟩,by rw[show aT (.lst ts)=bU ts+3 by simp only[aT]];exact Fc pr hz la⟩
theorem xR (k:Keeps R)(h:σ[i]?=some (some (.ref a)))(ha:H0 a=some (.tup vs))(hj:dj vs j=some x)(r:R H0 x):Gv σ H0 R (dW (gF K) (dA i) (tC (.int j))):=fun H Q s q=>⟨_,h,a,vs,j,x,rfl,rfl,ah.of (s _ _ ha),hj,q x H (ae.refl _) (k _ _ _ s r)⟩
theorem Mt (h:Gv σ H0 Gi te) :Gv σ H0 Gi (dW (m6 fun i j=>.int (i+j)) te (tC (.int j))):=fun H Q s q=>h H _ s fun v H1 s1 ⟨i,e⟩=>⟨i,j,e,rfl,q _ H1 s1 ⟨_,rfl⟩⟩
theorem Mu :Gv σ H0 Gi (A6 (rU fun i=>.int (-i)) (tC (.int j))):=fun H Q s q=>⟨j,rfl,q _ H (ae.refl _) ⟨_,rfl⟩⟩
theorem WP (h:qr v t)(hz:aT t<=z)(H:Hp):ba p d z H v:=⟨t,Yv h,hz⟩
theorem UN {i:Int}(h: -100<i)(h2:i<100){y:Nat}(hy:3<=y):aT (.int i)<=y:=by simp only[aT];rw[Yy .o];exact hy
end
theorem ZcK {hg:Int}{n:Nat}(h:(aU hg (n+1) xs t).isSome=true):(∃w r,t=.tup (.str w::r)/\w≠ "cases" /\1<=r.length/\r.length<=4)∨(∃y ts,t=.tup [.str "cases",y,.tup ts]/\0<ts.length/\ts.length<=hg.toNat/\∀u∈ts,∃ys,(aU hg n ys u).isSome=true):=by
 rw[Y8]at h;cases h1:gJ xs t with
 |true=>obtain⟨r,rfl,hl⟩:=Jp (n:=4) ((Zap _ _).mp h1).1;exact .inl ⟨_,r,rfl,.d,.l,.l⟩
 |false=>
  rw[h1,ZaN Zam]at h;cases h2:g9 hg xs t with
  |true=>obtain⟨r,rfl,hl⟩:=Jp (n:=1) ((Zap _ _).mp h2).1;exact .inl ⟨_,r,rfl,.d,.l,.l⟩
  |false=>
   rw[h2,ZaN Zam]at h;cases hd:fe "cases" 3 t with
   |false=>
    have z:fg (aU hg n) hg xs t=none:=by unfold fg;rw[hd,ZaN Zam]
    rw[z]at h;cases h
   |true=>
    have z:fg (aU hg n) hg xs t=iD (aU hg n) hg xs t:=by unfold fg;rw[hd,ZaQ rfl]
    rw[z]at h;obtain⟨e,he⟩:=Zc5.mp h;obtain⟨y,i,ts,rfl,_,bN,hlen,hs⟩:=OR he;obtain⟨r',er,_⟩:=Jp (n:=2) hd;injection er with er;injection er with er _;subst er;have DU:=J9 hg.toNat xs i.toNat;refine .inr ⟨_,ts,rfl,?_,.l,fun u hu=>?_⟩
    ·rw[hlen];exact Zeq.mpr bN
    ·obtain⟨k,hk⟩:=ZaX hu;have bR:=(Zai.mp hk).1;have hf:=Zaj (l:=aQ hg.toNat xs i.toNat) (i:=k) .l;have dc:(dM (((aQ hg.toNat xs i.toNat).zip ts).map fun rt=>aU hg n (xs.set i.toNat (.int rt.1)) rt.2)).isSome=true:=by rw[hs];rfl
     rw[JT,Zh9,ZaK]at dc;have hz:=dc ((aQ hg.toNat xs i.toNat)[k]'(by omega),u) (Zao (ZcB.mpr ⟨hf,hk⟩));exact⟨_,hz⟩
theorem Zhj {w:V}{r:Int}(h0:0<=r)(h8:r<8):∃v,dj [w,.int (-1),.bl true,.af,.str "0",.ref a,.int ((10:Int)^(29:Int).toNat),.bl false] r=some v/\v∈[w,.int (-1),.bl true,.af,.str "0",.ref a,.int ((10:Int)^(29:Int).toNat),.bl false]:=by obtain⟨v,h1,h2⟩:=JA (vs:=[w,.int (-1),.bl true,.af,.str "0",.ref a,.int ((10:Int)^(29:Int).toNat),.bl false]) h0 (by simpa using h8);exact⟨v,h1,Zao h2⟩
abbrev qx:Stmt:=top 64
abbrev Il:List Str:=["_law_state_here","_law_wide","_law_paper_here","_law_deeper","_law_way","_law_odd","_law_line","_law_spot","_law_parts","_law_at","_law_inner","_law_bad","_law_rows"]
theorem iL:bo Il cr (aR qx):=ZU .k
inductive qo (n:Nat) (vs:List V) (H:Hp) (Q:VK) (_E:XK):Prop
 |mk (p:Addr) (wd:Int) (v:V) (t:Tg) (m k:Nat) (hg:Int) (xs:List V) (c0:vs=[.ref p,.int wd,v]) (c1:bg H p) (c2:0<wd) (c3:wd<=12) (c4:n=m+1) (c5:hg<=12) (c6:aE (mask p H) (2*m+1) v t) (c7:(aU hg n xs t).isSome=true) (c8:nX (k+1) t) (c9:∀v' H',av p H H'->bg H' p->ba p (2*m+3) (15*uG (k+1)+700) H' v'->Q v' H')
theorem Zg3 {k:Nat}(F:aO K "_law_bent" "_law_bent" qx f fd):aJ P w K mg base aS (k+1) f fd cr (qo 0):=
 F.ok iL (fun vs H Q E h=>by obtain⟨p,wd,v,t,m,k,hg,xs,rfl,_⟩:=h;rfl) (fun aw A outer s H vs Q E hr h=>by obtain⟨p,wd,v,t,m,k,hg,xs,rfl,_,_,_,h,_⟩:=h;cases h)
theorem Mx {R:V->Tg->Prop}{v:V}{t:Tg} :∀{vs:List V}{ts:List Tg},Paired R vs ts->R v t->∀i,Paired R (vs.set i v) (ts.set i t)
 |_,_,.nil,_,_=>.nil
 |_,_,.cons _ r,h,0=>.cons h r
 |_,_,.cons h' r,h,i+1=>.cons h' (Mx r h i)
theorem ZfO {E:XK}(G:Gs mg){Q:VK} :∃t,cO (eU aS P w K mg base Il "_law_bent" (aR qx) f c A outer s Pe E).oJ ((ck qx).drop 6) t/\
  ∀(H:Hp) (p:Addr) (m u zp:Nat) (v0 v1:V) (pa:Addr) (v3 v5:Option V) (way i6 i9:Int) (v7 v10 GJ:Option V) (v8 v11:V) (vs:List V),0<=way->way<16->bg H p->H pa=some (.tup vs)->7*zp+36<=u-> -100<i6->i6<100->ba p (2*m+1) u H (.ref pa)->(∀x∈vs,ba p (2*m) u H x)->2<=vs.length->vs.length<=5->UP p (2*m+1) zp 7 H v8->ba p 1 36 H v11->
   (∀v' H',ae H H'->ba p (2*m+3) (15*u+700) H' v'->Q v' H')->
   t {nx:=fun _ H'=>Q .af H',rt:=Q} [some v0,some v1,some (.ref pa),v3,some (.int way),v5,some (.int i6),v7,some v8,some (.int i9),v10,some v11,GJ] H:=by
 refine⟨_,Zd (Zq (i:=12) iL.nd (ZC (Za (Zl ZG (Zl ZG (Zz ZS (pv 2) ZH (ZD (pv 9))) (Zj (Zv 11))) (Zz ZS (pv 2) (ZD (Zl Ya (pv 9) Zc)) ZH))
   (Za (Zl ZG (Zl ZG (Zz ZS (pv 2) ZH (ZD (pv 9))) (Zj (Zv 6))) (Zz ZS (pv 2) (ZD (Zl Ya (pv 9) Zc)) ZH))
   (Za (Zl ZG (pv 2) (Zj (Za Zc Zb))) (Za (Zz ZS (pv 2) ZH (ZD (uu WO Zc))) Zb))))))
  (Zd (Zq (i:=12) iL.nd (Zl YZ (pv 12) (ZC (Za (Yd Jz rfl G.list ZjA (Zv 2)) (Za ZW (Za (Zj (Za ZA (Zv 6))) (Za (Zj (Za ZA (Za (pv 6) (Za (Zj (Zv 2)) Zb))))
   (Za (Zl ZG (Zj (Za ZA Zb)) (Zz ZS (pv 2) (ZD Zc) ZH)) (Za (Zj (Za (ZR 2) Zb)) Zb)))))))))
  (Zd (Zq (i:=12) iL.nd (Zl YZ (pv 12) (ZC (Za (Zl ZG (Zl ZG (Zz ZS (pv 2) ZH (ZD Zc)) (Zz ZS (pv 2) (ZD Zc) ZH)) (Zz ZS (pv 2) (ZD Zc) (ZD Zc)))
   (Za (Zl ZG (Zl ZG (Zz ZS (pv 2) ZH (ZD Zc)) (ZeH (pv 2))) (Zz ZS (pv 2) (ZD Zc) ZH)) (Za (Zj (Za ZA (Za (ZR 2) (Za (Zj Zb) Zb)))) Zb))))))
  (Zd (Zq (i:=12) iL.nd (Zl YZ (pv 12) (ZC (Za (Zj (Za ZA (Za (ZR 2) (Za (Zz ZS (pv 8) ZH (ZD (uu WO Zc))) Zb))))
   (Za (Zj (Za ZA (Za (ZR 2) (Za (Zl ZG (pv 8) (Zz ZS (pv 8) ZH (ZD Zc))) Zb)))) Zb)))))
  (Zd (YI (WA ZbV Zc7 Zc8 Jn (pv 12) (Za (Zj (Za ZA (Za (ZR 2) (Za (Yd Jz rfl G.list ZjA (Zv 8)) Zb)))) Zb)))
  (Zk (Zr (ZV Z2 (pv 12) (pv 4)))))))),?_⟩
 intro H p m u zp v0 v1 pa v3 v5 way i6 i9 v7 v10 GJ v8 v11 vs w0 AV st hp hzp XC XB Ej hE h2 h5 Eh hb q
 try dsimp only[cw]
 refine P4 ?_;intro jD qJ jq nk fo lP eO gK bX cF aY;have zW:∃x,dj vs 0=some x/\ba p (2*m) u H x:=by obtain⟨v,h1,h2⟩:=JA (vs:=vs) (r:=0) .d .l;exact⟨v,h1,hE v (Zao h2)⟩
 have aaf:∃x,dj vs 1=some x/\ba p (2*m) u H x:=by obtain⟨v,h1,h2⟩:=JA (vs:=vs) (r:=1) .d .l;exact⟨v,h1,hE v (Zao h2)⟩
 obtain⟨z0,jP,PH⟩:=zW;obtain⟨z1,gh,GN⟩:=aaf;have KP:UP p (2*m) u 5 H (.ref pa):=⟨pa,vs,rfl,hp,hE,h5⟩;have g2:∀{σ:L2.St}{H1:Hp},ae H H1->σ[2]?=some (some (.ref pa))->Gv σ H1 (UP p (2*m+1) (u+36) 5) (dA 2):=fun s e=>Wn Iw e ((KP.same s).le .l .l);have g2t:∀{σ:L2.St}{H1:Hp},ae H H1->σ[2]?=some (some (.ref pa))->Gv σ H1 (ba p (2*m+1) u) (dA 2):=fun s e=>Wn bG e (Ej.same s);have g8:∀{σ:L2.St}{H1:Hp},ae H H1->σ[8]?=some (some v8)->Gv σ H1 (UP p (2*m+1) zp 7) (dA 8):=fun s e=>Wn Iw e (Eh.same s);have gP0:∀{d y:Nat}{σ:L2.St}{H1:Hp},2*m<=d->u<=y->ae H H1->σ[2]?=some (some (.ref pa))->Gv σ H1 (ba p d y) (dW (gF K) (dA 2) (tC (.int 0))):=fun le ly s e=>xR bG e (s _ _ hp) jP ((PH.same s).le le ly);have Ex:∀{d y:Nat}{σ:L2.St}{H1:Hp},2*m<=d->u<=y->ae H H1->σ[2]?=some (some (.ref pa))->Gv σ H1 (ba p d y) (dW (gF K) (dA 2) (tC (.int 1))):=fun le ly s e=>xR bG e (s _ _ hp) gh ((GN.same s).le le ly);have gI:∀{σ:L2.St}{H1:Hp}{i:Nat}{j:Int},σ[i]?=some (some (.int j))->Gv σ H1 Gi (dA i):=fun e=>Wn T6 e ⟨_,rfl⟩;have Ey:∀{d y:Nat}{σ:L2.St}{H1:Hp},3<=y->σ[6]?=some (some (.int i6))->Gv σ H1 (ba p d y) (dA 6):=fun hy e=>Wn bG e (WP (t:=.int _) rfl (UN XC XB hy) _);have gC:∀{σ:L2.St}{H1:Hp}{j:Int},Gv σ H1 Gi (tC (.int j)):=rP fun _=>⟨_,rfl⟩;have gCt:∀{d y:Nat}{σ:L2.St}{H1:Hp},3<=y->Gv σ H1 (ba p d y) (tC (.int 0)):=fun hy=>rP fun _=>WP (t:=.int _) rfl (UN .d .d hy) _;have gSl:∀{d y:Nat}{σ:L2.St}{H1:Hp},7<=y->Gv σ H1 (ba p d y) (tC (.str "like")):=fun hy=>rP fun _=>WP (t:=.str _) rfl (by rw[YR.1];lia) _;have gSs:∀{d y:Nat}{σ:L2.St}{H1:Hp},7<=y->Gv σ H1 (ba p d y) (tC (.str "shut")):=fun hy=>rP fun _=>WP (t:=.str _) rfl (by rw[YR.2.1];omega) _;have Aa:∀{d y:Nat}{σ:L2.St}{H1:Hp},7<=y->Gv σ H1 (ba p d y) (tC (.str "cases")):=fun hy=>rP fun _=>WP (t:=.str _) rfl (by rw[YR.2.2];omega) _;have up:∀{n d z:Nat}{σ:L2.St}{H1:Hp}{te:TE},ae H H1->n<=1000->d+1<=2*m+3->n*(z+2)+3<=15*u+700->Gv σ H1 (UP p d z n) te->Gv σ H1 (ba p (2*m+3) (15*u+700)) te:=fun s hn hd hz g=>xN g fun H2 v s2 h=>(h.tg (st.same (s.trans s2)) hn).le hd hz;have yv:∀{n d z y:Nat}{σ:L2.St}{H1:Hp}{te:TE},ae H H1->n<=1000->d+1<=2*m+2->n*(z+2)+3<=y->Gv σ H1 (UP p d z n) te->Gv σ H1 (ba p (2*m+2) y) te:=fun s hn hd hz g=>xN g fun H2 v s2 h=>(h.tg (st.same (s.trans s2)) hn).le hd hz;refine(ZB ?_);refine(ZI bG (up (ae.refl _) .d .l .l (Jh (Jh (Jq (g2 (ae.refl _) rfl) JC (Yu (gI rfl))) (Y4 (ZI bG (Wn bG rfl (hb.le .l .l)) YE) (Zal 1) .d) .d) (Jq (g2 (ae.refl _) rfl) (Yu (Mt (gI rfl))) JC) .d))
  (ZI bG (up (ae.refl _) .d .o .o (Jh (Jh (Jq (g2 (ae.refl _) rfl) JC (Yu (gI rfl))) (Y4 (ZI bG (Ey .l rfl) YE) (Zal 1) .d) .d) (Jq (g2 (ae.refl _) rfl) (Yu (Mt (gI rfl))) JC) .d))
  (ZI bG (up (ae.refl _) .d .o .l (Jh (g2 (ae.refl _) rfl) (Y4 (ZI bG (gCt .o) YE) (Zal 1) .d) .d))
  (ZI bG (up (ae.refl _) .d .o .l (Jq (g2 (ae.refl _) rfl) JC (Yu Mu))) YE)))) H _ (ae.refl _) fun rs H1 s1 l1 r1=>⟨by rw[l1];decide,fun L hL=>Zn ?_⟩
 dsimp only[List.set];have k1:=Zf (o:=.lst rs) hL;have kW:upd H1 L (.lst rs) L=some (.lst rs):=aj;replace r1:∀v∈rs,ba p (2*m+3) (15*u+700) (upd H1 L (.lst rs)) v:=fun v hv=>(r1 v hv).same k1;generalize upd H1 L (HO.lst rs)=H2 at k1 kW r1;have sA:=s1.trans k1;refine aY _ _ (ZB ⟨_,rfl,?_⟩);refine(ZI bG (xN (Zhc (st.same sA) (g2 sA rfl) .d) fun _ _ _ h=>h.le .l .l)
  (ZI bG (rP fun _=>WP (t:=.af) rfl (by simp only[aT];lia) _)
  (ZI bG (up (d:=1) (z:=u+36) sA .d .l .l (Y4 (ZI bG (gSs .l) (ZI bG (Ey .l rfl) YE)) (Zal 2) .d))
  (ZI bG (up (d:=2*m+2) (z:=u+36) sA .d .l .l (Y4 (ZI bG (Aa .o) (ZI bG (Ey .o rfl) (ZI bG (yv sA .d .l .l (Y4 (ZI bG (g2t sA rfl) YE) (Zal 1) .d)) YE))) (Zal 3) .d))
  (ZI bG (up sA .d .o .l (Jh (Y4 (ZI bG (gSl .o) YE) (Zal 1) .d) (Jq (g2 sA rfl) (Yu gC) JC) .d))
  (ZI bG (up (d:=2*m) (z:=u+36) sA .d .l .l (Y4 (ZI bG (gP0 (Zal _) .l sA rfl) YE) (Zal 1) .d)) YE)))))) H2 _ (ae.refl _) fun iN H3 s3 l3 r3=>⟨by rw[l3];decide,fun L2 kP=>?_⟩
 have k3:=Zf (o:=.lst iN) kP;have kU:upd H3 L2 (.lst iN) L2=some (.lst iN):=aj;replace r3:∀v∈iN,ba p (2*m+3) (15*u+700) (upd H3 L2 (.lst iN)) v:=fun v hv=>(r3 v hv).same k3;generalize upd H3 L2 (HO.lst iN)=H4 at k3 kU r3;refine⟨L,L2,rs,iN,rfl,rfl,(s3.trans k3) _ _ kW,kU,by rw[l1,l3];decide,fun L3 nO=>Zn ?_⟩;dsimp only[List.set];have k4:=Zf (o:=.lst (rs++iN)) nO;have jz:upd H4 L3 (.lst (rs++iN)) L3=some (.lst (rs++iN)):=aj;have r4:∀v∈rs++iN,ba p (2*m+3) (15*u+700) (upd H4 L3 (.lst (rs++iN))) v:=fun v hv=>by
  rcases Zay.mp hv with hv|hv
  ·exact(r1 v hv).same (s3.trans (k3.trans k4))
  ·exact(r3 v hv).same k4
 have l4:(rs++iN).length=10:=by rw[Zak,l1,l3]
 have sB:=sA.trans (s3.trans (k3.trans k4));generalize rs++iN=mZ at jz r4 l4 k4 sB;generalize upd H4 L3 (HO.lst mZ)=H5 at k4 jz r4 sB;clear r1 r3 kW kU;refine bX _ _ (ZB ⟨_,rfl,?_⟩);refine(ZI bG (up sB .d .l .l (Jh (Jh (Jq (g2 sB rfl) JC (Yu gC)) (Jq (g2 sB rfl) (Yu gC) JC) .d) (Jq (g2 sB rfl) (Yu gC) (Yu gC)) .d))
  (ZI bG (up sB .d .o .l (Jh (Jh (Jq (g2 sB rfl) JC (Yu gC)) (Zgp (Wn (fun _ _ _ s ⟨a,vs,e,h1,h2,h3⟩=>⟨a,vs,e,s _ _ h1,fun x hx=>(h2 x hx).same s,h3⟩) rfl ⟨pa,vs,rfl,sB _ _ hp,fun x hx=>((hE x hx).same sB).le .l .l,h2⟩)) .d) (Jq (g2 sB rfl) (Yu gC) JC) .d))
  (ZI bG (up (d:=2*m+2) (z:=u+36) sB .d .l .l (Y4 (ZI bG (Aa .l) (ZI bG (Ex .l .o sB rfl) (ZI bG (yv (d:=0) (z:=0) sB .d .l .l (Y4 YE (Zal 0) .d)) YE))) (Zal 3) .d)) YE))) H5 _ (ae.refl _) fun iM H6 s6 l6 r6=>⟨by rw[l6];decide,fun L5 rC=>?_⟩
 have k6:=Zf (o:=.lst iM) rC;have pE:upd H6 L5 (.lst iM) L5=some (.lst iM):=aj;replace r6:∀v∈iM,ba p (2*m+3) (15*u+700) (upd H6 L5 (.lst iM)) v:=fun v hv=>(r6 v hv).same k6;generalize upd H6 L5 (HO.lst iM)=H7 at k6 pE r6;refine⟨L3,L5,mZ,iM,rfl,rfl,(s6.trans k6) _ _ jz,pE,by rw[l4,l6];decide,fun L6 hL6=>Zn ?_⟩;dsimp only[List.set];have k7:=Zf (o:=.lst (mZ++iM)) hL6;have rL:upd H7 L6 (.lst (mZ++iM)) L6=some (.lst (mZ++iM)):=aj;have r7:∀v∈mZ++iM,ba p (2*m+3) (15*u+700) (upd H7 L6 (.lst (mZ++iM))) v:=fun v hv=>by
  rcases Zay.mp hv with hv|hv
  ·exact(r4 v hv).same (s6.trans (k6.trans k7))
  ·exact(r6 v hv).same k7
 have l7:(mZ++iM).length=13:=by rw[Zak,l4,l6]
 have sC:=sB.trans (s6.trans (k6.trans k7));generalize mZ++iM=oC at rL r7 l7 k7 sC;generalize upd H7 L6 (HO.lst oC)=H8 at k7 rL r7 sC;clear r4 r6 jz pE;refine eO _ _ (ZB ⟨_,rfl,?_⟩);refine(ZI bG (up (d:=2*m+2) (z:=u+36) sC .d .l .l (Y4 (ZI bG (Aa .l) (ZI bG (Ex .l .l sC rfl) (ZI bG (yv sC .d .l .l (Jq (g8 sC rfl) JC (Yu Mu))) YE))) (Zal 3) .d))
  (ZI bG (up (d:=2*m+2) (z:=2*u+36) sC .d .o .l (Y4 (ZI bG (Aa .l) (ZI bG (Ex .o .l sC rfl) (ZI bG (yv sC .d .o .l (Jh (g8 sC rfl) (Jq (g8 sC rfl) JC (Yu gC)) .d)) YE))) (Zal 3) .d)) YE)) H8 _ (ae.refl _) fun ji H9 s9 l9 r9=>⟨by rw[l9];decide,fun L8 hL8=>?_⟩
 have k9:=Zf (o:=.lst ji) hL8;have rK:upd H9 L8 (.lst ji) L8=some (.lst ji):=aj;replace r9:∀v∈ji,ba p (2*m+3) (15*u+700) (upd H9 L8 (.lst ji)) v:=fun v hv=>(r9 v hv).same k9;generalize upd H9 L8 (HO.lst ji)=dJ at k9 rK r9;refine⟨L6,L8,oC,ji,rfl,rfl,(s9.trans k9) _ _ rL,rK,by rw[l7,l9];decide,fun L9 En=>Zn ?_⟩;dsimp only[List.set];have oQ:=Zf (o:=.lst (oC++ji)) En;have uj:upd dJ L9 (.lst (oC++ji)) L9=some (.lst (oC++ji)):=aj;have Ti:H L9=none:=(sC.trans (s9.trans k9)).free En;have tE:∀v∈oC++ji,ba p (2*m+3) (15*u+700) dJ v:=fun v hv=>by
  rcases Zay.mp hv with hv|hv
  ·exact(r7 v hv).same (s9.trans k9)
  ·exact r9 v hv
 have Dc:(oC++ji).length=15:=by rw[Zak,l7,l9]
 have sD:=sC.trans (s9.trans k9);generalize oC++ji=kq at uj tE Dc oQ;clear r7 r9 rL rK;have sE:=sD.trans oQ;generalize hG:upd dJ L9 (HO.lst kq)=n8 at oQ uj sE;obtain⟨a8,mJ,rfl,e8,m8,l8⟩:=Eh;refine fo _ _ ⟨_,rfl,.inl ⟨rfl,_,ak.of uj⟩,_,rfl,pa,vs,1,z1,rfl,rfl,ah.of (sE _ _ hp),gh,_,rfl,a8,mJ,rfl,.inr (ah.of (sE _ _ e8)),fun c hc=>⟨aK,fun d hd=>?_⟩⟩;have q1:=Zf (o:=.lst mJ) hc;have ec:upd n8 c (.lst mJ) c=some (.lst mJ):=aj;have S4:c≠L9:=fun z=>by rw[z,uj]at hc;cases hc
 generalize upd n8 c (HO.lst mJ)=H12 at q1 ec hd;have SX:d≠L9:=fun z=>by rw[z,q1 _ _ uj]at hd;cases hd
 obtain⟨mG,zz,q2,ed⟩:=cU (o:=.tup [V.str "cases",z1,.ref c]) hd;rw[zz];have aax:=q2 _ _ (q1 _ _ uj);have aav:=q2 _ _ ec;refine⟨L9,kq,_,rfl,rfl,aax,by rw[Dc,ZaH];decide,ZN ?_⟩;dsimp only;have sF:ae H (upd mG L9 (.lst (kq++[.ref d]))):=WR (sE.trans (q1.trans q2)) Ti;have sG:ae dJ (upd mG L9 (.lst (kq++[.ref d]))):=WR (oQ.trans (q1.trans q2)) En;have EJ:upd mG L9 (.lst (kq++[.ref d])) d=some (.tup [V.str "cases",z1,.ref c]):=by rw[Zh SX];exact ed
 have Lx:upd mG L9 (.lst (kq++[.ref d])) c=some (.lst mJ):=by rw[Zh S4];exact aav
 have LD:upd mG L9 (.lst (kq++[.ref d])) L9=some (.lst (kq++[.ref d])):=aj;generalize upd mG L9 (HO.lst (kq++[.ref d]))=uC at sF sG EJ Lx LD;have QB:=st.same sF;have SY:c≠p:=JK (st.same sE) hc;have rd:ba p (2*m+3) (15*u+700) uC (.ref d):=by
  obtain⟨A3,HK,Pq⟩:=AA fun x hx=>(m8 x hx).same sF;obtain⟨t1,wz,zt1⟩:=GN.same sF;refine⟨.tup [.str "cases",t1,.lst A3],⟨d,_,rfl,Yt EJ (Yf QB EJ),.cons (Yv rfl) (.cons (aE.le wz .l) (.cons ?_ .nil)),by show 3<=1000;decide⟩,?_⟩
  ·exact⟨c,mJ,rfl,Yt Lx SY,HK,.l⟩
  ·have h1:=Fc HK Pq l8;have h2:=YR.2.2;have e:aT (.tup [.str "cases",t1,.lst A3])=aT (.str "cases")+2+(aT t1+2+(bU A3+3+2+0))+3:=by simp only[aT,bU]
   rw[e,h2]
   lia
 have CA:∀v∈kq++[.ref d],ba p (2*m+3) (15*u+700) uC v:=fun v hv=>by
  rcases Zay.mp hv with hv|hv
  ·exact(tE v hv).same sG
  ·rw[ZaE.mp hv];exact rd
 obtain⟨v,Dw,Dv⟩:=JA (vs:=kq++[.ref d]) (r:=way) w0 (by rw[Zak,Dc];simpa using AV);refine jq _ _ ?_;exact⟨_,rfl,_,rfl,L9,_,way,v,rfl,rfl,ak.of LD,Dw,q v uC sF (CA v (Zao Dv))⟩
theorem ZhC {n k:Nat}(F:aO K "_law_bent" "_law_bent" qx f fd)(G:Gs mg)(cQ:Def P w K mg base 1 "_law_take" db iK)(hk:1<=k)(Db:Def P w K mg base k "_law_bent" cr (qo n)):aJ P w K mg base aS (k+1) f fd cr (qo (n+1)):=by
 refine F.ok iL (fun vs H Q E h=>?_) (fun aw A outer s H vs Q E hr h=>?_)
 ·obtain⟨p,wd,v,t,m,k,hg,xs,rfl,_⟩:=h;rfl
 ·obtain⟨p,wd,v,t,m,kz,hg,xs,rfl,st,w1,mK,em,pj,hT,he,Ek,q⟩:=h;cases em;obtain⟨t9,r9,h9⟩:=ZfO (P:=P) (w:=w) (K:=K) (mg:=mg) (base:=base) (f:=f) (c:=aw) (A:=A) (outer:=outer) (s:=s) (Pe:=H) (E:=E) G (Q:=Q);refine⟨_,Zd (FO (i:=3) (j:=4) (k:=5) rfl iL.nd rfl rfl rfl rfl rfl rfl (Za (Zg cQ (hr.mono hk) (Za (pv 0) (Za Zc Zb))) (Za (Zg cQ (hr.mono hk) (Za (pv 0) (Za Zc Zb))) (Za (Zg cQ (hr.mono hk) (Za (pv 0) (Za Zc Zb))) Zb))))
   (Zd (UB (i:=6) (j:=7) rfl iL.nd rfl rfl .d rfl rfl (Za (Zg cQ (hr.mono hk) (Za (pv 0) (Zv 1))) (Za (Zg cQ (hr.mono hk) (Za (pv 0) (Za Zc Zb))) Zb)) rfl)
   (Zd (ZP (PW.pt (Jt (Zp Jl (ZR 2) ZA) (Y5 (Zp Aw (pv 3) Zc))))
    (Zd (Zq (i:=8) iL.nd (ZR 2))
    (Zd (Zq (i:=9) iL.nd (Zl YV (pv 7) (Zm Zx rfl G.len ZcY (Zv 8))))
    (Zd (Zq (i:=10) iL.nd (Zg Db hr (Za (pv 0) (Za (pv 1) (Za (ZV Yb (pv 8) (pv 9)) Zb)))))
    (Zk (Zr (Zl ZG (Zz ZS (pv 2) ZH (ZD Zc)) (Zj (Za (Zl ZG (Zl ZG (Zz ZS (pv 8) ZH (ZD (pv 9))) (Zj (Zv 10))) (Zz ZS (pv 8) (ZD (Zl Ya (pv 9) Zc)) ZH)) Zb)))))))) Zs)
   (Zd (Zq (i:=11) iL.nd (ZV Z2 (ZC (Za (pv 1) (Za (uu WO Zc) (Za YC (Za ZW (Za ZA (Za (Zj (Za Zc Zb)) (Za (Zl Fj Zc Zc) (Za YC Zb))))))))) (pv 5)))
   (Zd (Zq (i:=9) iL.nd (Zl Ya Zc (Zl YV (pv 7) (Zl Yx (Zm Zx rfl G.len ZcY (Zv 2)) Zc))))
   (Zd (Zq (i:=8) iL.nd (Jd (Zp Jl (ZR 2) ZA) (ZR 2) (Zj Zb)))
   r9))))),?_⟩
  refine ZX ⟨_,rfl,p,4,rfl,st,.d,.d,fun deep o1 _ _ az=>⟨_,rfl,p,16,rfl,az,.d,.d,fun way o2 w0 AV aF=>⟨_,rfl,p,8,rfl,aF,.d,.d,fun odd o3 d0 d8 bw=>⟨_,_,_,rfl,?_⟩⟩⟩⟩;dsimp only[List.set];refine ZX ⟨_,rfl,_,rfl,p,wd,rfl,bw,w1,.l,fun line o4 ln0 ln1 cT=>⟨_,rfl,p,60,rfl,cT,.d,.d,fun sO o5 Bw aaZ cg=>⟨_,_,rfl,?_⟩⟩⟩;dsimp only[List.set];have x5:av p H (upd (upd (upd (upd (upd H p o1) p o2) p o3) p o4) p o5):=((((av.upd (o:=o1)).trans av.upd).trans av.upd).trans av.upd).trans av.upd;generalize upd (upd (upd (upd (upd H p o1) p o2) p o3) p o4) p o5=H5 at cg x5;clear az aF bw cT;have Ei:=hT.same (JM x5);have sh:=ZcK he;obtain⟨ka,r,tS,kJ,hr4⟩:∃w' r,t=.tup (.str w'::r)/\1<=r.length/\r.length<=4:=by
   rcases sh with ⟨w',r,e,_,h1,h2⟩|⟨y,ts,e,_⟩
   ·exact⟨w',r,e,h1,h2⟩
   ·exact⟨_,_,e,.s,.s⟩
  subst tS;obtain⟨m',pa,vs,em,rfl,zJ,pr,_⟩:=Ei.tup;have em':m'=2*n:=.l;subst em';have hp:H5 pa=some (.tup vs):=WC _ _ zJ;have Xg:=ZaM pr;have wj:2<=vs.length/\vs.length<=5:=by rw[ZaU]at Xg;lia
  have hE:∀x∈vs,ba p (2*n) (uG (kz+1)) H5 x:=MI pr (Ek.2.1 _ rfl);have Ej:ba p (2*n+1) (uG (kz+1)) H5 (.ref pa):=⟨_,Ei,Ek.1⟩;obtain⟨xr,lS⟩:∃xr,vs=.str ka::xr:=by
   cases pr with
   |cons h1 _=>rw[Az h1];exact⟨_,rfl⟩
  have zW:dj vs 0=some (.str ka):=by subst lS;exact ZJ (show(V.str ka::xr)[0]?=some (V.str ka) from rfl)
  have KP:UP p (2*n) (uG (kz+1)) 5 H5 (.ref pa):=⟨pa,vs,rfl,hp,hE,wj.2⟩;have KL:ka= "cases" ->∃qa,dj vs 2=some (.ref qa)/\UP p (2*n-1) (uG kz) 7 H5 (.ref qa)/\∃ps ts n',n=n'+1/\(∃x0 x1,vs=[x0,x1,.ref qa])/\ts.length<=7/\(∀u∈ts,nX kz u)/\H5 qa=some (.tup ps)/\Paired (aE (mask p H5) (2*n'+1)) ps ts/\0<ts.length/\∀u∈ts,∃ys,(aU hg n ys u).isSome=true:=fun hw=>by
   rcases sh with ⟨w',r',e,ne,_⟩|⟨y,ts,e,h1,h2,h3⟩
   ·injection e with e;injection e with e _;injection e with e;exact absurd (e▸hw) ne
   ·have o8:=Ek.2.2 _ _ _ e;injection e with e;rw[e]at pr;obtain⟨x0,x1,x2,y0,y1,y2,rfl,ey,q0,q1,q2⟩:=CI pr rfl;injection ey with _ ey;injection ey with _ ey;injection ey with ey _;subst ey;obtain⟨m2,qa,ps,EI,rfl,hq,bC,_⟩:=q2.tup;obtain⟨n',rfl⟩:∃n',n=n'+1:=⟨n-1,.l⟩;have rJ:m2=2*n'+1:=.l;subst rJ;have cG:=ZaM bC;exact⟨qa,ZJ (show([x0,x1,V.ref qa]:List V)[2]?=some (V.ref qa) from rfl),⟨qa,ps,rfl,WC _ _ hq,MI bC (fun u hu=>by
     have:=o8.2 u hu;cases kz with
     |zero=>exact this.elim
     |succ kz=>exact this.1),by rw[cG];exact o8.1⟩,ps,ts,n',rfl,⟨x0,x1,rfl⟩,o8.1,o8.2,WC _ _ hq,bC,h1,h3⟩
  refine OA (fun ao H'=>ao=[some (.ref p),some (.int wd),some (.ref pa),some (.int deep),some (.int way),some (.int odd),some (.int line),some (.int sO),none,none,none,none,none]/\H'=H5) ?_ fun N nx=>?_
  ·rintro ao H' ⟨rfl,rfl⟩;refine ZX (ZB ⟨_,rfl,_,rfl,aK,fun a1 KN=>⟨_,_,rfl,rfl,⟨.d,.d,.d⟩,aK,fun L hL=>?_⟩⟩);have k1:=Zf (o:=.tup [V.int 0]) KN;have LA:upd H' a1 (.tup [V.int 0]) a1=some (.tup [V.int 0]):=aj;have S5:=JK cg KN;generalize upd H' a1 (HO.tup [V.int 0])=H6 at k1 LA hL;obtain⟨vb,Du,Kd⟩:=Zhj (w:=.int wd) (a:=a1) d0 d8;refine⟨_,rfl,L,_,odd,vb,rfl,rfl,ak.of aj,Du,Zn ?_⟩;dsimp only[List.set];have k2:=Zf (o:=.lst [V.int wd,.int (-1),.bl true,.af,.str "0",.ref a1,.int ((10:Int)^(29:Int).toNat),.bl false]) hL;have Ly:=k2 _ _ LA;have s7:=k1.trans k2;refine ZX (ZB ⟨_,rfl,_,rfl,pa,_,rfl,.inr (ah.of (s7 _ _ hp)),_,_,rfl,rfl,_,_,rfl,rfl,(by have:=wj.1;lia),_,_,rfl,rfl,Zn ?_⟩);dsimp only[List.set];have KI:ba p 1 36 (upd H6 L (.lst [V.int wd,.int (-1),.bl true,.af,.str "0",.ref a1,.int ((10:Int)^(29:Int).toNat),.bl false])) vb:=by
    simp only[Zas,Zbk,Zcp]at Kd;rcases Kd with rfl|rfl|rfl|rfl|rfl|rfl|rfl|rfl
    ·exact WP (t:=.int _) rfl (UN .l .l .d) _
    ·exact WP (t:=.int _) rfl (UN .d .d .d) _
    ·exact WP (t:=.bl _) rfl (by simp only[aT];decide) _
    ·exact WP (t:=.af) rfl (by simp only[aT];decide) _
    ·exact WP (t:=.str _) rfl (by simp only[aT];decide+kernel) _
    ·exact⟨.tup [.int 0],⟨a1,_,rfl,Yt Ly S5,.cons (Yv rfl) .nil,by show 1<=1000;decide⟩,by simp only[aT,bU];decide⟩
    ·exact WP (t:=.int _) rfl (by simp only[aT];decide+kernel) _
    ·exact WP (t:=.bl _) rfl (by simp only[aT];decide) _
   generalize upd H6 L (.lst [V.int wd,.int (-1),.bl true,.af,.str "0",.ref a1,.int ((10:Int)^(29:Int).toNat),.bl false])=H7 at k2 Ly s7 KI;refine ZX (ZB (U.T.sv (t:=uU _ _ _) (fun v H8=>ae H7 H8/\UP p (2*n+1) (uG kz) 7 H8 v) ?_ ?_))
   case refine_2=>
    intro Q' hq;refine⟨_,rfl,pa,_,_,_,rfl,rfl,ah.of (s7 _ _ hp),zW,rfl,_,rfl,?_⟩;by_cases hw:ka= "cases"
    ·rw[Zau (show V.str ka=V.str "cases" by rw[hw])];obtain⟨qa,h1,h2,_⟩:=KL hw;exact aq ⟨_,rfl,pa,_,_,_,rfl,rfl,ah.of (s7 _ _ hp),h1,hq _ _ ⟨ae.refl _,(h2.same s7).le .o (Zal _)⟩⟩
    ·rw[Zax (show ¬V.str ka=V.str "cases" from fun z=>hw (V.str.inj z))];exact ar ⟨ZaJ _,fun c hc=>hq _ _ ⟨Zf hc,c,[],rfl,aj,(fun x hx=>nomatch hx),ZaJ _⟩⟩
   rintro v8 H8 ⟨s8,h8⟩;refine Zn ?_;dsimp only[List.set];have tf:=s7.trans s8;exact h9 H8 p n (uG (kz+1)) (uG kz) _ _ pa _ _ way line _ _ _ _ v8 vb vs w0 AV (cg.same tf) (tf _ _ hp) (by show 7*uG kz+36<=36+7*uG kz;lia) .l .l (Ej.same tf) (fun x hx=>(hE x hx).same tf) wj.1 wj.2 h8 (KI.same s8) fun v' H9 s9 hv=>q v' H9 (x5.trans (tf.trans s9).x) ((cg.same tf).same s9) hv
  ·refine⟨_,rfl,pa,_,_,_,rfl,rfl,ah.of hp,zW,rfl,_,rfl,?_⟩;by_cases hw:ka= "cases"
   case neg=>rw[Zax (show ¬V.str ka=V.str "cases" from fun z=>hw (V.str.inj z))];exact ar (ar (nx _ _ ⟨rfl,rfl⟩))
   rw[Zau (show V.str ka=V.str "cases" by rw[hw])];refine aq ⟨_,rfl,_,_,rfl,rfl,_,rfl,?_⟩;cases decide (deep>0) with
   |false=>exact ar (nx _ _ ⟨rfl,rfl⟩)
   |true=>
   obtain⟨qa,h1,Eh,ps,ts,n',rfl,⟨x0,x1,rfl⟩,nF,o8,hq,bC,tS,jW⟩:=KL hw;have cG:=ZaM bC;refine aq (ZX (ZB ⟨_,rfl,pa,_,_,_,rfl,rfl,ah.of hp,h1,Zn ?_⟩));dsimp only[List.set];have zG:(0:Int)< (ps.length:Int):=.l;refine ZX (ZB ⟨_,rfl,_,rfl,qa,_,rfl,.inr (ah.of hq),_,_,rfl,rfl,zG,Zn ?_⟩);dsimp only[List.set];obtain⟨y,nz,dH⟩:=JA (vs:=ps) (Zce sO (by lia:(ps.length:Int)≠0)) (ZbQ sO zG);obtain⟨tr,kI,hTr⟩:=YO bC dH;obtain⟨ys,kD⟩:=jW tr (Zao kI);obtain⟨j,hj⟩:∃j:Nat,sO%(ps.length:Int)=j:=⟨(sO%(ps.length:Int)).toNat,by have:=Zce sO (by omega:(ps.length:Int)≠0);omega⟩;rw[hj]at nz dH kI |-;rw[Zb2]at dH kI;have kO:j<ps.length:=(Zai.mp dH).1;obtain⟨jN,rfl⟩:∃jN,kz=jN+1:=by
    cases kz with
    |zero=>exact(o8 tr (Zao kI)).elim
    |succ jN=>exact⟨jN,rfl⟩
   refine ZX (ZB ⟨_,rfl,_,rfl,_,rfl,_,rfl,qa,_,_,_,rfl,rfl,ah.of hq,nz,p,wd,y,tr,n',jN,hg,ys,rfl,cg,w1,mK,rfl,pj,hTr,kD,o8 tr (Zao kI),fun v' H6 x6 dY ir=>Zn ?_⟩);dsimp only[List.set];have VZ:=x6 _ _ hp (Yf cg hp);have IQ:=x6 _ _ hq (Yf cg hq);refine⟨_,rfl,_,rfl,pa,_,rfl,VZ,fun c0 J0 q0 f0=>?_⟩;replace f0:J0 c0=some (.tup [x0,x1]):=f0;refine⟨_,rfl,_,rfl,_,rfl,qa,ps,rfl,q0 _ _ IQ,fun c1 J1 q1 f1=>⟨_,rfl,aK,fun c2 eQ=>?_⟩⟩;rw[rN kO]at f1;have q2:=Zf (o:=.tup [v']) eQ;refine Yz (q2 _ _ f1) aj (by rw[ZaB];simp;omega) fun c3 J3 q3 f3=>?_;have HJ:=q0.trans (q1.trans (q2.trans q3));refine⟨_,rfl,_,rfl,_,_,rfl,rfl,_,rfl,qa,ps,rfl,HJ _ _ IQ,fun c4 J4 q4 f4=>?_⟩;rw[kX kO]at f4;refine Yz (q4 _ _ f3) f4 (by rw[Zak,ZaB,Za5];simp;omega) fun c5 J5 q5 f5=>?_;rw[Uf kO]at f5;refine⟨aK,fun c6 X5=>?_⟩;have q6:=Zf (o:=.tup [V.ref c5]) X5;have HI:=q4.trans (q5.trans q6);have f0':=(q1.trans (q2.trans (q3.trans HI))) _ _ f0;refine Yz f0' aj (by show 2+1<=1000;decide) fun c7 J7 q7 f7=>?_;have qA:=HJ.trans (HI.trans q7);have gZ:=dY.same qA;have Ll:=(q6.trans q7) _ _ f5;obtain⟨t',dw,Pp⟩:=ir.same qA;have nB:ba p (2*(n'+1)) (uG (jN+1+1)) J7 x0:=((hE x0 .s).x x6).same qA;have qO:ba p (2*(n'+1)) (uG (jN+1+1)) J7 x1:=((hE x1 .s).x x6).same qA;obtain⟨t0,iR,z0⟩:=nB;obtain⟨t1,wz,z1⟩:=qO;have fH:Paired (aE (mask p J7) (2*n'+3)) ps ts:=Paired.bh bC fun v t h=>aE.le (h.same (JM (x6.trans qA.x))) .l;have RN:=Mx fH dw j;have VY:(ps.set j v').length<=1000:=by rw[Zgy];lia
   have e7:J7 c7=some (.tup [x0,x1,.ref c5]):=f7;refine q (.ref c7) J7 ((x5.trans x6).trans qA.x) gZ ⟨.tup [t0,t1,.tup (ts.set j t')],⟨c7,_,rfl,Yt e7 (Yf gZ e7),.cons (aE.le iR .l) (.cons (aE.le wz .o) (.cons ?_ .nil)),by show 3<=1000;decide⟩,?_⟩
   ·exact⟨c5,_,rfl,Yt Ll (Yf gZ Ll),RN,VY⟩
   ·have h1:=Nt Pp (ts:=ts) (z:=uG (jN+1)) j fun u hu=>(o8 u hu).1;have h2:ts.length*(uG (jN+1)+2)<=7*(uG (jN+1)+2):=Zfh _ nF;have eu:uG (jN+1+1)=36+7*uG (jN+1):=rfl;have e:aT (.tup [t0,t1,.tup (ts.set j t')])=aT t0+2+(aT t1+2+(bU (ts.set j t')+3+2+0))+3:=by simp only[aT,bU]
    rw[e]
    lia
theorem LZ (dB:∀(k:Nat) (sp:Sp),(∀f fd,aO K "_law_bent" "_law_bent" qx f fd->aJ P w K mg base aS k f fd cr sp)->Def P w K mg base k "_law_bent" cr sp)(G:Gs mg)
  (cQ:Def P w K mg base 1 "_law_take" db iK):∀n,Def P w K mg base (2+n) "_law_bent" cr (qo n)
 |0=>dB _ _ fun f fd F=>Zg3 F
 |n+1=>dB _ _ fun f fd F=>ZhC F G cQ (by show 1<=2+n;lia) (LZ dB G cQ n)
def n9 (σ:L2.St)(H0:Hp)(d:Nat)(ta:TA)(ts:List Tg):Prop:=∀H Q,ae H0 H->(∀vs H',ae H H'->Paired (aE H' d) vs ts->Q vs H')->ta σ H Q
abbrev Gt (σ:L2.St)(H0:Hp)(d:Nat)(te:TE)(t:Tg):Prop:=Gv σ H0 (fun H v=>aE H d v t) te
def vG:Tg->V
 | .bl b=>.bl b
 | .int i=>.int i
 | .str s=>.str s
 |_=>.af
def Bz:Tg->Bool
 | .tup _=>false
 | .lst _=>false
 |_=>true
theorem Zhm (h:aE H d v t)(s:Bz t=true):v=vG t:=by
 cases h.c with
 |af e et=>subst e et;rfl
 |bl _ e et=>subst e et;rfl
 |int _ e et=>subst e et;rfl
 |str _ e et=>subst e et;rfl
 |tup _ _ _ _ en e et=>subst et;cases s
 |lst _ _ _ _ en e et=>subst et;cases s
theorem MH {d:Nat} :∀{vs:List V}{ts:List Tg},Paired (aE H d) vs ts->ts.all Bz=true->vs=ts.map vG
 |_,_,.nil,_=>rfl
 |_::_,_::_,.cons h r,s=>by rw[Zcf,Zap]at s;rw[Zhm h s.1,MH r s.2];rfl
section
variable {K:Zke}{H0:Hp}{d:Nat}{ta:TA}{t:Tg}{ts:List Tg}
theorem Zw:n9 σ H0 d bD []:=fun H Q s q=>q [] H (ae.refl _) .nil
theorem ZT (h:Gt σ H0 d te t)(r:n9 σ H0 d ta ts):n9 σ H0 d (aI te ta) (t::ts):=fun H Q s q=>h H _ s fun v H1 s1 hv=>r H1 _ (s.trans s1) fun vs H2 s2 pr=>q _ H2 (s1.trans s2) (.cons (hv.same s2) pr)
theorem aam (h:qr v t):Gt σ H0 d (tC v) t:=rP fun _=>Yv h
theorem Zu (t:Tg)(r:n9 σ H0 d ta ts)(h:qr v t:=by rfl):n9 σ H0 d (aI (tC v) ta) (t::ts):=ZT (aam h) r
theorem Zhd :Gt σ H0 d (A6 (rU fun i=>.int (-i)) (tC (.int i))) (.int (-i)):=fun H Q s q=>⟨i,rfl,q _ H (ae.refl _) (Yv rfl)⟩
theorem Zy (h:n9 σ H0 d ta ts)(hz:ts.length<=1000):Gt σ H0 (d+1) (cX ta) (.tup ts):=fun H Q s q=>h H _ s fun vs H1 s1 pr=>⟨by rw[ZaM pr,ZaH];lia,fun p hp=>q _ _ (s1.trans (Zf hp)) ⟨p,vs,rfl,aj,Paired.bh pr fun _ _ h=>h.same (Zf hp),by rw[ZaM pr];exact hz⟩⟩
theorem YD {e:Nat}(h:Gt σ H0 d te t)(le:d<=e):Gt σ H0 e te t:=xN h fun _ _ _ h=>h.le le
theorem Ms (h:n9 σ H0 d ta ts)(hz:ts.length<=1000):Gt σ H0 (d+1) (oh ta) (.lst ts):=fun H Q s q=>h H _ s fun vs H1 s1 pr=>⟨by rw[ZaM pr,ZaH];omega,fun p hp=>q _ _ (s1.trans (Zf hp)) ⟨p,vs,rfl,aj,Paired.bh pr fun _ _ h=>h.same (Zf hp),by rw[ZaM pr];exact hz⟩⟩
end
def mF (H:Hp)(v:V)(xs:List V):Prop:=∃p,v=.ref p/\H p=some (.tup xs)
theorem tO :Keeps fun H v=>mF H v xs:=fun _ _ _ s ⟨p,e,h⟩=>⟨p,e,s _ _ h⟩
theorem YF {ts:List Tg}(h:Gt σ H0 d te (.tup ts))(s:ts.all Bz=true):Gv σ H0 (fun H v=>mF H v (ts.map vG)) te:=xN h fun H v _ h=>by obtain⟨m,p,vs,_,e,hp,pr,_⟩:=h.tup;rw[MH pr s]at hp;exact⟨p,e,hp⟩
theorem Wh {m:Nat}{E:XK}(gb:Gv σ H0 (fun H v=>mF H v [.int wd,.int hg]) tb)(gl:Gv σ H0 (fun H v=>mF H v xs) tl)(gt:Gt σ H0 (2*m+1) tv t)(hb:1<=wd/\wd<=12/\1<=hg/\hg<=12)(ly:bP wd hg xs)(he:(aU hg (m+1) xs t).isSome=c):
  Gv σ H0 (fun _ v=>v=.bl c) (mS (gB (m+1)) [] E (aI tb (aI tl (aI tv bD)))):=fun H Q s q=>gb H _ s fun x H1 s1 hx=>gl H1 _ (s.trans s1) fun y H2 s2 hy=>gt H2 _ (s.trans (s1.trans s2)) fun z H3 s3 hz=>by
 obtain⟨b,rfl,cj⟩:=hx;obtain⟨l,rfl,nG⟩:=hy;exact⟨b,l,z,wd,hg,xs,m,t,rfl,⟨ZL (s3 _ _ (s2 _ _ cj)),hb⟩,s3 _ _ nG,ly,rfl,hz,fun H4 s4=>q _ H4 (s1.trans (s2.trans (s3.trans s4))) (by rw[he])⟩
theorem Mh {m:Nat}{E:XK}(gb:Gv σ H0 (fun H v=>mF H v [.int wd,.int hg]) tb)(gl:Gv σ H0 (fun H v=>mF H v xs) tl)(gt:Gt σ H0 (2*m+1) tv t)(hb:1<=wd/\wd<=12/\1<=hg/\hg<=12)(ly:bP wd hg xs)(he:aU hg (m+1) xs t=some e):
  Gv σ H0 (fun _ v=>v=.int e) (mS (qm m) [] E (aI tb (aI tl (aI tv bD)))):=fun H Q s q=>gb H _ s fun x H1 s1 hx=>gl H1 _ (s.trans s1) fun y H2 s2 hy=>gt H2 _ (s.trans (s1.trans s2)) fun z H3 s3 hz=>by
 obtain⟨b,rfl,cj⟩:=hx;obtain⟨l,rfl,nG⟩:=hy;exact⟨b,l,z,wd,hg,xs,t,e,rfl,⟨ZL (s3 _ _ (s2 _ _ cj)),hb⟩,s3 _ _ nG,ly,hz,he,fun H4 s4=>q _ H4 (s1.trans (s2.trans (s3.trans s4))) rfl⟩
theorem Yq (h:jO wd hg (some xs)=true):bP wd hg xs:=by have h':(decide ((xs.length:Int)=wd)&&((rowsOf xs).all fun r=>bQ r 0 (hg-1))&&decide (rowsOf xs).Nodup)=true:=h;simp only[Zap,ZaF,ZaK]at h';exact⟨h'.1.1,h'.1.2,h'.2⟩
theorem Zer (n:Nat)(v:V):(List.replicate n [v]).flatten=List.replicate n v:=by
 induction n with
 |zero=>rfl
 |succ n ih=>rw[ZcZ,Zfa,ih,ZcZ];rfl
theorem Mv {n:Int}(h0:1<=n)(h12:n<=12):Gv σ H0 (fun H v=>mF H v (List.replicate n.toNat .af)) (dW Cz (cX (aI (tC .af) bD)) (tC (.int n))):=fun H Q s q=>⟨.d,fun a ha=>⟨a,n,[.af],rfl,rfl,aj,.s,.o,.l,by simp;omega,fun c H1 s1 e1=>q _ H1 ((Zf ha).trans s1) ⟨c,rfl,by rw[e1,Zer]⟩⟩⟩
theorem Oe (h:jb (xs.take j) ys)(hx:xs[j]?=some x)(hv:v=.af∨v=x):jb (xs.take (j+1)) (ys++[v]):=by
 have hj:j<xs.length:=(Zai.mp hx).1;have hl:ys.length=j:=by rw[h.1,ZaB];lia
 have et:xs.take (j+1)=xs.take j++[x]:=by rw[ZaO,hx];rfl
 rw[et];refine⟨by rw[Zak,Zak,h.1];rfl,fun i u hu=>?_⟩;by_cases hi:i<ys.length
 ·rw[Zbw hi]at hu;rcases h.2 i u hu with z|z
  ·exact .inl z
  ·exact .inr (by rw[Zbw (by rw[<-h.1];exact hi)];exact z)
 ·have bZ:i=ys.length:=by
   have:=(Zai.mp hu).1;rw[Zak]at this;simp at this
   lia
  subst bZ;rw[Zbt (Zal _),ZiH]at hu;have eu:u=v:=by simpa using hu.symm
  rw[eu];rcases hv with z|z
  ·exact .inl z
  ·refine .inr ?_;rw[h.1,Zbt (Zal _),ZiH,z];rfl
abbrev BS:Stmt:=top 61
abbrev Ta:List Str:=["_law_state_here","_law_way","_law_more","_law_hide","_law_wide","_law_high","_law_lay_here"]
theorem oq:bo Ta sK (aR BS):=ZU .k
inductive Bn (vs:List V) (H:Hp) (Q:VK) (_E:XK):Prop
 |mk (p:Addr) (c0:vs=[.ref p]) (c1:bg H p) (c2:∀(t b l:Addr) (wd hg:Int) (xs:List V) (H':Hp),av p H H'->bg H' p->H' t=some (.tup [.ref b,.ref l])->bS H' (.ref b) wd hg->H' l=some (.tup xs)->bP wd hg xs->Q (.ref t) H')
theorem Se (F:aO K "_law_nofit" "_law_nofit" BS f fd)(G:Gs mg)(cQ:Def P w K mg base 1 "_law_take" db iK)(Pg:Def P w K mg base 2 "_law_lay" lc (Bu K))(Dgr:Def P w K mg base 3 "_law_grown" lc (Bs K)):aJ P w K mg base aS 4 f fd sK Bn:=by
 refine F.ok oq (fun vs H Q E h=>?_) (fun aw A outer s H vs Q E hr h=>?_)
 ·obtain⟨p,rfl,_⟩:=h;rfl
 ·obtain⟨p,rfl,st,q⟩:=h;have kJ:=hr.mono (show 1<=3 by decide);refine⟨_,Zd (Ju (Zj (Za (Zg cQ kJ (Za (pv 0) (Za Zc Zb))) (Za (Zl Ya Zc (Zg cQ kJ (Za (pv 0) (Za Zc Zb)))) (Za (Zg cQ kJ (Za (pv 0) (Za Zc Zb))) Zb)))) (Yk rfl (Zo (ZE (i:=1) oq.nd) (Zo (ZE (i:=2) oq.nd) (Zo (ZE (i:=3) oq.nd) Z4)))))
   (Zd (UB (i:=4) (j:=5) rfl oq.nd rfl rfl .d rfl rfl (Za (Zl Ya Zc (Zg cQ kJ (Za (pv 0) (Za Zc Zb)))) (Za (Zl Ya Zc (Zg cQ kJ (Za (pv 0) (Za Zc Zb)))) Zb)) rfl)
   (Zd (ZP (Zp Jl (pv 1) Zc) (Zk (Zr (Zj (Za (Zj (Za (pv 4) (Zv 5))) (Za (Zg Pg (hr.mono .d) (Za (pv 0) (Za (Zj (Za (pv 4) (Zv 5))) Zb))) Zb))))) Zs)
   (Zd (Zq (i:=4) oq.nd (Zl Ya Zc (Zl YV (pv 4) Zc)))
   (Zd (Zq (i:=5) oq.nd (Jd (Zp W6 (pv 1) Zc) (Zm (W4 rfl) rfl G.max boot_max (Za Zc (Za (Zl Yx (pv 4) (pv 2)) Zb))) (Zm (OP rfl) rfl G.min boot_min (Za Zc (Zv 4)))))
   (Zd (ZP (Zp Jl (pv 1) Zc) (Zk (Zr (Zj (Za (Zj (Za (pv 4) (Zv 5))) (Za (Zg Pg (hr.mono .d) (Za (pv 0) (Za (Zj (Za (pv 4) (Zv 5))) Zb))) Zb))))) Zs)
   (Zd (Zq (i:=6) oq.nd (Zg Dgr hr (Za (pv 0) (Za (Zj (Za (pv 4) (Zv 5))) Zb))))
   (Zk (Zr (Zj (Za (Zj (Za (pv 4) (Zv 5))) (Za (Yd Y2 rfl G.tuple ZhZ (Za (Z7 ["_law_row","_law_state_here","_law_hide"] 1 [0,3] (Wk (pv 6)) (fun C s H fp=>pb 0) (fun C s H fp=>Ym)
     (fun C s H fp D=>ZK rfl (Jd (Zp Fe (Zg cQ kJ (Za (pv 1) (Za Zc Zb))) (pv 2)) (pv 0) ZW))) Zb)) Zb))))))))))),?_⟩
  try dsimp only[cw]
  refine GV ?_;intro jD wa kB wb kC qJ jq nk fo lP eO gK bX cF aY;refine(ZB ⟨_,rfl,p,5,rfl,st,.d,.d,fun way o1 w0 w4 az=>⟨_,rfl,p,3,rfl,az,.d,.d,fun more o2 t0 t3 aF=>⟨_,_,rfl,rfl,_,rfl,p,3,rfl,aF,.d,.d,fun hide o3 h0 h4 bw=>⟨aK,fun tt zC=>?_⟩⟩⟩⟩);have x3:av p H (upd (upd (upd H p o1) p o2) p o3):=av.upd.trans (av.upd.trans av.upd);generalize upd (upd (upd H p o1) p o2) p o3=H3 at bw x3 zC;obtain⟨H4,zz,s4,e4⟩:=cU (o:=.tup [.int way,.int (1+more),.int hide]) zC;rw[zz];refine⟨tt,_,rfl,ah.of e4,rfl,_,_,rfl,_,_,rfl,_,_,rfl,rfl,?_⟩;dsimp only[List.set];have cT:=bw.same s4;have x4:=x3.trans s4.x;clear az aF;refine aY _ _ ⟨_,rfl,p,12,rfl,cT,.d,.d,fun r5 o5 r50 r51 cg=>⟨_,_,rfl,rfl,_,rfl,p,12,rfl,cg,.d,.d,fun r6 o6 r60 r61 dY=>⟨_,_,rfl,rfl,_,_,rfl,?_⟩⟩⟩;dsimp only[List.set];have x6:av p H (upd (upd H4 p o5) p o6):=x4.trans (av.upd.trans av.upd);generalize upd (upd H4 p o5) p o6=H6 at dY x6;clear cg;generalize Vq:1+r5=wd;generalize hhg:1+r6=hg;refine bX _ _ ⟨_,rfl,rfl,_,rfl,?_⟩;have uo:∀{H':Hp}{b:Addr}{wd hg:Int},H' b=some (.tup [.int wd,.int hg])->1<=wd->wd<=12->1<=hg->hg<=12->bS H' (.ref b) wd hg:=fun h a1 a2 a3 a4=>⟨ZL h,a1,a2,a3,a4⟩;have nb:∀{H':Hp}{b:Addr},bg H' p->H' b=none->b≠p:=fun st hb z=>by obtain⟨u,v,e,_⟩:=st;rw[z,e]at hb;cases hb
  cases hw:decide (V.int way=V.int 0) with
  |true=>refine aq ⟨_,rfl,_,rfl,aK,fun b hb=>⟨_,rfl,_,rfl,_,rfl,aK,fun b2 gR=>?_⟩⟩;have m1:=Yl (o:=.tup [.int wd,.int hg]) hb;have m2:=Yl (o:=.tup [.int wd,.int hg]) gR;have f1:=m2 _ _ (aj:upd H6 b (.tup [.int wd,.int hg]) b=some (.tup [.int wd,.int hg]));refine⟨p,b2,wd,hg,rfl,(dY.same m1).same m2,uo aj .l .l .l .l,fun l H8 xs x8 jg el CQ ly=>⟨aK,fun t ht=>?_⟩⟩;have m3:=Yl (o:=.tup [.ref b,.ref l]) ht;exact q t b l wd hg xs _ (((x6.trans m1.x).trans (m2.x.trans x8)).trans m3.x) (jg.same m3) aj (uo (m3 _ _ (x8 _ _ f1 (nb dY hb))) .o .o .o .o) (m3 _ _ el) ly
  |false=>
   refine ar (ZN ?_);dsimp only;refine eO _ _ (ZB ⟨_,rfl,_,_,rfl,rfl,(by show(0:Int)<6;decide),_,_,rfl,rfl,Zn ?_⟩);dsimp only[List.set];have Py:1<=1+wd%6:=.l;have Px:1+wd%6<=6:=.l;generalize 1+wd%6=jd at Py Px;refine fo _ _ (ZB (U.T.sv (t:=uU _ _ _) (fun v H'=> ∃hg:Int,v=.int hg/\1<=hg/\hg<=12/\H'=H6) ?_ ?_))
   case refine_2=>
    intro Q' hq;refine⟨_,rfl,_,_,rfl,rfl,_,rfl,?_⟩;cases decide (way<3) with
    |true=>refine aq ⟨_,rfl,_,rfl,_,_,rfl,rfl,_,_,rfl,hq _ _ ⟨_,rfl,?_,?_,rfl⟩⟩<;>split<;>lia
    |false=>refine ar ⟨_,rfl,_,_,rfl,hq _ _ ⟨_,rfl,?_,?_,rfl⟩⟩<;>split<;>lia
   rintro v H' ⟨jw,rfl,g1,pj,rfl⟩;refine Zn ?_;dsimp only[List.set];refine jq _ _ ⟨_,rfl,rfl,_,rfl,?_⟩;cases hw4:decide (V.int way=V.int 4) with
   |true=>refine aq ⟨_,rfl,_,rfl,aK,fun b hb=>⟨_,rfl,_,rfl,_,rfl,aK,fun b2 gR=>?_⟩⟩;have m1:=Yl (o:=.tup [.int jd,.int jw]) hb;have m2:=Yl (o:=.tup [.int jd,.int jw]) gR;have f1:=m2 _ _ (aj:upd H' b (.tup [.int jd,.int jw]) b=some (.tup [.int jd,.int jw]));refine⟨p,b2,jd,jw,rfl,(dY.same m1).same m2,uo aj .o .l .o .o,fun l H8 xs x8 jg el CQ ly=>⟨aK,fun t ht=>?_⟩⟩;have m3:=Yl (o:=.tup [.ref b,.ref l]) ht;exact q t b l jd jw xs _ (((x6.trans m1.x).trans (m2.x.trans x8)).trans m3.x) (jg.same m3) aj (uo (m3 _ _ (x8 _ _ f1 (nb dY hb))) .o .o .o .o) (m3 _ _ el) ly
   |false=>
    refine ar (ZN ?_);dsimp only;refine kC _ _ (ZB ⟨_,rfl,_,rfl,_,rfl,aK,fun b2 gR=>?_⟩);have m2:=Yl (o:=.tup [.int jd,.int jw]) gR;refine⟨p,b2,jd,jw,rfl,dY.same m2,uo aj .o .o .o .o,fun l H8 xs x8 jg el CQ ly _=>Zn ?_⟩;dsimp only[List.set];have lx:=ly.len;have Pr:=(x6.trans m2.x).trans x8;refine kB _ _ ?_;refine⟨_,rfl,_,rfl,aK,fun b hb=>?_⟩;have m3:=Yl (o:=.tup [.int jd,.int jw]) hb;have e3:upd H8 b (.tup [.int jd,.int jw]) b=some (.tup [.int jd,.int jw]):=aj;have CZ:=nb jg hb;generalize upd H8 b (.tup [.int jd,.int jw])=H9 at m3 e3;have Lw:=m3 _ _ el;refine⟨_,rfl,l,rfl,⟨xs,ah.of Lw⟩,?_⟩;refine Je (xs:=xs) (fun j ys ao dJ=> ∃v0,ao=[v0,some (.ref p),some (.int hide)]/\av p H9 dJ/\bg dJ p/\jb (xs.take j) ys) ⟨_,rfl,av.refl _ _,jg.same m3,⟨rfl,fun i u hu=>by simp at hu⟩⟩ (fun j ys ao dJ _ ⟨_,_,x9,_⟩=>ah.of (x9 _ _ Lw CQ)) ?_ ?_
    ·rintro j y ys ao dJ hy ⟨v0,rfl,x9,sJ,gT⟩;have hj:=(Zai.mp hy).1;have hl:ys.length=j:=by rw[gT.1,ZaB];lia
     refine Zn ?_;dsimp only[List.set]
     try unfold pZ
     refine aq ?_;refine⟨_,rfl,p,4,rfl,sJ,.d,.d,fun tE Sx _ _ sN=>⟨_,rfl,_,_,rfl,rfl,_,rfl,?_⟩⟩;have GG:av p H9 (upd dJ p Sx):=x9.trans av.upd;cases decide (tE>=hide) with
     |true=>exact aq ⟨_,rfl,by rw[ZaH];lia,_,rfl,GG,sN,Oe gT hy (.inr rfl)⟩
     |false=>exact ar ⟨by rw[ZaH];omega,_,rfl,GG,sN,Oe gT hy (.inl rfl)⟩
    ·rintro ys ao dJ ⟨v0,rfl,x9,sJ,gT⟩ L hL;rw[ZaV]at gT;refine⟨L,_,rfl,.inl ⟨ak.of aj,fun l2 bY=>⟨aK,fun t ht=>?_⟩⟩⟩;have m4:=(Yl (o:=.lst ys) hL).trans (Yl (o:=.tup ys) bY);have m5:=Yl (o:=.tup [.ref b,.ref l2]) ht;have mm:=m4.trans m5;exact q t b l2 jd jw ys _ ((Pr.trans m3.x).trans (x9.trans mm.x)) (sJ.same mm) aj (uo (mm _ _ (x9 _ _ e3 CZ)) .o .l .o .o) (m5 _ _ aj) (ZdZ ly gT)
abbrev BM:Stmt:=top 65
theorem Hn:bo ["_law_great"] [] (aR BM):=ZU .k
def Bi:Sp:=fun vs H Q _=>vs=[]/\∀H',ae H H'->Q (.bl true) H'
theorem ZfP {ta tb tc:TE}(h:ta σ H fun x H1=>tb σ H1 fun y H2=>tc σ H2 fun z H3=>O6 Q [x,y,z] H3):cX (aI ta (aI tb (aI tc bD))) σ H Q:=h
theorem Sa (F:aO K "_law_some_right" "_law_some_right" BM f fd)(fT:Def P w K mg base 29 "is_paper" al (gB 8))(uI:Def P w K mg base 30 "ends_many" dL (qm 7)):aJ P w K mg base aS 31 f fd [] Bi:=by
 refine F.ok Hn (fun vs H Q E h=>?_) (fun aw A outer s H vs Q E hr h=>?_)
 ·obtain⟨rfl,_⟩:=h;rfl
 ·obtain⟨rfl,q⟩:=h;refine⟨_,Zd (ZP (Zp YU (Yo fT (hr.mono .d) (Zj (Zi Zc (Zi Zc Zb))) (Zj (Zi Zc (Zi Zc Zb))) (Zj (Zi ZA (Zi Zc (Zi Zc (Zi Zc (Zi Zc Zb)))))) ZY ZY ZY) YC) ZF Zs)
   (Zd (ZP (Zp YU (Yo fT (hr.mono .d) (Zj (Zi Zc (Zi Zc Zb))) (Zj (Zi Zc (Zi Zc (Zi ZW (Zi Zc Zb))))) (Zj (Zi ZA (Zi Zc (Zi Zc (Zi Zc (Zi Zc Zb)))))) ZY ZY ZY) YC) ZF Zs)
   (Zd (ZP (Zp YU (Yo fT (hr.mono .d) (Zj (Zi Zc (Zi Zc Zb))) (Zj (Zi Zc (Zi Zc (Zi Zc Zb)))) (Zj (Zi ZA (Zhv (uu WO Zc) (Zi Zc (Zi Zc (Zi Zc Zb)))))) ZY ZY ZY) YC) ZF Zs)
   (Zd (ZP (Zp YU (Yo fT (hr.mono .d) (Zj (Zi Zc (Zi Zc Zb))) (Zj (Zi ZW (Zi ZW Zb))) (Zj (Zi ZA (Zi Zc (Yp (Zj (Yp (Zj (Zi ZA (Zi Zc Zb))) Zb)) Zb)))) ZY ZY ZY) YC) ZF Zs)
   (Zd (ZP (Zp YU (Yo fT (hr.mono .d) (Zj (Zi Zc (Zi Zc Zb))) (Zj (Zi Zc (Zi ZW Zb))) (Zj (Zi ZA (Zi Zc Zb))) ZY ZY ZY) YC) ZF Zs)
   (Zd (ZP (Zp YU (Yo fT (hr.mono .d) (Zj (Zi Zc (Zi Zc Zb))) (Zj (Zi Zc (Zi Zc (Zi Zc Zb)))) (Zj (Zi ZA (Zi Zc (Zi Zc (Zi Zc (Zi Zc Zb)))))) ZY ZY ZY) YC) ZF Zs)
   (Zd (ZP (Zp YU (Yo fT (hr.mono .d) (Zj (Zi Zc (Zi Zc Zb))) (Zj (Zi Zc (Zi Zc (Zi Zc Zb)))) (Zj (Zi ZA (Zi Zc (Zi Zc (Zi Zc (Zi Zc Zb)))))) ZY ZY ZY) YC) ZF Zs)
   (Zd (ZP (Zp YU (Yo fT (hr.mono .d) (Zj (Zi Zc (Zi Zc Zb))) (Zj (Zi ZW (Zi ZW Zb))) (Zj (Zi ZA (Zi Zc (Uh (ZC (Yp (Zj (Zi ZA (Zi Zc Zb))) Zb)) Zb)))) ZY ZY ZY) YC) ZF Zs)
   (Zd (ZP (Zp YU (Yo fT (hr.mono .d) (Zj (Zi Zc (Zi Zc Zb))) (Zl ZG (Zj (Zi Zc (Zi Zc (Zi Zc Zb)))) (Zl NA (Zj (Zi ZW Zb)) Zc)) (Zj (Zi ZA (Zi Zc (Zi Zc (Zi Zc (Zi Zc Zb)))))) ZY ZgL ZY) YC) ZF Zs)
   (Zd (Zq (i:=0) Hn.nd (Zj (Yp (Zj (Zi Zc (Zi Zc Zb))) (ZgQ (Zl NA (Zj (Zi ZW Zb)) Zc) (Yp (Zj (Zi ZA (Zi Zc (Yp (Zj (Yp (Zj (Zi ZA (Zi Zc Zb))) Zb)) Zb)))) Zb)))))
   (Zd (ZP (PW.pt (JB (Zp YU (Yo fT (hr.mono .d) (ZR 0) (ZR 0) (ZR 0) WT WT WT) YC) (JG (Zp xQ (Yo uI hr (ZR 0) (ZR 0) (ZR 0) WT WT WT) Zc)))) ZF Zs)
   (Zk (Zr (YA Jl (Yo uI hr (Zj (Zi Zc (Zi Zc Zb))) (Zj (Zi ZW (Zi ZW Zb))) (Zj (Zi ZA (Zi Zc (Yp (Zj (Yp (Zj (Zi ZA (Zi Zc Zb))) Zb)) Zb)))) ZY ZY ZY) Zc (iO _)))))))))))))),?_⟩
  try dsimp only[cw]
  refine P6 ?_;intro jD aa2 T8 aa3 T9 jV9 T7 Di qK wa kB wb kC qJ jq nk fo lP eO gK bX cF aY;refine((Wh (m:=7) (wd:=2) (hg:=2) (xs:=[.int 0,.int 1]) (t:=(.tup [.str "like",.int 0,.int 1,.int 0,.int 1])) (c:=false) (YF (d:=1) (Zy (Zu (.int 2) (Zu (.int 2) Zw)) .d) rfl) (YF (d:=1) (Zy (Zu (.int 0) (Zu (.int 1) Zw)) .d) rfl) (YD (d:=1) (Zy (Zu (.str "like") (Zu (.int 0) (Zu (.int 1) (Zu (.int 0) (Zu (.int 1) Zw))))) .d) .d) .d (Yq .k) .k) H _ (ae.refl _) fun v H1 s1 e1=>?_);subst e1;refine⟨_,_,rfl,rfl,_,rfl,ar (ZN ?_)⟩;dsimp only;refine aY _ _ ((Wh (m:=7) (wd:=4) (hg:=4) (xs:=[.int 0,.int 1,.af,.int 2]) (t:=(.tup [.str "like",.int 0,.int 1,.int 1,.int 3])) (c:=false) (YF (d:=1) (Zy (Zu (.int 4) (Zu (.int 4) Zw)) .d) rfl) (YF (d:=1) (Zy (Zu (.int 0) (Zu (.int 1) (Zu .af (Zu (.int 2) Zw)))) .d) rfl) (YD (d:=1) (Zy (Zu (.str "like") (Zu (.int 0) (Zu (.int 1) (Zu (.int 1) (Zu (.int 3) Zw))))) .d) .d) .d (Yq .k) .k) H1 _ (ae.refl _) fun v H2 s2 e2=>?_);subst e2;refine⟨_,_,rfl,rfl,_,rfl,ar (ZN ?_)⟩;dsimp only;refine bX _ _ ((Wh (m:=7) (wd:=3) (hg:=3) (xs:=[.int 1,.int 2,.int 0]) (t:=(.tup [.str "like",.int (-1),.int 0,.int 0,.int 1])) (c:=false) (YF (d:=1) (Zy (Zu (.int 3) (Zu (.int 3) Zw)) .d) rfl) (YF (d:=1) (Zy (Zu (.int 1) (Zu (.int 2) (Zu (.int 0) Zw))) .d) rfl) (YD (d:=1) (Zy (Zu (.str "like") (ZT Zhd (Zu (.int 0) (Zu (.int 0) (Zu (.int 1) Zw))))) .d) .d) .d (Yq .k) .k) H2 _ (ae.refl _) fun v H3 s3 e3=>?_);subst e3;refine⟨_,_,rfl,rfl,_,rfl,ar (ZN ?_)⟩;dsimp only;refine eO _ _ ((Wh (m:=7) (wd:=2) (hg:=1) (xs:=[.af,.af]) (t:=(.tup [.str "case",.int 0,(.tup [(.tup [.str "shut",.int 1])])])) (c:=false) (YF (d:=1) (Zy (Zu (.int 2) (Zu (.int 1) Zw)) .d) rfl) (YF (d:=1) (Zy (Zu .af (Zu .af Zw)) .d) rfl) (YD (d:=3) (Zy (Zu (.str "case") (Zu (.int 0) (ZT (Zy (ZT (Zy (Zu (.str "shut") (Zu (.int 1) Zw)) .d) Zw) .d) Zw))) .d) .d) .d (Yq .k) .k) H3 _ (ae.refl _) fun v H4 s4 e4=>?_);subst e4;refine⟨_,_,rfl,rfl,_,rfl,ar (ZN ?_)⟩;dsimp only;refine fo _ _ ((Wh (m:=7) (wd:=2) (hg:=1) (xs:=[.int 0,.af]) (t:=(.tup [.str "none",.int 1])) (c:=false) (YF (d:=1) (Zy (Zu (.int 2) (Zu (.int 1) Zw)) .d) rfl) (YF (d:=1) (Zy (Zu (.int 0) (Zu .af Zw)) .d) rfl) (YD (d:=1) (Zy (Zu (.str "none") (Zu (.int 1) Zw)) .d) .d) .d (Yq .k) .k) H4 _ (ae.refl _) fun v H5 s5 e5=>?_);subst e5;refine⟨_,_,rfl,rfl,_,rfl,ar (ZN ?_)⟩;dsimp only;refine jq _ _ ((Wh (m:=7) (wd:=3) (hg:=3) (xs:=[.int 0,.int 1,.int 2]) (t:=(.tup [.str "like",.int 1,.int 2,.int 0,.int 1])) (c:=false) (YF (d:=1) (Zy (Zu (.int 3) (Zu (.int 3) Zw)) .d) rfl) (YF (d:=1) (Zy (Zu (.int 0) (Zu (.int 1) (Zu (.int 2) Zw))) .d) rfl) (YD (d:=1) (Zy (Zu (.str "like") (Zu (.int 1) (Zu (.int 2) (Zu (.int 0) (Zu (.int 1) Zw))))) .d) .d) .d (Yq .k) .k) H5 _ (ae.refl _) fun v H6 s6 e6=>?_);subst e6;refine⟨_,_,rfl,rfl,_,rfl,ar (ZN ?_)⟩;dsimp only;refine kC _ _ ((Wh (m:=7) (wd:=3) (hg:=3) (xs:=[.int 0,.int 1,.int 2]) (t:=(.tup [.str "like",.int 1,.int 0,.int 2,.int 1])) (c:=false) (YF (d:=1) (Zy (Zu (.int 3) (Zu (.int 3) Zw)) .d) rfl) (YF (d:=1) (Zy (Zu (.int 0) (Zu (.int 1) (Zu (.int 2) Zw))) .d) rfl) (YD (d:=1) (Zy (Zu (.str "like") (Zu (.int 1) (Zu (.int 0) (Zu (.int 2) (Zu (.int 1) Zw))))) .d) .d) .d (Yq .k) .k) H6 _ (ae.refl _) fun v H7 s7 e7=>?_);subst e7;refine⟨_,_,rfl,rfl,_,rfl,ar (ZN ?_)⟩;dsimp only;refine kB _ _ ((Wh (m:=7) (wd:=2) (hg:=1) (xs:=[.af,.af]) (t:=(.tup [.str "cases",.int 0,(.lst [(.tup [.str "shut",.int 1])])])) (c:=false) (YF (d:=1) (Zy (Zu (.int 2) (Zu (.int 1) Zw)) .d) rfl) (YF (d:=1) (Zy (Zu .af (Zu .af Zw)) .d) rfl) (YD (d:=3) (Zy (Zu (.str "cases") (Zu (.int 0) (ZT (Ms (ZT (Zy (Zu (.str "shut") (Zu (.int 1) Zw)) .d) Zw) .d) Zw))) .d) .d) .d (Yq .k) .k) H7 _ (ae.refl _) fun v H8 s8 e8=>?_);subst e8;refine⟨_,_,rfl,rfl,_,rfl,ar (ZN ?_)⟩;dsimp only;have ap:Gv (L2.start ["_law_great"] []) H8 (fun H v=>mF H v ([V.int 0,.int 1,.int 2]++List.replicate 9 .af)) (dW (fX K) (cX (aI (tC (.int 0)) (aI (tC (.int 1)) (aI (tC (.int 2)) bD)))) (dW Cz (cX (aI (tC .af) bD)) (tC (.int 9)))):=fun H Q s q=>(YF (σ:=L2.start ["_law_great"] []) (H0:=H8) (d:=1) (Zy (Zu (.int 0) (Zu (.int 1) (Zu (.int 2) Zw))) .d) rfl) H _ s fun x H1 s1 hx=>Mv (n:=9) .d .d H1 _ (s.trans s1) fun y H2 s2 hy=>by obtain⟨a,rfl,ha⟩:=hx;obtain⟨c,rfl,hc⟩:=hy;exact Yz (s2 _ _ ha) hc .d fun t H3 s3 e3=>q _ H3 (s1.trans (s2.trans s3)) ⟨t,rfl,e3⟩
  refine qK _ _ ((Wh (m:=7) (wd:=12) (hg:=12) (xs:=[.int 0,.int 1,.int 2]++List.replicate 9 .af) (t:=(.tup [.str "like",.int 0,.int 1,.int 1,.int 2])) (c:=true) (YF (d:=1) (Zy (Zu (.int 12) (Zu (.int 12) Zw)) .d) rfl) ap (YD (d:=1) (Zy (Zu (.str "like") (Zu (.int 0) (Zu (.int 1) (Zu (.int 1) (Zu (.int 2) Zw))))) .d) .d) .d (Yq .k) .k) H8 _ (ae.refl _) fun v H9 s9 e9=>?_);subst e9;refine⟨_,_,rfl,rfl,_,rfl,ar (ZN ?_)⟩;dsimp only;refine T7 _ _ (ZB (ZfP ((YF (σ:=L2.start ["_law_great"] []) (H0:=H9) (d:=1) (Zy (Zu (.int 12) (Zu (.int 1) Zw)) .d) rfl) H9 _ (ae.refl _) fun x Ha sa hx=>Mv (σ:=L2.start ["_law_great"] []) (H0:=Ha) (n:=12) .d .d Ha _ (ae.refl _) fun y Hb sb hy=>((Zy (Zu (.str "cases") (Zu (.int 3) (ZT (Zy (ZT (Zy (Zu (.str "shut") (Zu (.int 0) Zw)) .d) Zw) .d) Zw))) .d):Gt (L2.start ["_law_great"] []) Hb 3 _ (.tup [.str "cases",.int 3,(.tup [(.tup [.str "shut",.int 0])])])) Hb _ (ae.refl _) fun z Hc sc hz=>⟨aK,fun g hg=>Zn ?_⟩)));dsimp only[L2.start,List.set,List.map];have kg:=Zf (o:=.tup [x,y,z]) hg;have eg:upd Hc g (.tup [x,y,z]) g=some (.tup [x,y,z]):=aj;replace hx:=tO _ _ _ (sb.trans (sc.trans kg)) hx;replace hy:=tO _ _ _ (sc.trans kg) hy;replace hz:=hz.same kg;generalize upd Hc g (HO.tup [x,y,z])=Hd at kg eg hx hy hz;have Rb:=s9.trans (sa.trans (sb.trans (sc.trans kg)));have i0:∀{H1:Hp},ae Hd H1->Gv _ H1 (fun H v=>mF H v [.int 12,.int 1]) (dW (gF K) (dA 0) (tC (.int 0))):=fun s=>xR (σ:=[some (.ref g)]) tO rfl (s _ _ eg) (ZJ (show([x,y,z]:List V)[0]?=some x from rfl)) (tO _ _ _ s hx);have i1:∀{H1:Hp},ae Hd H1->Gv _ H1 (fun H v=>mF H v (List.replicate 12 .af)) (dW (gF K) (dA 0) (tC (.int 1))):=fun s=>xR (σ:=[some (.ref g)]) tO rfl (s _ _ eg) (ZJ (show([x,y,z]:List V)[1]?=some y from rfl)) (tO _ _ _ s hy);have i2:∀{H1:Hp},ae Hd H1->Gt _ H1 15 (dW (gF K) (dA 0) (tC (.int 2))) (.tup [.str "cases",.int 3,(.tup [(.tup [.str "shut",.int 0])])]):=fun s=>xR (σ:=[some (.ref g)]) (fun _ _ _ s h=>h.same s) rfl (s _ _ eg) (ZJ (show([x,y,z]:List V)[2]?=some z from rfl)) ((hz.same s).le .d);refine T9 _ _ ((Wh (m:=7) (wd:=12) (hg:=1) (c:=true) (i0 (ae.refl _)) (i1 (ae.refl _)) (i2 (ae.refl _)) .d (Yq .k) .k) Hd _ (ae.refl _) fun v He se ee=>?_);subst ee;refine⟨_,_,rfl,rfl,_,rfl,ar ?_⟩;refine(Mh (m:=7) (wd:=12) (hg:=1) (e:=1) (i0 se) (i1 se) (i2 se) .d (Yq .k) .k) He _ (ae.refl _) fun v Hf sf ef=>?_;subst ef;refine⟨rfl,_,rfl,ar (ZN ?_)⟩;dsimp only;refine T8 _ _ ?_;refine(Mh (m:=7) (wd:=2) (hg:=1) (xs:=[.af,.af]) (t:=(.tup [.str "cases",.int 0,(.tup [(.tup [.str "shut",.int 1])])])) (e:=1) (YF (d:=1) (Zy (Zu (.int 2) (Zu (.int 1) Zw)) .d) rfl) (YF (d:=1) (Zy (Zu .af (Zu .af Zw)) .d) rfl) (YD (d:=3) (Zy (Zu (.str "cases") (Zu (.int 0) (ZT (Zy (ZT (Zy (Zu (.str "shut") (Zu (.int 1) Zw)) .d) Zw) .d) Zw))) .d) .d) .d (Yq .k) .k) Hf _ (ae.refl _) fun v Hg sg eg'=>?_;subst eg';exact⟨rfl,q _ (s1.trans (s2.trans (s3.trans (s4.trans (s5.trans (s6.trans (s7.trans (s8.trans (Rb.trans (se.trans (sf.trans sg)))))))))))⟩
end U.S
namespace U.S
open PySem L2 PyProof.Rows
theorem ZdF {p:Pos}(d:Def X.prog X.w X.K X.mg X.base k x [] sp)(hr:bO k X.A)(hg:Gl X x:=by rfl)(gn:(x==("__debug__" :Str))=false:=by decide):PE X (.Call (.Name x p) [] [] pos) (mS sp [] E0 bD):=by obtain⟨f,fd,F,hm,hk,hb⟩:=d;exact ZeG F hr hg hm hk hb .nil HX gn
theorem lsN (h:(decide (scope.kind=.function)&& !scope.isCoroutine&& !scope.isGenerator&&scope.names.all (fun z=>z.2 !=.cell)&&scope.names.all (fun u=>u.2 !=.free||N.contains u.1)&&N.all (fun x=>scope.names.lookup x==some .free))=true):FY kr bd scope N:=by simp only[Zap,Zcg,ZaF,Zcr,ZaK,bne_iff_ne,ne_eq,Ziz,List.contains_iff_mem]at h;obtain⟨⟨⟨⟨⟨h1,h2⟩,h3⟩,h4⟩,h5⟩,h6⟩:=h;exact⟨h1,h2,h3,h4,fun u hu e=>(h5 u hu).resolve_left fun z=>z e,h6,fun _ _ _ _ _=>rfl⟩
theorem CG (h1:σ[i]?=some (some a))(h2:σ[j]?=some (some b))(h3:σ[l]?=some (some c)):∀(k i':Nat) v,[i,j,l][k]?=some i'->[a,b,c][k]?=some v->σ[i']?=some (some v):=fun k i' v e1 e2=>by
 match k,e1,e2 with
 |0,e1,e2=>cases e1;cases e2;exact h1
 |1,e1,e2=>cases e1;cases e2;exact h2
 |2,e1,e2=>cases e1;cases e2;exact h3
 |k+3,e1,e2=>simp at e1
theorem C6 (h1:LN X x i)(h2:LN X y j)(h3:LN X z l):∀(k:Nat) u m,[x,y,z][k]?=some u->[i,j,l][k]?=some m->LN X u m:=fun k u m e1 e2=>by
 match k,e1,e2 with
 |0,e1,e2=>cases e1;cases e2;exact h1
 |1,e1,e2=>cases e1;cases e2;exact h2
 |2,e1,e2=>cases e1;cases e2;exact h3
 |k+3,e1,e2=>simp at e1
theorem aE.cm (x:av Pt H H')(e:H Pt=some (.cm ps))(h:aE H n v t):aE H' n v t:=
 aE.map (B:=fun _=>True) (fun p vs _ h=>x _ _ h (YW h e (by intro z;cases z))) (fun p vs _ h=>x _ _ h (YW h e (by intro z;cases z))) (fun _ _ _=>trivial) h
def cE (p1 p2 p3 p4 p5:Pos):Expr:=.Call (.Name "ends_many" p1) [.Name "_law_board" p2,.Name "_law_lay_here" p3,.Name "_law_thing" p4] [] p5
def cC (x y:Str)(k:Nat)(p1 p2 p3 p4 p5:Pos):Expr:=.Call (.Name "_law_call" p1) [.Name x p2,.Name y p3,.Constant .none k p4] [] p5
section
variable {kf:Nat}
theorem aaG {k':Nat}(bR:k'<=kf)(hU:∀b',dD X.prog X.w X.K X.mg b' k' "ends_many" dL sp)
  (gl:scope.names.lookup ("ends_many" :Str)=some .globalImplicit) (kb:scope.names.lookup ("_law_board" :Str)=some .free) (kl:scope.names.lookup ("_law_lay_here" :Str)=some .free) (kt:scope.names.lookup ("_law_thing" :Str)=some .free):
  AR X kf C f q (cE p1 p2 p3 p4 p5) scope cl bi [vb,vl,vt] (rX sp [vb,vl,vt] C):=by
 intro fP cc A outer s2 H2 Q2 E2 hr pre hE;obtain⟨g',fd,F,hg,hk,hb⟩:=hU fP;refine⟨_,FK (X:=rM X.prog X.w X.K X.mg fP bi q scope f (.ref cc) cl A outer s2 H2 E2) F (hr.mono bR) gl hg hk hb .nil (E:=E2) (HW (X:=rM X.prog X.w X.K X.mg fP bi q scope f (.ref cc) cl A outer s2 H2 E2) (fun e s' z=>z) rfl rfl rfl)
  (Za (JI (i:=0) rfl (.inr (.inr kb)) .d .d) (Za (JI (i:=1) rfl (.inr (.inr kl)) .d .d) (Za (JI (i:=2) rfl (.inr (.inr kt)) .d .d) Zb))) .d,?_⟩
 exact⟨vb,rfl,vl,rfl,vt,rfl,pre Q2 E2 hE⟩
theorem LR {k':Nat}(bR:k'<=kf)(hU:∀b',dD X.prog X.w X.K X.mg b' k' fn ps sp)(mg:X.mg fn=some (.ref g))
  (kc:scope.names.lookup ("_law_call" :Str)=some .free) (kx:scope.names.lookup x=some .free) (ky:scope.names.lookup y=some .free) (dx:(x==("__debug__" :Str))=false) (dy:(y==("__debug__" :Str))=false)
  (ex:(x==("__classdict__" :Str))=false) (ey:(y==("__classdict__" :Str))=false):
  AR X kf C f q (cC x y kn p1 p2 p3 p4 p5) scope cl ["_law_call",x,y] [.ref g,vx,vy] (rX sp [vx,vy,.af] C):=by
 intro fP cc A outer s2 H2 Q2 E2 hr pre hE;obtain⟨g',fd,F,hg,hk,hb⟩:=hU fP;rw[mg]at hg;cases hg;refine⟨_,Zcu (X:=rM X.prog X.w X.K X.mg fP ["_law_call",x,y] q scope f (.ref cc) cl A outer s2 H2 E2) (i:=0) F (hr.mono bR) (JI (i:=0) rfl (.inr (.inr kc)) .d .d) hk hb .nil (E:=E2) (HW (X:=rM X.prog X.w X.K X.mg fP ["_law_call",x,y] q scope f (.ref cc) cl A outer s2 H2 E2) (fun e s' z=>z) rfl rfl rfl)
  (Za (JI (i:=1) rfl (.inr (.inr kx)) dx ex) (Za (JI (i:=2) rfl (.inr (.inr ky)) dy ey) (Za ZW Zb))),?_⟩
 exact⟨rfl,vx,rfl,vy,rfl,pre Q2 E2 hE⟩
end
end U.S
namespace U.S
open PySem L2 PyProof.Rows PyProof.Rows.fS
abbrev dZ:Stmt:=top 66
inductive Br (K:Zke) (Pt:Addr) (vs:List V) (H:Hp) (Q:VK) (_E:XK):Prop
 |mk (a:Addr) (ns:List Int) (c0:vs=[.ref a]) (c1:iE K H a ns) (c2:ns.length<=63) (c3:H Pt=some (.cm #[])) (c4:∀H',Q (.bl true) H')
abbrev C0:List Str:=["_law_script","_law_k","_law_state_here","_law_none","_law_board","_law_lay_here","_law_bad","_law_things","_law_lap","_law_small","_law_paper_here","_law_thing","_law_due","_law_kept","_law_call","_law_told"]
theorem fW:bo C0 ["_law_script"] (aR dZ):=ZU .k
def aaq:Stmt->List Stmt
 | .For _ _ b _ _=>b
 |_=> []
def sI:List Stmt->Nat->Stmt
 | [],_=>dZ
 |s::_,0=>s
 |_::r,n+1=>sI r n
def aG (n:Nat):Stmt:=sI (aaq (sI (ck dZ) 0)) n
abbrev LX (P:Program)(w:World)(K:Zke)(mg:Str->Option Value)(base:Heap)(f c:Addr)(A:Around)(outer:List Env)(s:Shared)(H:Hp)(E:XK):Cx:=(eU aS P w K mg base C0 "law" (aR dZ) f (.ref c) A outer s H E).oJ
def xU:TA:=(aI (cX bD) (aI (tC .af) (aI (cX (aI (tC (.str "shut")) (aI (tC (.int 0)) bD))) (aI (cX (aI (tC (.str "like")) (aI (tC (.int 0)) (aI (tC (.int 1)) (aI (tC (.int 1)) (aI (tC (.int 2)) bD)))))) (aI (cX (aI (tC (.str "cases")) (aI (tC (.int 0)) (aI (cX bD) bD)))) (aI (cX (aI (tC (.str "like")) bD)) (aI (cX (aI (tC (.str "shut")) bD)) (aI (tC (.int 7)) bD))))))))
def xT:TA:=(aI (cX (aI (tC (.str "shut")) (aI (tC (.int 0)) (aI (tC (.int 0)) bD)))) (aI (cX (aI (tC (.str "none")) (aI (tC (.int 0)) bD))) (aI (cX (aI (tC (.str "case")) (aI (tC (.int 0)) (aI (cX (aI (cX (aI (tC (.str "shut")) (aI (tC (.int 1)) bD))) bD)) bD)))) (aI (cX (aI (tC .af) (aI (tC (.int 0)) bD))) (aI (cX (aI (oh bD) (aI (tC (.int 0)) bD))) (aI (cX (aI (tC (.str "")) (aI (tC (.int 0)) (aI (cX bD) bD)))) bD))))))
def rS:List Tg:=[(.tup []),.af,(.tup [.str "shut",.int 0]),(.tup [.str "like",.int 0,.int 1,.int 1,.int 2]),(.tup [.str "cases",.int 0,(.tup [])]),(.tup [.str "like"]),(.tup [.str "shut"]),.int 7]
def rQ:List Tg:=[(.tup [.str "shut",.int 0,.int 0]),(.tup [.str "none",.int 0]),(.tup [.str "case",.int 0,(.tup [(.tup [.str "shut",.int 1])])]),(.tup [.af,.int 0]),(.tup [(.lst []),.int 0]),(.tup [.str "",.int 0,(.tup [])])]
theorem PU:∃es p1 p2 p3,aG 4=.Assign [.Name "_law_things" p1] (.List es p2) p3/\∀X:Cx,PA X es xU:=by
 refine⟨_,_,_,_,rfl,fun X=>?_⟩;unfold xU;refine Yp ?_ ?_
 ·refine Zj ?_;exact Zb
 refine Zi ?_ ?_
 ·exact ZW
 refine Yp ?_ ?_
 ·refine Zj ?_;refine Zi ?_ ?_
  ·exact ZA
  refine Zi ?_ ?_
  ·exact Zc
  exact Zb
 refine Yp ?_ ?_
 ·refine Zj ?_;refine Zi ?_ ?_
  ·exact ZA
  refine Zi ?_ ?_
  ·exact Zc
  refine Zi ?_ ?_
  ·exact Zc
  refine Zi ?_ ?_
  ·exact Zc
  refine Zi ?_ ?_
  ·exact Zc
  exact Zb
 refine Yp ?_ ?_
 ·refine Zj ?_;refine Zi ?_ ?_
  ·exact ZA
  refine Zi ?_ ?_
  ·exact Zc
  refine Yp ?_ ?_
  ·refine Zj ?_;exact Zb
  exact Zb
 refine Yp ?_ ?_
 ·refine Zj ?_;refine Zi ?_ ?_
  ·exact ZA
  exact Zb
 refine Yp ?_ ?_
 ·refine Zj ?_;refine Zi ?_ ?_
  ·exact ZA
  exact Zb
 refine Zi ?_ ?_
 ·exact Zc
 exact Zb
theorem PR:∃es p1 p2 p3 p4 p5,aG 5=.Assign [.Name "_law_things" p1] (.BinOp (.Name "_law_things" p2) .Add (.List es p3) p4) p5/\∀X:Cx,PA X es xT:=by
 refine⟨_,_,_,_,_,_,rfl,fun X=>?_⟩;unfold xT;refine Yp ?_ ?_
 ·refine Zj ?_;refine Zi ?_ ?_
  ·exact ZA
  refine Zi ?_ ?_
  ·exact Zc
  refine Zi ?_ ?_
  ·exact Zc
  exact Zb
 refine Yp ?_ ?_
 ·refine Zj ?_;refine Zi ?_ ?_
  ·exact ZA
  refine Zi ?_ ?_
  ·exact Zc
  exact Zb
 refine Yp ?_ ?_
 ·refine Zj ?_;refine Zi ?_ ?_
  ·exact ZA
  refine Zi ?_ ?_
  ·exact Zc
  refine Yp ?_ ?_
  ·refine Zj ?_;refine Yp ?_ ?_
   ·refine Zj ?_;refine Zi ?_ ?_
    ·exact ZA
    refine Zi ?_ ?_
    ·exact Zc
    exact Zb
   exact Zb
  exact Zb
 refine Yp ?_ ?_
 ·refine Zj ?_;refine Zi ?_ ?_
  ·exact ZW
  refine Zi ?_ ?_
  ·exact Zc
  exact Zb
 refine Yp ?_ ?_
 ·refine Zj ?_;refine Uh ?_ ?_
  ·refine ZC ?_;exact Zb
  refine Zi ?_ ?_
  ·exact Zc
  exact Zb
 refine Yp ?_ ?_
 ·refine Zj ?_;refine Zi ?_ ?_
  ·exact ZA
  refine Zi ?_ ?_
  ·exact Zc
  refine Yp ?_ ?_
  ·refine Zj ?_;exact Zb
  exact Zb
 exact Zb
theorem gs1 (σ:L2.St)(H0:Hp):n9 σ H0 3 xU rS:=
 (ZT (YD (d:=1) (Zy Zw .d) .d) (Zu .af (ZT (YD (d:=1) (Zy (Zu (.str "shut") (Zu (.int 0) Zw)) .d) .d) (ZT (YD (d:=1) (Zy (Zu (.str "like") (Zu (.int 0) (Zu (.int 1) (Zu (.int 1) (Zu (.int 2) Zw))))) .d) .d) (ZT (YD (d:=2) (Zy (Zu (.str "cases") (Zu (.int 0) (ZT (Zy Zw .d) Zw))) .d) .d) (ZT (YD (d:=1) (Zy (Zu (.str "like") Zw) .d) .d) (ZT (YD (d:=1) (Zy (Zu (.str "shut") Zw) .d) .d) (Zu (.int 7) Zw))))))))
theorem gs2 (σ:L2.St)(H0:Hp):n9 σ H0 3 xT rQ:=
 (ZT (YD (d:=1) (Zy (Zu (.str "shut") (Zu (.int 0) (Zu (.int 0) Zw))) .d) .d) (ZT (YD (d:=1) (Zy (Zu (.str "none") (Zu (.int 0) Zw)) .d) .d) (ZT (YD (d:=3) (Zy (Zu (.str "case") (Zu (.int 0) (ZT (Zy (ZT (Zy (Zu (.str "shut") (Zu (.int 1) Zw)) .d) Zw) .d) Zw))) .d) .d) (ZT (YD (d:=1) (Zy (Zu .af (Zu (.int 0) Zw)) .d) .d) (ZT (YD (d:=2) (Zy (ZT (Ms Zw .d) (Zu (.int 0) Zw)) .d) .d) (ZT (YD (d:=2) (Zy (Zu (.str "") (Zu (.int 0) (ZT (Zy Zw .d) Zw))) .d) .d) Zw))))))
theorem TN {Q:VK}(q:∀vs H',ae H H'->Paired (aE H' 3) vs rS->vs.length=8->∀p,H' p=none->Q (.ref p) (upd H' p (.lst vs))):oh xU σ H Q:=
 Fo (gs1 σ H H _ (ae.refl _) fun vs H' s pr=>⟨by rw[ZaM pr,ZaH];decide,fun p hp=>q vs H' s pr (ZaM pr) p hp⟩)
theorem TM {Q:VK}(q:∀vs H',ae H H'->Paired (aE H' 3) vs rQ->vs.length=6->∀p,H' p=none->Q (.ref p) (upd H' p (.lst vs))):oh xT σ H Q:=
 Fo (gs2 σ H H _ (ae.refl _) fun vs H' s pr=>⟨by rw[ZaM pr,ZaH];decide,fun p hp=>q vs H' s pr (ZaM pr) p hp⟩)
def vN:Nat->Tg->Bool
 |0,_=>true
 |n+1,.tup ts=>ts.all (vN n)
 |_+1,.lst ts=>ts.isEmpty
 |_+1,_=>true
theorem aE.mk (st:bg H p):∀{n:Nat}{v:V}{t:Tg},vN n t=true->aE H n v t->aE (mask p H) n v t:=fun {n} =>by
 induction n with
 |zero=>intro v t _ h;exact h
 |succ n ih=>
  intro v t o h;cases t with
  |tup ts=>
   obtain⟨a,vs,e,h1,pr,z⟩:=h;have o':ts.all (vN n)=true:=o;refine⟨a,vs,e,Yt h1 (Yf st h1),?_,z⟩;have:∀{vs:List V}{ts:List Tg},Paired (aE H n) vs ts->ts.all (vN n)=true->Paired (aE (mask p H) n) vs ts:=by
    intro vs ts pr
    induction pr with
    |nil=>intro _;exact .nil
    |cons h _ wc=>intro o;rw[Zcf,Zap]at o;exact .cons (ih o.1 h) (wc o.2)
   exact this pr o'
  |lst ts=>obtain⟨a,vs,e,h1,pr,z⟩:=h;have o':ts=[]:=Zjh.mp o;subst o';cases pr;obtain⟨u,w,e2,_⟩:=id st;exact⟨a,[],e,Yt h1 (fun z=>by rw[z,e2]at h1;cases h1),.nil,z⟩
  |_=>exact h
theorem Zho:(rS++rQ).all (vN 3)=true:=.k
theorem Zhn:(rS++rQ).all (fun t=>decide (aT t<=1000))=true:=.k
abbrev ZZ:Nat:=15*uG 6+700
theorem xO:ZZ=10589020:=.k
theorem ZgE {t:TT}{Q:Bool->Hp->Prop}(R:Bool->Hp->Prop)(h2:∀c H',R c H'->Q c H')(h1:∀Q':Bool->Hp->Prop,(∀c H',R c H'->Q' c H')->t σ H Q'):t σ H Q:=h1 Q h2
def AG (H:Hp)(v:V):Prop:=∃(d:Addr) (ks:List Int),v=.ref d/\H d=some (.tup (.str "like" ::ks.map V.int))/\ks.length<=4/\∀k∈ks,-100<k/\k<100
theorem AG.tg (st:bg H p)(h:AG H v):ba p 15 ZZ H v:=by
 obtain⟨d,ks,rfl,hd,hl,hk⟩:=h;have sz:bU (ks.map Tg.int)<=ks.length*(3+2):=by
  have:=Uu (z:=3) (ts:=ks.map Tg.int) fun u hu=>by obtain⟨k,hm,rfl⟩:=Za2.mp hu;exact UN (hk k hm).1 (hk k hm).2 (Zal 3)
  rw[Zat]at this;exact this
 have pr:∀ks:List Int,Paired (aE (mask p H) 14) (ks.map V.int) (ks.map Tg.int):=fun ks=>by
  induction ks with
  |nil=>exact .nil
  |cons k ks ih=>exact .cons (Yv rfl) ih
 refine⟨.tup (.str "like" ::ks.map Tg.int),⟨d,_,rfl,Yt hd (Yf st hd),.cons (Yv rfl) (pr ks),by simp;lia⟩,?_⟩;have e:aT (.tup (.str "like" ::ks.map Tg.int))=aT (.str "like")+2+bU (ks.map Tg.int)+3:=by simp only[aT,bU]
 rw[e,YR.1,xO]
 lia
theorem Zdy (st:bg H p)(p1:Paired (aE H 3) bT rS)(p2:Paired (aE H 3) cf rQ):∀v∈bT++cf,ba p 15 ZZ H v:=fun v hv=>by
 have key:∀{vs:List V}{ts:List Tg},Paired (aE H 3) vs ts->(∀t∈ts,t∈rS++rQ)->v∈vs->ba p 15 ZZ H v:=fun pr hm hv=>by obtain⟨i,hi⟩:=ZaX hv;obtain⟨t,ht,h⟩:=YO pr hi;have m:=hm t (Zao ht);have o:=ZaK.mp Zho t m;have z:=ZbP (ZaK.mp Zhn t m);exact⟨t,aE.le (aE.mk st o h) .d,Zbb z (by rw[xO];decide)⟩
 rcases Zay.mp hv with hv|hv
 ·exact key p1 (fun t h=>ZaS _ h) hv
 ·exact key p2 (fun t h=>Zaw _ h) hv
theorem D9a {f c Pt fR cS cB cL cP gP gE:Addr}{E:XK}(G:Gs mg)(hr:bO 32 (LX P w K mg base f c A outer s H0 E).A)(cQ:Def P w K mg base 1 "_law_take" db iK):∃t,PS (LX P w K mg base f c A outer s H0 E) (aG 6) t/\∀(D:Ends) (a p b l L:Addr) (i:Int) (vn vb:V) (s8 s9 bA bV da dr cn cZ:Option V) (wd hg:Int) (Hc H:Hp) (bL:List V),av p Hc H->Hc L=none->L≠p->H L=some (.lst bL)->bL.length<=20->bg H p->H b=some (.tup [.int wd,.int hg])->1<=wd->wd<=12->
  (∀(vw:Option V) (ys:List V) (H':Hp),av p Hc H'->bg H' p->H' L=some (.lst (bL++ys))->(∀v∈ys,AG H' v)->ys.length=4->H' b=some (.tup [.int wd,.int hg])->D.nx [some (.ref a),some (.int i),some (.ref p),some vn,some (.ref b),some (.ref l),some vb,some (.ref L),vw,s9,bA,bV,da,dr,cn,cZ] H')->t D [some (.ref a),some (.int i),some (.ref p),some vn,some (.ref b),some (.ref l),some vb,some (.ref L),s8,s9,bA,bV,da,dr,cn,cZ] H:=by
 have nC:=Wg hr;have lT:=Zdd nC;have wk:=hr.units;have wX:(LX P w K mg base f c A outer s H0 E).A.guards=some []:=hr.gd;refine⟨_,(YY Zb0 rfl (Z3 rfl G.range (Za Zc Zb)) (ZE (i:=8) fW.nd) (Zk (YI (WA ZbV Zc7 Zc8 Jn (pv 7) (Za (Zl ZG (Zj (Zi ZA Zb)) (Yd Y2 rfl G.tuple ZhZ (Za (Z7 ["_law_turn","_law_state_here","_law_board"] 1 [2,4] (Z3 rfl G.range (Za Zc Zb)) (fun C s H fp=>pb 0) (fun C s H fp=>Ym) (fun C s H fp D=>ZK rfl (Zl (show bf (aV _ _ _ C s H fp) (binaryOp .Sub) _ from Yx) (Zg cQ (hr.mono .d) (Za (pv 1) (Za (Zl (show bf (aV _ _ _ C s H fp) (binaryOp .Add) _ from Ya) (ZV (show j6 (aV _ _ _ C s H fp) (gF K) from Yb) (pv 2) Zc) Zc) Zb))) Zc))) Zb))) Zb))))),?_⟩;intro D a p b l L i vn vb s8 s9 bA bV da dr cn cZ wd hg Hc H bL x0 nL pe eL l0 st hb w1 mK q;refine⟨4,rfl,.d,.d,?_⟩;refine Y0 (n:=4) (fun j σ H'=> ∃s8 ys,σ=[some (.ref a),some (.int i),some (.ref p),some vn,some (.ref b),some (.ref l),some vb,some (.ref L),s8,s9,bA,bV,da,dr,cn,cZ]/\av p Hc H'/\bg H' p/\H' L=some (.lst (bL++ys))/\(∀v∈ys,AG H' v)/\ys.length=j/\H' b=some (.tup [.int wd,.int hg])) ⟨_,[],rfl,x0,st,by rw[Zbi];exact eL,(fun v h=>nomatch h),rfl,hb⟩ ?_ ?_
 ·rintro j σ H1 hj ⟨vw,ys,rfl,x1,az,kW,kD,ly,fE⟩;refine Zn ?_;dsimp only[List.set];have pe:=pe;refine⟨_,rfl,.inl ⟨rfl,_,ak.of kW⟩,aK,fun d1 iV=>⟨4,rfl,.d,.d,?_⟩⟩;obtain⟨H2,zz,k1,xy⟩:=cU (o:=.tup [V.str "like"]) iV;rw[zz];refine YK (n:=4) (fun j dn ao H'=>(∃v0,ao=[v0,some (.ref p),some (.ref b)])/\av p H2 H'/\bg H' p/\∃ks:List Int,dn=ks.map V.int/\ks.length=j/\∀k∈ks,-100<k/\k<100) ⟨⟨_,rfl⟩,av.refl _ _,az.same k1,[],rfl,rfl,fun k h=>nomatch h⟩ ?_ ?_
  ·rintro j' dn ao H3 zO ⟨⟨v0,rfl⟩,x3,bw,ks,rfl,hk,wR⟩;refine Zn ?_;dsimp only[List.set]
   try unfold pZ
   refine aq ?_;have ue:=x3 _ _ (k1 _ _ fE) (Yf (az.same k1) (k1 _ _ fE));refine⟨_,rfl,_,rfl,b,_,_,_,rfl,rfl,ah.of ue,jE,_,_,rfl,rfl,p,wd+2,rfl,bw,.l,.l,fun r o r0 r1 cT=>⟨_,_,rfl,rfl,?_⟩⟩;refine⟨by rw[Zat,hk,ZaH];lia,⟨_,rfl⟩,x3.trans av.upd,cT,ks++[r-2],by rw[ZaW];rfl,by rw[Zak,hk];rfl,fun k Xs=>?_⟩;rcases Zay.mp Xs with h|h
   ·exact wR k h
   ·rw[ZaE.mp h];lia
  ·rintro dn ao H3 ⟨⟨v0,rfl⟩,x3,bw,ks,rfl,hk,wR⟩ M hM;refine⟨M,_,rfl,.inl ⟨ak.of aj,fun c hc=>?_⟩⟩;have k3:=(Zf (o:=.lst (ks.map V.int)) hM).trans (Zf (o:=.tup (ks.map V.int)) hc);have ed3:=k3 _ _ (x3 _ _ xy (Yf (az.same k1) xy));refine Yz ed3 aj (by rw[Zat,hk];decide) fun t H4 s4 e4=>?_;have k4:=k3.trans s4;have Ag:=k4 _ _ (x3 _ _ (k1 _ _ kW) pe);have x4:av p H1 H4:=(k1.x.trans x3).trans k4.x;have Sz:t≠L:=fun z=>by rw[z,Ag]at e4;cases e4
   refine⟨L,_,_,rfl,rfl,Ag,by rw[Zak,ly,ZaH];lia,?_⟩;have cg:bg (upd H4 L (.lst (bL++ys++[.ref t]))) p:=by obtain⟨u,v,e,r⟩:=bw.same k4;exact⟨u,v,by rw[Zh (Ze4 pe)];exact e,r⟩
   refine⟨_,ys++[.ref t],rfl,fun b' o h n=>?_,cg,by rw[aj,ZaP],fun v hv=>?_,by rw[Zak,ly];rfl,?_⟩
   ·rw[Zh (fun z=>by rw[z,nL]at h;cases h)];exact(x1.trans x4) b' o h n
   ·rcases Zay.mp hv with hv|hv
    ·obtain⟨d,ik,rfl,hd,r⟩:=kD v hv;have DZ:=x4 _ _ hd (Yf az hd);exact⟨d,ik,rfl,by rw[Zh (fun z=>by rw[z,Ag]at DZ;cases DZ)];exact DZ,r⟩
    ·rw[ZaE.mp hv];exact⟨t,ks,rfl,by rw[Zh Sz];exact e4,.l,wR⟩
   ·have iW:=x4 _ _ fE (Yf az fE);rw[Zh (fun z=>by rw[z,Ag]at iW;cases iW)];exact iW
 ·rintro σ H1 ⟨vw,ys,rfl,x1,az,kW,kD,ly,fE⟩;exact q vw ys H1 x1 az kW kD ly fE
theorem D9b {f c Pt fR cS cB cL cP gP gE:Addr}{E:XK}(G:Gs mg)(hr:bO 32 (LX P w K mg base f c A outer s H0 E).A)(cQ:Def P w K mg base 1 "_law_take" db iK)(jH:Def P w K mg base 2 "_law_like" ii (oj K))(Gg:Def P w K mg base 3 "_law_fits" rc yN)(pT:Def P w K mg base 11 "_law_paper" am (qk 7))
  (Gj:Def P w K mg base 9 "_law_bent" cr (qo 7)) (Ge:Def P w K mg base 27 "is_paper" al (gB 7)):∃t,PS (LX P w K mg base f c A outer s H0 E) (aG 8) t/\∀(D:Ends) (a p b l L:Addr) (i:Int) (vn vb:V) (s8 bA bV da dr cn cZ:Option V) (wd hg:Int) (xs:List V) (H:Hp) (bL:List V),H L=some (.lst bL)->bL.length<=30->L≠p->(∀v∈bL,ba p 15 ZZ H v)->bg H p->H b=some (.tup [.int wd,.int hg])->bS H (.ref b) wd hg->H l=some (.tup xs)->bP wd hg xs->
  (∀(L':Addr) (HB:Option V) (dq:List V) (H':Hp),av p H H'->bg H' p->H' L'=some (.lst dq)->(∀v∈dq,ba p 15 ZZ H' v)->D.nx [some (.ref a),some (.int i),some (.ref p),some vn,some (.ref b),some (.ref l),some vb,some (.ref L'),s8,some (.bl (decide (wd<7)&&decide (hg<8))),HB,bV,da,dr,cn,cZ] H')->t D [some (.ref a),some (.int i),some (.ref p),some vn,some (.ref b),some (.ref l),some vb,some (.ref L),s8,some (.bl (decide (wd<7)&&decide (hg<8))),bA,bV,da,dr,cn,cZ] H:=by
 have nC:=Wg hr;have lT:=Zdd nC;have wk:=hr.units;have wX:(LX P w K mg base f c A outer s H0 E).A.guards=some []:=hr.gd;refine⟨_,(ZP (PW.pt (JB (Zp (AB lT) (Zg jH (hr.mono .d) (Zv 5)) (ZC Zb)) (JG (PW.pt (Jt (Z1 (pv 9)) (Y5 (Zp (WX lT) (Zg Gg (hr.mono .d) (Za (pv 4) (Zv 5))) (ZC Zb)))))))) (Zd (Zq (i:=10) fW.nd (Zg pT (hr.mono .d) (Za (pv 2) (Za (pv 4) (Zv 5)))))
    (Zd (ZP (Zp YU (Zg Ge (hr.mono .d) (Za (pv 4) (Za (pv 5) (Zv 10)))) YC) ZF Zs)
    (Zk (Zq (i:=7) fW.nd (Zl YZ (Zl YZ (pv 7) (ZC (Zf0 (pv 10) Zb))) (Z7 ["_law_turn","_law_state_here","_law_board","_law_paper_here"] 1 [2,4,10] (Z3 rfl G.range (Za Zc Zb)) (fun C s H fp=>pb 0) (fun C s H fp=>Ym) (fun C s H fp D=>ZK rfl (Zg Gj (hr.mono .d) (Za (pv 1) (Za (ZV (show j6 (aV _ _ _ C s H fp) (gF K) from Yb) (pv 2) Zc) (Zv 3))))))))))) Zs),?_⟩
 intro D a p b l L i vn vb s8 bA bV da dr cn cZ wd hg xs H bL eL l0 pe hT st hb bd hl ly q;obtain⟨_,w1,mK,g1,pj⟩:=id bd;have hlen:=ly.len;have gT:(bF xs xs.length).length<=144:=by
  rw[<-(Z9 xs).length_eq,Zat];have h1:=JV (bE xs);have h2:=Ug xs;have h5:=Zh5 (show(bE xs).length<=12 by lia) (show(bE xs).length<=12 by omega)
  lia
 refine ZgE (t:=GW _ _) (fun c H'=>ae H H'/\(c=true->bH xs=true->df hg.toNat xs xs.length=[]/\hg<=7/\pM xs<=6)) ?_ ?_
 case refine_2=>
  intro Q' hq;refine⟨_,rfl,.mk l xs rfl hl ly.ok .l gT fun L1 H1 zs S s1 Ik e1 jL pm so lz=>⟨ZaJ _,fun d hd=>?_⟩⟩;have k1:=Zf (o:=.lst ([]:List V)) hd;refine⟨L1,d,zs,rfl,rfl,ak.of (k1 _ _ e1),ak.of aj,_,rfl,?_⟩;generalize upd H1 d (.lst ([]:List V))=H2 at k1;have dN:=s1.trans k1;have qQ:=UJ pm so;have Dq:zs.isEmpty=bH xs:=by
   rw[<-qQ];have:=ZaM jL;cases zs with
   |nil=>cases hh:U.fJ S with
    |nil=>rfl
    |cons _ _=>rw[hh]at this;cases this
   |cons _ _=>cases hh:U.fJ S with
    |nil=>rw[hh]at this;cases this
    |cons _ _=>rfl
  rw[Dq];cases hU:bH xs with
  |false=>exact aq (hq _ _ ⟨dN,fun _ z=>by rw[hU]at z;cases z⟩)
  |true=>
   refine ar ⟨_,rfl,_,rfl,?_⟩;cases VO:(decide (wd<7)&&decide (hg<8)) with
   |false=>exact ar (hq _ _ ⟨dN,fun z=>by cases z⟩)
   |true=>
    rw[Zap,ZaF,ZaF]at VO;refine aq ⟨_,rfl,_,rfl,b,l,wd,hg,xs,rfl,bd.same dN,dN _ _ hl,ly,.l,.l,fun q5 H3 ts s3 _ e3 RO=>⟨ZaJ _,fun d3 XZ=>?_⟩⟩;have k3:=Zf (o:=.lst ([]:List V)) XZ;refine⟨q5,d3,ts,rfl,rfl,ak.of (k3 _ _ e3),ak.of aj,_,rfl,?_⟩;cases ht:ts.isEmpty with
    |false=>exact hq _ _ ⟨dN.trans (s3.trans k3),fun z=>by cases z⟩
    |true=>
     refine hq _ _ ⟨dN.trans (s3.trans k3),fun _ _=>⟨?_,.o,?_⟩⟩
     ·have:=ZaM RO;rw[Zjh.mp ht]at this;exact Zex this.symm
     ·have:pM xs<=xs.length:=List.countP_le_length
      lia
 rintro c H1 ⟨s1,hc⟩;cases c with
 |false=>refine ar ?_;exact q L bA bL H1 s1.x (st.same s1) (s1 _ _ eL) (fun v hv=>(hT v hv).same s1)
 |true=>
  refine aq ?_;have az:=st.same s1;refine ZX (ZB ⟨_,rfl,_,rfl,_,rfl,p,b,l,wd,hg,xs,6,rfl,az,bd.same s1,s1 _ _ hl,ly,hc rfl,rfl,fun vp H2 t x2 aF ht he hz=>Zn ?_⟩);dsimp only[List.set];have AU:=s1.x.trans x2;have bd2:=Aq bd AU st;have bY:=AU _ _ hl (Yf st hl);refine ZX ⟨_,rfl,_,rfl,_,rfl,b,l,vp,wd,hg,xs,6,t,rfl,bd2,bY,ly,rfl,ht.same WC,fun H3 s3=>?_⟩;rw[he];refine⟨_,_,rfl,rfl,_,rfl,ar (ZN ?_)⟩;dsimp only;have AS:=AU.trans s3.x;have bw:=aF.same s3;have jz:=AS _ _ eL pe;have IJ:=ht.same (JM s3.x);have Vs:ba p 15 ZZ H3 vp:=⟨t,aE.le IJ .d,Zbb hz.1 (by rw[xO];decide+kernel)⟩;refine ZB ⟨_,rfl,_,rfl,aK,fun La ha=>?_⟩;obtain⟨H4,zz,k4,ea⟩:=cU (o:=.lst [vp]) ha;rw[zz];refine⟨L,La,bL,[vp],rfl,rfl,k4 _ _ jz,ea,by rw[ZaH];show bL.length+1<=_;lia,fun Lb cj=>?_⟩;have k5:=Zf (o:=.lst (bL++[vp])) cj;have eb:upd H4 Lb (.lst (bL++[vp])) Lb=some (.lst (bL++[vp])):=aj;have CZ:Lb≠p:=JK (bw.same k4) cj;generalize upd H4 Lb (HO.lst (bL++[vp]))=H5 at k5 eb;have jK:=k4.trans k5;have cg:=bw.same jK;have lU:=IJ.same (JM jK.x);have GH:=AS.trans jK.x;have zV:=GH _ _ hb (Yf st hb);refine⟨6,rfl,.d,.d,?_⟩;refine YK (n:=6) (fun j ys ao H'=>(∃v0,ao=[v0,some (.ref p),some (.ref b),some vp])/\av p H5 H'/\bg H' p/\(∀v∈ys,ba p 15 ZZ H' v)/\ys.length=j) ⟨⟨_,rfl⟩,av.refl _ _,cg,(fun v h=>nomatch h),rfl⟩ ?_ ?_
  ·rintro j ys ao H6 hj ⟨⟨v0,rfl⟩,x6,dY,kD,lj⟩;refine Zn ?_;dsimp only[List.set]
   try unfold pZ
   refine aq ?_;have KJ:=x6 _ _ zV (Yf cg zV);refine⟨_,rfl,_,rfl,b,_,_,_,rfl,rfl,ah.of KJ,jE,_,rfl,p,wd,vp,t,6,5,hg,xs,rfl,dY,.l,mK,rfl,pj,lU.same (JM x6),he,hz,fun v' H7 x7 gZ ir=>?_⟩;refine⟨by rw[lj,ZaH];lia,⟨_,rfl⟩,x6.trans x7,gZ,fun v hv=>?_,by rw[Zak,lj];rfl⟩;rcases Zay.mp hv with hv|hv
   ·exact(kD v hv).x x7
   ·rw[ZaE.mp hv];exact ir.le .d (Zal _)
  ·rintro ys ao H6 ⟨⟨v0,rfl⟩,x6,dY,kD,lj⟩ Lc cW;obtain⟨H7,zz,k6,ec⟩:=cU (o:=.lst ys) cW;rw[zz];refine⟨Lb,Lc,bL++[vp],ys,rfl,rfl,k6 _ _ (x6 _ _ eb CZ),ec,by rw[Zak,lj,ZaH];show bL.length+1+6<=_;lia,fun Ld uc=>Zn ?_⟩;dsimp only[List.set];have k7:=Zf (o:=.lst (bL++[vp]++ys)) uc;have yY:=k6.trans k7;refine q Ld _ (bL++[vp]++ys) _ (GH.trans (x6.trans yY.x)) (dY.same yY) aj fun v hv=>?_;rcases Zay.mp hv with hv|hv
   ·have GF:=jK.x.trans (x6.trans yY.x);rcases Zay.mp hv with hv|hv
    ·exact((hT v hv).x AS).x GF
    ·rw[ZaE.mp hv];exact Vs.x GF
   ·exact(kD v hv).same yY
theorem D9c {f c Pt fR cS cB cL cP gP gE:Addr}{E:XK}(G:Gs mg)(hr:bO 32 (LX P w K mg base f c A outer s H0 E).A)(C:LCtx (LX P w K mg base f c A outer s H0 E) cS c Pt fR 30)(Gh:Def P w K mg base 12 "_law_ends" bi (ql 8))(AO:Def P w K mg base 1 "_law_same" pp (yE Rl))(fT:Def P w K mg base 29 "is_paper" al (gB 8))(uI:Def P w K mg base 30 "ends_many" dL (qm 7))
  (hX:∀b',dD P w K mg b' 30 "ends_many" dL (sR 7 cP)) (M5:lD K mg cS cP 5):∃t,PS (LX P w K mg base f c A outer s H0 E) (aG 9) t/\∀(D:Ends) (a p b l L:Addr) (i:Int) (vn vb:V) (s8 s9 bA bV da dr cn cZ:Option V) (wd hg:Int) (xs:List V) (H:Hp) (bL:List V),H L=some (.lst bL)->(∀v∈bL,ba p 15 ZZ H v)->bS H (.ref b) wd hg->H b=some (.tup [.int wd,.int hg])->H l=some (.tup xs)->bP wd hg xs->TabAt H Pt (lq (LX P w K mg base f c A outer s H0 E))->
  (∀(za y9 y8:Option V) (H':Hp),av Pt H H'->TabAt H' Pt (lq (LX P w K mg base f c A outer s H0 E))->D.nx [some (.ref a),some (.int i),some (.ref p),some vn,some (.ref b),some (.ref l),some vb,some (.ref L),s8,s9,bA,za,y9,y8,cn,cZ] H')->t D [some (.ref a),some (.int i),some (.ref p),some vn,some (.ref b),some (.ref l),some vb,some (.ref L),s8,s9,bA,bV,da,dr,cn,cZ] H:=by
 have NB:LN (LX P w K mg base f c A outer s H0 E) "_law_board" 4:=⟨rfl,rfl,rfl⟩;have NL:LN (LX P w K mg base f c A outer s H0 E) "_law_lay_here" 5:=⟨rfl,rfl,rfl⟩;have NT:LN (LX P w K mg base f c A outer s H0 E) "_law_thing" 11:=⟨rfl,rfl,rfl⟩;have nC:=Wg hr;have lT:=Zdd nC;have wk:=hr.units;have wX:(LX P w K mg base f c A outer s H0 E).A.guards=some []:=hr.gd;refine⟨_,(YY Zb0 rfl (Yi (pv 7)) (ZE (i:=11) fW.nd) (Zd (UB (i:=12) (j:=13) rfl fW.nd rfl rfl .d rfl rfl (Za (Zg Gh (hr.mono .d) (Za (pv 4) (Za (pv 5) (Zv 11)))) (Za (Zm (UV wk wX) rfl G.repr PyProof.Rows.Boot.«repr» (Zv 11)) Zb)) rfl)
    (Zd (ZP (Yh (Z1 (Zg AO (hr.mono .d) (Za (Zg fT (hr.mono .d) (Za (pv 4) (Za (pv 5) (Zv 11)))) (Za (AD (Ji (pv 12))) Zb))))) ZF Zs)
    (Zd (ZP (Jb (WU (pv 12))) (Zk (ZP (Zp (MJ (Wg hr)) (FN (params:=kr) (bd:=cE _ _ _ _ _) (idx:=[4,5,11]) C (lsN (by kernel_rfl)) rfl (C6 NB NL NT) rfl rfl (Fh (by kernel_rfl))) (ZC (Zi Zc Zb))) ZF Zs)) (Zk (ZP (Yh (Z1 (Zg AO (hr.mono .d) (Za (Zg uI (hr.mono .d) (Za (pv 4) (Za (pv 5) (Zv 11)))) (Zv 12))))) ZF Zs)))
    (Zk (ZP (Zp xQ (Zm (UV wk wX) rfl G.repr PyProof.Rows.Boot.«repr» (Zv 11)) (pv 13)) ZF Zs)))))),?_⟩
 intro D a p b l L i vn vb s8 s9 bA bV da dr cn cZ wd hg xs H bL eL hT bd hb hl ly tb q;obtain⟨ps,ep,_⟩:=id tb;have nP:∀{q:Addr}{o:HO},H q=some o->(∀ps,o≠.cm ps)->q≠Pt:=fun h n z=>by rw[z,ep]at h;cases h;exact n _ rfl
 have nL:=nP eL (fun _ z=>by cases z);have nb:=nP hb (fun _ z=>by cases z);have nl:=nP hl (fun _ z=>by cases z);have pK:∀{H'},H' b=some (.tup [.int wd,.int hg])->bS H' (.ref b) wd hg:=fun h=>⟨ZL h,bd.2⟩;refine⟨_,rfl,L,rfl,⟨_,ak.of eL⟩,?_⟩;refine WJ (xs:=bL) (fun j σ H'=> ∃bV da dr,σ=[some (.ref a),some (.int i),some (.ref p),some vn,some (.ref b),some (.ref l),some vb,some (.ref L),s8,s9,bA,bV,da,dr,cn,cZ]/\av Pt H H'/\TabAt H' Pt (lq (LX P w K mg base f c A outer s H0 E))) ⟨_,_,_,rfl,av.refl _ _,tb⟩ (fun j σ H' _ ⟨_,_,_,_,x,_⟩=>ak.of (x _ _ eL nL)) ?_ ?_
 ·rintro j v σ H1 hv ⟨za,y9,y8,rfl,x1,mQ⟩;obtain⟨t,iR,hz⟩:=hT v (Zao hv);have ht:aE H1 15 v t:=aE.cm x1 ep (iR.same WC);have fE:=x1 _ _ hb nb;have iz:=x1 _ _ hl nl;have Dq:aT t<100000000:=ZeJ hz (by rw[xO];decide);obtain⟨d1,d2,d3⟩:=NK t Dq;have rp:∀{H':Hp},aE H' 15 v t->Sh H' v (dG t)/\(dG t).showable=true/\(dG t).shown.length<=sizeLine/\(dG t).depth<=60/\((dG t).hasDict=true->∃a,v=.ref a/\H' a=some (.dK [])):=fun h=>⟨Zhq h,d2,Zbb d1 (Zbb hz (by rw[xO,ZaH];decide)),Zbb (Zfw h) .d,fun z=>by rw[d3]at z;cases z⟩;refine Zn ?_;dsimp only[List.set];refine ZX ⟨_,rfl,_,rfl,_,rfl,b,l,v,wd,hg,xs,7,t,rfl,pK fE,iz,ly,rfl,ht,fun H2 s2=>?_⟩;have qS:=ht.same s2;obtain⟨r1,r2,r3,r4,r5⟩:=rp qS;refine⟨_,rfl,v,dG t,rfl,r1,r2,r3,r4,r5,_,_,rfl,?_⟩;dsimp only[List.set];have gR:=s2 _ _ fE;have bY:=s2 _ _ iz;have uQ:=YQ mQ s2;refine ZX ⟨_,rfl,_,rfl,_,rfl,b,l,v,wd,hg,xs,7,t,rfl,pK gR,bY,ly,rfl,qS,fun H3 s3=>⟨_,rfl,_,_,rfl,.inr (.inl ⟨(aU hg 8 xs t).isSome,rfl,?_⟩),fun H4 s4=>⟨true,rfl,ar (ZN ?_)⟩⟩⟩
  ·cases aU hg 8 xs t<;>rfl
  dsimp only;have vA:=s3.trans s4;have jr:=qS.same vA;have iW:=vA _ _ gR;have gO:=vA _ _ bY;have pX:=YQ uQ vA;have x4:av Pt H H4:=x1.trans (s2.trans vA).x;obtain⟨p4,Ae,_⟩:=id pX;refine OA (fun ao H'=>ao=[some (.ref a),some (.int i),some (.ref p),some vn,some (.ref b),some (.ref l),some vb,some (.ref L),s8,s9,bA,some v,some (zf (aU hg 8 xs t)),some (.str (dG t).shown),cn,cZ]/\av Pt H4 H'/\TabAt H' Pt (lq (LX P w K mg base f c A outer s H0 E))) ?_ fun N nx=>?_
  ·rintro ao H5 ⟨rfl,x5,A5⟩;have lU:aE H5 15 v t:=aE.cm x5 Ae jr;obtain⟨r1,r2,r3,r4,r5⟩:=rp lU;refine⟨_,rfl,v,dG t,rfl,r1,r2,r3,r4,r5,_,rfl,rfl,_,rfl,?_⟩;have z:decide (V.str (dG t).shown=V.str (dG t).shown)=true:=Zau rfl;rw[z];exact ar ⟨_,_,_,rfl,x4.trans x5,A5⟩
  ·refine⟨_,rfl,_,rfl,?_⟩;cases he:aU hg 8 xs t with
   |none=>
    rw[show decide (zf none=V.af)=true from Zau rfl];refine aq ⟨[.ref b,.ref l,v],cP,5,rX (sR 7 cP) [.ref b,.ref l,v] cP,rfl,CG rfl rfl rfl,pX,.d,M5,fun f'=>aaG .d hX rfl rfl rfl rfl,fun H' x Q' E' hE=>?_,fun l1 H5 x5 A5 SR iz=>⟨aK,fun N0 hN0=>?_⟩⟩
    ·exact⟨b,l,v,wd,hg,xs,t,rfl,pK (x _ _ iW (fun z=>by rw[z,Ae]at iW;cases iW)),x _ _ gO (fun z=>by rw[z,Ae]at gO;cases gO),ly,aE.cm x Ae jr,he,hE⟩
    ·have u5:=Zf (o:=.lst [V.int 5]) hN0;exact⟨l1,N0,[V.int 5],[V.int 5],rfl,rfl,ak.of (u5 _ _ iz),ak.of aj,.cons (.inl ⟨5,rfl,rfl⟩) .nil,false,rfl,ar (nx _ _ ⟨by rw[he],x5.trans u5.x,YQ A5 u5⟩)⟩
   |some e=>rw[show decide (zf (some e)=V.af)=false from Zax (fun z=>by cases z)];exact ar ⟨_,rfl,_,rfl,_,rfl,b,l,v,wd,hg,xs,t,e,rfl,pK iW,gO,ly,jr,he,fun H5 s5=>⟨_,rfl,_,_,rfl,.inl ⟨e,rfl,rfl⟩,fun H6 s6=>⟨true,rfl,ar (nx _ _ ⟨by rw[he],(s5.trans s6).x,YQ pX (s5.trans s6)⟩)⟩⟩⟩
 ·rintro σ H1 ⟨za,y9,y8,rfl,x1,mQ⟩;exact q _ _ _ _ x1 mQ
theorem D9d {f c Pt fR cS cB cL cP gP gE:Addr}{E:XK}(G:Gs mg)(hr:bO 32 (LX P w K mg base f c A outer s H0 E).A)(C:LCtx (LX P w K mg base f c A outer s H0 E) cS c Pt fR 30)(El:∀b',dD P w K mg b' 7 "is_paper" al (gD K cB cL))(Er:∀b',dD P w K mg b' 8 "ends_many" dL (gD K cB cL))(mP:mg "is_paper" =some (.ref gP))(mE:mg "ends_many" =some (.ref gE))
  (M0:lD K mg cS cB 0) (M1:lD K mg cS cL 1):∃t,PS (LX P w K mg base f c A outer s H0 E) (aG 10) t/\∀(D:Ends) (a p b l:Addr) (i:Int) (vn vb:V) (s7 s8 s9 bA bV da dr cn cZ:Option V) (wd hg:Int) (H:Hp),mI K H vn->bS H (.ref b) wd hg->mH K wd hg H vb->TabAt H Pt (lq (LX P w K mg base f c A outer s H0 E))->
  (∀(y7 y6:Option V) (H':Hp),av Pt H H'->TabAt H' Pt (lq (LX P w K mg base f c A outer s H0 E))->D.nx [some (.ref a),some (.int i),some (.ref p),some vn,some (.ref b),some (.ref l),some vb,s7,s8,s9,bA,bV,da,dr,y7,y6] H')->t D [some (.ref a),some (.int i),some (.ref p),some vn,some (.ref b),some (.ref l),some vb,s7,s8,s9,bA,bV,da,dr,cn,cZ] H:=by
 have NC:LN (LX P w K mg base f c A outer s H0 E) "_law_call" 14:=⟨rfl,rfl,rfl⟩;have NN:LN (LX P w K mg base f c A outer s H0 E) "_law_none" 3:=⟨rfl,rfl,rfl⟩;have ND:LN (LX P w K mg base f c A outer s H0 E) "_law_bad" 6:=⟨rfl,rfl,rfl⟩;have NB:LN (LX P w K mg base f c A outer s H0 E) "_law_board" 4:=⟨rfl,rfl,rfl⟩;have nC:=Wg hr;have lT:=Zdd nC;have wk:=hr.units;have wX:(LX P w K mg base f c A outer s H0 E).A.guards=some []:=hr.gd;refine⟨_,(YY Zb0 rfl (Yi (ZC (Za (Wy (v:=.ref gP) rfl mP rfl) (Za (Wy (v:=.ref gE) rfl mE rfl) Zb)))) (ZE (i:=14) fW.nd) (Zd (Zq (i:=15) fW.nd (ZC (Za (FN (params:=kr) (bd:=cC "_law_none" "_law_bad" _ _ _ _ _ _) (idx:=[14,3,6]) C (lsN (by kernel_rfl)) rfl (C6 NC NN ND) rfl rfl (Fh (by kernel_rfl))) Zb)))
    (Zk (ZP (Zp (MJ (Wg hr)) (Zl YZ (pv 15) (ZC (Za (FN (params:=kr) (bd:=cC "_law_board" "_law_bad" _ _ _ _ _ _) (idx:=[14,4,6]) C (lsN (by kernel_rfl)) rfl (C6 NC NB ND) rfl rfl (Fh (by kernel_rfl))) Zb))) (ZC (Uh (ZC (Zi Zc Zb)) (Uh (ZC (Zi Zc Zb)) Zb)))) ZF Zs)))),?_⟩
 intro D a p b l i vn vb s7 s8 s9 bA bV da dr cn cZ wd hg H bn bd bq tb q;refine⟨aK,fun M hM=>⟨M,rfl,⟨_,ak.of aj⟩,?_⟩⟩;obtain⟨Hh,zz,um,eM⟩:=cU (o:=.lst [V.ref gP,.ref gE]) hM;rw[zz];have GR:=YQ tb um;obtain⟨ph,xu,_⟩:=id GR;have LU:=bn.same um;have bdh:=bd.same um;have Ao:=bq.same um;have aat:∀v∈[V.ref gP,V.ref gE],∃(gf:Addr) (fn pn:Str) (k':Nat),v=.ref gf/\k'<=30/\mg fn=some (.ref gf)/\∀b',dD P w K mg b' k' fn ["board","lay",pn] (gD K cB cL):=fun v hv=>by
  simp only[Zas,Zbk,Zcp]at hv;rcases hv with rfl|rfl
  ·exact⟨gP, "is_paper","thing",7,rfl,.d,mP,El⟩
  ·exact⟨gE, "ends_many","paper",8,rfl,.d,mE,Er⟩
 refine WJ (xs:=[V.ref gP,.ref gE]) (fun j σ H'=> ∃cn cZ,σ=[some (.ref a),some (.int i),some (.ref p),some vn,some (.ref b),some (.ref l),some vb,s7,s8,s9,bA,bV,da,dr,cn,cZ]/\av Pt Hh H'/\TabAt H' Pt (lq (LX P w K mg base f c A outer s H0 E))) ⟨_,_,rfl,av.refl _ _,GR⟩ (fun j σ H' _ ⟨_,_,_,x',_⟩=>ak.of (x' _ _ eM (YW eM xu (by intro z;cases z)))) ?_ ?_
 ·rintro j v σ H1 hv ⟨y7,y6,rfl,x1,mQ⟩;obtain⟨gf,fn,pn,k',rfl,bR,mf,hf⟩:=aat v (Zao hv);have Rm:∀{H':Hp},av Pt Hh H'->rX (gD K cB cL) [vn,vb,.af] cB H':=fun x Q' E' hE=>⟨vn,vb,.af,cB,rfl,.inl ⟨rfl,UW LU x (Jm LU.1 xu)⟩,hE⟩;have Rk:∀{H':Hp},av Pt Hh H'->rX (gD K cB cL) [.ref b,vb,.af] cL H':=fun x Q' E' hE=>⟨.ref b,vb,.af,cL,rfl,.inr ⟨rfl,wd,hg,Zd5 bdh x xu,(Fs Ao x (Jm Ao.1 xu)).1,(Fs Ao x (Jm Ao.1 xu)).2⟩,hE⟩;refine Zn ?_;dsimp only[List.set];refine ZX (ZB ⟨[.ref gf,vn,vb],cB,0,rX (gD K cB cL) [vn,vb,.af] cB,rfl,CG rfl rfl rfl,mQ,.d,M0,fun f'=>LR bR hf mf rfl rfl rfl rfl rfl rfl rfl,fun H' x=>Rm (x1.trans x),fun l1 H2 x2 uQ SR iz=>⟨aK,fun L hL=>Zn ?_⟩⟩);dsimp only[List.set];obtain⟨H3,zz,v1,eL⟩:=cU (o:=.lst [V.ref l1]) hL;rw[zz];have yx:=YQ uQ v1;obtain⟨p3,Af,_⟩:=id yx;have wQ:=v1 _ _ iz;have nT:∀{m:Addr}{xs:List V},H3 m=some (.lst xs)->m≠Pt:=fun h z=>by rw[z,Af]at h;cases h
  refine⟨_,rfl,[.ref gf,.ref b,vb],cL,1,rX (gD K cB cL) [.ref b,vb,.af] cL,rfl,CG rfl rfl rfl,yx,.d,M1,fun f'=>LR bR hf mf rfl rfl rfl rfl rfl rfl rfl,fun H' x=>Rk ((x1.trans x2).trans (v1.x.trans x)),fun l2 H4 x4 pX nl2 bY=>⟨aK,fun L2 kP=>?_⟩⟩;obtain⟨H5,zz,v2,kU⟩:=cU (o:=.lst [V.ref l2]) kP;rw[zz];refine⟨L,L2,[.ref l1],[.ref l2],rfl,rfl,v2 _ _ (x4 _ _ eL (nT eL)),kU,(by show 1+1<=sizeLine;decide),fun L3 nO=>?_⟩;have v3:=Zf (o:=.lst ([V.ref l1]++[V.ref l2])) nO;have jz:upd H5 L3 (.lst ([V.ref l1]++[V.ref l2])) L3=some (.lst [V.ref l1,V.ref l2]):=aj;generalize upd H5 L3 (HO.lst ([V.ref l1]++[V.ref l2]))=H6 at v3 jz;refine⟨aK,fun n0 Xa=>⟨aK,fun n1 wK=>⟨aK,fun n2 lZ=>?_⟩⟩⟩;have w0:=Zf (o:=.lst [V.int 0]) Xa;have e0:upd H6 n0 (.lst [V.int 0]) n0=some (.lst [V.int 0]):=aj;generalize upd H6 n0 (HO.lst [V.int 0])=H7 at w0 e0 wK lZ;have w1:=Zf (o:=.lst [V.int 1]) wK;have e1:upd H7 n1 (.lst [V.int 1]) n1=some (.lst [V.int 1]):=aj;generalize upd H7 n1 (HO.lst [V.int 1])=H8 at w1 e1 lZ;obtain⟨H9,zz,w2,e2⟩:=cU (o:=.lst [V.ref n0,V.ref n1]) lZ;rw[zz];have Gz:=w0.trans (w1.trans w2);have yr:=v2.trans (v3.trans Gz);have f1:=yr _ _ (x4 _ _ wQ (nT wQ));have f2:=yr _ _ bY;refine⟨L3,n2,_,_,rfl,rfl,ak.of (Gz _ _ jz),ak.of e2,.cons (.inr (⟨l1,n0,[0],rfl,rfl,ak.of f1,ak.of ((w1.trans w2) _ _ e0)⟩)) (.cons (.inr (⟨l2,n1,[1],rfl,rfl,ak.of f2,ak.of (w2 _ _ e1)⟩)) .nil),false,rfl,ar ?_⟩;exact⟨_,_,rfl,(x1.trans x2).trans (v1.x.trans (x4.trans yr.x)),YQ pX yr⟩
 ·rintro σ H1 ⟨y7,y6,rfl,x1,mQ⟩;exact q _ _ _ (um.x.trans x1) mQ
end U.S
namespace U
open PySem L2 PyProof.Rows
theorem mY.x (h:mY H y)(s:av p H H')(st:bg H p):mY H' y:=by
 obtain⟨u,v,e,_⟩:=st;rcases h with h|⟨b,z,rfl,h|h,hz⟩
 ·exact .inl h
 ·exact .inr ⟨b,z,rfl,.inl (s _ _ h fun q=>by rw[q,e]at h;cases h),hz⟩
 ·exact .inr ⟨b,z,rfl,.inr (s _ _ h fun q=>by rw[q,e]at h;cases h),hz⟩
theorem pQ.x (h:pQ p H v)(s:av p H H')(st:bg H p):pQ p H' v:=by
 have ai:=id st;obtain⟨u,w,e,_⟩:=st;rcases h with h|⟨a,xs,rfl,hl,h|⟨n,h⟩,hy⟩|⟨a,rfl,h⟩
 ·exact .inl h
 ·exact .inr (.inl ⟨a,xs,rfl,hl,.inl (s _ _ h fun q=>by rw[q,e]at h;cases h),fun y m=>(hy y m).x s ai⟩)
 ·exact .inr (.inl ⟨a,xs,rfl,hl,.inr ⟨n,s _ _ h n⟩,fun y m=>(hy y m).x s ai⟩)
 ·exact .inr (.inr ⟨a,rfl,s _ _ h fun q=>by rw[q,e]at h;cases h⟩)
section
variable {K:Zke}
def Th (K:Zke)(p:Addr)(H:Hp)(v:V):Prop:=iF K H v/\pQ p H v
theorem Th.x (t:Th K p H v)(s:av p H H')(st:bg H p):Th K p H' v:=by
 have h2:=t.2.x s st;obtain⟨u,w,e,_⟩:=id st;refine⟨Fb t.1 s ⟨fun z=>?_,fun xs ex y hy z=>?_⟩,h2⟩
 ·subst z;rcases t.2 with h|⟨a,xs,z,_,h|⟨n,_⟩,_⟩|⟨a,z,h⟩
  ·cases h
  ·cases z;rw[e]at h;cases h
  ·cases z;exact n rfl
  ·cases z;rw[e]at h;cases h
 ·subst z;rcases t.2 with h|⟨a,ys,rfl,_,h,fv⟩|⟨a,rfl,h⟩
  ·cases v with
   |ref a=>cases h
   |_=>cases ex
  ·rcases h with h|⟨_,h⟩
   ·rw[ZL h]at ex;cases ex;rcases fv _ hy with h'|⟨b,z,hz,h'|h',_⟩
    ·cases h'
    ·cases hz;rw[e]at h';cases h'
    ·cases hz;rw[e]at h';cases h'
   ·have e0:bJ H (.ref a)=none:=by rw[ZM,h];rfl
    rw[e0]at ex;cases ex
  ·have e0:bJ H (.ref a)=none:=by rw[ZM,h];rfl
   rw[e0]at ex;cases ex
theorem eV.x (b:eV K p wd hg H v)(s:av p H H')(st:bg H p):eV K p wd hg H' v:=by
 have t:Th K p H v:=⟨b.1.1,b.2⟩;have t':=t.x s st;obtain⟨u,w,e,_⟩:=id st;refine⟨⟨t'.1,?_⟩,t'.2⟩;rw[Ws b.1.1.1 s fun z=>?_]
 ·exact b.1.2
 ·subst z;rcases b.2 with h|⟨a,xs,z,_,h|⟨n,_⟩,_⟩|⟨a,z,h⟩
  ·cases h
  ·cases z;rw[e]at h;cases h
  ·cases z;exact n rfl
  ·cases z;rw[e]at h;cases h
end
end U
namespace U.S
open PySem L2 PyProof.Rows PyProof.Rows.fS
def Lg:Stmt->Expr
 | .For t _ _ _ _=>t
 |_=>.Constant .none 0 ⟨0,0,0,0⟩
def Li:Stmt->Expr
 | .For _ t _ _ _=>t
 |_=>.Constant .none 0 ⟨0,0,0,0⟩
def Lh:Stmt->Pos
 | .For _ _ _ _ p=>p
 |_=>⟨0,0,0,0⟩
abbrev S0:Stmt:=sI (ck dZ) 0
theorem Zgs:ck dZ=[.For (Lg S0) (Li S0) [aG 0,aG 1,aG 2,aG 3,aG 4,aG 5,aG 6,aG 7,aG 8,aG 9,aG 10] [] (Lh S0),sI (ck dZ) 1]:=by kernel_rfl
theorem Sk {f c Pt fR cS cB cL cP gP gE:Addr}{oc:Value}{od an:Option Addr}{kV doc pm ct:Value}{hZ:Array (Option Value)}
  (lk:K.lookup f=some ⟨oc,od,.func (PySem.W.fnOf "law" "law" (iZ dZ) (ck dZ) (aR dZ) .none kV doc pm an (.ref c) ct),hZ⟩) (cq:PySem.W.codeIn K (.ref c) "law" =true) (G:Gs mg)
  (Dst:Def P w K mg base 2 "_law_state" lw (Bh K)) (cQ:Def P w K mg base 1 "_law_take" db iK) (Dnb:Def P w K mg base 2 "_law_no_board" sK (Bm K)) (Dnf:Def P w K mg base 4 "_law_nofit" sK Bn)
  (uF:Def P w K mg base 2 "_law_no_lay" am (Bl K)) (jH:Def P w K mg base 2 "_law_like" ii (oj K)) (Gg:Def P w K mg base 3 "_law_fits" rc yN) (pT:Def P w K mg base 11 "_law_paper" am (qk 7))
  (Gj:Def P w K mg base 9 "_law_bent" cr (qo 7)) (Gh:Def P w K mg base 12 "_law_ends" bi (ql 8)) (AO:Def P w K mg base 1 "_law_same" pp (yE Rl)) (Ge:Def P w K mg base 27 "is_paper" al (gB 7))
  (fT:Def P w K mg base 29 "is_paper" al (gB 8)) (uI:Def P w K mg base 30 "ends_many" dL (qm 7)) (Dsr:Def P w K mg base 31 "_law_some_right" [] Bi)
  (hR:∀b',Def P w K mg b' 32 "_law_refused" ["_law_call"] (yG P w K mg b' cS 31)) (hX:∀b',dD P w K mg b' 30 "ends_many" dL (sR 7 cP)) (El:∀b',dD P w K mg b' 7 "is_paper" al (gD K cB cL)) (Er:∀b',dD P w K mg b' 8 "ends_many" dL (gD K cB cL))
  (mP:mg "is_paper" =some (.ref gP)) (mE:mg "ends_many" =some (.ref gE)) (mR:mg "_law_refused" =some (.ref fR)) (kR:PySem.W.keepIn K (.ref fR)=true)
  (M0:lD K mg cS cB 0) (M1:lD K mg cS cL 1) (M5:lD K mg cS cP 5) (hC:PySem.W.CodeHd base c Pt)
  (Ee:∃bm ob,mg "__builtins__" =some (.ref bm)/\bm≠builtinsNs/\base.get? bm=some ob/\ob.cls=.type "module" /\ob.dict=some builtinsNs/\ob.data=.plain):
  aJ P w K mg base aS 33 f (PySem.W.fnOf "law" "law" (iZ dZ) (ck dZ) (aR dZ) .none kV doc pm an (.ref c) ct) ["_law_script"] (Br K Pt):=by
 refine EZ lk cq fW (fun vs H Q E h=>?_) (fun A outer s H vs Q E hr h=>?_)
 ·obtain⟨a,ns,rfl,_⟩:=h;rfl
 ·obtain⟨a,ns,rfl,Hl,wI,VD,q⟩:=h;have C:LCtx (LX P w K mg base f c A outer s H E) cS c Pt fR 30:=⟨⟨rfl,hC,Ee⟩,hR,hr,mR,kR⟩;obtain⟨Ls,e1a,e1b,e1c,eq1,RY⟩:=PU;obtain⟨Lr,e2a,e2b,e2c,e2d,e2e,eq2,RX⟩:=PR;have r4:PS (LX P w K mg base f c A outer s H E) (aG 4) (p7 (oh xU) (cH 7)):=by rw[eq1];exact Zq (i:=7) fW.nd (ZC (RY _))
  have r5:PS (LX P w K mg base f c A outer s H E) (aG 5) (p7 (dW HG (dA 7) (oh xT)) (cH 7)):=by rw[eq2];exact Zq (i:=7) fW.nd (Zl YZ (pv 7) (ZC (RX _)))
  obtain⟨t6,r6,h6⟩:=D9a (P:=P) (w:=w) (K:=K) (mg:=mg) (base:=base) (f:=f) (c:=c) (A:=A) (outer:=outer) (s:=s) (H0:=H) (E:=E) (Pt:=Pt) (fR:=fR) (cS:=cS) (cB:=cB) (cL:=cL) (cP:=cP) (gP:=gP) (gE:=gE) G hr cQ;obtain⟨t8,r8,h8⟩:=D9b (P:=P) (w:=w) (K:=K) (mg:=mg) (base:=base) (f:=f) (c:=c) (A:=A) (outer:=outer) (s:=s) (H0:=H) (E:=E) (Pt:=Pt) (fR:=fR) (cS:=cS) (cB:=cB) (cL:=cL) (cP:=cP) (gP:=gP) (gE:=gE) G hr cQ jH Gg pT Gj Ge;obtain⟨t9,r9,h9⟩:=D9c (P:=P) (w:=w) (K:=K) (mg:=mg) (base:=base) (f:=f) (c:=c) (A:=A) (outer:=outer) (s:=s) (H0:=H) (E:=E) (Pt:=Pt) (fR:=fR) (cS:=cS) (cB:=cB) (cL:=cL) (cP:=cP) (gP:=gP) (gE:=gE) G hr C Gh AO fT uI hX M5;obtain⟨gX,tE,h10⟩:=D9d (P:=P) (w:=w) (K:=K) (mg:=mg) (base:=base) (f:=f) (c:=c) (A:=A) (outer:=outer) (s:=s) (H0:=H) (E:=E) (Pt:=Pt) (fR:=fR) (cS:=cS) (cB:=cB) (cL:=cL) (cP:=cP) (gP:=gP) (gE:=gE) G hr C El Er mP mE M0 M1;have r0:PS (LX P w K mg base f c A outer s H E) (aG 0) _:=(Zq (i:=2) fW.nd (Zg Dst (hr.mono .d) (Za (pv 0) (Zv 1))));have r1:PS (LX P w K mg base f c A outer s H E) (aG 1) _:=(Zq (i:=3) fW.nd (Zg Dnb (hr.mono .d) (Zv 2)));have r2:PS (LX P w K mg base f c A outer s H E) (aG 2) _:=(Ju (Zg Dnf (hr.mono .d) (Zv 2)) (Yk rfl (Zo (ZE (i:=4) fW.nd) (Zo (ZE (i:=5) fW.nd) Z4))));have r3:PS (LX P w K mg base f c A outer s H E) (aG 3) _:=(Zq (i:=6) fW.nd (Zg uF (hr.mono .d) (Za (pv 2) (Za (pv 4) (Zv 5)))));have r7:PS (LX P w K mg base f c A outer s H E) (aG 7) _:=(Zq (i:=9) fW.nd (Yw (YA W6 (ZR 4) Zc (iO _)) (YJ (YA W6 (ZR 4) Zc (iO _)))));have hb:=Zgs;generalize aG 4=x4 at r4 hb;generalize aG 5=x5 at r5 hb;have b10:cO (LX P w K mg base f c A outer s H E) [aG 10] _:=Zk tE;have b9:cO (LX P w K mg base f c A outer s H E) [aG 9,aG 10] _:=Zd r9 b10;have b8:cO (LX P w K mg base f c A outer s H E) [aG 8,aG 9,aG 10] _:=Zd r8 b9;have b7:cO (LX P w K mg base f c A outer s H E) [aG 7,aG 8,aG 9,aG 10] _:=Zd r7 b8;have b6:cO (LX P w K mg base f c A outer s H E) [aG 6,aG 7,aG 8,aG 9,aG 10] _:=Zd r6 b7;have b5:cO (LX P w K mg base f c A outer s H E) [x5,aG 6,aG 7,aG 8,aG 9,aG 10] _:=Zd r5 b6;have b4:cO (LX P w K mg base f c A outer s H E) [x4,x5,aG 6,aG 7,aG 8,aG 9,aG 10] _:=Zd r4 b5;have b3:cO (LX P w K mg base f c A outer s H E) [aG 3,x4,x5,aG 6,aG 7,aG 8,aG 9,aG 10] _:=Zd r3 b4;have b2:cO (LX P w K mg base f c A outer s H E) [aG 2,aG 3,x4,x5,aG 6,aG 7,aG 8,aG 9,aG 10] _:=Zd r2 b3;have b1:cO (LX P w K mg base f c A outer s H E) [aG 1,aG 2,aG 3,x4,x5,aG 6,aG 7,aG 8,aG 9,aG 10] _:=Zd r1 b2;have b0:cO (LX P w K mg base f c A outer s H E) [aG 0,aG 1,aG 2,aG 3,x4,x5,aG 6,aG 7,aG 8,aG 9,aG 10] _:=Zd r0 b1;have rF:PS (LX P w K mg base f c A outer s H E) (.For (Lg S0) (Li S0) [aG 0,aG 1,aG 2,aG 3,x4,x5,aG 6,aG 7,aG 8,aG 9,aG 10] [] (Lh S0)) _:=YY Zb0 rfl (Z3 rfl G.range (Za (Zm (W4 rfl) rfl G.max boot_max (Za Zc (Za (Zm (OP rfl) rfl G.min boot_min (Za (Zm Zx rfl G.len ZcY (Zv 0)) (Za Zc Zb))) Zb))) Zb)) (ZE (i:=1) fW.nd) b0;have rR:PS (LX P w K mg base f c A outer s H E) (sI (ck dZ) 1) _:=Zr (ZdF Dsr (hr.mono .d));have main:∃t,cO (LX P w K mg base f c A outer s H E) (ck dZ) t/\t {nx:=fun _ H'=>Q .af H',rt:=Q} (start C0 [.ref a]) H:=by
   rw[hb];refine⟨_,Zd rF (Zk rR),?_⟩
   try dsimp only[cw]
   refine jf ?_;intro jD cF aY;have PZ:TabAt H Pt (lq (LX P w K mg base f c A outer s H E)):=⟨#[],VD,trivial,fun pos cv z=>by cases z⟩;refine ?_;refine⟨_,rfl,a,_,rfl,.inl Hl.sq,_,_,rfl,_,_,rfl,_,rfl,(by rw[Zat];split<;>split<;>omega),(by rw[Zat];split<;>split<;>omega),?_⟩;refine Y0 (fun i σ H'=> ∃s1 s2 s3 s4 s5 s6 s7 s8 s9 bA bV da dr cn cZ,σ=[some (.ref a),s1,s2,s3,s4,s5,s6,s7,s8,s9,bA,bV,da,dr,cn,cZ]/\iE K H' a ns/\TabAt H' Pt (lq (LX P w K mg base f c A outer s H E))) ⟨_,_,_,_,_,_,_,_,_,_,_,_,_,_,_,rfl,Hl,PZ⟩ ?_ ?_
   ·rintro i σ H0 hi ⟨q1,q2,q3,q4,q5,q6,q7,q8,q9,q10,q11,q12,qz,q14,q15,rfl,Hk,PX⟩;rw[Zc4];refine Zn ?_;dsimp only[List.set];refine ZX (ZB ⟨_,rfl,_,rfl,a,ns,i,rfl,Hk.sq,fun p H1 np k1 az=>Zn ?_⟩);dsimp only[List.set];have QM:=Hk.same k1;have mQ:=YQ PX k1;have step:∀{Ha Hb:Hp},av p Ha Hb->bg Ha p->iE K Ha a ns->TabAt Ha Pt (lq (LX P w K mg base f c A outer s H E))->iE K Hb a ns/\TabAt Hb Pt (lq (LX P w K mg base f c A outer s H E)):=fun x st sc tb=>by obtain⟨u,v,e,_⟩:=st;exact⟨sc.x x e (fun _ _ z=>by cases z),Zhp tb x e (fun _ z=>by cases z) (fun _ z=>by cases z)⟩
    refine ZX (ZB ⟨_,rfl,p,rfl,az,fun vn H2 x2 aF bn nn=>Zn ?_⟩);dsimp only[List.set];obtain⟨QL,uQ⟩:=step x2 az QM mQ;refine ZX (ZB ⟨_,rfl,p,rfl,aF,fun tq b l wd hg xs H3 x3 bw etq pL iw ly=>⟨tq,_,rfl,ah.of etq,rfl,_,_,rfl,_,_,rfl,rfl,?_⟩⟩);dsimp only[List.set];obtain⟨QK,yx⟩:=step x3 aF QL uQ;have LW:=UW bn x3 nn;have CP:=Nx bn.1.1 x3 nn.1 nn;obtain⟨b',eb,ue⟩:=ZO pL.1;cases eb;refine ZX (ZB ⟨_,rfl,_,rfl,_,rfl,p,b,l,wd,hg,xs,rfl,bw,pL,iw,ly,fun vb H4 x4 cT bq4=>Zn ?_⟩);dsimp only[List.set];obtain⟨QJ,pX⟩:=step x4 bw QK yx;have bn4:=UW LW x4 CP;have SN:=Nx LW.1.1 x4 CP.1 CP;have iW:=x4 _ _ ue (Yf bw ue);have gO:=x4 _ _ iw (Yf bw iw);refine ZX (ZB ?_);refine TN fun bT H5 s5 jL l1 L1 Eo=>Zn ?_;dsimp only[List.set];have k5:=Zf (o:=.lst bT) Eo;have kW:upd H5 L1 (.lst bT) L1=some (.lst bT):=aj;replace jL:Paired (aE (upd H5 L1 (.lst bT)) 3) bT rS:=Paired.bh jL fun _ _ h=>h.same k5;generalize upd H5 L1 (HO.lst bT)=H6 at k5 kW jL;refine ZX (ZB ⟨_,rfl,?_⟩);refine TM fun cf H7 s7 bW l2 L2 kP=>?_;have k7:=Zf (o:=.lst cf) kP;have kU:upd H7 L2 (.lst cf) L2=some (.lst cf):=aj;replace bW:Paired (aE (upd H7 L2 (.lst cf)) 3) cf rQ:=Paired.bh bW fun _ _ h=>h.same k7;generalize upd H7 L2 (HO.lst cf)=H8 at k7 kU bW;have jJ:=s7.trans k7;have tj:=s5.trans (k5.trans jJ);refine⟨L1,L2,bT,cf,rfl,rfl,jJ _ _ kW,kU,by rw[l1,l2,ZaH];decide,fun L hL=>Zn ?_⟩;dsimp only[List.set];have jg:=cT.same tj;have KQ:=Zdy jg (Paired.bh jL fun _ _ h=>h.same jJ) bW;have zv:(bT++cf).length=14:=by rw[Zak,l1,l2]
    generalize bT++cf=bL at KQ zv |-;have k8:=Zf (o:=.lst bL) hL;have eL:upd H8 L (.lst bL) L=some (.lst bL):=aj;have Ij:=JK jg hL;generalize upd H8 L (HO.lst bL)=H9 at k8 eL;have Q9:=tj.trans k8;obtain⟨_,w1,mK,g1,pj⟩:=id pL;refine ZX (h6 _ a p b l L _ vn vb _ _ _ _ _ _ _ _ wd hg H8 H9 bL k8.x hL Ij eL .o (jg.same k8) (Q9 _ _ iW) w1 mK fun vw ys Ha xa G5 eLa kD TB zU=>?_);dsimp only;have GA:av p H8 Ha:=xa;have GC:=tj.x.trans GA;have Xo:=GC _ _ gO (Yf cT gO);have hTa:∀v∈bL++ys,ba p 15 ZZ Ha v:=fun v hv=>by
     rcases Zay.mp hv with hv|hv
     ·exact(KQ v hv).x GA
     ·exact(kD v hv).tg G5
    have pK:∀{H'},H' b=some (.tup [V.int wd,V.int hg])->bS H' (.ref b) wd hg:=fun h=>⟨ZL h,pL.2⟩;refine ZX (ZB (U.T.sv (t:=Ba _ _) (fun v H'=>v=.bl (decide (wd<7)&&decide (hg<8))/\H'=Ha) ?_ ?_))
    case refine_2=>
     intro Q' hq;refine⟨_,rfl,b,_,_,_,rfl,rfl,ah.of zU,jE,_,_,rfl,rfl,_,rfl,?_⟩;cases h1:decide (wd<7) with
     |false=>exact ar (hq _ _ ⟨by rw[h1];rfl,rfl⟩)
     |true=>exact aq ⟨_,rfl,b,_,_,_,rfl,rfl,ah.of zU,fQ,_,_,rfl,rfl,hq _ _ ⟨by rw[h1];rfl,rfl⟩⟩
    rintro v' H' ⟨rfl,rfl⟩;refine Zn ?_;dsimp only[List.set];refine ZX (h8 _ a p b l L _ vn vb _ _ _ _ _ _ _ wd hg xs H' (bL++ys) eLa (by rw[Zak,zv,TB];decide) Ij hTa G5 zU (pK zU) Xo ly fun L' HB dq Hb xb stb eLb hTb=>?_);dsimp only;have uN:=GC.trans xb;have rf:=uN _ _ iW (Yf cT iW);have Xn:=uN _ _ gO (Yf cT gO);obtain⟨QI,GU⟩:=step uN cT QJ pX;have LV:=UW bn4 uN SN;have LQ:=bq4.x uN cT;refine ZX (h9 _ a p b l L' _ vn vb _ _ _ _ _ _ _ _ wd hg xs Hb dq eLb hTb (pK rf) rf Xn ly GU fun za y9 y8 Hd xd GS=>?_);dsimp only;obtain⟨pb',Ad,_⟩:=id GU;have bnd:=UW LV xd (Jm LV.1 Ad);have bqd:=Fs LQ.1 xd (Jm LQ.1.1 Ad);have w9:=xd _ _ rf (fun z=>by rw[z,Ad]at rf;cases rf);have QH:=QI.x xd Ad (fun _ _ z=>by cases z);obtain⟨pd',epd,_⟩:=id GS;refine h10 _ a p b l _ vn vb _ _ _ _ _ _ _ _ _ wd hg Hd bnd (pK w9) bqd GS fun y7 y6 He xe PV=>?_;exact⟨_,_,_,_,_,_,_,_,_,_,_,_,_,_,_,rfl,QH.x xe epd (fun _ _ z=>by cases z),PV⟩
   ·rintro σ H1 _;refine aY _ _ ?_;exact⟨rfl,fun H2 s2=>q _⟩
  obtain⟨t,ht,hq⟩:=main;exact⟨t,ht.oJ,hq⟩
end U.S
namespace U
open PySem L2 PyProof.Rows PySem.Spec
abbrev Ew:List Str:=["isinstance","int","bool","tuple","list","len","all","set","range","max","min","enumerate","zip","sorted","sum","str","repr","ValueError"]
theorem ZhF (KX:K.In h)(G:h.Ns mainGlobals mg)(e:Ew.all (zj K)=true)(C5:PySem.W.nsIn K mainGlobals "LONGEST_SIDE" =some (some (.int 12 t0))):Gs mg/\mg "ValueError" =none:=by have k:∀x∈Ew,mg x=none:=fun x hx=>ZdJ KX G (ZaK.mp e x hx);exact⟨⟨k _ .s,k _ .s,k _ .s,k _ .s,k _ .s,k _ .s,k _ .s,k _ .s,k _ .s,k _ .s,k _ .s,k _ .s,k _ .s,k _ .s,k _ .s,k _ .s,k _ .s,⟨t0,Zch KX G C5⟩⟩,k _ .s⟩
def zw (K:Zke)(C c:Value)(b:Bool):Bool:=match PySem.W.kitOne K C c with|some d=>d==b|none=>false
theorem MN (h:zw K C c b=true):PySem.W.kitOne K C c=some b:=by
 unfold zw at h;split at h
 ·rename_i d q;rw[q,Zcr.mp h]
 ·cases h
def Tt (K:Zke)(C:Addr)(iC:Nat):Bool:=(List.range 15).all fun i=>match PySem.W.nsIn K mainGlobals (vQ.getD i "") with|some (some (.ref c))=>zw K (.ref C) (.ref c) (decide (i=iC))|_=>false
def mroOk (K:Zke)(C:Addr)(b:Value):Bool:=match PySem.W.mroIn K C b with|some d=>d|none=>false
theorem N5 (h:mroOk K C b=true):PySem.W.mroIn K C b=some true:=by
 unfold mroOk at h;split at h
 ·rename_i d q;rw[q,h]
 ·cases h
def EF (K:Zke)(C c:Value):Bool:=match PySem.W.exmOne K C c with|some d=>d|none=>false
theorem Zfm (h:EF K C c=true):PySem.W.exmOne K C c=some true:=by
 unfold EF at h;split at h
 ·rename_i d q;rw[q,h]
 ·cases h
def xo (K:Zke)(cS C:Addr)(iC:Nat):Bool:=mroOk K C (.type "object")&&mroOk K C (.type "BaseException")&&(PySem.W.clsIn K C).isSome&&EF K (.ref C) (.ref cS)&&Tt K C iC&&zw K (.ref C) (.type "ValueError") true&&PySem.W.excIn K C uq "ValueError.__new__"
theorem FD (KX:K.In h)(G:h.Ns mainGlobals mg)(mv:mg "ValueError" =none)(ms:mg "StepError" =some (.ref cS))(e:xo K cS C iC=true)
  (ga:PySem.W.findIn K (.ref C) "__getattribute__" =some (some (.builtin "BaseException.__getattribute__"))) (hook:PySem.W.findIn K (.ref C) "__getattr__" =some none) (cl:PySem.W.findIn K (.ref C) "__class__" =some (some (.builtin "object.__class__"))):lD K mg cS C iC/\PySem.W.excIn K C uq "ValueError.__new__" =true:=by
 unfold xo at e;simp only[Zap]at e;obtain⟨⟨⟨⟨⟨⟨e1,e2⟩,e3⟩,e4⟩,e5⟩,e6⟩,e7⟩:=e;refine⟨⟨⟨ga,hook,cl,N5 e1,N5 e2,e3⟩,ms,Zfm e4,fun i hi=>?_,mv,MN e6⟩,e7⟩;have:=ZaK.mp e5 i (Zbf.mpr hi);split at this
 ·rename_i c q;exact⟨c,Zch KX G q,MN this⟩
 ·cases this
structure Exc (K:Zke)(mg:Str->Option Value)(nm:Str)(C:Addr):Prop where
 m:mg nm=some (.ref C)
 x:PySem.W.excIn K C uq "ValueError.__new__" =true
set_option maxHeartbeats 4000000 in
theorem T3 {fa c Pt f cS aB aL aP:Addr}{oc:Value}{od an:Option Addr}{kV doc pm ct:Value}{hZ:Array (Option Value)}{t0:Tok}(KX:K.In h)(G:h.Ns mainGlobals mg)(hmg:mg "law" =some (.ref fa))
  (d0:bu K "is_whole" BF) (d1:bu K "is_whole_within" BE) (d2:bu K "is_tuple_of" BI) (d3:bu K "is_board" Cp) (d4:bu K "need_board" yU) (d5:bu K "is_lay" yV) (d6:bu K "need_lay" yT) (d7:bu K "is_line" S.B6) (d8:bu K "is_bare_line" S.B8) (d9:bu K "with_point" S.BG) (d10:bu K "points" BQ) (d11:bu K "point_pairs" BR) (d12:bu K "steps" BK) (d13:bu K "first_like" Ck) (d14:bu K "is_unlike" BH) (d15:bu K "free_rows" S.Cm) (d16:bu K "is_headed" S.B7) (i5:bu K "is_like_paper" S.BY) (d18:bu K "is_shut_paper" S.BO) (LJ:bu K "is_cases_paper" S.yW) (Am:bu K "is_paper" S.sZ) (d21:bu K "ends_of" S.vq) (Al:bu K "ends_many" S.vv) (d23:bu K "_law_cell_at" Co) (d24:bu K "_law_state" BL) (d25:bu K "_law_take" BJ) (LH:bu K "_law_refused" BP) (d27:bu K "_law_no_board" qw) (d28:bu K "_law_no_lay" qv) (d29:bu K "_law_steps" BX) (d30:bu K "_law_unlike" BW) (d31:bu K "_law_fits" S.B5) (d32:bu K "_law_whole" S.BV) (d33:bu K "_law_like" BU) (d34:bu K "_law_free" S.BZ) (d35:bu K "_law_ends" S.vo) (d36:bu K "_law_lay" Cn) (d37:bu K "_law_grown" Cj) (d38:bu K "_law_nofit" S.BS) (d39:bu K "_law_paper" S.vm) (d40:bu K "_law_same" BN) (d41:bu K "_law_bent" S.qx) (d42:bu K "_law_some_right" S.BM)
  (l1:PySem.W.nsIn K mainGlobals "law" =some (some (.ref f))) (l2:K.lookup f=some ⟨oc,od,.func (PySem.W.fnOf "law" "law" (iZ S.dZ) (ck S.dZ) (aR S.dZ) .none kV doc pm an (.ref c) ct),hZ⟩) (l3:PySem.W.codeIn K (.ref c) "law" =true) (l4:PySem.W.codeHdIn K c Pt=true)
  (g1:Ew.all (zj K)=true) (C5:PySem.W.nsIn K mainGlobals "LONGEST_SIDE" =some (some (.int 12 t0)))
  (eB:PySem.W.nsIn K mainGlobals "NoBoard" =some (some (.ref aB))) (eL:PySem.W.nsIn K mainGlobals "NoLay" =some (some (.ref aL))) (eP:PySem.W.nsIn K mainGlobals "NoPaper" =some (some (.ref aP))) (eS:PySem.W.nsIn K mainGlobals "StepError" =some (some (.ref cS)))
  (xB:xo K cS aB 0=true) (xL:xo K cS aL 1=true) (xP:xo K cS aP 5=true)
  (gaB:PySem.W.findIn K (.ref aB) "__getattribute__" =some (some (.builtin "BaseException.__getattribute__"))) (V5:PySem.W.findIn K (.ref aB) "__getattr__" =some none) (clB:PySem.W.findIn K (.ref aB) "__class__" =some (some (.builtin "object.__class__")))
  (gaL:PySem.W.findIn K (.ref aL) "__getattribute__" =some (some (.builtin "BaseException.__getattribute__"))) (qW:PySem.W.findIn K (.ref aL) "__getattr__" =some none) (clL:PySem.W.findIn K (.ref aL) "__class__" =some (some (.builtin "object.__class__")))
  (gaP:PySem.W.findIn K (.ref aP) "__getattribute__" =some (some (.builtin "BaseException.__getattribute__"))) (V4:PySem.W.findIn K (.ref aP) "__getattr__" =some none) (clP:PySem.W.findIn K (.ref aP) "__class__" =some (some (.builtin "object.__class__"))):
  ∃fd:FuncData,(∀(s:Shared) (u:Value),BindsTo s fd ⟨[u],[]⟩ [("_law_script",u)])/\∀base:Heap,K.In base->base.Ns mainGlobals mg->yl mg base->aJ P w K mg base aS 33 fa fd ["_law_script"] (S.Br K Pt):=by
 have e0:=hmg.symm.trans (Zch KX G l1);cases e0;obtain⟨gs,mv⟩:=ZhF KX G g1 C5;have ms:=Zch KX G eS;obtain⟨MB,yB⟩:=FD KX G mv ms xB gaB V5 clB;have exB:Exc K mg "NoBoard" aB:=⟨Zch KX G eB,yB⟩;obtain⟨ML,yL⟩:=FD KX G mv ms xL gaL qW clL;have exL:Exc K mg "NoLay" aL:=⟨Zch KX G eL,yL⟩;obtain⟨MP,yP⟩:=FD KX G mv ms xP gaP V4 clP;have Lo:Exc K mg "NoPaper" aP:=⟨Zch KX G eP,yP⟩;have Ln:F8 K mg aB aL:=⟨Zch KX G eB,yB,Zch KX G eL,yL⟩;refine⟨PySem.W.fnOf "law" "law" (iZ S.dZ) (ck S.dZ) (aR S.dZ) .none kV doc pm an (.ref c) ct,fun s u=>.of_eq rfl,fun base kb nb bm=>?_⟩;have b0:∀{x:Str}{st:Stmt},(∀(kV doc pm:Value) (an:Option Addr) (aw ct:Value),bindArgs (PySem.W.fnOf x x (iZ st) (ck st) (aR st) .none kV doc pm an aw ct) ⟨[],[]⟩=pure [])->uJ x st []:=fun h kV doc pm an aw ct us hl=>match us,hl with | [],_=>h kV doc pm an aw ct
 have b1:∀{x a:Str}{st:Stmt},(∀(kV doc pm:Value) (an:Option Addr) (aw ct u:Value),bindArgs (PySem.W.fnOf x x (iZ st) (ck st) (aR st) .none kV doc pm an aw ct) ⟨[u],[]⟩=pure [(a,u)])->uJ x st [a]:=fun h kV doc pm an aw ct us hl=>match us,hl with | [u],_=>h kV doc pm an aw ct u
 have b2:∀{x a b:Str}{st:Stmt},(∀(kV doc pm:Value) (an:Option Addr) (aw ct u v:Value),bindArgs (PySem.W.fnOf x x (iZ st) (ck st) (aR st) .none kV doc pm an aw ct) ⟨[u,v],[]⟩=pure [(a,u),(b,v)])->uJ x st [a,b]:=fun h kV doc pm an aw ct us hl=>match us,hl with | [u,v],_=>h kV doc pm an aw ct u v
 have b3:∀{x a b c:Str}{st:Stmt},(∀(kV doc pm:Value) (an:Option Addr) (aw ct u v w:Value),bindArgs (PySem.W.fnOf x x (iZ st) (ck st) (aR st) .none kV doc pm an aw ct) ⟨[u,v,w],[]⟩=pure [(a,u),(b,v),(c,w)])->uJ x st [a,b,c]:=fun h kV doc pm an aw ct us hl=>match us,hl with | [u,v,w],_=>h kV doc pm an aw ct u v w
 have good:∀b':Heap,Def P w K mg b' 29 "is_paper" al (S.gB 8)/\Def P w K mg b' 27 "is_paper" al (S.gB 7)/\Def P w K mg b' 30 "ends_many" dL (S.qm 7)/\dD P w K mg b' 30 "ends_many" dL (S.sR 7 aP)/\dD P w K mg b' 7 "is_paper" al (S.gD K aB aL)/\dD P w K mg b' 8 "ends_many" dL (S.gD K aB aL):=fun b'=>by have D0:Def P w K mg b' 1 "is_whole" ["thing"] (Be K):=d0.to KX G (b1 fun _ _ _ _ _ _ _=>rfl) fun f fd F=>ZeL F gs;have D1:Def P w K mg b' 2 "is_whole_within" nw (uY K):=d1.to KX G (b3 fun _ _ _ _ _ _ _ _ _=>rfl) fun f fd F=>ZdG F D0;have D3:Def P w K mg b' 1 "is_tuple_of" ss (p8 K):=d2.to KX G (b2 fun _ _ _ _ _ _ _ _=>rfl) fun f fd F=>ZeM F gs;have D4:Def P w K mg b' 3 "is_board" ["thing"] (yM K):=d3.to KX G (b1 fun _ _ _ _ _ _ _=>rfl) fun f fd F=>ZeU F gs D3 D1;have D5:Def P w K mg b' 4 "need_board" ["board"] (Bo K):=d4.to KX G (b1 fun _ _ _ _ _ _ _=>rfl) fun f fd F=>Zbc F D4;have D6:Def P w K mg b' 5 "is_lay" tz (yH K):=d5.to KX G (b2 fun _ _ _ _ _ _ _ _=>rfl) fun f fd F=>Zg1 F gs D5 D3 D1;have Gp:Def P w K mg b' 6 "need_lay" bv u7:=d6.to KX G (b2 fun _ _ _ _ _ _ _ _=>rfl) fun f fd F=>Zcx F D6;have Gn:Def P w K mg b' 1 "with_point" re S.uZ:=d9.to KX G (b3 fun _ _ _ _ _ _ _ _ _=>rfl) fun f fd F=>S.R9 F;have D7:Def P w K mg b' 7 "points" bv Bj:=d10.to KX G (b2 fun _ _ _ _ _ _ _ _=>rfl) fun f fd F=>ZdH F gs Gp;have D8:Def P w K mg b' 8 "point_pairs" bv Bk:=d11.to KX G (b2 fun _ _ _ _ _ _ _ _=>rfl) fun f fd F=>ZeQ F D7;have D9:Def P w K mg b' 9 "steps" bv Bg:=d12.to KX G (b2 fun _ _ _ _ _ _ _ _=>rfl) fun f fd F=>ZeN F gs D8;have D10:Def P w K mg b' 10 "first_like" bv Bt:=d13.to KX G (b2 fun _ _ _ _ _ _ _ _=>rfl) fun f fd F=>ZeS F gs D9;have D11:Def P w K mg b' 11 "is_unlike" bv Bf:=d14.to KX G (b2 fun _ _ _ _ _ _ _ _=>rfl) fun f fd F=>ZgT F D10;have Gq:Def P w K mg b' 12 "free_rows" on S.ki:=d15.to KX G (b3 fun _ _ _ _ _ _ _ _ _=>rfl) fun f fd F=>S.So F gs D11 Gn;have Pk:Def P w K mg b' 3 "is_line" io (S.yK K):=d7.to KX G (b2 fun _ _ _ _ _ _ _ _=>rfl) fun f fd F=>S.Sl F gs D1;have Gm:Def P w K mg b' 4 "is_bare_line" io S.vc:=d8.to KX G (b2 fun _ _ _ _ _ _ _ _=>rfl) fun f fd F=>S.Sn F Pk;have AQ:Def P w K mg b' 2 "is_headed" mo S.sP:=d16.to KX G (b3 fun _ _ _ _ _ _ _ _ _=>rfl) fun f fd F=>S.Sm F D3;have Pj:Def P w K mg b' 4 "is_like_paper" io S.yJ:=i5.to KX G (b2 fun _ _ _ _ _ _ _ _=>rfl) fun f fd F=>S.Sg F gs Pk AQ;have Ph:Def P w K mg b' 13 "is_shut_paper" al S.yF:=d18.to KX G (b3 fun _ _ _ _ _ _ _ _ _=>rfl) fun f fd F=>S.Sb F Gm AQ Gq;have DP7:Def P w K mg b' 27 "is_paper" al (S.gB 7):=S.CH (fun k sp ok=>Am.to KX G (b3 fun _ _ _ _ _ _ _ _ _=>rfl) ok) (fun k sp ok=>LJ.to KX G (b3 fun _ _ _ _ _ _ _ _ _=>rfl) ok) gs Gp Pj Ph Gm AQ Gq D3 Gn 7;have Gk:Def P w K mg b' 29 "is_paper" al (S.gB 8):=S.CH (fun k sp ok=>Am.to KX G (b3 fun _ _ _ _ _ _ _ _ _=>rfl) ok) (fun k sp ok=>LJ.to KX G (b3 fun _ _ _ _ _ _ _ _ _=>rfl) ok) gs Gp Pj Ph Gm AQ Gq D3 Gn 8;have DE8:Def P w K mg b' 9 "ends_of" ["paper"] (S.sQ 8):=S.ends (fun k sp ok=>d21.to KX G (b1 fun _ _ _ _ _ _ _=>rfl) ok) gs 8;have DEM:Def P w K mg b' 30 "ends_many" dL (S.qm 7):=Al.to KX G (b3 fun _ _ _ _ _ _ _ _ _=>rfl) fun f fd F=>S.Ss F Gk .d DE8;have DEX:dD P w K mg b' 30 "ends_many" dL (S.sR 7 aP):=Al.su KX G (b3 fun _ _ _ _ _ _ _ _ _=>rfl) fun f fd F=>S.Sq F ⟨Lo.m,Lo.x⟩ Gk;have R5:dD P w K mg b' 4 "need_board" ["board"] (Bp K aB):=d4.su KX G (b1 fun _ _ _ _ _ _ _=>rfl) fun f fd F=>Zac F gs Ln D4;have R6:dD P w K mg b' 5 "is_lay" tz (Bq K aB):=d5.su KX G (b2 fun _ _ _ _ _ _ _ _=>rfl) fun f fd F=>Zf5 F R5;have R6b:dD P w K mg b' 6 "need_lay" bv (Bd K aB aL):=d6.su KX G (b2 fun _ _ _ _ _ _ _ _=>rfl) fun f fd F=>ZbI F Ln R6 D6;have O3:dD P w K mg b' 7 "is_paper" al (S.gD K aB aL):=Am.su KX G (b3 fun _ _ _ _ _ _ _ _ _=>rfl) fun f fd F=>S.Sd F .d R6b;have REB:dD P w K mg b' 8 "ends_many" dL (S.gD K aB aL):=Al.su KX G (b3 fun _ _ _ _ _ _ _ _ _=>rfl) fun f fd F=>S.Sr F O3;exact⟨Gk,DP7,DEM,DEX,O3,REB⟩
 have hR:∀b':Heap,Def P w K mg b' 32 "_law_refused" ["_law_call"] (yG P w K mg b' cS 31):=fun b'=>LH.to KX G (b1 fun _ _ _ _ _ _ _=>rfl) fun f fd F=>ZgV F gs;have E1:Def P w K mg base 1 "_law_cell_at" lw (Bv K):=d23.to KX G (b2 fun _ _ _ _ _ _ _ _=>rfl) fun f fd F=>Zf6 F gs;have E2:Def P w K mg base 2 "_law_state" lw (Bh K):=d24.to KX G (b2 fun _ _ _ _ _ _ _ _=>rfl) fun f fd F=>ZeO F gs E1;have E3:Def P w K mg base 1 "_law_take" db iK:=d25.to KX G (b2 fun _ _ _ _ _ _ _ _=>rfl) fun f fd F=>Zf4 F;have E4:Def P w K mg base 2 "_law_no_board" sK (Bm K):=d27.to KX G (b1 fun _ _ _ _ _ _ _=>rfl) fun f fd F=>ZgZ F E3;have E6:Def P w K mg base 2 "_law_lay" lc (Bu K):=d36.to KX G (b2 fun _ _ _ _ _ _ _ _=>rfl) fun f fd F=>ZeT F gs E3;have E7:Def P w K mg base 2 "_law_no_lay" am (Bl K):=d28.to KX G (b3 fun _ _ _ _ _ _ _ _ _=>rfl) fun f fd F=>ZgY F gs E3;have E9:Def P w K mg base 1 "_law_steps" ii (yI K):=d29.to KX G (b1 fun _ _ _ _ _ _ _=>rfl) fun f fd F=>ZdI F gs;have Gd:Def P w K mg base 2 "_law_unlike" ii u9:=d30.to KX G (b1 fun _ _ _ _ _ _ _=>rfl) fun f fd F=>Zcy F E9;have E11:Def P w K mg base 3 "_law_grown" lc (Bs K):=d37.to KX G (b2 fun _ _ _ _ _ _ _ _=>rfl) fun f fd F=>ZeR F gs E3 Gd;have E12:Def P w K mg base 3 "_law_fits" rc S.yN:=d31.to KX G (b2 fun _ _ _ _ _ _ _ _=>rfl) fun f fd F=>S.Sj F gs Gd;have E14:Def P w K mg base 4 "_law_nofit" sK S.Bn:=d38.to KX G (b1 fun _ _ _ _ _ _ _=>rfl) fun f fd F=>S.Se F gs E3 E6 E11;have E15:Def P w K mg base 1 "_law_whole" lm S.yD:=d32.to KX G (b3 fun _ _ _ _ _ _ _ _ _=>rfl) fun f fd F=>S.Sf F gs;have Gb:Def P w K mg base 2 "_law_like" ii (oj K):=d33.to KX G (b1 fun _ _ _ _ _ _ _=>rfl) fun f fd F=>Zhy F gs E9;have Pf:Def P w K mg base 3 "_law_free" im S.ki:=d34.to KX G (b3 fun _ _ _ _ _ _ _ _ _=>rfl) fun f fd F=>S.Si F gs Gd;have E18:Def P w K mg base 12 "_law_ends" bi (S.ql 8):=S.Iu (fun k sp ok=>d35.to KX G (b3 fun _ _ _ _ _ _ _ _ _=>rfl) ok) gs E15 Gb Pf 8;have E19:Def P w K mg base 1 "_law_same" pp (yE Rl):=d40.to KX G (b2 fun _ _ _ _ _ _ _ _=>rfl) fun f fd F=>ZeP F gs;have ELP:Def P w K mg base 11 "_law_paper" am (S.qk 7):=S.Ip (fun k sp ok=>d39.to KX G (b3 fun _ _ _ _ _ _ _ _ _=>rfl) ok) gs E3 Gb Pf 7;have EBE:Def P w K mg base 9 "_law_bent" cr (S.qo 7):=S.LZ (fun k sp ok=>d41.to KX G (b3 fun _ _ _ _ _ _ _ _ _=>rfl) ok) gs E3 7;have ESR:Def P w K mg base 31 "_law_some_right" [] S.Bi:=d42.to KX G (b0 fun _ _ _ _ _ _=>rfl) fun f fd F=>S.Sa F (good base).1 (good base).2.2.1;obtain⟨fR,fdR,eR',FR⟩:=id LH;obtain⟨gP,fdP,eP',FP⟩:=id Am;obtain⟨gE,fdE,eE',FE⟩:=id Al;exact S.Sk l2 l3 gs E2 E3 E4 E14 E7 Gb E12 ELP EBE E18 E19 (good base).2.1 (good base).1 (good base).2.2.1 ESR hR (fun b'=>(good b').2.2.2.1) (fun b'=>(good b').2.2.2.2.1) (fun b'=>(good b').2.2.2.2.2) (Zch KX G eP') (Zch KX G eE') (Zch KX G eR') FR.kp MB ML MP (PySem.W.codeHd_of_K kb l4) bm
end U
namespace PySem.W.Fast
def tw10629818756737075264:=Nat
def tw12595874161390278784:=Nat
def tw4498730620204490976:=Nat
def tw10552228930258762976:=Nat
def tw2788690841225414912:=Nat
def tw1545870347899470208:=Nat
def tw12970906696340681088:=Nat
def tw6342349533566804416:=Nat
def tw15527130299950000576:=Nat
def tw3981075445798772192:=Nat
def tw14333001986093737472:=Nat
def tw13670179261362241120:=Nat
def tw14053942305191028384:=Nat
def tw13834206608041018144:=Nat
def tw7348647055606570784:=Nat
def tw12630560480948007744:=Nat
def tw10392957569040573312:=Nat
def tw14093066794501592992:=Nat
def tw6914232733968579713:=Nat
def tw6122679385226116417:=Nat
def tw2814747363813713249:=Nat
def tw2133446422210449793:=Nat
def tw18358287762049677761:=Nat
def tw4764113657957384705:=Nat
def tw12635933496054564481:=Nat
def tw4789634025828270881:=Nat
def tw10596411250430761825:=Nat
def tw1456427884600574050:=Nat
def tw4469165342195598434:=Nat
def tw15725046581209758946:=Nat
def tw1674656687716759810:=Nat
def tw15390137252468118818:=Nat
def tw10190347136850250082:=Nat
def tw7081638900646447458:=Nat
def tw1032197512846753122:=Nat
def tw9533905281359086978:=Nat
def tw9168658855227906:=Nat
def tw9757874326928502498:=Nat
def tw4764716313429244642:=Nat
def tw15518184797274939138:=Nat
def tw4090908197313659650:=Nat
def tw2933793572369259362:=Nat
def tw7253188309418077251:=Nat
def tw10535737563814580323:=Nat
def tw10657359785388289123:=Nat
def tw7583697397874043011:=Nat
def tw9534682454311282819:=Nat
def tw2212680106155412739:=Nat
def tw4873651439751540003:=Nat
def tw10263047230348202339:=Nat
def tw205115078846324099:=Nat
def tw5246255678760665507:=Nat
def tw13571716490361865699:=Nat
def tw12393381514002494979:=Nat
def tw2209305342479646275:=Nat
def tw1123531308102942371:=Nat
def tw16485419390264344355:=Nat
def tw16974231758244660099:=Nat
def tw16389494776965558372:=Nat
def tw16985263287091361892:=Nat
def tw16858387017926589636:=Nat
def tw14619217050706242788:=Nat
def tw7627396228158074148:=Nat
def tw7917087592851814692:=Nat
def tw14327677706422843716:=Nat
def tw5807442719297574244:=Nat
def tw10163108217981926884:=Nat
def tw3257521333858681380:=Nat
def tw4719197280823581284:=Nat
def tw3558894371594418788:=Nat
def tw1819111617750696740:=Nat
def tw354201251442243396:=Nat
def tw7921751825699817316:=Nat
def tw626319577781052356:=Nat
def tw579823381380394948:=Nat
def tw8710023387944634340:=Nat
def tw2091821597607519237:=Nat
def tw5351044989968292901:=Nat
def tw5854098472468131941:=Nat
def tw14735289520393996549:=Nat
def tw13188773279268201765:=Nat
def tw15778186312039984421:=Nat
def tw14204010993640309029:=Nat
def tw12114130364052480357:=Nat
def tw15453183552201248133:=Nat
def tw8250959645461561765:=Nat
def tw11424178794821332581:=Nat
def tw10797000208541650565:=Nat
def tw13467857700780399237:=Nat
def tw9960424899350028933:=Nat
def tw2147392345383253701:=Nat
def tw11201003447441491685:=Nat
def tw14643788180928233189:=Nat
def tw2002127239804752645:=Nat
def tw13281151013520577285:=Nat
def tw17248012707892821765:=Nat
def tw16786284136792095525:=Nat
def tw16993697946927773509:=Nat
def tw14700880814724401989:=Nat
def tw7137074609052557189:=Nat
def tw13656885518618330085:=Nat
def tw17849922893787309029:=Nat
def tw5563465960001634310:=Nat
def tw14145840020079833094:=Nat
def tw5194840820084144134:=Nat
def tw17883276587042034726:=Nat
def tw12412122728394346822:=Nat
def tw8027760642509229542:=Nat
def tw17616411208833366534:=Nat
def tw8801876899834389158:=Nat
def tw1608754192609398502:=Nat
def tw16169811670948342566:=Nat
def tw13674892248374363942:=Nat
def tw15914928926859139910:=Nat
def tw13227883048699841382:=Nat
def tw7346553884647246790:=Nat
def tw14910332267933142982:=Nat
def tw15019613340299506695:=Nat
def tw16374618703279425639:=Nat
def tw6916346263685091527:=Nat
def tw10435850816421134695:=Nat
def tw15749092568953911719:=Nat
def tw17639444987307645511:=Nat
def tw3354460740546900679:=Nat
def tw9098433466519028455:=Nat
def tw14881312648313437927:=Nat
def tw4540123451960720167:=Nat
def tw11830381983336339239:=Nat
def tw12091336611073008455:=Nat
def tw6623939899750232903:=Nat
def tw10137951050142618503:=Nat
def tw3225871064108742567:=Nat
def tw17374789082800188359:=Nat
def tw13857797441079807975:=Nat
def tw7571097850122389512:=Nat
def tw8920162812603476008:=Nat
def tw10482682590840751304:=Nat
def tw9450559360694661352:=Nat
def tw13287438209685091592:=Nat
def tw104444284022236456:=Nat
def tw4287988160722430344:=Nat
def tw4958656192850527752:=Nat
def tw10656148838802880168:=Nat
def tw15059733232115448520:=Nat
def tw18067389902734083784:=Nat
def tw10564979828832192264:=Nat
def tw10342880240343855048:=Nat
def tw4022448759904390153:=Nat
def tw11427045278447695081:=Nat
def tw11756801012882404681:=Nat
def tw16107107853549231497:=Nat
def tw16889459691856343433:=Nat
def tw7732677108152445577:=Nat
def tw9850932449376192169:=Nat
def tw11164760524158011273:=Nat
def tw14556771648476626825:=Nat
def tw14068620943616981002:=Nat
def tw16233492035067995146:=Nat
def tw17335521309042182186:=Nat
def tw6496274628416662634:=Nat
def tw16631376662347752650:=Nat
def tw4574306297637143786:=Nat
def tw6501544082065002826:=Nat
def tw888989982480113098:=Nat
def tw2031796926896725482:=Nat
def tw2480852533360080362:=Nat
def tw16321866334158158410:=Nat
def tw5867299762149331594:=Nat
def tw4171020711997056682:=Nat
def tw1170557806846689994:=Nat
def tw402185057689040586:=Nat
def tw6442335294257594122:=Nat
def tw10019487384691887243:=Nat
def tw7648127733942035627:=Nat
def tw5445142932742923467:=Nat
def tw14653351513390304491:=Nat
def tw7691049048994937227:=Nat
def tw1222467361528510859:=Nat
def tw5599587804523107787:=Nat
def tw8300672978009697771:=Nat
def tw9528344371401966059:=Nat
def tw5906537956702865003:=Nat
def tw9576693777589374827:=Nat
def tw6744211429815766923:=Nat
def tw9081126368302455884:=Nat
def tw1691897366177870156:=Nat
def tw15638883849491931500:=Nat
def tw5312219435418641836:=Nat
def tw17191083962184925644:=Nat
def tw17676297439175558668:=Nat
def tw8966667614442458668:=Nat
def tw12212009436532233836:=Nat
def tw2934869328773679820:=Nat
def tw15642712227515402988:=Nat
def tw16591698193968416524:=Nat
def tw8459334126427584300:=Nat
def tw14310981195284282252:=Nat
def tw7520813708695242668:=Nat
def tw12052038397166412780:=Nat
def tw12759342990086013965:=Nat
def tw10751671855934492717:=Nat
def tw6434322896011349197:=Nat
def tw11372490279552733549:=Nat
def tw12891688917357562253:=Nat
def tw3927237000067367405:=Nat
def tw15939604620812833261:=Nat
def tw18019798112927355405:=Nat
def tw14586544435968915021:=Nat
def tw9221026161212106413:=Nat
def tw17317548942233932461:=Nat
def tw5108134645087623885:=Nat
def tw15366879637861501773:=Nat
def tw18385490510216702797:=Nat
def tw14837820643007609709:=Nat
def tw16644056208372524909:=Nat
def tw11803841197842023373:=Nat
def tw5503649130643528685:=Nat
def tw2941647884761980942:=Nat
def tw13156886131789768750:=Nat
def tw898615587843480686:=Nat
def tw5650118326583958798:=Nat
def tw12792370694511499662:=Nat
def tw2470010813256339854:=Nat
def tw9806372982737889710:=Nat
def tw4933417041131669998:=Nat
def tw13494148805548355086:=Nat
def tw18139631262696057390:=Nat
def tw6021104433409241646:=Nat
def tw1675409470059939406:=Nat
def tw14032410424600628878:=Nat
def tw12501590184824426190:=Nat
def tw12403456984618562382:=Nat
def tw271577373810714831:=Nat
def tw9910030427090853103:=Nat
def tw8782106595389591855:=Nat
def tw11400288281524602191:=Nat
def tw13119141831445115215:=Nat
def tw14098630288469619087:=Nat
def tw7647715418913633871:=Nat
def tw6172834802891874991:=Nat
def tw12236904882851996527:=Nat
def tw14975746385914223535:=Nat
def tw9110516086808120303:=Nat
def tw17706170510756505616:=Nat
def tw947465043425828944:=Nat
def tw2016308335187355760:=Nat
def tw1369950204528161008:=Nat
def tw3317496385290237232:=Nat
def tw3394514801465236816:=Nat
def tw9635054504340916592:=Nat
def tw6724859750558985584:=Nat
def tw11453871440891315600:=Nat
def tw2948013917142073744:=Nat
def tw15043549175100632496:=Nat
def tw3580980149572248112:=Nat
def tw10647005067112469104:=Nat
def tw2175488460389148336:=Nat
def tw129340980257785552:=Nat
def tw1591265401147168496:=Nat
def tw12256551644788700912:=Nat
def tw2479796344543832848:=Nat
def tw14147896794143819632:=Nat
def tw14117260022396087184:=Nat
def tw14824516832483238001:=Nat
def tw10021803144283105457:=Nat
def tw12471123418664192177:=Nat
def tw10632410600830573777:=Nat
def tw14521662635518803217:=Nat
def tw12615868915293947377:=Nat
def tw5308204134422224433:=Nat
def tw17051859107058208305:=Nat
def tw15880061100144989937:=Nat
def tw13800326552835515153:=Nat
def tw2110513417286907954:=Nat
def tw6302741314681078866:=Nat
def tw7665500195271279762:=Nat
def tw9484372483640714418:=Nat
def tw13042858912184521938:=Nat
def tw17185769692144555346:=Nat
def tw13103904876702903730:=Nat
def tw12537707362766683602:=Nat
def tw14746873124149357010:=Nat
def tw6779412572147842642:=Nat
def tw13922373392550275666:=Nat
def tw11941679027289571986:=Nat
def tw10075536498089670610:=Nat
def tw5584067962871976914:=Nat
def tw3824531709361586227:=Nat
def tw9534619981723717715:=Nat
def tw7499650294817519699:=Nat
def tw641337768028961939:=Nat
def tw14582930634976013555:=Nat
def tw8115816427430527283:=Nat
def tw4301686755299965267:=Nat
def tw5653487465969458547:=Nat
def tw8708229240875028915:=Nat
def tw14464977040240892403:=Nat
def tw2437015520875100723:=Nat
def tw18210299593878255315:=Nat
def tw8373189362438154035:=Nat
def tw8257681952133571443:=Nat
def tw1786480448668388275:=Nat
def tw16133428278196230099:=Nat
def tw13208520700275758035:=Nat
def tw2112085544115688435:=Nat
def tw9782660140800418803:=Nat
def tw15073168541442279476:=Nat
def tw14639620159019193460:=Nat
def tw5339577058407784564:=Nat
def tw1877349289111560436:=Nat
def tw7266455908186138900:=Nat
def tw2474994282786573620:=Nat
def tw4620337101664097652:=Nat
def tw12412041663676568020:=Nat
def tw10497185633205973492:=Nat
def tw11612383490198686196:=Nat
def tw443614739344230036:=Nat
def tw3177291873245912724:=Nat
def tw17734715423888895764:=Nat
def tw5850354947443521300:=Nat
def tw6256883497648151380:=Nat
def tw10774366222188382068:=Nat
def tw2968971581881822100:=Nat
def tw11636973103918879668:=Nat
def tw12114131393134386100:=Nat
def tw17287358310181266485:=Nat
def tw14627313644460895317:=Nat
def tw5444615526619888885:=Nat
def tw2340811879240704405:=Nat
def tw11351641206678168981:=Nat
def tw9721406262854919573:=Nat
def tw3540459519417610677:=Nat
def tw2236261161803348469:=Nat
def tw9480192394443730581:=Nat
def tw15595958872466813685:=Nat
def tw14577051286375178997:=Nat
def tw2368696530838927157:=Nat
def tw3020558303375459157:=Nat
def tw997413972171699093:=Nat
def tw1614730777040410613:=Nat
def tw14448887621044276246:=Nat
def tw15150160169688005814:=Nat
def tw12208053269266449654:=Nat
def tw1971010457501924662:=Nat
def tw14430969329432941910:=Nat
def tw17196370917321585174:=Nat
def tw11998767306402627254:=Nat
def tw4685128896047033206:=Nat
def tw2560419457193344886:=Nat
def tw6373230590163254166:=Nat
def tw14004064488867063895:=Nat
def tw17726741889827190967:=Nat
def tw9845018111229146359:=Nat
def tw1642480746142422487:=Nat
def tw9676532719801027063:=Nat
def tw6943237259932992183:=Nat
def tw16760199508014539479:=Nat
def tw13189198362888421207:=Nat
def tw339063395306718039:=Nat
def tw17887505172532580183:=Nat
def tw10982052374856945527:=Nat
def tw5121772812117146487:=Nat
def tw12810599495920169879:=Nat
def tw2494797801437709464:=Nat
def tw16832267337520369880:=Nat
def tw10395770705032604920:=Nat
def tw3747220544236588344:=Nat
def tw5592822986116147544:=Nat
def tw12276680505237278072:=Nat
def tw2621875965506173400:=Nat
def tw605608134217700952:=Nat
def tw9358456565835426392:=Nat
def tw12285491690650195704:=Nat
def tw13378347768460080888:=Nat
def tw4076489641357122360:=Nat
def tw16746862895519990712:=Nat
def tw8093513506420001817:=Nat
def tw12400641579595079929:=Nat
def tw7893328963117384985:=Nat
def tw1591152870776295705:=Nat
def tw7055655572376602905:=Nat
def tw4260173715805669689:=Nat
def tw10205497428207232313:=Nat
def tw9727600989691160921:=Nat
def tw5859563162079081849:=Nat
def tw15160530684850599385:=Nat
def tw8325481314334473689:=Nat
def tw18029596763947292153:=Nat
def tw5858593988784322073:=Nat
def tw720485924090210073:=Nat
def tw8611054954554951449:=Nat
def tw17202367686106796857:=Nat
def tw1516542273150234457:=Nat
def tw469246117351512953:=Nat
def tw5700918190889830297:=Nat
def tw2059807022679652249:=Nat
def tw17924217921113258905:=Nat
def tw8537044921842468058:=Nat
def tw422987240119493882:=Nat
def tw10885174928635210010:=Nat
def tw5281551440144144730:=Nat
def tw5791754740528668058:=Nat
def tw7521537809891370490:=Nat
def tw1175618009331646970:=Nat
def tw10248964339315262042:=Nat
def tw16459768013720945466:=Nat
def tw11830373467696122778:=Nat
def tw11485819147364455386:=Nat
def tw16882914330433271802:=Nat
def tw15902756073796644923:=Nat
def tw15407744061522879611:=Nat
def tw622972185543686299:=Nat
def tw482663066124816699:=Nat
def tw2277684871038652763:=Nat
def tw2266861704798593371:=Nat
def tw6936440121471239611:=Nat
def tw11528194303229814235:=Nat
def tw7956003668240402939:=Nat
def tw5654742476794157723:=Nat
def tw17213103455579233947:=Nat
def tw15192271860623499067:=Nat
def tw5119810135126676315:=Nat
def tw13394599312805799899:=Nat
def tw7673227111943725180:=Nat
def tw3713974786835332348:=Nat
def tw7070924275901570332:=Nat
def tw14218531628342153596:=Nat
def tw7954863163308203388:=Nat
def tw15765248522595132956:=Nat
def tw2084213966558197276:=Nat
def tw4969910440387297884:=Nat
def tw6886742662873673340:=Nat
def tw12922446552284030588:=Nat
def tw6272261136707880604:=Nat
def tw873880911841719996:=Nat
def tw4232879094538797820:=Nat
def tw9907206312965704444:=Nat
def tw14374618327540607836:=Nat
def tw6706774138030245917:=Nat
def tw14093317928225842365:=Nat
def tw1344473745892296925:=Nat
def tw9397032420670197981:=Nat
def tw16945491667710546205:=Nat
def tw15108923085196106045:=Nat
def tw2904493742132210045:=Nat
def tw13264103619726647773:=Nat
def tw7011507357309388285:=Nat
def tw1475978378697862749:=Nat
def tw3554165276650329821:=Nat
def tw11371152896689823517:=Nat
def tw3282829497442940701:=Nat
def tw16805690880803541821:=Nat
def tw1939980621842343773:=Nat
def tw6009535021836950397:=Nat
def tw10794899512136321949:=Nat
def tw15470088465814521821:=Nat
def tw319250010751750141:=Nat
def tw16106634215708725245:=Nat
def tw1374654020852873213:=Nat
def tw7340149759808193854:=Nat
def tw8316532294180526398:=Nat
def tw4491969665193018718:=Nat
def tw3375997772819830110:=Nat
def tw8813473711630207454:=Nat
def tw17111642921391887870:=Nat
def tw9805775109419801150:=Nat
def tw1922157435714265758:=Nat
def tw10276055483760948926:=Nat
def tw10639723653308833758:=Nat
def tw15740455359626843134:=Nat
def tw17255462944540637311:=Nat
def tw17679971308978352383:=Nat
def tw17504465433103493407:=Nat
def tw11970376472822446367:=Nat
def tw12881900846928543039:=Nat
def tw12839210555128571327:=Nat
def tw10976026540281031231:=Nat
def tw16148031595176489759:=Nat
def tw7766000773712066399:=Nat
def tw10891702631744966527:=Nat
def tw3665888745380631903:=Nat
end PySem.W.Fast
set_option maxRecDepth 100000 in
set_option maxHeartbeats 0 in
theorem PySem.Challenge.cw_unlikesteps_k31_papers_looked_at_holds : PySem.Challenge.rw_unlikesteps_k31_papers_looked_at.Holds := by
 w_on; o_law; k_head; (case hw => w_witness2)
 k_fill
 refine U.Pu (l := PySem.Challenge.rw_unlikesteps_k31_papers_looked_at) (n := 63) (k := 33) (x := "_law_script") (Pts := [470]) (sp := fun K => U.S.Br K 470) rfl .d rfl ⟨rfl,by decide,by decide,rfl⟩ (fun w h Y => PySem.W.km_in_of Y) ?hT9 ?hC9 ?hN9 ?F ?S
 case hT9 =>
  intro w h Y P hP;simp only [List.mem_cons,List.not_mem_nil,or_false] at hP;rcases hP with rfl
  ·exact PySem.W.km_tabs_of Y 470 .s
 case hC9 =>
  intro w h X P hP;simp only [List.mem_cons,List.not_mem_nil,or_false] at hP;rcases hP with rfl
  ·exact ⟨472,PySem.W.codeHd_of_K X (by kernel_rfl)⟩
 case hN9 =>
  intro w P hP;simp only [List.mem_cons,List.not_mem_nil,or_false] at hP;rcases hP with rfl
  ·kernel_rfl
 case S => exact fun K H a ns hl hs hp =>⟨a,ns,rfl,hs,hl,hp _ .s,fun _ => rfl⟩
 case F =>
  intro w mg fa h KX G hmg;refine' U.T3 (c := 472) (Pt := 470) KX G hmg ..
  all_goals try first | k_is | kernel_rfl | (refine' U.aaz ?a ?b ?c ?e; (case a => k_is); (case b => k_is); (case c => k_is); (case e => k_is))
