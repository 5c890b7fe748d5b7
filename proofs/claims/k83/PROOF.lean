import PyProof.Rows.All
import Wide.All
import OpenK.AllK
import Wide.FinOn
import Lean
import PySem.Challenge.RW_unlikesteps_k83_whole_turns
set_option Elab.async false
set_option linter.all false
set_option compiler.extract_closed false
local macro_rules|`(.o)=>`(by omega)
local macro_rules|`(.d)=>`(by decide)
noncomputable section
set_option maxRecDepth 100000
set_option maxHeartbeats 0
def eg:=@PySem.wpAny_bind
def gc:=@PySem.wpAny_pure
def Zaa:=@List.getElem?_eq_some_iff
def Zad:=@PySem.Heap.get?_push_of_some
def Zae:=@List.mem_cons_of_mem
def Zaf:=@List.mem_cons_self
def Zag:=@Bool.false_ne_true
def Zaj:=@List.length_append
def Zak:=@Nat.le_refl
def Zal:=@List.length_map
def Zap:=@List.size_toArray
def Zaq:=@decide_eq_true
def Zar:=@PySem.Heap.get?_push_size
def Zas:=@List.mem_singleton
def Zau:=@Array.length_toList
def Zav:=@List.mem_cons
def Zaw:=@List.getElem?_eq_getElem
def Zax:=@Bool.false_eq_true
def Zaz:=@if_neg
def ZaA:=@List.mem_append_right
def ZaC:=@PySem.Heap.lt_size
def ZaD:=@List.mem_of_getElem?
def ZaE:=@PyProof.Rows.wpS_bind
def ZaF:=@decide_eq_false
def ZaM:=@Nat.zero_le
def ZaN:=@List.mem_map
def ZaO:=@List.mem_append
def ZaP:=@PyProof.Rows.wpS_pure
def ZaQ:=@if_pos
def ZaR:=@List.length_take
def ZaT:=@Array.getElem?_toList
def ZaU:=@List.nodup_iff_pairwise_ne
def ZaV:=@List.map_append
def ZaX:=@PySem.sizeLine_eq
def ZaY:=@List.append_assoc
def ZaZ:=@List.mem_filter
def Za0:=@PySem.Paired.length
def Za1:=@Nat.ne_of_lt
def Za2:=@List.take_add_one
def Za3:=@List.mem_append_left
def Za5:=@Bool.and_eq_true
def Za6:=@List.mem_range
def Za7:=@Nat.lt_of_lt_of_le
def Za8:=@List.length_cons
def Zba:=@List.map_cons
def Zbd:=@List.all_eq_true
def Zbe:=@List.take_length
def Zbf:=@Option.map_eq_some_iff
def Zbg:=@decide_eq_true_eq
def Zbh:=@Option.some.inj
def Zbi:=@Nat.le_trans
def Zbk:=@List.getElem?_map
def Zbm:=@Array.getElem?_eq_some_iff
def Zbn:=@PySem.wpAny_call_entry
def Zbo:=@List.pairwise_append
def Zbr:=@PySem.wpAny_seqItems
def Zbs:=@PySem.wpAny_newObj_type
def Zbt:=@of_decide_eq_true
def Zbu:=@Int.toNat_natCast
def Zbw:=@PySem.Heap.get?_update_other
def Zbx:=@Nat.max_eq_right
def Zby:=@List.take_append_drop
def ZbA:=@PySem.wpAny_holding
def ZbC:=@List.getD_eq_getElem?_getD
def ZbD:=@Array.perm_iff_toList_perm
def ZbE:=@List.append_nil
def ZbF:=@List.range_succ
def ZbG:=@List.pairwise_cons
def ZbH:=@Array.toList_push
def ZbI:=@if_false
def ZbL:=@PySem.wpAny_callSpecial?_slot
def ZbM:=@Array.getElem?_eq_getElem
def ZbO:=@List.filterMap_append
def Zb0:=@List.pairwise_map
def Zb1:=@Bool.not_true
def Zb5:=@List.flatMap_cons
def Zb8:=@List.eq_nil_of_length_eq_zero
def Zca:=@List.perm_ext_iff_of_nodup
def Zcb:=@Bool.eq_iff_iff
def Zcm:=@List.nodup_cons
def Zcn:=@PySem.PassesOwn.never
def Zco:=@List.length_replicate
def Zcp:=@List.Pairwise.sublist
def Zcq:=@List.mem_filterMap
def Zcr:=@List.zip_cons_cons
def Zcs:=@PyProof.Rows.callWith_type1
def Zct:=@PySem.Heap.SameBut.update
def Zcu:=@List.mem_map_of_mem
def Zcv:=@PySem.F.plain_min_loop
def Zcw:=@PySem.Around.under_plainId
def Zcx:=@List.getElem?_append_right
def Zcy:=@PySem.wpAny_field
def Zcz:=@List.length_drop
def ZcA:=@List.length_range
def ZcB:=@List.not_mem_nil
def ZcC:=@List.getElem_of_mem
def ZcD:=@PySem.wpAny_mono
def ZcE:=@congrArg
def ZcF:=@PyProof.Rows.wpS_forRange
def ZcG:=@List.map_map
def ZcH:=@List.mem_of_mem_drop
def ZcI:=@PySem.wpAny_forIn_list
def ZcJ:=@List.mem_flatMap
def ZcK:=@List.replicate_succ
def ZcL:=@List.flatMap_append
def ZcM:=@List.filter_cons_of_neg
def ZcN:=@List.length_nil
def ZcO:=@List.cons.injEq
def ZcP:=@PySem.F.slot_dict_itemiterator_next
def ZcQ:=@List.getElem?_append_left
def ZcR:=@Bool.not_eq_true'
def ZcS:=@List.pairwise_iff_getElem
def ZcT:=@Classical.byContradiction
def ZcU:=@List.Pairwise.imp
def ZcV:=@List.drop_eq_nil_of_le
def ZcW:=@PySem.wpAny_setField_rec
def ZcX:=@List.filter_append
def ZcY:=@decide_eq_true_iff
def ZcZ:=@List.getElem?_take_of_lt
def Zc0:=@List.filterMap_cons
def Zc1:=@PySem.W.kia_one
def Zc2:=@PySem.Heap.get?_update_self
def Zc3:=@PySem.Paired.snoc
def Zc4:=@PySem.codeAny_builtin
def Zc5:=@PySem.Heap.size_push
def Zc6:=@PySem.wpAny_truthy_bool
def Zc7:=@List.getElem?_replicate
def Zc8:=@Nat.lt_succ_of_lt
def Zc9:=@PySem.wpAny_setState_of
def Zda:=@Nat.lt_of_succ_lt
def Zdb:=@Prod.mk.injEq
def Zdc:=@List.getElem?_of_mem
def Zdd:=@PySem.wpAny_Call_Name_kw
def Zde:=@Array.forIn_toList
def Zdf:=@List.filter_eq_nil_iff
def Zdg:=@Nat.lt_irrefl
def Zdh:=@List.countP_cons
def Zdi:=@Array.toList_append
def Zdj:=@List.nodup_append
def Zdk:=@List.length_filter_le
def Zdl:=@List.length_filterMap_le
def Zdm:=@PySem.wpAny_tryCatch
def Zdn:=@List.nil_append
def Zdo:=@PySem.Obj.data_mapFields
def Zdp:=@PySem.plainId_quiet
def Zdq:=@Nat.ne_of_gt
def Zdr:=@List.nodup_range
def Zds:=@List.take_of_length_le
def Zdt:=@PySem.wpAny_rule
def Zdu:=@List.drop_eq_getElem_cons
def Zdv:=@List.sum_cons
def Zdw:=@List.foldl_cons
def Zdx:=@List.length_singleton
def Zdy:=@List.Perm.append_left
def Zdz:=@PySem.wpAny_typeNameOfWhole_itemiter
def ZdA:=@List.getElem?_drop
def ZdB:=@Int.emod_lt_of_pos
def ZdC:=@if_true
def ZdD:=@List.any_eq_true
def ZdE:=@List.mem_of_mem_take
def ZdF:=@List.pairwise_singleton
def ZdG:=@List.filter_cons_of_pos
def ZdH:=@PyProof.Rows.F.plain_set_update_loop
def ZdI:=@List.take_sublist
def ZdJ:=@List.drop_sublist
def ZdK:=@PySem.F.slot_tuple_hash
def ZdL:=@PySem.wpAny_specialOf
def ZdM:=@List.sum_append
def ZdN:=@PySem.F.slot_tuple_iterator_next
def ZdO:=@PySem.wpAny_askSetting
def ZdP:=@PySem.wpAny_isInstance
def ZdQ:=@Nat.le_of_lt
def ZdR:=@PySem.SeqAt.EqAt.int_int
def ZdS:=@List.any_cons
def ZdT:=@or_false
def ZdU:=@PySem.wpAny_attempt
def ZdV:=@Nat.add_zero
def ZdW:=@Nat.sub_add_cancel
def ZdX:=@PySem.W.mg_of
def ZdY:=@PySem.wpAny_setField
def ZdZ:=@PySem.wpAny_letGo
def Zd0:=@Bool.not_false
def Zd1:=@PySem.wpAny_typeNameOf_itemiter
def Zd2:=@List.getElem?_set_ne
def Zd3:=@Ne.symm
def Zd4:=@PySem.wpAny_pyIter_list
def Zd5:=@PyProof.Rows.slot_tuple_getitem
def Zd6:=@List.flatten_cons
def Zd7:=@Option.map_some
def Zd8:=@beq_iff_eq
def Zd9:=@Nat.min_eq_left
def Zea:=@bne_self_eq_false
def Zeb:=@Nat.not_lt_zero
def Zec:=@Int.emod_nonneg
def Zed:=@PyProof.Rows.callWith_builtin1
def Zee:=@beq_eq_false_iff_ne
def Zef:=@PySem.wpAny_standAt
def Zeg:=@PySem.mem_of_lookup
def Zeh:=@Prod.ext
def Zei:=@Nat.le_succ
def Zej:=@Nat.add_assoc
def Zek:=@List.pairwise_filterMap
def Zel:=@PySem.F.plainAttrs_list
def Zem:=@Option.getD_some
def Zen:=@List.lookup_cons
def Zeo:=@List.getElem_mem
def Zep:=@Nat.le_add_right
def Zeq:=@List.filter_cons
def Zer:=@PyProof.Rows.wpS_modify
def Zes:=@List.drop_drop
def Zet:=@List.getElem?_set_self
def Zeu:=@PySem.F.slot_tuple_mul
def Zev:=@PySem.F.entry_min_loop
def Zew:=@PySem.Calls.spliced_cons
def Zex:=@PyProof.Rows.wpS_mono
def Zey:=@of_decide_eq_false
def Zez:=@PySem.boot_len
def ZeB:=@List.find?_cons
def ZeC:=@PySem.Obj.isFreed_of_fields
def ZeD:=@List.getElem?_eq_none
def ZeE:=@PySem.wpAny_updateSeq
def ZeF:=@Int.zero_add
def ZeG:=@PySem.call_meets
def ZeH:=@Array.toList_reverse
def ZeI:=@Bool.and_false
def ZeJ:=@PyProof.Rows.F.entry_set_update_loop
def ZeK:=@List.filterMap_eq_nil_iff
def ZeL:=@Nat.lt_succ_self
def ZeM:=@PySem.wpAny_pyIter_zip
def ZeN:=@List.ext_getElem
def ZeO:=@PySem.wpAny_of_eq
def ZeP:=@PyProof.Rows.slot_tupleiter_next
def ZeQ:=@List.reverse_append
def ZeR:=@PySem.Heap.get?_update_ne
def ZeS:=@List.toList_toArray
def ZeT:=@PySem.codeAny_mono
def ZeU:=@Option.isSome_iff_exists
def ZeV:=@PySem.F.args_tuple_add_2
def ZeW:=@PySem.wpAny_comprehension_free
def ZeY:=@Nat.zero_add
def ZeZ:=@List.filterMap_cons_some
def Ze0:=@List.filterMap_cons_none
def Ze1:=@PySem.wpAny_passesOwn
def Ze2:=@PySem.F.entry_tuple_add
def Ze3:=@Nat.lt_of_le_of_lt
def Ze4:=@PyProof.Rows.wpS_get
def Ze5:=@PyProof.Rows.boot_isinstance
def Ze6:=@List.countP_append
def Ze7:=@PySem.F.slot_tuple_add
def Ze8:=@PySem.Calls.callWith_builtin
def Ze9:=@List.Perm.append_right
def Zfa:=@List.pairwise_lt_range
def Zfb:=@PySem.wpAny_isOneOf_itemiter
def Zfc:=@Array.getElem?_eq_none
def Zfd:=@List.flatMap_singleton
def Zfe:=@PySem.Calls.spliced_nil
def Zff:=@PySem.WalksT.enumerateD
def Zfg:=@PySem.wpAny_pyIter_enum
def Zfh:=@Array.append_push
def Zfi:=@List.ext_getElem?
def Zfj:=@PySem.F.args_dict_itemiterator_next_1
def Zfk:=@PySem.wpAny_pyIter_slot
def Zfl:=@Bool.false_and
def Zfm:=@List.nodup_nil
def Zfn:=@PySem.wpAny_typeOf
def Zfo:=@List.map_nil
def Zfp:=@PySem.F.slot_dict_get
def Zfq:=@PySem.F.entry_dict_itemiterator_next
def Zfr:=@PySem.builtinLookup_eq_fast
def Zfs:=@PySem.isSubtype_tuple_tuple
def Zft:=@Nat.succ_ne_self
def Zfu:=@List.mem_reverse
def Zfv:=@decide_eq_decide
def Zfw:=@Array.toList_zip
def Zfx:=@PySem.F.plain_min_loop
def Zfy:=@PySem.F.slot_dict_itemiterator_iter
def Zfz:=@PySem.Heap.get?_none_of_le
def ZfA:=@List.range_eq_range'
def ZfB:=@List.replicate_succ'
def ZfC:=@PySem.F.args_tuple_iterator_next_1
def ZfD:=@PySem.wpAny_newList
def ZfE:=@PyProof.Rows.get?_update_seq
def ZfF:=@List.countP_eq_length_filter
def ZfG:=@PySem.Walks.list
def ZfH:=@Nat.add_le_add_left
def ZfI:=@PySem.F.entry_tuple_iterator_next
def ZfJ:=@PySem.F.slot_zip_next
def ZfK:=@Nat.le_antisymm
def ZfL:=@Array.getD_eq_getD_getElem?
def ZfM:=@PySem.wpAny_ite_split
def ZfN:=@PySem.F.slot_tuple_eq
def ZfO:=@PySem.Calls.Name_function_global
def ZfP:=@Array.toList_setIfInBounds
def ZfQ:=@PyProof.Rows.listUpdate_at
def ZfR:=@PyProof.Rows.assignInOrder_cons
def ZfS:=@PySem.wpAny_pyIter_tuple
def ZfT:=@PyProof.Rows.wpS_lift
def ZfU:=@Bool.not_eq_false'
def ZfV:=@Nat.eq_zero_or_pos
def ZfW:=@and_true
def ZfX:=@Nat.succ_pos
def ZfY:=@PySem.wpAny_tupleItemsOf
def ZfZ:=@PySem.wpAny_binaryOp_repeat_ref
def Zf0:=@List.getElem?_eq_none_iff
def Zf1:=@List.drop_zero
def Zf2:=@PySem.Calls.call_function_entry
def Zf3:=@List.mem_of_find?_eq_some
def Zf4:=@List.getElem?_zip_eq_some
def Zf5:=@Nat.mul_le_mul
def Zf6:=@List.any_eq_false
def Zf7:=@PySem.AutoSeq1.sub_tuple_tuple
def Zf8:=@PySem.F.args_tuple_mul_2
def Zf9:=@Bool.eq_false_iff
def Zga:=@List.getElem_take
def Zgb:=@Array.size_setIfInBounds
def Zgc:=@PyProof.Rows.callWith_kw
def Zgd:=@Nat.lt_trichotomy
def Zge:=@Nat.mod_lt
def Zgf:=@List.Pairwise.imp_of_mem
def Zgg:=@PySem.wpAny_dictEntries
def Zgh:=@List.foldl_append
def Zgi:=@List.eq_of_mem_replicate
def Zgj:=@PySem.F.slot_list_extend
def Zgk:=@PySem.F.type_list_extend
def Zgm:=@List.all_cons
def Zgp:=@PySem.wpAny_handled
def Zgs:=@Bool.and_self
def Zgu:=@PySem.noFill_tuple_add
def Zgv:=@beq_self_eq_true
def Zgw:=@List.getElem_map
def Zgx:=@List.zipIdx_cons
def Zgy:=@List.perm_middle
def Zgz:=@PySem.Heap.size_update
def ZgA:=@PySem.W.kat_kind
def ZgB:=@Array.toList_map
def ZgC:=@List.isEmpty_nil
def ZgD:=@List.isEmpty_iff
def ZgE:=@PyProof.Rows.vals1
def ZgL:=@PySem.wpAny_execs_nil
def ZgM:=@List.of_mem_zip
def ZgO:=@List.length_set
def ZgP:=@List.forIn_cons
def ZgQ:=@PySem.codeAny_of_tree
def ZgT:=@PyProof.Rows.pairsOf_size
def ZgV:=@PySem.wpAny_dictEpoch
def ZgW:=@PySem.typeLookup_type
def ZgY:=@List.filter_nil
def ZgZ:=@Int.add_zero
def Zg0:=@PySem.typeIs_int
def Zg7:=@PySem.wpAny_newTuple
def Zg8:=@PySem.isSubtype_stop
def Zg9:=@List.take_zero
def Zha:=@List.take_take
def Zhb:=@PySem.W.kat_lt
def Zhc:=@PySem.wpAny_fieldsOf
def Zhd:=@PySem.entryFor_alias
def Zhe:=@PySem.seqIndex_of
def Zhf:=@PySem.wpAny_throw
def Zhj:=@PySem.seq_tuple_add
def Zhk:=@PySem.wpAny_onRaise
abbrev ZhK:=PySem.W.Frag
namespace L2
open PySem PySem.Spec PyProof.Rows
theorem BK:0<=sizeLine:=.d
theorem fE:1<=sizeLine:=.d
theorem bT:2<=sizeLine:=.d
theorem sX:3<=sizeLine:=.d
theorem BJ:4<=sizeLine:=.d
abbrev Key:=Sum Int Str
def oO:Key->Value->Bool
 | .inl k,v=>Value.isInt k v
 | .inr x,v=>Value.isStrOf x v
def Ng (w:World):Key->Int
 | .inl k=>hashInt k
 | .inr x=>hashStr w x
theorem ZQ:∀{k:Key}{v:Value},oO k v=true->(∃i t,k=Sum.inl i/\v=Value.int i t)∨(∃x t,k=Sum.inr x/\v=Value.str x t)
 | .inl i,v,h=>by obtain⟨t,e⟩:=Value.isInt_shape (k:=i) (v:=v) h;exact .inl ⟨i,t,rfl,e⟩
 | .inr x,v,h=>by obtain⟨t,e⟩:=Value.isStrOf_shape (x:=x) (v:=v) h;exact .inr ⟨x,t,rfl,e⟩
theorem Xl (i:Int)(t:Tok):oO (.inl i) (.int i t)=true:=by simp[oO,Value.isInt]
theorem Xm (x:Str)(t:Tok):oO (.inr x) (.str x t)=true:=by simp[oO,Value.isStrOf]
theorem Ro (a b:Int):decide ((Sum.inl a:Key)=Sum.inl b)=(a==b):=by
 by_cases e:a=b
 ·subst e;simp
 ·have h:¬(Sum.inl a:Key)=Sum.inl b:=fun q=>e (Sum.inl.inj q);rw[ZaF h];exact(Zee.mpr e).symm
theorem Rr (a b:Str):decide ((Sum.inr a:Key)=Sum.inr b)=decide (a=b):=by
 by_cases e:a=b
 ·subst e;simp
 ·have h:¬(Sum.inr a:Key)=Sum.inr b:=fun q=>e (Sum.inr.inj q);rw[ZaF h,ZaF e]
theorem Rp (a:Int)(b:Str):decide ((Sum.inl a:Key)=Sum.inr b)=false:=ZaF (fun q=>nomatch q)
theorem Rq (a:Str)(b:Int):decide ((Sum.inr a:Key)=Sum.inl b)=false:=ZaF (fun q=>nomatch q)
def fk (prog:Program)(w:World):PySem.KeyKind prog w Key where
 is:=oO
 hash:=Ng w
 inj:=fun v a b ha hb=>by
  rcases ZQ ha with ⟨i,t,rfl,rfl⟩ |⟨x,t,rfl,rfl⟩
  ·rcases ZQ hb with ⟨j,u,rfl,e⟩ |⟨y,u,rfl,e⟩
   ·injection e with e1 _;rw[e1]
   ·exact nomatch e
  ·rcases ZQ hb with ⟨j,u,rfl,e⟩ |⟨y,u,rfl,e⟩
   ·exact nomatch e
   ·injection e with e1 _;rw[e1]
 byValue:=fun k v h=>by rcases ZQ h with ⟨i,t,rfl,rfl⟩ |⟨x,t,rfl,rfl⟩<;>rfl
 pyHash:=fun hv h=>by
  rcases ZQ hv with ⟨i,t,rfl,rfl⟩ |⟨x,t,rfl,rfl⟩
  ·exact wpAny_pyHash_int h
  ·exact wpAny_pyHash_str h
 eqBool:=fun hu hv h=>by
  rcases ZQ hu with ⟨i,t,rfl,rfl⟩ |⟨x,t,rfl,rfl⟩
  ·rcases ZQ hv with ⟨j,u,rfl,rfl⟩ |⟨y,u,rfl,rfl⟩
   ·rw[Ro]at h;exact wpAny_eqBool_int h
   ·rw[Rp]at h;exact SeqAt.EqAt.int_str i t y u _ _ _ _ h
  ·rcases ZQ hv with ⟨j,u,rfl,rfl⟩ |⟨y,u,rfl,rfl⟩
   ·rw[Rq]at h;exact SeqAt.EqAt.str_int x t j u _ _ _ _ h
   ·rw[Rr]at h;exact wpAny_eqBool_str h
 «strs» :=fun k x t v h=>by
  rcases ZQ h with ⟨i,u,rfl,e⟩ |⟨y,u,rfl,e⟩
  ·exact nomatch e
  ·injection e with e1 _;subst e1;cases v<;>rfl
theorem Zbc (prog:Program)(w:World)(i:Int)(t:Tok):(fk prog w).is (.inl i) (.int i t)=true:=Xl i t
theorem Zbb (prog:Program)(w:World)(x:Str)(t:Tok):(fk prog w).is (.inr x) (.str x t)=true:=Xm x t
inductive V where
 |ah |bl (b:Bool) |int (i:Int) |str (x:Str) |ig (b:Array UInt8) |kC (b:UInt64) |ref (a:Addr) |ty (n:String)
 deriving DecidableEq
def RelV:V->Value->Prop
 | .ah,u=>u=Value.none
 | .bl b,u=>u=Value.bool b
 | .int i,u=> ∃t,u=Value.int i t
 | .str x,u=> ∃t,u=Value.str x t
 | .ig b,u=> ∃t,u=Value.bytes b t
 | .kC b,u=> ∃t,u=Value.float b t
 | .ref a,u=>u=Value.ref a
 | .ty n,u=>u=Value.type n
abbrev Vals:List V->List Value->Prop:=Paired RelV
theorem Vals.length {xs:List V}{us:List Value}(r:Vals xs us):xs.length=us.length:=Za0 r
theorem Vals.get:∀{xs:List V}{us:List Value}{i:Nat}{x:V},Vals xs us->xs[i]? =some x->∃u,us[i]? =some u/\RelV x u
 |_,_,_,_,.nil,e=>by simp at e
 |_,_,0,_,.cons r _,e=>by simp at e;subst e;exact⟨_,rfl,r⟩
 |_,_,i+1,x,.cons _ t,e=>by obtain⟨u,h1,h2⟩:=Vals.get (i:=i) (x:=x) t (by simpa using e);exact⟨u,by simpa using h1,h2⟩
theorem Vals.set {x:V}{u:Value}(r:RelV x u):∀{xs:List V}{us:List Value}(i:Nat),Vals xs us->Vals (xs.set i x) (us.set i u)
 |_,_,_,.nil=> .nil
 |_,_,0,.cons _ t=> .cons r t
 |_,_,i+1,.cons q t=> .cons q (Vals.set r i t)
theorem Vals.append:∀{xs ys:List V}{us ws:List Value},Vals xs us->Vals ys ws->Vals (xs++ys) (us++ws)
 |_,_,_,_,.nil,s=>s
 |_,_,_,_,.cons r t,s=> .cons r (Vals.append t s)
theorem Vals.take:∀{xs:List V}{us:List Value}(n:Nat),Vals xs us->Vals (xs.take n) (us.take n)
 |_,_,0,_=> .nil
 |_,_,_+1,.nil=> .nil
 |_,_,n+1,.cons r t=> .cons r (Vals.take n t)
theorem Vals.drop:∀{xs:List V}{us:List Value}(n:Nat),Vals xs us->Vals (xs.drop n) (us.drop n)
 |_,_,0,r=>r
 |_,_,_+1,.nil=> .nil
 |_,_,n+1,.cons _ t=>Vals.drop n t
def kI:Option V->Option Value->Prop
 |some v,some u=>RelV v u
 |none,none=>True
 |_,_=>False
def KV {κ:Type} :List (κ×V)->List (κ×Value)->Prop:=Paired fun(p:κ×V) (q:κ×Value)=>p.1=q.1/\RelV p.2 q.2
def kV:Key->V
 | .inl i=> .int i
 | .inr x=> .str x
inductive HO where
  |lst (xs:List V)
  |tup (xs:List V)
  |par (xs:List V)
  |dK (kvs:List (Key×V)) |dT (kvs:List (List Key×V))
  |set (S:Int->Bool) (n:Nat)
  |ins (C dx:Addr) (fs:List (Str×V))
  |own (x:Addr)
  |xd (fs:List (Str×V))
  |met (f x:Addr)
  |iH (lo hi:Int)
  |bM (o:Obj) (u:HO)
  |gT (ps:Array Value)
  |ext (φ:Heap->Prop)
abbrev Hp:=Addr->Option HO
def upd (H:Hp)(a:Addr)(o:HO):Hp:=fun b=>if b=a then some o else H b
theorem Zd {H:Hp}{a:Addr}{o:HO} :upd H a o a=some o:=by unfold upd;rw[ZaQ rfl]
theorem Zi {H:Hp}{a b:Addr}{o:HO}(h:b≠a):upd H a o b=H b:=by unfold upd;rw[Zaz h]
theorem YS {H:Hp}{a b:Addr}{o u:HO}(h:H a=some o)(h':H b=some u)(d:o≠u):a≠b:=by intro e;subst e;rw[h]at h';exact d (Zbh h')
theorem Zh {H:Hp}{a b:Addr}{o:HO}(h:H a=some o)(h':H b=none):a≠b:=by intro e;subst e;rw[h]at h';cases h'
section
variable (P:Program) (w:World)
def bG (H:Hp)(h:Heap)(a:Addr):HO->Prop
 | .lst xs=>xs.length<=sizeLine/\∃(aa:List Value) (n:Nat),Vals xs aa/\h.get? a=some {cls:=.type "list",data:=.seq aa.toArray n}
 | .tup xs=>xs.length<=sizeLine/\∃aa:List Value,Vals xs aa/\IsTup h a aa.toArray/\∃o,h.get? a=some o/\o.dict=none
 | .par xs=>xs.length<=sizeLine/\∃aa:List Value,Vals xs aa/\IsTup h a aa.toArray
 | .dK kvs=>kvs.length<=sizeLine/\(a==sysModules)=false/\∃vs,KV kvs vs/\h.DictOf (fk P w) a vs
 | .dT kvs=>kvs.length<=sizeLine/\(a==sysModules)=false/\∃xs:List (List Key×Addr×Value),
   Paired (fun(p:List Key×V) (q:List Key×Addr×Value)=>p.1=q.1/\H q.2.1=some (.tup (p.1.map kV))/\RelV p.2 q.2.2) kvs xs/\
   ∃o es ep,h.get? a=some o/\o.ExactDict/\o.data=.dict es ep/\es.toList=xs.map (entryOfKey (tupleKind (fk P w)))/\(xs.map (·.1)).Nodup
 | .set S n=>h.SetOf (intKind P w) a S n
 | .ins C dx fs=>H dx=some (.own a)/\fs.length<=1000/\dx≠a/\h.get? a=some (PySem.W.instObj C dx)/\
   ∃mA,h.Ns1 dx mA/\(∀f,kI (fs.lookup f) (mA f))/\PySem.Within mA (fs.map (·.1))
 | .own _=> ∃o,h.get? a=some o
 | .xd fs=> ∃mA,h.Ns1 a mA/\∀f,kI (fs.lookup f) (mA f)
 | .iH lo hi=> ∃t u v,h.get? a=some {cls:=.type "range",data:=.fields #[.int lo t,.int hi u,.int 1 v]}
 | .bM o u=>h.get? a=some o/\bG H h a u
 | .gT ps=>h.get? a=some {cls:=.none,data:=.fields ps}
 | .met f x=>h.get? a=some (PySem.W.methodObj (.ref f) (.ref x))
 | .ext φ=>φ h/\(∃o,h.get? a=some o)/\∀h1 h2:Heap,φ h1->(∀o,h1.get? a=some o->h2.get? a=some o)->φ h2
def bY (H:Hp)(h:Heap):Prop:=∀a o,H a=some o->bG P w H h a o
end
section
variable {P:Program}{w:World}{H H':Hp}{h h':Heap}{a:Addr}{o:HO}
theorem bG.lt (x:bG P w H h a o):a<h.objs.size:=by
 cases o with
 |lst xs=>obtain⟨_,_,_,_,e⟩:=x;exact ZaC e
 |tup xs=>obtain⟨_,_,_,p,_⟩:=x;exact p.lt
 |par xs=>obtain⟨_,_,_,p⟩:=x;exact p.lt
 |dK kvs=>obtain⟨_,_,_,_,o,_,_,e,_⟩:=x;exact ZaC e
 |dT kvs=>obtain⟨_,_,_,_,o,_,_,e,_⟩:=x;exact ZaC e
 |set S n=>obtain⟨o,_,_,_,e,_⟩:=x;exact ZaC e
 |ins C dx fs=>obtain⟨_,_,_,e,_⟩:=x;exact ZaC e
 |own y=>obtain⟨_,e⟩:=x;exact ZaC e
 |xd fs=>obtain⟨_,⟨_,_,_,e,_⟩,_⟩:=x;exact ZaC e
 |iH lo hi=>obtain⟨_,_,_,e⟩:=x;exact ZaC e
 |bM ob u=>obtain⟨e,_⟩:=x;exact ZaC e
 |gT ps=>exact ZaC (show h.get? a=some _ from x)
 |met f y=>exact ZaC (show h.get? a=some _ from x)
 |ext φ=>obtain⟨_,⟨_,e⟩,_⟩:=x;exact ZaC e
theorem Paired.ba {α β:Type}{F G:α->β->Prop} :∀{k7:List α}{k6:List β},Paired F k7 k6->(∀a b,F a b->G a b)->Paired G k7 k6
 |_,_,.nil,_=> .nil
 |_,_,.cons r t,f=> .cons (f _ _ r) (Paired.ba t f)
theorem bG.cq (x:bG P w H h a o)(k:∀b u,(b=a∨H b=some (.own a))->h.get? b=some u->h'.get? b=some u)
  (ho:∀b,H b=some (.own a)->H' b=some (.own a)) (ht:∀b xs,H b=some (.tup xs)->H' b=some (.tup xs)):bG P w H' h' a o:=by
 induction o with
 |lst xs=>obtain⟨z,aa,n,r,e⟩:=x;exact⟨z,aa,n,r,k _ _ (.inl rfl) e⟩
 |tup xs=>obtain⟨z,aa,r,⟨ob,e,c⟩,o2,e2,c2⟩:=x;exact⟨z,aa,r,⟨ob,k _ _ (.inl rfl) e,c⟩,o2,k _ _ (.inl rfl) e2,c2⟩
 |par xs=>obtain⟨z,aa,r,ob,e,c⟩:=x;exact⟨z,aa,r,ob,k _ _ (.inl rfl) e,c⟩
 |dK kvs=>obtain⟨z,y,vs,r,ob,es,ep,e,c⟩:=x;exact⟨z,y,vs,r,ob,es,ep,k _ _ (.inl rfl) e,c⟩
 |dT kvs=>obtain⟨z,y,xs,r,ob,es,ep,e,c⟩:=x;exact⟨z,y,xs,Paired.ba r fun p q z=> ⟨z.1,ht _ _ z.2.1,z.2.2⟩,ob,es,ep,k _ _ (.inl rfl) e,c⟩
 |set S n=>obtain⟨ob,es,ep,t,e,c⟩:=x;exact⟨ob,es,ep,t,k _ _ (.inl rfl) e,c⟩
 |ins C dx fs=>obtain⟨d,z,ne,e,mA,⟨od,es,ep,e2,c⟩,r⟩:=x;exact⟨ho _ d,z,ne,k _ _ (.inl rfl) e,mA,⟨od,es,ep,k _ _ (.inr d) e2,c⟩,r⟩
 |own y=>obtain⟨ob,e⟩:=x;exact⟨ob,k _ _ (.inl rfl) e⟩
 |xd fs=>obtain⟨mA,⟨od,es,ep,e,c⟩,r⟩:=x;exact⟨mA,⟨od,es,ep,k _ _ (.inl rfl) e,c⟩,r⟩
 |iH lo hi=>obtain⟨t,u,v,e⟩:=x;exact⟨t,u,v,k _ _ (.inl rfl) e⟩
 |bM ob u ih=>obtain⟨e,q⟩:=x;exact⟨k _ _ (.inl rfl) e,ih q⟩
 |gT ps=>have e:h.get? a=some {cls:=.none,data:=.fields ps} :=x;show h'.get? a=some {cls:=.none,data:=.fields ps};exact k a _ (.inl rfl) e
 |met f y=>have e:h.get? a=some (PySem.W.methodObj (.ref f) (.ref y)):=x;show h'.get? a=some (PySem.W.methodObj (.ref f) (.ref y));exact k a _ (.inl rfl) e
 |ext φ=>obtain⟨p,⟨o,e⟩,st⟩:=x;exact⟨st _ _ p fun o q=>k _ _ (.inl rfl) q,⟨o,k _ _ (.inl rfl) e⟩,st⟩
theorem bY.lt (x:bY P w H h)(e:H a=some o):a<h.objs.size:=(x a o e).lt
theorem bY.fresh (x:bY P w H h)(e:h.objs.size<=a):H a=none:=by
 cases q:H a with
 |none=>rfl
 |some u=>exact absurd (Za7 (x.lt q) e) (Zdg _)
theorem bY.kept (x:bY P w H h)(k:∀b u,h.get? b=some u->h'.get? b=some u):bY P w H h':=fun a o e=>
 (x a o e).cq (fun b u _ q=>k b u q) (fun _ q=>q) fun _ _ q=>q
theorem bY.laid (x:bY P w H h)(k:∀b u,h.get? b=some u->h'.get? b=some u)(hp:h.objs.size<=a)(new:bG P w (upd H a o) h' a o):bY P w (upd H a o) h':=fun b u e=>by
 have hn:=x.fresh hp;by_cases hb:b=a
 ·subst hb;rw[Zd]at e;cases e;exact new
 ·rw[Zi hb]at e;exact(x b u e).cq (fun c v _ q=>k c v q) (fun c q=>by rw[Zi (Zh q hn)];exact q) fun c xs q=>by rw[Zi (Zh q hn)];exact q
end
def Rd (H:Hp)(a:Addr)(u:HO):Prop:=H a=some u∨∃o,H a=some (.bM o u)
theorem Rd.ok {P:Program}{w:World}{H:Hp}{h:Heap}{a:Addr}{u:HO}(r:Rd H a u)(x:bY P w H h):bG P w H h a u:=by
 rcases r with r |⟨o,r⟩
 ·exact x a u r
 ·obtain⟨_,q⟩:=x a _ r;exact q
def r9:Option HO->Prop
 |some (.lst _)=>True
 |some (.dK _)=>True
 |some (.dT _)=>True
 |some (.set _ _)=>True
 |some (.ins _ _ _)=>True
 |some (.ext _)=>True
 |_=>False
section
variable {P:Program}{w:World}{H:Hp}{h h':Heap}{x e:Addr}{o':HO}
theorem bY.write (ok:bY P w H h)(mu:r9 (H x))(he:e=x∨H e=some (.own x))(k:∀b u,b≠e->h.get? b=some u->h'.get? b=some u)(oX:∃u,h'.get? e=some u)
  (new:bG P w (upd H x o') h' x o'):bY P w (upd H x o') h':=fun b u q=>by
 have C2:∀c y,H c=some (.own y)->c≠x:=fun c y r z=>by subst z;rw[r]at mu;exact mu
 have Mz:∀c xs,H c=some (.tup xs)->c≠x:=fun c xs r z=>by subst z;rw[r]at mu;exact mu
 by_cases hb:b=x
 ·subst hb;rw[Zd]at q;cases q;exact new
 ·rw[Zi hb]at q;by_cases nz:b=e
  ·have q':H b=some (.own x):=by
    rcases he with z |z
    ·exact absurd (nz.trans z) hb
    ·rw[nz];exact z
   rw[q]at q';cases q';obtain⟨v,hv⟩:=oX;exact⟨v,by rw[nz];exact hv⟩
  ·refine(ok b u q).cq (fun c v hc r=>k c v ?_ r) (fun c r=>by rw[Zi (C2 c b r)];exact r) fun c xs r=>by rw[Zi (Mz c xs r)];exact r
   rcases hc with rfl |hc
   ·exact nz
   ·rintro rfl;rcases he with z |z
    ·exact C2 c b hc z
    ·rw[hc]at z;cases z;exact hb rfl
end
structure Un (fs ex:List Addr)(H H':Hp)(h h':Heap):Prop where
 keep:∀b o,h.get? b=some o->H b=none->b∉fs->b∉ex->h'.get? b=some o
 slot:∀b o,h.get? b=some o->H b=none->b∈fs->b∉ex->∃sl,h'.get? b=some {o with slots:=sl}
 free:∀b o,h.get? b=some o->H b=none->b∉ex->H' b=none
 there:∀b o,h.get? b=some o->b∉ex->∃o',h'.get? b=some o'
 jq:∀b xs,H b=some (.tup xs)->H' b=some (.tup xs)
 i9:∀b o u,H b=some (.bM o u)->H' b=some (.bM o u)
 iC:∀b ps,H b=some (.gT ps)->∃more,H' b=some (.gT (ps++more))
section
variable {fs rH ex ex':List Addr}{H H1 H2:Hp}{h h1 h2 h':Heap}{a x e:Addr}{o:HO}
theorem Un.any (u:Un fs ex H H1 h h1){b:Addr}{ob:Obj}(q:h.get? b=some ob)(n:H b=none)(hx:b∉ex):∃sl,h1.get? b=some {ob with slots:=sl} :=by
 by_cases hb:b∈fs
 ·exact u.slot b ob q n hb hx
 ·exact⟨ob.slots,u.keep b ob q n hb hx⟩
theorem Un.kept (k:∀b u,h.get? b=some u->h'.get? b=some u):Un fs ex H H h h':=
 ⟨fun b ob q _ _ _=>k b ob q,fun b ob q _ _ _=> ⟨ob.slots,k b ob q⟩,fun _ _ _ n _=>n,fun b ob q _=> ⟨ob,k b ob q⟩,fun _ _ q=>q,fun _ _ _ q=>q,fun _ ps q=> ⟨#[],by rw[q];simp⟩⟩
theorem Un.refl:Un fs ex H H h h:=Un.kept fun _ _ q=>q
theorem Un.laid (k:∀b u,h.get? b=some u->h'.get? b=some u)(hp:h.objs.size<=a)(hn:H a=none):Un fs ex H (upd H a o) h h' where
 keep:=fun b u q _ _ _=>k b u q
 slot:=fun b u q _ _ _=> ⟨u.slots,k b u q⟩
 free:=fun b u q n _=>by rw[Zi (Za1 (Za7 (ZaC q) hp))];exact n
 there:=fun b u q _=> ⟨u,k b u q⟩
 jq:=fun b xs q=>by rw[Zi (Zh q hn)];exact q
 i9:=fun b u xs q=>by rw[Zi (Zh q hn)];exact q
 iC:=fun b ps q=> ⟨#[],by rw[Zi (Zh q hn),q];simp⟩
theorem Un.write (mu:r9 (H x))(he:e=x∨H e=some (.own x))(k:∀b u,b≠e->h.get? b=some u->h'.get? b=some u)(oX:∃u,h'.get? e=some u):Un fs ex H (upd H x o) h h':=by
 have hx:∀b,H b=none->b≠x:=fun b n z=>by subst z;rw[n]at mu;exact mu
 have hb:∀b,H b=none->b≠e:=fun b n z=>by
  subst z;rcases he with r |r
  ·exact hx b n r
  ·rw[n]at r;cases r
 have hm:∀b u,H b=some u->¬r9 (some u)->b≠x:=fun b u q nm z=>by subst z;rw[q]at mu;exact nm mu
 refine⟨fun b u q n _ _=>k b u (hb b n) q,fun b u q n _ _=> ⟨u.slots,k b u (hb b n) q⟩,fun b u q n _=>by rw[Zi (hx b n)];exact n,fun b u q _=> ?_,
  fun b xs q=>by rw[Zi (hm b _ q fun z=>z)];exact q,fun b u xs q=>by rw[Zi (hm b _ q fun z=>z)];exact q,fun b ps q=> ⟨#[],by rw[Zi (hm b _ q fun z=>z),q];simp⟩⟩
 by_cases nz:b=e
 ·subst nz;exact oX
 ·exact⟨u,k b u nz q⟩
end
def jr (h:Heap)(H:Hp):List Addr:=(List.range h.objs.size).filter fun a=> (H a).isSome
def jJ (h:Heap)(H:Hp):Heap:=PySem.W.hideAll h (jr h H)
theorem XT (h:Heap)(H:Hp):(jJ h H).objs.size=h.objs.size:=PySem.W.hideAll_size _ _
theorem Tv {h:Heap}{H:Hp}{b:Addr}{o:Obj}(e:h.get? b=some o)(n:H b=none):(jJ h H).get? b=some o:=
 PySem.W.hideAll_get _ e fun hm=>by have q:(H b).isSome=true:=(ZaZ.mp hm).2;rw[n]at q;simp at q
theorem Sw {h:Heap}{H:Hp}{b:Addr}{o:Obj}(e:(jJ h H).get? b=some o):h.get? b=some o/\H b=none:=by
 have e':h.get? b=some o:=PySem.W.of_hideAll (jr h H) e;refine⟨e',?_⟩;cases q:H b with
 |none=>rfl
 |some x=>have hm:b∈jr h H:=ZaZ.mpr ⟨Za6.mpr (ZaC e'),by simp[q]⟩;have z:(jJ h H).get? b=none:=PySem.W.hideAll_none (jr h H) hm;rw[z]at e;cases e
structure Mod (K:ZhK)(mg:Str->Option Value)(base:Heap):Prop where
 uC:K.In base
 glob:base.Ns mainGlobals mg
 blt:∃mb,base.Ns builtinsNs mb/\∀x:Str,x≠ "__name__" ->mb x=bootBuiltins x
 nolimit:base.NoLimit
structure Cx where
 prog:Program
 w:World
 K:ZhK
 mg:Str->Option Value
 base:Heap
 A:Around
 N:List Str
 cM:Shared
 sr:Hp
 env:Env
 outer:List Env
 stack:List Env
 ex:List Addr
 fn:Str->Bool
 calm:Bool
 pn:List (Addr×Obj)
 xe:Value->Shared->Prop
def gN (l:List Env):List Addr:=l.filterMap (·.frame)
abbrev Cx.fs (X:Cx):List Addr:=gN X.outer
def vG (sc:Scope)(x:Str):Prop:=sc.names.lookup x=some .local∨sc.names.lookup x=some .cell∨sc.names.lookup x=some .free
def Loc (sc:Scope)(x:Str):Prop:=sc.names.lookup x=some .local∨sc.names.lookup x=some .cell
def Look (env:Env)(h:Heap)(m:Str->Option Value)(x:Str)(u:Value):Prop:=
 (env.kindOf x=some .local/\m x=some u)∨((env.kindOf x=some .cell∨env.kindOf x=some .free)/\∃c,env.cells.lookup x=some c/\h.IsCell c (some u))
structure Cx.Ok (X:Cx):Prop where
 mod:Mod X.K X.mg X.base
 kind:X.env.scope.kind=.function
 glob:X.env.globals=mainGlobals
 blt:X.env.builtins=builtinsNs
 above:X.cM.heap.objs.size<=X.env.locals
 inj:∀x y c,X.env.cells.lookup x=some c->X.env.cells.lookup y=some c->x=y
 has:∀x,(X.env.kindOf x=some .cell∨X.env.kindOf x=some .free)->∃c,X.env.cells.lookup x=some c
 pe:∀x c,X.fn x=true->X.env.cells.lookup x=some c->X.cM.heap.objs.size<=c
 hd:X.calm=true->X.A.handled=none
 frames:X.A.frames=some X.stack
 pT:X.stack=X.outer∨(X.stack=X.env::X.outer/\X.env.frame=some X.env.locals)
 rK:∀b∈X.ex,b≠X.env.locals/\∀x c,X.env.cells.lookup x=some c->c≠b
 bs:∀b o,X.base.get? b=some o->X.cM.heap.get? b=some o/\X.sr b=none
 md:X.base.objs.size<=X.cM.heap.objs.size
 oF:∀b o,X.base.get? b=some o->b∉X.ex
 o9:∀b∈X.ex,b∉X.fs
 hX:X.cM.heap.FunFrames X.base X.outer
 nC:∀b∈X.fs,X.sr b=none
structure Inv (X:Cx)(pins:List (Addr×Obj))(σ:List (Option V))(H:Hp)(s:Shared):Prop where
 ok:X.Ok
 os:s.os=X.cM.os
 bare:AllBare s.gens
 base:Un X.fs X.ex X.sr H X.cM.heap s.heap
 loc:∃m,s.heap.Ns X.env.locals m/\∀(i:Nat) (x:Str) (v:V),X.N[i]? =some x->σ[i]? =some (some v)->vG X.env.scope x->∃u,RelV v u/\Look X.env s.heap m x u
 cell:∀x c,X.env.cells.lookup x=some c->∃v,s.heap.IsCell c v
 free:H X.env.locals=none
 ja:∀x c,X.env.cells.lookup x=some c->H c=none
 pin:∀p∈X.pn++pins,s.heap.get? p.1=some p.2/\H p.1=none/\p.1≠X.env.locals/\p.1∉X.fs/\∀v,p.2.data≠.cell v
 aq:bY X.prog X.w H s.heap
 len:σ.length=X.N.length
section
variable {X:Cx}{pins:List (Addr×Obj)}{σ:List (Option V)}{H H':Hp}{s:Shared}{h':Heap}
theorem Cx.Ok.MC (ok:X.Ok){b:Addr}{o:Obj}(e:X.base.get? b=some o):b∉X.fs:=fun hb=>by have:=(ok.hX.mem hb).1;rw[e]at this;cases this
theorem Inv.bs (I:Inv X pins σ H s):∀b o,X.base.get? b=some o->s.heap.get? b=some o/\H b=none:=fun b o e=>
 ⟨I.base.keep b o (I.ok.bs b o e).1 (I.ok.bs b o e).2 (I.ok.MC e) (I.ok.oF b o e),I.base.free b o (I.ok.bs b o e).1 (I.ok.bs b o e).2 (I.ok.oF b o e)⟩
theorem Inv.bk (I:Inv X pins σ H s):∀b o,X.base.get? b=some o->s.heap.get? b=some o:=fun b o e=> (I.bs b o e).1
theorem Inv.mod (I:Inv X pins σ H s):Mod X.K X.mg X.base:=I.ok.mod
theorem Inv.dF (I:Inv X pins σ H s):X.K.In s.heap:=I.ok.mod.uC.keeps I.bk
theorem Inv.lt (I:Inv X pins σ H s):X.env.locals<s.heap.objs.size:=let ⟨_,hn,_⟩:=I.loc;hn.lt
theorem Inv.sz (I:Inv X pins σ H s):X.cM.heap.objs.size<=s.heap.objs.size:=Zbi I.ok.above (ZdQ I.lt)
theorem Inv.MA (I:Inv X pins σ H s){a:Addr}(h:s.heap.objs.size<=a):a∉X.fs:=fun hb=>by obtain⟨_,o,ho,_⟩:=I.ok.hX.mem hb;exact absurd (Za7 (ZaC ho) (Zbi I.sz h)) (Zdg _)
theorem Inv.nG (I:Inv X pins σ H s):∀x c,X.env.cells.lookup x=some c->c≠X.env.locals:=fun x c e z=>by obtain⟨v,o,ho,hd⟩:=I.cell x c e;obtain⟨m,⟨o',es,ep,cQ,dA,_⟩,_⟩:=I.loc;rw[z,cQ]at ho;cases ho;rw[dA]at hd;cases hd
theorem Inv.hX (I:Inv X pins σ H s):s.heap.FunFrames X.base X.outer:=by
 have all:∀(l:List Env),(∀b∈gN l,b∈X.fs)->X.cM.heap.FunFrames X.base l->s.heap.FunFrames X.base l:=by
  intro l
  induction l with
  |nil=>intro _ _;trivial
  |cons env r ih=>intro hs hl;obtain⟨hk,⟨L,o,hf,hn,ho,hd⟩,hr⟩:=hl;have hL:L∈X.fs:=hs L (by unfold gN;rw[Zc0,hf];exact Zaf);obtain⟨sl,e⟩:=I.base.slot L o ho (I.ok.nC L hL) hL fun z=>I.ok.o9 L z hL;exact⟨hk,⟨L,_,hf,hn,e,hd⟩,ih (fun b hb=>hs b (by unfold gN;rw[Zc0,hf];exact Zae _ hb)) hr⟩
 exact all X.outer (fun _ hb=>hb) I.ok.hX
theorem Inv.stack (I:Inv X pins σ H s):s.heap.FunFrames X.base X.stack:=by
 rcases I.ok.pT with e |⟨e,hf⟩
 ·rw[e];exact I.hX
 ·rw[e];obtain⟨m,hn,_⟩:=I.loc;refine .cons (by rw[I.ok.kind];decide) hf hn ?_ I.hX;exact Zfz (Zbi I.ok.md I.ok.above)
theorem Inv.wj (I:Inv X pins σ H s):∀b∈gN X.stack,b∈X.env.locals::X.fs:=fun b hb=>by
 rcases I.ok.pT with e |⟨e,hf⟩
 ·rw[e]at hb;exact Zae _ hb
 ·rw[e]at hb;unfold gN at hb;rw[Zc0,hf]at hb;exact hb
theorem Inv.BL (I:Inv X pins σ H s):∀b∈gN X.stack,H b=none:=fun b hb=>by
 rcases Zav.mp (I.wj b hb) with e |hb
 ·rw[e];exact I.free
 ·obtain⟨_,o,ho,_⟩:=I.ok.hX.mem hb;exact I.base.free b o ho (I.ok.nC b hb) fun z=>I.ok.o9 b z hb
theorem Inv.step {g':Array GenState}{t':Nat}{d':Drawn}{ch:List Addr}(I:Inv X pins σ H s)
  (jK:∀b∈ch,(b∈X.ex∨X.cM.heap.objs.size<=b)/\b≠X.env.locals/\(∀x c,X.env.cells.lookup x=some c->c≠b)/\∀p∈X.pn++pins,p.1≠b)
  (keep:∀b o,b≠X.env.locals->b∉X.fs->b∉ch->s.heap.get? b=some o->H b=none->h'.get? b=some o)
  (slot:∀b o,b≠X.env.locals->b∈X.fs->b∉ch->s.heap.get? b=some o->H b=none->∃sl,h'.get? b=some {o with slots:=sl}) (free:∀b o,b∉ch->s.heap.get? b=some o->H b=none->H' b=none)
  (there:∀b o,b∉ch->s.heap.get? b=some o->∃o',h'.get? b=some o')
  (jq:∀b xs,H b=some (.tup xs)->H' b=some (.tup xs)) (i9:∀b o u,H b=some (.bM o u)->H' b=some (.bM o u)) (iC:∀b ps,H b=some (.gT ps)->∃more,H' b=some (.gT (ps++more)))
  (ns:∀m,s.heap.Ns X.env.locals m->h'.Ns X.env.locals m) (aq:bY X.prog X.w H' h') (hg:AllBare g'):
  Inv X pins σ H' {s with heap:=h',gens:=g',drawn:=d',toks:=t'} :=by
 have Dc:∀b o,X.cM.heap.get? b=some o->b≠X.env.locals:=fun b o e=>Za1 (Za7 (ZaC e) I.ok.above);have fj:∀b o,X.cM.heap.get? b=some o->b∉X.ex->b∉ch:=fun b o e hx hb=>by
  rcases (jK b hb).1 with z |z
  ·exact hx z
  ·exact absurd (Za7 (ZaC e) z) (Zdg _)
 have cellK:∀x c,X.env.cells.lookup x=some c->∀v,s.heap.IsCell c v->h'.IsCell c v:=fun x c e v ⟨o,ho,hd⟩=>by
  have qz:c∉ch:=fun z=> (jK c z).2.2.1 x c e rfl;by_cases hc:c∈X.fs
  ·obtain⟨sl,q⟩:=slot c o (I.nG x c e) hc qz ho (I.ja x c e);exact⟨_,q,hd⟩
  ·exact⟨o,keep c o (I.nG x c e) hc qz ho (I.ja x c e),hd⟩
 refine⟨I.ok,I.os,hg,⟨fun b o e n hb hx=> ?_,fun b o e n hb hx=> ?_,fun b o e n hx=> ?_,fun b o e hx=> ?_,fun b xs e=>jq b xs (I.base.jq b xs e),fun b o xs e=>i9 b o xs (I.base.i9 b o xs e),fun b ps e=> ?_⟩,?_,fun x c e=> ?_,?_,fun x c e=> ?_,fun p hp=> ?_,aq,I.len⟩
 ·exact keep b o (Dc b o e) hb (fj b o e hx) (I.base.keep b o e n hb hx) (I.base.free b o e n hx)
 ·obtain⟨sl,e1⟩:=I.base.slot b o e n hb hx;obtain⟨Kf,e2⟩:=slot b _ (Dc b o e) hb (fj b o e hx) e1 (I.base.free b o e n hx);exact⟨Kf,e2⟩
 ·obtain⟨o',e1⟩:=I.base.there b o e hx;exact free b o' (fj b o e hx) e1 (I.base.free b o e n hx)
 ·obtain⟨o',e1⟩:=I.base.there b o e hx;exact there b o' (fj b o e hx) e1
 ·obtain⟨m1,e1⟩:=I.base.iC b ps e;obtain⟨m2,e2⟩:=iC b _ e1;exact⟨m1++m2,by rw[e2,Array.append_assoc]⟩
 ·obtain⟨m,hn,hl⟩:=I.loc;refine⟨m,ns m hn,fun i x v e1 e2 e3=> ?_⟩;obtain⟨u,r,l⟩:=hl i x v e1 e2 e3;refine⟨u,r,?_⟩;rcases l with l |⟨k,c,e,z⟩
  ·exact .inl l
  ·exact .inr ⟨k,c,e,cellK x c e _ z⟩
 ·obtain⟨v,z⟩:=I.cell x c e;exact⟨v,cellK x c e v z⟩
 ·obtain⟨m,⟨o,_,_,ho,_⟩,_⟩:=I.loc;exact free _ o (fun z=> (jK _ z).2.1 rfl) ho I.free
 ·obtain⟨v,o,ho,hd⟩:=I.cell x c e;exact free c o (fun z=> (jK c z).2.2.1 x c e rfl) ho (I.ja x c e)
 ·obtain⟨e,n,ne,nf,d⟩:=I.pin p hp;have qz:p.1∉ch:=fun z=> (jK p.1 z).2.2.2 p hp rfl;exact⟨keep p.1 p.2 ne nf qz e n,free p.1 p.2 qz e n,ne,nf,d⟩
theorem Inv.un {t':Nat}(I:Inv X pins σ H s)(u:Un X.fs [] H H' s.heap h')(aq:bY X.prog X.w H' h'):Inv X pins σ H' {s with heap:=h',toks:=t'} :=by
 obtain⟨m,⟨o,es,ep,ho,r⟩,_⟩:=id I.loc;obtain⟨sl,hL⟩:=u.any ho I.free (by simp);exact I.step (g':=s.gens) (d':=s.drawn) (ch:=[]) (fun _ z=>nomatch z) (fun b o _ hb _ e n=>u.keep b o e n hb (by simp)) (fun b o _ hb _ e n=>u.slot b o e n hb (by simp)) (fun b o _ e n=>u.free b o e n (by simp)) (fun b o _ e=>u.there b o e (by simp)) u.jq u.i9 u.iC (fun m' hm=>by obtain⟨o',dI,vk,cQ,r'⟩:=hm;rw[ho]at cQ;cases cQ;exact⟨_,dI,vk,hL,r'⟩) aq I.bare
theorem Inv.call {g':Array GenState}{t':Nat}{d':Drawn}{ch:List Addr}(I:Inv X pins σ H s)(u:Un (gN X.stack) ch H H' s.heap h')(aq:bY X.prog X.w H' h')(hg:AllBare g')
  (jK:∀b∈ch,(b∈X.ex∨X.cM.heap.objs.size<=b)/\b≠X.env.locals/\(∀x c,X.env.cells.lookup x=some c->c≠b)/\∀p∈X.pn++pins,p.1≠b):
  Inv X pins σ H' {s with heap:=h',gens:=g',drawn:=d',toks:=t'} :=by
 obtain⟨m,⟨o,es,ep,ho,r⟩,_⟩:=id I.loc;obtain⟨sl,hL⟩:=u.any ho I.free fun z=> (jK _ z).2.1 rfl;exact I.step (ch:=ch) jK (fun b o hL hb hc e n=>u.keep b o e n (fun z=> (Zav.mp (I.wj b z)).elim hL hb) hc) (fun b o _ _ hc e n=>u.any e n hc) (fun b o hc e n=>u.free b o e n hc) (fun b o hc e=>u.there b o e hc) u.jq u.i9 u.iC (fun m' hm=>by obtain⟨o',dI,vk,cQ,r'⟩:=hm;rw[ho]at cQ;cases cQ;exact⟨_,dI,vk,hL,r'⟩) aq hg
theorem Inv.turned {t':Nat}{it:Addr}(I:Inv X pins σ H s)(k:∀b o,b≠it->s.heap.get? b=some o->h'.get? b=some o)(hn:H it=none)(hL:it≠X.env.locals)
  (h1:it∈X.ex∨X.cM.heap.objs.size<=it) (h2:∀x c,X.env.cells.lookup x=some c->c≠it) (h3:∀p∈X.pn++pins,p.1≠it):Inv X pins σ H {s with heap:=h',toks:=t'} :=by
 have C8:∀b u,H b=some u->b≠it:=fun b u e z=>by rw[z,hn]at e;cases e
 refine I.step (g':=s.gens) (d':=s.drawn) (ch:=[it]) (fun b hb=> ?_) (fun b o _ _ hc e _=>k b o (fun z=>hc (by simp[z])) e) (fun b o _ _ hc e _=> ⟨o.slots,k b o (fun z=>hc (by simp[z])) e⟩) (fun _ _ _ _ n=>n)
  (fun b o hc e=> ⟨o,k b o (fun z=>hc (by simp[z])) e⟩) (fun _ _ e=>e) (fun _ _ _ e=>e) (fun b ps e=> ⟨#[],by rw[e];simp⟩) (fun m hm=> ?_) (fun b u e=> ?_) I.bare
 ·have e:b=it:=by simpa using hb
  subst e;exact⟨h1,hL,h2,h3⟩
 ·obtain⟨o,es,ep,ho,r⟩:=hm;exact⟨o,es,ep,k _ o (Zd3 hL) ho,r⟩
 ·refine(I.aq b u e).cq (fun c v hc q=>k c v ?_ q) (fun _ q=>q) fun _ _ q=>q;rcases hc with z |z
  ·rw[z];exact C8 b u e
  ·exact C8 c _ z
theorem Inv.tok (I:Inv X pins σ H s)(t:Nat):Inv X pins σ H {s with toks:=t} :=I.un (h':=s.heap) (t':=t) Un.refl I.aq
theorem Inv.kept {t':Nat}(I:Inv X pins σ H s)(k:∀b u,s.heap.get? b=some u->h'.get? b=some u):Inv X pins σ H {s with heap:=h',toks:=t'} :=I.un (Un.kept k) (I.aq.kept k)
theorem Inv.laid {a:Addr}{o:HO}{t':Nat}(I:Inv X pins σ H s)(k:∀b u,s.heap.get? b=some u->h'.get? b=some u)(hp:s.heap.objs.size<=a)(new:bG X.prog X.w (upd H a o) h' a o):
  Inv X pins σ (upd H a o) {s with heap:=h',toks:=t'} :=I.un (Un.laid k hp (I.aq.fresh hp)) (I.aq.laid k hp new)
theorem Inv.write {x e:Addr}{o:HO}{t':Nat}(I:Inv X pins σ H s)(mu:r9 (H x))(he:e=x∨H e=some (.own x))(k:∀b u,b≠e->s.heap.get? b=some u->h'.get? b=some u)(oX:∃u,h'.get? e=some u)
  (new:bG X.prog X.w (upd H x o) h' x o):Inv X pins σ (upd H x o) {s with heap:=h',toks:=t'} :=I.un (Un.write mu he k oX) (I.aq.write mu he k oX new)
theorem Inv.CP {CQ:List (Addr×Obj)}(I:Inv X pins σ H s)(h:∀p∈CQ,s.heap.get? p.1=some p.2/\H p.1=none/\p.1≠X.env.locals/\p.1∉X.fs/\∀v,p.2.data≠.cell v):Inv X CQ σ H s:=
 ⟨I.ok,I.os,I.bare,I.base,I.loc,I.cell,I.free,I.ja,fun p hp=> (ZaO.mp hp).elim (fun z=>I.pin p (Za3 _ z)) (h p),I.aq,I.len⟩
theorem GZ {N:List Str}(hN:N.Nodup){i j:Nat}{x:Str}(a:N[i]? =some x)(b:N[j]? =some x):i=j:=by obtain⟨h1,e1⟩:=Zaa.mp a;obtain⟨h2,e2⟩:=Zaa.mp b;exact(List.getElem_inj hN).mp (e1.trans e2.symm)
theorem Ut {M:Model}{A:Around}{E:Value->Shared->Prop}{i:Nat}{x:Str}{v:V}{u:Value}{Q:Unit->Shared->Prop}(I:Inv X pins σ H s)(hN:X.N.Nodup)(hi:X.N[i]? =some x)(hx:Loc X.env.scope x)(r:RelV v u)
  (h:∀s',Inv X pins (σ.set i (some v)) H s'->(∃a,Heap.SameBut a s.heap s'.heap/\(a=X.env.locals∨X.env.cells.lookup x=some a))->Q () s') (hf:X.fn x=true∨X.env.scope.names.lookup x=some .local:=by first |exact .inl rfl |exact .inr rfl |assumption):wpAny M A (storeName X.env x u) Q E s:=by
 obtain⟨m,hn,hl⟩:=id I.loc;have OV:(X.env.scope.kind==.class||(X.env.scope.kind==.module&&X.env.locals !=X.env.globals))=false:=by rw[I.ok.kind];rfl
 have Ee:i<σ.length:=by rw[I.len];exact(Zaa.mp hi).1
 have nG:=I.nG;have tracked:∀{a:Addr}{h':Heap},(∃o,s.heap.get? a=some o/\H a=none)->Heap.SameBut a s.heap h'->bY X.prog X.w H h':=fun {a h'} ha hs b ob e=>by
  obtain⟨_,_,Eh⟩:=ha;refine(I.aq b ob e).cq (fun c w' hc q=> (hs.2 c ?_).trans q) (fun _ q=>q) fun _ _ q=>q;rintro rfl;rcases hc with rfl |hc
  ·rw[Eh]at e;cases e
  ·rw[Eh]at hc;cases hc
 rcases hx with hk |hk
 ·refine wpAny_storeName_local hk hn (fun h' ra hs=> ?_) OV;obtain⟨oL,_,_,lQ,_⟩:=id hn;refine h _ ⟨I.ok,I.os,I.bare,⟨fun b o e n hb hx=> ?_,fun b o e n hb hx=> ?_,I.base.free,fun b o e hx=> ?_,I.base.jq,I.base.i9,I.base.iC⟩,⟨_,ra,fun j y v' e1 e2 e3=> ?_⟩,fun y c e=> ?_,I.free,I.ja,fun p hp=> ?_,tracked ⟨oL,lQ,I.free⟩ hs,by simpa using I.len⟩ ⟨_,hs,.inl rfl⟩
  ·exact(hs.2 b (Za1 (Za7 (ZaC e) I.ok.above))).trans (I.base.keep b o e n hb hx)
  ·obtain⟨sl,e1⟩:=I.base.slot b o e n hb hx;exact⟨sl,(hs.2 b (Za1 (Za7 (ZaC e) I.ok.above))).trans e1⟩
  ·obtain⟨o',e1⟩:=I.base.there b o e hx;exact⟨o',(hs.2 b (Za1 (Za7 (ZaC e) I.ok.above))).trans e1⟩
  ·by_cases hj:j=i
   ·subst hj;rw[hi]at e1;cases e1;rw[Zet Ee]at e2;cases e2;exact⟨u,r,.inl ⟨hk,by simp⟩⟩
   ·rw[Zd2 (Zd3 hj)]at e2;obtain⟨u',r',q⟩:=hl j y v' e1 e2 e3;refine⟨u',r',?_⟩;rcases q with ⟨k,e⟩ |⟨k,c,e,z⟩
    ·refine .inl ⟨k,?_⟩;have:y≠x:=fun e=>hj (GZ hN e1 (e▸hi));simp[this,e]
    ·exact .inr ⟨k,c,e,z.sameBut hs (nG y c e)⟩
  ·obtain⟨w',z⟩:=I.cell y c e;exact⟨w',z.sameBut hs (nG y c e)⟩
  ·obtain⟨e,n,ne,nf,d⟩:=I.pin p hp;exact⟨(hs.2 p.1 ne).trans e,n,ne,nf,d⟩
 ·have i5:X.fn x=true:=by
   rcases hf with z |z
   ·exact z
   ·rw[z]at hk;cases hk
  obtain⟨c,hc⟩:=I.ok.has x (.inl hk);obtain⟨w',z⟩:=I.cell x c hc;refine wpAny_storeName_cell I.ok.kind hk hc z (fun h' bL hs=> ?_);obtain⟨oc,DV,Oe⟩:=id z;refine h {s with heap:=h'} ⟨I.ok,I.os,I.bare,⟨fun b o e n hb hx=> ?_,fun b o e n hb hx=> ?_,I.base.free,fun b o e hx=> ?_,I.base.jq,I.base.i9,I.base.iC⟩,⟨m,hn.sameBut hs (Zd3 (nG x c hc)),fun j y v' e1 e2 e3=> ?_⟩,fun y c' e=> ?_,I.free,I.ja,fun p hp=> ?_,tracked ⟨oc,DV,I.ja x c hc⟩ hs,by simpa using I.len⟩ ⟨c,hs,.inr hc⟩
  ·exact(hs.2 b (Za1 (Za7 (ZaC e) (I.ok.pe x c i5 hc)))).trans (I.base.keep b o e n hb hx)
  ·obtain⟨sl,e1⟩:=I.base.slot b o e n hb hx;exact⟨sl,(hs.2 b (Za1 (Za7 (ZaC e) (I.ok.pe x c i5 hc)))).trans e1⟩
  ·obtain⟨o',e1⟩:=I.base.there b o e hx;exact⟨o',(hs.2 b (Za1 (Za7 (ZaC e) (I.ok.pe x c i5 hc)))).trans e1⟩
  ·by_cases hj:j=i
   ·subst hj;rw[hi]at e1;cases e1;rw[Zet Ee]at e2;cases e2;exact⟨u,r,.inr ⟨.inl hk,c,hc,bL⟩⟩
   ·rw[Zd2 (Zd3 hj)]at e2;obtain⟨u',r',q⟩:=hl j y v' e1 e2 e3;refine⟨u',r',?_⟩;rcases q with q |⟨k,c',e,z'⟩
    ·exact .inl q
    ·refine .inr ⟨k,c',e,z'.sameBut hs ?_⟩;rintro rfl;exact hj (GZ hN e1 (I.ok.inj _ _ _ e hc▸hi))
  ·by_cases u3:c'=c
   ·subst u3;exact⟨_,bL⟩
   ·obtain⟨w2,z2⟩:=I.cell y c' e;exact⟨w2,z2.sameBut hs u3⟩
  ·obtain⟨e,n,ne,nf,d⟩:=I.pin p hp;refine⟨(hs.2 p.1 ?_).trans e,n,ne,nf,d⟩;intro q;rw[q,DV]at e;have q':oc=p.2:=Zbh e;exact d w' (by rw[<-q'];exact Oe)
theorem Jl {M:Model}{A:Around}{E:Value->Shared->Prop}{i:Nat}{x:Str}{v:V}{u:Value}{Q:Unit->Shared->Prop}(I:Inv X pins σ H s)(hN:X.N.Nodup)(hi:X.N[i]? =some x)(hx:Loc X.env.scope x)(r:RelV v u)
  (h:∀s',Inv X pins (σ.set i (some v)) H s'->Q () s') (hf:X.fn x=true∨X.env.scope.names.lookup x=some .local:=by first |exact .inl rfl |exact .inr rfl |assumption):wpAny M A (storeName X.env x u) Q E s:=
 Ut I hN hi hx r (fun s' I' _=>h s' I') hf
theorem Inv.Fc {s':Shared}{ch:List Addr}(I:Inv X pins σ H s)(ho:s'.os=s.os)(u:Un (gN X.stack) ch H H' s.heap s'.heap)(aq:bY X.prog X.w H' s'.heap)(hg:AllBare s'.gens)
  (jK:∀b∈ch,(b∈X.ex∨X.cM.heap.objs.size<=b)/\b≠X.env.locals/\(∀x c,X.env.cells.lookup x=some c->c≠b)/\∀p∈X.pn++pins,p.1≠b):Inv X pins σ H' s':=by
 obtain⟨h',g',d',t',o'⟩:=s';have e:o'=s.os:=ho;subst e;exact I.call (g':=g') (t':=t') (d':=d') u aq hg jK
end
abbrev XK:=Value->Option Addr->Hp->Prop
abbrev St:=List (Option V)
abbrev VK:=V->Hp->Prop
abbrev TE:=St->Hp->VK->Prop
abbrev TT:=St->Hp->(Bool->Hp->Prop)->Prop
abbrev TA:=St->Hp->(List V->Hp->Prop)->Prop
structure Ends where
 nx:St->Hp->Prop
 rt:VK
 bk:St->Hp->Prop:=fun _ _=>False
 ct:St->Hp->Prop:=fun _ _=>False
abbrev TS:=Ends->St->Hp->Prop
def EP (X:Cx)(pins:List (Addr×Obj))(σ:St)(Q:VK)(u:Value)(s':Shared):Prop:=∃v H',Inv X pins σ H' s'/\RelV v u/\Q v H'
def TP (X:Cx)(pins:List (Addr×Obj))(σ:St)(Q:Bool->Hp->Prop)(b:Bool)(s':Shared):Prop:=∃H',Inv X pins σ H' s'/\Q b H'
def AP (X:Cx)(pins:List (Addr×Obj))(σ:St)(Q:List V->Hp->Prop)(us:List Value)(s':Shared):Prop:=∃vs H',Inv X pins σ H' s'/\Vals vs us/\Q vs H'
def SP (X:Cx)(pins:List (Addr×Obj))(D:Ends)(f:Flow)(s':Shared):Prop:=
 match f with
 | .next=> ∃ak H',Inv X pins ak H' s'/\D.nx ak H'
 | .brk=> ∃ak H',Inv X pins ak H' s'/\D.bk ak H'
 | .cont=> ∃ak H',Inv X pins ak H' s'/\D.ct ak H'
 | .ret u=> ∃v ak H',Inv X pins ak H' s'/\RelV v u/\D.rt v H'
def PE (X:Cx)(e:Expr)(t:TE):Prop:=
 ∀(pins:List (Addr×Obj)) (s:Shared) (σ:St) (H:Hp) (Q:VK),Inv X pins σ H s->t σ H Q->wpAny (model X.prog X.w) X.A (eval e X.env) (EP X pins σ Q) X.xe s
def PT (X:Cx)(e:Expr)(t:TT):Prop:=
 ∀(pins:List (Addr×Obj)) (s:Shared) (σ:St) (H:Hp) (Q:Bool->Hp->Prop),Inv X pins σ H s->t σ H Q->wpAny (model X.prog X.w) X.A (isTrue e X.env (eval e X.env)) (TP X pins σ Q) X.xe s
def PW (X:Cx)(e:Expr)(t:TT):Prop:=
 ∀(whole:Sem Value) (pins:List (Addr×Obj)) (s:Shared) (σ:St) (H:Hp) (Q:Bool->Hp->Prop),Inv X pins σ H s->t σ H Q->wpAny (model X.prog X.w) X.A (isTrue e X.env whole) (TP X pins σ Q) X.xe s
theorem PW.pt {X:Cx}{e:Expr}{t:TT}(h:PW X e t):PT X e t:=h _
def PA (X:Cx)(es:List Expr)(t:TA):Prop:=
 ∀(pos:Pos) (pins:List (Addr×Obj)) (s:Shared) (σ:St) (H:Hp) (Q:List V->Hp->Prop),Inv X pins σ H s->t σ H Q->wpAny (model X.prog X.w) X.A (spliced (backTo pos (starEach es X.env))) (AP X pins σ Q) X.xe s
def PS (X:Cx)(st:Stmt)(t:TS):Prop:=
 ∀(pins:List (Addr×Obj)) (s:Shared) (σ:St) (H:Hp) (D:Ends),Inv X pins σ H s->t D σ H->wpAny (model X.prog X.w) X.A (exec st X.env) (SP X pins D) X.xe s
def fz (X:Cx)(st:List Stmt)(t:TS):Prop:=
 ∀(pins:List (Addr×Obj)) (s:Shared) (σ:St) (H:Hp) (D:Ends),Inv X pins σ H s->t D σ H->wpAny (model X.prog X.w) X.A (execs st X.env) (SP X pins D) X.xe s
theorem au {α:Type}{t:Sem α}{Q Q':α->Shared->Prop}{M:Model}{A:Around}{E:Value->Shared->Prop}{s:Shared}(h:wpAny M A t Q E s)(hQ:∀a s,Q a s->Q' a s):wpAny M A t Q' E s:=ZcD h hQ fun _ _ x=>x
section
variable {X:Cx}
inductive wb (i:Nat) (σ:St) (H:Hp) (Q:VK):Prop
 |mk (v:_) (_:σ[i]? =some (some v)) (_:Q v H)
def tC (v:V):TE:=fun _ H Q=>Q v H
theorem SF {i:Nat}{x:Str}{pos:Pos}(hN:X.N[i]? =some x)(hv:vG X.env.scope x)(hd:(x==("__debug__" :Str))=false:=by decide)(hJ:(x==("__classdict__" :Str))=false:=by decide):PE X (.Name x pos) (wb i):=by
 intro pins s σ H Q I h;obtain⟨v,e,h⟩:=h;obtain⟨m,hn,hl⟩:=I.loc;obtain⟨u,r,l⟩:=hl i x v hN e hv;have fin:EP X pins σ Q u s:=⟨v,H,I,r,h⟩;rcases l with ⟨hk,hm⟩ |⟨hk,c,hc,uZ⟩
 ·exact wpAny_Name (wpAny_loadName_local I.ok.kind hk hn hm fin) hd
 ·rcases hk with hk |hk
  ·exact wpAny_Name (wpAny_loadName_cell I.ok.kind hk hc uZ fin) hd
  ·exact wpAny_Name (wpAny_loadName_free I.ok.kind hk hc uZ fin hJ) hd
theorem Zf {i j pos} :PE X (.Constant (.int i) j pos) (tC (.int i)):=fun _ _ _ H _ I h=>wpAny_Constant_int ⟨.int i,H,I.tok _,⟨_,rfl⟩,h⟩
theorem Ao {b j pos} :PE X (.Constant (.bool b) j pos) (tC (.bl b)):=fun _ _ _ H _ I h=>Constant_bool ⟨.bl b,H,I,rfl,h⟩
theorem YN {j pos} :PE X (.Constant .none j pos) (tC .ah):=fun _ _ _ H _ I h=>Constant_none ⟨.ah,H,I,rfl,h⟩
def Gl (X:Cx)(x:Str):Prop:=X.env.kindOf x=some .globalImplicit
theorem AF {E:Value->Shared->Prop}{pins:List (Addr×Obj)}{s:Shared}{σ:St}{H:Hp}{x:Str}{u:Value}{pos:Pos}{Q:Value->Shared->Prop}(I:Inv X pins σ H s)(hg:Gl X x)(hm:X.mg x=some u)(h:Q u s)
  (hd:(x==("__debug__" :Str))=false:=by decide):wpAny (model X.prog X.w) X.A (eval (.Name x pos) X.env) Q E s:=
 ZfO I.ok.kind hg (Calls.loadGlobal_global (by rw[I.ok.glob];exact I.mod.glob.keeps I.bk) hm h) hd
theorem Z8 {E:Value->Shared->Prop}{pins:List (Addr×Obj)}{s:Shared}{σ:St}{H:Hp}{x:Str}{u:Value}{pos:Pos}{Q:Value->Shared->Prop}(I:Inv X pins σ H s)(hg:Gl X x)(hm:X.mg x=none)(hv:bootBuiltins x=some u)(h:Q u s)
  (hn:x≠ "__name__" :=by decide) (hd:(x==("__debug__" :Str))=false:=by decide):wpAny (model X.prog X.w) X.A (eval (.Name x pos) X.env) Q E s:=by
 obtain⟨mb,h1,h2⟩:=I.mod.blt;exact ZfO I.ok.kind hg (Calls.loadGlobal_builtin (by rw[I.ok.glob];exact I.mod.glob.keeps I.bk) hm (by rw[I.ok.blt];exact h1.keeps I.bk) ((h2 x hn).trans hv) h) hd
theorem Yf {x:Str}{v:V}{u:Value}{pos:Pos}(hg:Gl X x)(hm:X.mg x=some u)(r:RelV v u)(hd:(x==("__debug__" :Str))=false:=by decide):PE X (.Name x pos) (tC v):=
 fun _ _ _ H _ I h=>AF I hg hm ⟨v,H,I,r,h⟩ hd
theorem Jq {x:Str}{v:V}{u:Value}{pos:Pos}(hg:Gl X x)(hm:X.mg x=none)(hv:bootBuiltins x=some u)(r:RelV v u)(hn:x≠ "__name__" :=by decide)(hd:(x==("__debug__" :Str))=false:=by decide):PE X (.Name x pos) (tC v):=
 fun _ _ _ H _ I h=>Z8 I hg hm hv ⟨v,H,I,r,h⟩ hn hd
variable {a b:Expr}{ta tb:TE}{pos:Pos}
def PC (X:Cx)(op:CmpOp)(a b:Expr)(t:TE):Prop:=
 ∀(pins:List (Addr×Obj)) (s:Shared) (σ:St) (H:Hp) (Q:VK),Inv X pins σ H s->t σ H Q->
  wpAny (model X.prog X.w) X.A (eval a X.env) (fun v aR=>wpAny (model X.prog X.w) X.A (eval b X.env) (fun u nV=>wpAny (model X.prog X.w) X.A (compareOp op v u) (EP X pins σ Q) X.xe nV) X.xe aR) X.xe s
theorem C7 (b:Expr){op:CmpOp}(h:op≠.In)(h2:op≠.NotIn):behindInMarks op b=false:=by
 have e1:(op==CmpOp.In)=false:=by cases op<;>first |rfl |exact absurd rfl h
 have e2:(op==CmpOp.NotIn)=false:=by cases op<;>first |rfl |exact absurd rfl h2
 cases b<;>simp[behindInMarks,e1,e2]
def IS (ta:TE):TE:=fun σ H Q=>ta σ H fun x H1=>Q (.bl (decide (x=.ah))) H1
def IG (ta:TE):TE:=fun σ H Q=>ta σ H fun x H1=>Q (.bl (!decide (x=.ah))) H1
theorem RelV.C5 {x:V}{v:Value}(r:RelV x v):(v==Value.none)=decide (x=.ah):=by
 cases x with
 |ah=>cases r;rfl
 |bl _=>cases r;rfl
 |int _=>obtain⟨t,rfl⟩:=r;rfl
 |str _=>obtain⟨t,rfl⟩:=r;rfl
 |ig _=>obtain⟨t,rfl⟩:=r;rfl
 |kC _=>obtain⟨t,rfl⟩:=r;rfl
 |ref _=>cases r;rfl
 |ty _=>cases r;rfl
theorem Av {j pos'}(ha:PE X a ta):PC X .Is a (.Constant .none j pos') (IS ta):=by intro pins s σ H Q I h;refine au (ha pins s σ H _ I h) fun v s1 ae=> ?_;obtain⟨x,H1,I1,r1,q1⟩:=ae;exact Constant_none (is_none_gen ⟨.bl _,H1,I1,by rw[r1.C5];rfl,q1⟩)
theorem Wm {j pos'}(ha:PE X a ta):PC X .IsNot a (.Constant .none j pos') (IG ta):=by intro pins s σ H Q I h;refine au (ha pins s σ H _ I h) fun v s1 ae=> ?_;obtain⟨x,H1,I1,r1,q1⟩:=ae;exact Constant_none (isnot_none_gen ⟨.bl _,H1,I1,by rw[r1.C5];rfl,q1⟩)
inductive Hw (Q:Bool->Hp->Prop) (x:V) (H:Hp):Prop
 |mk (k:Bool) (e:x=.bl k) (q:Q k H)
def tB (t:TE):TT:=fun σ H Q=>t σ H (Hw Q)
theorem Te {op:CmpOp}{t:TE}(h:PC X op a b t)(h1:behindInMarks op b=false:=by first |exact C7 _ .d .d |rfl):PE X (.Compare a [op] [b] pos) t:=fun pins s σ H Q I hw=>wpAny_Compare1 (h pins s σ H Q I hw) h1
theorem JJ {op:CmpOp}{t:TE}(h:PC X op a b t)(h1:behindInMarks op b=false:=by first |exact C7 _ .d .d |rfl):PT X (.Compare a [op] [b] pos) (tB t):=by intro pins s σ H Q I hw;refine wpAny_isTrue_Compare1 (au (h pins s σ H _ I hw) fun v s1 h1=>au h1 fun u s2 h2=>au h2 fun c s3 ae=> ?_) h1;obtain⟨x,H1,I1,r1,q1⟩:=ae;obtain⟨d,rfl,q⟩:=q1;cases r1;exact Zc6 ⟨H1,I1,q⟩
theorem Yi {e:Expr}{t:TE}(h:PE X e t)(he:∀whole,isTrue e X.env whole=(do let v <-whole;standAt e.pos;holding [v] (truthy v)):=by intro _;rfl):PT X e (tB t):=by intro pins s σ H Q I hw;refine isTrue_plain (au (h pins s σ H _ I hw) fun v s1 ae=> ?_) (he _);obtain⟨x,H1,I1,r1,q1⟩:=ae;obtain⟨d,rfl,q⟩:=q1;cases r1;exact Zc6 ⟨H1,I1,q⟩
variable {tA sW:TT}{rest:List Expr}
def Kb (t u:TT):TT:=fun σ H Q=>t σ H fun c H1=>if c=true then u σ H1 Q else Q false H1
def IE (t u:TT):TT:=fun σ H Q=>t σ H fun c H1=>if c=true then Q true H1 else u σ H1 Q
def IH (t:TT):TT:=fun σ H Q=>t σ H fun c H1=>Q (!c) H1
theorem AQ (ha:PT X a tA):PW X (.BoolOp .And [a] pos) tA:=by
 intro wh pins s σ H Q I h;refine isTrue_and (au (ha pins s σ H Q I h) fun c s1 e=> ?_);cases c with
 |true=>exact isTrue_and_nil e
 |false=>exact e
theorem YM (ha:PT X a tA):PW X (.BoolOp .Or [a] pos) tA:=by
 intro wh pins s σ H Q I h;refine isTrue_or (au (ha pins s σ H Q I h) fun c s1 e=> ?_);cases c with
 |false=>exact isTrue_or_nil e
 |true=>exact e
theorem Az (ha:PT X a tA)(hb:PW X (.BoolOp .And (b::rest) pos) sW):PW X (.BoolOp .And (a::b::rest) pos) (Kb tA sW):=by
 intro wh pins s σ H Q I h;refine isTrue_and (au (ha pins s σ H _ I h) fun c s1 ae=> ?_);obtain⟨H1,I1,q1⟩:=ae;cases c with
 |true=>exact hb wh pins s1 σ H1 Q I1 q1
 |false=>exact⟨H1,I1,q1⟩
theorem J8 (ha:PT X a tA)(hb:PW X (.BoolOp .Or (b::rest) pos) sW):PW X (.BoolOp .Or (a::b::rest) pos) (IE tA sW):=by
 intro wh pins s σ H Q I h;refine isTrue_or (au (ha pins s σ H _ I h) fun c s1 ae=> ?_);obtain⟨H1,I1,q1⟩:=ae;cases c with
 |true=>exact⟨H1,I1,q1⟩
 |false=>exact hb wh pins s1 σ H1 Q I1 q1
theorem YE (ha:PT X a tA):PT X (.UnaryOp .Not a pos) (IH tA):=by intro pins s σ H Q I h;exact isTrue_not (ha pins s σ H (fun c H1=>Q (!c) H1) I h)
def Ka (ta tb:TE):TE:=fun σ H Q=>ta σ H fun x H1=> ∃c,x=.bl c/\if c=true then tb σ H1 Q else Q (.bl false) H1
def IF (ta:TE):TE:=fun σ H Q=>ta σ H fun x H1=> ∃c,x=.bl c/\Q (.bl (!c)) H1
theorem YF {op}{t:TE}(h:PE X a t):PE X (.BoolOp op [a] pos) t:=fun pins s σ H Q I hw=>BoolOp_one (h pins s σ H Q I hw)
theorem YH (ha:PE X a ta)(hb:PE X (.BoolOp .And (b::rest) pos) tb):PE X (.BoolOp .And (a::b::rest) pos) (Ka ta tb):=by
 intro pins s σ H Q I h;refine BoolOp_and (au (ha pins s σ H _ I h) fun v s1 ae=> ?_);obtain⟨x,H1,I1,r1,q1⟩:=ae;obtain⟨c,rfl,q1⟩:=q1;cases r1;refine Zc6 ?_;cases c with
 |true=>exact hb pins s1 σ H1 Q I1 q1
 |false=>exact⟨.bl false,H1,I1,rfl,q1⟩
theorem Tf (ha:PE X a ta):PE X (.UnaryOp .Not a pos) (IF ta):=by intro pins s σ H Q I h;refine UnaryOp_ (au (ha pins s σ H _ I h) fun v s1 ae=> ?_);obtain⟨x,H1,I1,r1,q1⟩:=ae;obtain⟨c,rfl,q1⟩:=q1;cases r1;exact not_of (Zc6 ⟨.bl (!c),H1,I1,rfl,q1⟩)
def BG (t:TT)(ta tb:TE):TE:=fun σ H Q=>t σ H fun c H1=>if c=true then ta σ H1 Q else tb σ H1 Q
theorem Yy {c:Expr}(hc:PT X c tA)(ha:PE X a ta)(hb:PE X b tb):PE X (.IfExp c a b pos) (BG tA ta tb):=by
 intro pins s σ H Q I h;refine wpAny_IfExp (au (hc pins s σ H _ I h) fun d s1 ae=> ?_);obtain⟨H1,I1,q1⟩:=ae;cases d with
 |true=>exact ha pins s1 σ H1 Q I1 q1
 |false=>exact hb pins s1 σ H1 Q I1 q1
end
def ai (K:ZhK)(H:Hp)(a:Addr)(xs:List V):Prop:=
 Rd H a (.lst xs)∨
  ∃(o:Obj) (aa:Array Value) (n:Nat),K.lookup a=some o/\o.cls=.type "list" /\o.dict=none/\o.data=.seq aa n/\aa.size<=sizeLine/\Vals xs aa.toList
def ab (K:ZhK)(H:Hp)(a:Addr)(xs:List V):Prop:=
 Rd H a (.tup xs)∨
  (∃(o:Obj) (aa:Array Value) (n:Nat),K.lookup a=some o/\o.cls=.type "tuple" /\o.data=.seq aa n/\aa.size<=sizeLine/\Vals xs aa.toList)∨H a=some (.par xs)
noncomputable def rX:Value->Option V
 | .none=>some .ah
 | .bool b=>some (.bl b)
 | .int i _=>some (.int i)
 | .str x _=>some (.str x)
 | .bytes b _=>some (.ig b)
 | .float b _=>some (.kC b)
 | .ref a=>some (.ref a)
 | .type n=>some (.ty n)
 |_=>none
theorem RelV.abs {x:V}{u:Value}(r:RelV x u):rX u=some x:=by
 cases x with
 |ah=>cases r;rfl
 |bl _=>cases r;rfl
 |int _=>obtain⟨t,rfl⟩:=r;rfl
 |str _=>obtain⟨t,rfl⟩:=r;rfl
 |ig _=>obtain⟨t,rfl⟩:=r;rfl
 |kC _=>obtain⟨t,rfl⟩:=r;rfl
 |ref _=>cases r;rfl
 |ty _=>cases r;rfl
theorem RelV.inj {x y:V}{u:Value}(r:RelV x u)(q:RelV y u):x=y:=Zbh (r.abs.symm.trans q.abs)
theorem Vals.inj:∀{xs ys:List V}{us:List Value},Vals xs us->Vals ys us->xs=ys
 |_,_,_,.nil,.nil=>rfl
 |_,_,_,.cons r t,.cons r' t'=>by rw[r.inj r',Vals.inj t t']
section
variable {X:Cx}{pins:List (Addr×Obj)}{σ:St}{H:Hp}{s:Shared}{a:Addr}{xs ys:List V}
theorem ai.of {K:ZhK}(h:H a=some (.lst xs)):ai K H a xs:=.inl (.inl h)
theorem ab.of {K:ZhK}(h:H a=some (.tup xs)):ab K H a xs:=.inl (.inl h)
theorem ab.mS {K:ZhK}(h:H a=some (.par xs)):ab K H a xs:=.inr (.inr h)
theorem Inv.list (I:Inv X pins σ H s)(h:ai X.K H a xs):∃aa:List Value,Vals xs aa/\PlainL s.heap a aa.toArray/\xs.length<=sizeLine:=by
 rcases h with h |⟨o,aa,n,hk,hc,hd,hs,hz,r⟩
 ·obtain⟨z,aa,n,r,e⟩:=h.ok I.aq;exact⟨aa,r,⟨_,n,e,rfl,rfl,rfl⟩,z⟩
 ·refine⟨aa.toList,r,⟨o,n,I.dF a o hk,hc,hd,by simpa using hs⟩,?_⟩;have e:=r.length;simp only[Zau]at e;omega
theorem Inv.tuple (I:Inv X pins σ H s)(h:ab X.K H a xs):∃aa:List Value,Vals xs aa/\IsTup s.heap a aa.toArray/\xs.length<=sizeLine:=by
 rcases h with h |⟨o,aa,n,hk,hc,hs,hz,r⟩ |h
 ·obtain⟨z,aa,r,p,_⟩:=h.ok I.aq;exact⟨aa,r,p,z⟩
 rotate_left
 ·obtain⟨z,aa,r,p⟩:=(show bG X.prog X.w H s.heap a (.par xs) from I.aq a _ h);exact⟨aa,r,p,z⟩
 ·refine⟨aa.toList,r,⟨o,I.dF a o hk,hc,n,by simpa using hs⟩,?_⟩;have e:=r.length;simp only[Zau]at e;omega
theorem Inv.qD (I:Inv X pins σ H s)(h:ai X.K H a xs)(h':ai X.K H a ys):xs=ys:=by
 obtain⟨aa,r,⟨o,n,e,_,_,d⟩,_⟩:=I.list h;obtain⟨its',r',⟨o',n',e',_,_,d'⟩,_⟩:=I.list h';rw[e]at e';cases e';rw[d]at d';injection d' with d1 _;have:aa=its':=by simpa using congrArg Array.toList d1
 subst this;exact r.inj r'
theorem Inv.mF (I:Inv X pins σ H s)(h:ab X.K H a xs)(h':ab X.K H a ys):xs=ys:=by
 obtain⟨aa,r,⟨o,e,_,n,d⟩,_⟩:=I.tuple h;obtain⟨its',r',⟨o',e',_,n',d'⟩,_⟩:=I.tuple h';rw[e]at e';cases e';rw[d]at d';injection d' with d1 _;have:aa=its':=by simpa using congrArg Array.toList d1
 subst this;exact r.inj r'
end
abbrev Cx.jo (X:Cx)(E:Value->Shared->Prop):Cx:= {X with xe:=E}
abbrev Cx.jZ (X:Cx):Cx:=X.jo fun _ _=>False
theorem Cx.Ok.jo {X:Cx}(ok:X.Ok)(E:Value->Shared->Prop):(X.jo E).Ok:=
 ⟨ok.mod,ok.kind,ok.glob,ok.blt,ok.above,ok.inj,ok.has,ok.pe,ok.hd,ok.frames,ok.pT,ok.rK,ok.bs,ok.md,ok.oF,ok.o9,ok.hX,ok.nC⟩
theorem Cx.Ok.kM {X:Cx}{E:Value->Shared->Prop}(ok:(X.jo E).Ok):X.Ok:=
 ⟨ok.mod,ok.kind,ok.glob,ok.blt,ok.above,ok.inj,ok.has,ok.pe,ok.hd,ok.frames,ok.pT,ok.rK,ok.bs,ok.md,ok.oF,ok.o9,ok.hX,ok.nC⟩
section
variable {X:Cx}{pins:List (Addr×Obj)}{σ:St}{H:Hp}{s:Shared}{E:Value->Shared->Prop}
theorem Inv.jo (I:Inv X pins σ H s)(E:Value->Shared->Prop):Inv (X.jo E) pins σ H s:=⟨I.ok.jo E,I.os,I.bare,I.base,I.loc,I.cell,I.free,I.ja,I.pin,I.aq,I.len⟩
theorem Inv.kM (I:Inv (X.jo E) pins σ H s):Inv X pins σ H s:=⟨I.ok.kM,I.os,I.bare,I.base,I.loc,I.cell,I.free,I.ja,I.pin,I.aq,I.len⟩
theorem SP.kM {D:Ends}{f:Flow}{s':Shared}(h:SP (X.jo E) pins D f s'):SP X pins D f s':=by
 cases f with
 |next=>obtain⟨ak,H',I,q⟩:=h;exact⟨ak,H',I.kM,q⟩
 |brk=>obtain⟨ak,H',I,q⟩:=h;exact⟨ak,H',I.kM,q⟩
 |cont=>obtain⟨ak,H',I,q⟩:=h;exact⟨ak,H',I.kM,q⟩
 |ret u=>obtain⟨v,ak,H',I,r,q⟩:=h;exact⟨v,ak,H',I.kM,r,q⟩
theorem fz.jZ {st:List Stmt}{t:TS}(h:fz X.jZ st t):fz X st t:=fun pins s σ H D I hw=>
 ZcD (h pins s σ H D (I.jo _) hw) (fun _ _ q=>q.kM) fun _ _ z=>False.elim z
end
section
variable {X:Cx}{st:Stmt}{rest:List Stmt}{t u:TS}{e:Expr}{te:TE}{pos:Pos}
def wc:TS:=fun D σ H=>D.nx σ H
def pP (t u:TS):TS:=fun D σ H=>t {D with nx:=u D} σ H
theorem ZD:fz X [] wc:=fun _ _ σ H _ I h=>ZgL ⟨σ,H,I,h⟩
theorem Ze (h1:PS X st t)(h2:fz X rest u):fz X (st::rest) (pP t u):=by
 intro pins s σ H D I h;refine wpAny_execs_cons (au (h1 pins s σ H {D with nx:=u D} I h) fun f s1 q=> ?_);cases f with
 |next=>obtain⟨ak,H',I',q⟩:=q;exact h2 pins s1 ak H' D I' q
 |ret v=>exact q
 |brk=>exact q
 |cont=>exact q
theorem Zg (h1:PS X st t):fz X [st] t:=by
 intro pins s σ H D I h;refine wpAny_execs_cons (au (h1 pins s σ H D I h) fun f s1 q=> ?_);cases f with
 |next=>exact ZgL q
 |ret v=>exact q
 |brk=>exact q
 |cont=>exact q
theorem Inv.quiet {pins:List (Addr×Obj)}{σ:St}{H:Hp}{s:Shared}(I:Inv X pins σ H s):interactive X.env=false:=by simp[interactive,I.ok.kind]
def IV (te:TE):TS:=fun D σ H=>te σ H fun _ H1=>D.nx σ H1
theorem ZP (he:PE X e te)(hs:swapsWith e none pos.line X.env=pure false:=by rfl):PS X (.Expr e pos) (IV te):=by intro pins s σ H D I h;exact wpAny_Expr_any (au (he pins s σ H _ I h) fun v s1 ⟨x,H1,I1,r1,q1⟩=> ⟨σ,H1,I1,q1⟩) I.quiet hs
def IB (te:TE):TS:=fun D σ H=>te σ H D.rt
theorem Zm (he:PE X e te):PS X (.Return (some e) pos) (IB te):=by intro pins s σ H D I h;exact wpAny_Return_some (au (he pins s σ H _ I h) fun v s1 ⟨x,H1,I1,r1,q1⟩=> ⟨x,σ,H1,I1,r1,q1⟩)
def IT (c:TT)(t u:TS):TS:=fun D σ H=>c σ H fun b H1=>if b=true then t D σ H1 else u D σ H1
theorem Z1 {c:Expr}{a b:List Stmt}{tc:TT}(hc:PT X c tc)(ha:fz X a t)(hb:fz X b u):PS X (.If c a b pos) (IT tc t u):=by
 intro pins s σ H D I h;refine wpAny_If (au (hc pins s σ H _ I h) fun d s1 ae=> ?_);obtain⟨H1,I1,q1⟩:=ae;cases d with
 |true=>exact ha pins s1 σ H1 D I1 q1
 |false=>exact hb pins s1 σ H1 D I1 q1
def IJ:TS:=fun _ _ _=>False
theorem ZF {Ke:List Stmt} :fz X Ke IJ:=fun _ _ _ _ _ _ h=>h.elim
end
abbrev TG:=V->St->Hp->(St->Hp->Prop)->Prop
abbrev ph:=List V->St->Hp->(St->Hp->Prop)->Prop
def PG (X:Cx)(target:Expr)(t:TG):Prop:=
 ∀(pins:List (Addr×Obj)) (s:Shared) (σ:St) (H:Hp) (v:V) (u:Value) (Q:St->Hp->Prop),Inv X pins σ H s->RelV v u->t v σ H Q->
  wpAny (model X.prog X.w) X.A (assign target X.env u) (fun _ s'=> ∃ak H',Inv X pins ak H' s'/\Q ak H') X.xe s
def vK (X:Cx)(ts:List Expr)(t:ph):Prop:=
 ∀(pins:List (Addr×Obj)) (s:Shared) (σ:St) (H:Hp) (vs:List V) (us:List Value) (Q:St->Hp->Prop),Inv X pins σ H s->Vals vs us->t vs σ H Q->
  wpAny (model X.prog X.w) X.A (assignInOrder ((assignEach ts X.env).map (·.2)) us) (fun _ s'=> ∃ak H',Inv X pins ak H' s'/\Q ak H') X.xe s
abbrev A0:=V->V->V->Hp->(Hp->Prop)->Prop
def Hx (X:Cx)(t:A0):Prop:=
 ∀(pins:List (Addr×Obj)) (s:Shared) (σ:St) (H:Hp) (o i v:V) (ov iv u:Value) (Q:Hp->Prop),Inv X pins σ H s->RelV o ov->RelV i iv->RelV v u->t o i v H Q->
  wpAny (model X.prog X.w) X.A (setItem ov iv u) (fun _ s'=> ∃H',Inv X pins σ H' s'/\Q H') X.xe s
section
variable {X:Cx}{pos:Pos}
def bE (i:Nat):TG:=fun v σ H Q=>Q (σ.set i (some v)) H
theorem Zn {i:Nat}{x:Str}(hN:X.N.Nodup)(hi:X.N[i]? =some x)(hx:Loc X.env.scope x)(hf:X.fn x=true∨X.env.scope.names.lookup x=some .local:=by first |exact .inl rfl |exact .inr rfl |assumption):PG X (.Name x pos) (bE i):=by intro pins s σ H v u Q I r h;exact wpAny_assign_Name (Jl I hN hi hx r (fun s' I'=> ⟨_,H,I',h⟩) hf)
def gM:ph:=fun vs σ H Q=>vs=[]/\Q σ H
inductive bX (t:TG) (u:ph) (vs:List V) (σ:St) (H:Hp) (Q:(St->Hp->Prop)):Prop
 |mk (v r:_) (_:vs=v::r) (_:t v σ H fun ak H'=>u r ak H' Q)
theorem Zz:vK X [] gM:=by intro pins s σ H vs us Q I r h;obtain⟨e,h⟩:=h;subst e;cases r;exact assignInOrder_nil ⟨σ,H,I,h⟩
theorem Zj {e:Expr}{es:List Expr}{t:TG}{u:ph}(h1:PG X e t)(h2:vK X es u)
  (hs:(assignEach (e::es) X.env).map (·.2)=assign e X.env::(assignEach es X.env).map (·.2):=by rfl):vK X (e::es) (bX t u):=by
 intro pins s σ H vs us Q I r h;obtain⟨v,vr,e1,h⟩:=h;subst e1;cases r with
 |cons r rr=>rw[hs];refine ZfR (au (h1 pins s σ H _ _ _ I r h) fun _ s1 ae=> ?_);obtain⟨HY,H1,I1,q1⟩:=ae;exact h2 pins s1 HY H1 _ _ Q I1 rr q1
inductive gK (K:ZhK) (n:Nat) (t:ph) (v:V) (σ:St) (H:Hp) (Q:(St->Hp->Prop)):Prop
 |mk (a xs:_) (_:v=.ref a) (_:ab K H a xs) (_:xs.length=n) (_:t xs σ H Q)
theorem ZI {es:List Expr}{k:Nat}{t:ph}{n:Nat}(hc:X.calm=true)(h:vK X es t)
  (hn:(assignEach es X.env).length=n:=by rfl) (yM:(assignEach es X.env).findIdx? (·.1)=none:=by rfl):PG X (.Tuple es k pos) (gK X.K n t):=by
 intro pins s σ H v u Q I r hw;obtain⟨a,xs,e1,hq,hl,hw⟩:=hw;subst e1;cases r;obtain⟨aa,rv,ht,hz⟩:=I.tuple hq;refine assign_Tuple_tuple (I.ok.hd hc) ht (by simp[hn,<-hl,rv.length]) yM fun h' hx=> ?_;have I1:Inv X pins σ H {s with heap:=h'} :=I.kept (t':=s.toks) fun b o e=>hx b o (Za1 (ZaC e)) e;exact h pins _ σ H xs _ Q I1 (by simpa using rv) hw
def Pu (to ti:TE)(t:A0):TG:=fun v σ H Q=>to σ H fun o H1=>ti σ H1 fun i H2=>t o i v H2 fun H3=>Q σ H3
theorem Ay {o i:Expr}{to ti:TE}{t:A0}(ho:PE X o to)(hi:PE X i ti)(hs:Hx X t)
    (ha:∀v,assign (.Subscript o i pos) X.env v=(do
      let ov <-holding [v] (eval o X.env)
      let iv <-holding [v,ov] (eval i X.env)
      standAt pos
      holding [v,ov,iv] (setItem ov iv v)
      release [v,ov,iv] []):=by intro _;rfl):PG X (.Subscript o i pos) (Pu to ti t):=by
  intro pins s σ H v u Q I r h;rw[ha];refine eg (ZbA (au (ho pins s σ H _ I h) fun ov s1 ae=> ?_));obtain⟨x,H1,I1,r1,q1⟩:=ae;refine eg (ZbA (au (hi pins s1 σ H1 _ I1 q1) fun iv s2 ae=> ?_));obtain⟨y,H2,I2,r2,q2⟩:=ae;refine eg (Zef (eg (ZbA (au (hs pins s2 σ H2 x y v ov iv u _ I2 r1 r2 r q2) fun _ s3 ae=> ?_))));obtain⟨H3,I3,q3⟩:=ae;exact wpAny_release ⟨σ,H3,I3,q3⟩
def pR (te:TE)(g:TG):TS:=fun D σ H=>te σ H fun x H1=>g x σ H1 D.nx
theorem Yu {tg e:Expr}{te:TE}{g:TG}(he:PE X e te)(hg:PG X tg g)(hs:swapsWithSole [tg] e pos.line X.env=pure false:=by rfl)(hw:swappedStores [tg] e X.env=pure none:=by rfl)
  (h1:(assignEach [tg] X.env).map (·.2)=[assign tg X.env]:=by rfl):PS X (.Assign [tg] e pos) (pR te g):=by
 intro pins s σ H D I h;refine wpAny_Assign_stores (au (he pins s σ H _ I h) fun v s1 ae=> ?_) hs hw;obtain⟨x,H1,I1,r1,q1⟩:=ae;rw[h1];exact au (hg pins s1 σ H1 x v _ I1 r1 q1) fun _ s2 q=>q
theorem Zu {i:Nat}{x:Str}{e:Expr}{te:TE}{pos':Pos}(hN:X.N.Nodup)(hi:X.N[i]? =some x)(hx:Loc X.env.scope x)(he:PE X e te)(hs:swapsWith e (some (.Name x pos')) pos.line X.env=pure false:=by rfl)(hf:X.fn x=true∨X.env.scope.names.lookup x=some .local:=by first |exact .inl rfl |exact .inr rfl |assumption):
  PS X (.Assign [.Name x pos'] e pos) (pR te (bE i)):=by
 intro pins s σ H D I h;refine wpAny_Assign_Name (au (he pins s σ H _ I h) fun v s1 ae=> ?_) hs;obtain⟨y,H1,I1,r1,q1⟩:=ae;exact Jl I1 hN hi hx r1 (fun s2 I2=> ⟨_,H1,I2,q1⟩) hf
inductive TPr (R:V->V->Hp->Prop) (vs:List V) (H:Hp):Prop
 |mk (v w:V) (e:vs=[v,w]) (q:R v w H)
def ID (i j:Nat)(ta:TA):TS:=fun D σ H=>ta σ H (TPr fun v w H1=>D.nx ((σ.set i (some v)).set j (some w)) H1)
theorem vD {i j:Nat}{x y:Str}{a b:Expr}{ta:TA}{px py pt:Pos}{kt k2 yf}(hc:X.calm=true)(hN:X.N.Nodup)(hi:X.N[i]? =some x)(hj:X.N[j]? =some y)(cZ:i≠j)
  (hx:X.env.scope.names.lookup x=some .local) (hy:X.env.scope.names.lookup y=some .local) (ha:PA X [a,b] ta)
  (hw:swappedStores [.Tuple [.Name x px,.Name y py] kt pt] (.Tuple [a,b] k2 yf) X.env=pure (some [x,y]))
  (hs:swapsWithSole [.Tuple [.Name x px,.Name y py] kt pt] (.Tuple [a,b] k2 yf) pos.line X.env=pure false:=by rfl):
  PS X (.Assign [.Tuple [.Name x px,.Name y py] kt pt] (.Tuple [a,b] k2 yf) pos) (ID i j ta):=by
 intro pins s σ H D I h;rw[exec_Assign_arm];refine eg (Zef ?_);rw[hs];refine eg (gc ?_);rw[Zaz .d];refine eg (Tuple_ (au (ha _ pins s σ H _ I h) fun us s1 ae=> ?_));obtain⟨vs,H1,I1,r1,q1⟩:=ae;obtain⟨v,w,e1,q1⟩:=q1;subst e1;obtain⟨u1,u2,rfl,rv,jX⟩:∃u1 u2,us=[u1,u2]/\RelV v u1/\RelV w u2:=by
  cases r1 with
  |cons p q=>
   cases q with
   |cons p' q'=>cases q';exact⟨_,_,rfl,p,p'⟩
 refine Zbs ?_ bT;have I2:Inv X pins σ H1 {s1 with heap:=s1.heap.push {cls:=.type "tuple",data:=.seq [u1,u2].toArray} } :=I1.kept (t':=s1.toks) fun b o e=>Zad _ e;rw[hw];refine eg (gc ?_);show wpAny (model X.prog X.w) X.A (do rule "assign.swapped-stores";let items <-unpackItems (.ref s1.heap.objs.size) 2 none;assignInOrder [fun v=>bindName X.env y v,fun v=>bindName X.env x v] items.reverse;pure Flow.next) _ _ _;refine eg (Zdt (eg (unpackItems_tuple (items:= #[u1,u2]) (I.ok.hd hc) (IsTup.new s1.heap _) fun h' mW=> ?_)));have I3:=I2.kept (h':=h') (t':=s1.toks) fun b o e=>mW b o (Za1 (ZaC e)) e;show wpAny _ _ (assignInOrder [fun v=>bindName X.env y v,fun v=>bindName X.env x v] [u2,u1] >>=fun _=>pure Flow.next) _ _ _;refine eg (ZfR (wpAny_bindName (Jl I3 hN hj (.inl hy) jX (fun s2 I4=> ?_) (.inr hy))));refine ZfR (wpAny_bindName (Jl I4 hN hi (.inl hx) rv (fun s3 I5=>assignInOrder_nil (gc ?_)) (.inr hx)));rw[List.set_comm _ _ (Zd3 cZ)]at I5;exact⟨_,H1,I5,q1⟩
end
structure It where
 go:Nat->Hp->Prop
 mE:Nat->Hp->V->Hp->Prop
 stop:Nat->Hp->Prop
def bj (X:Cx)(pins:List (Addr×Obj))(H:Hp)(b:Addr):Prop:=
 H b=none/\b≠X.env.locals/\b∉X.fs/\(b∈X.ex∨X.cM.heap.objs.size<=b)/\(∀x c,X.env.cells.lookup x=some c->c≠b)/\∀p∈X.pn++pins,p.1≠b
theorem Inv.jb {X:Cx}{pins:List (Addr×Obj)}{σ:St}{H H':Hp}{s:Shared}{b:Addr}(I:Inv X pins σ H s)(hb:s.heap.objs.size<=b)(hn:H' b=none):bj X pins H' b:=by
 refine⟨hn,Zdq (Za7 I.lt hb),I.MA hb,.inr (Zbi I.sz hb),fun x c e z=> ?_,fun p hp z=> ?_⟩
 ·obtain⟨v,q⟩:=I.cell x c e;exact absurd (Za7 q.lt (by rw[z];exact hb)) (Zdg _)
 ·exact absurd (Za7 (ZaC (I.pin p hp).1) (by rw[z];exact hb)) (Zdg _)
structure Turn (P:Program)(w:World)(K:ZhK)(tg:Expr)(J:It)(fp:List Addr)(it:Addr)(tn:Nat->Heap->Prop):Prop where
 mem:it∈fp
 obj:∀i h,tn i h->∀b∈fp,∃o,h.get? b=some o/\∀v,o.data≠.cell v
 keep:∀i h h',tn i h->(∀b∈fp,∀o,h.get? b=some o->h'.get? b=some o)->tn i h'
 item:∀(X:Cx),X.prog=P->X.w=w->X.K=K->X.calm=true->∀(i:Nat) (pins:List (Addr×Obj)) (s:Shared) (σ:St) (H:Hp) (E:Value->Shared->Prop),Inv X pins σ H s->(∀b∈fp,bj X pins H b)->tn i s.heap->J.go i H->
  wpAny (model P w) X.A (pyNext (.ref it)) (fun r s1=> ∃u,r=some u/\
   wpAny (model P w) X.A (letOwnedTupleGo tg (.ref it) u) (fun _ s2=> ∃x H',Inv X pins σ H' s2/\RelV x u/\J.mE i H x H'/\tn (i+1) s2.heap/\∀b∈fp,H' b=none) E s1) E s
 done:∀(X:Cx),X.prog=P->X.w=w->X.K=K->X.calm=true->∀(i:Nat) (pins:List (Addr×Obj)) (s:Shared) (σ:St) (H:Hp) (E:Value->Shared->Prop),Inv X pins σ H s->(∀b∈fp,bj X pins H b)->tn i s.heap->J.stop i H->
  wpAny (model P w) X.A (pyNext (.ref it)) (fun r s1=>r=none/\Inv X pins σ H s1) E s
 self:∀(A:Around) (i:Nat) (s:Shared) (Q:Value->Shared->Prop) (E:Value->Shared->Prop),tn i s.heap->Q (.ref it) s->wpAny (model P w) A (pyIter (.ref it)) Q E s
abbrev TI:=St->Hp->(It->Hp->Prop)->Prop
def Hy (X:Cx)(pins:List (Addr×Obj))(σ:St)(tg:Expr)(R:It->Hp->Prop)(lg:Value)(s2:Shared):Prop:=
 ∃(it:Addr) (fp:List Addr) (tn:Nat->Heap->Prop) (J:It) (H':Hp),lg=.ref it/\Inv X pins σ H' s2/\Turn X.prog X.w X.K tg J fp it tn/\tn 0 s2.heap/\(∀b∈fp,bj X pins H' b)/\R J H'
def PI (X:Cx)(tg iter:Expr)(wi:TI):Prop:=
 ∀(pins:List (Addr×Obj)) (s:Shared) (σ:St) (H:Hp) (R:It->Hp->Prop),Inv X pins σ H s->wi σ H R->
  wpAny (model X.prog X.w) X.A (eval iter X.env) (fun v s1=>wpAny (model X.prog X.w) X.A (pyIter v) (Hy X pins σ tg R) X.xe s1) X.xe s
theorem Ag {M:Model}{A:Around}{E:Value->Shared->Prop}{s:Shared}{tg:Expr}{it:Addr}{u:Value}{o:Obj}{n:String}{vs:Array Value}{Q:Unit->Shared->Prop}(ho:s.heap.get? it=some o)(hc:o.cls=.type n)(hd:o.data=.fields vs)
    (hn:["enumerate", "zip", "dict_itemiterator", "dict_reverseitemiterator", "odict_iterator", "itertools.zip_longest", "itertools.pairwise"].contains n=false) (hQ:Q () s):wpAny M A (letOwnedTupleGo tg (.ref it) u) Q E s:=by
  unfold letOwnedTupleGo;cases tg<;>first
    |exact gc hQ
    |(cases u<;>first
        |exact gc hQ
        |(refine eg (wpAny_load ho ?_)
          rw[hc,hd];show wpAny M A (if (["enumerate", "zip", "dict_itemiterator", "dict_reverseitemiterator", "odict_iterator", "itertools.zip_longest", "itertools.pairwise"].contains n&&vs[0]? ==some (rawInt _))=true then _ else _) Q E s;rw[Zaz (by intro h;rw[hn,Zfl]at h;cases h)];exact gc hQ))
def pB (K:ZhK)(a:Addr):It:=
 ⟨fun i H=> ∃xs x,ai K H a xs/\xs[i]? =some x,fun i H x H'=>H'=H/\∀xs,ai K H a xs->xs[i]? =some x,fun i H=> ∃xs,ai K H a xs/\xs.length<=i⟩
def A7 (K:ZhK)(a:Addr):It:=
 ⟨fun i H=> ∃xs x,ab K H a xs/\xs[i]? =some x,fun i H x H'=>H'=H/\∀xs,ab K H a xs->xs[i]? =some x,fun i H=> ∃xs,ab K H a xs/\xs.length<=i⟩
def mw (lo:Int)(n:Nat):It:=⟨fun i _=>i<n,fun i H x H'=>H'=H/\x=.int (lo+i),fun i _=>n<=i⟩
theorem Xe {P:Program}{w:World}{K:ZhK}{tg:Expr}(a it:Addr):Turn P w K tg (pB K a) [it] it (fun i h=>h.IsListIter it a i) where
 mem:=by simp
 obj:=fun i h st b hb=>by
  have e:b=it:=by simpa using hb
  subst e;obtain⟨o,e,c,d⟩:=st;exact⟨o,e,fun v z=>by rw[d]at z;cases z⟩
 keep:=fun i h h' st k=>st.at fun o e=>k it (by simp) o e
 item:=by intro X hP hw hK hc i pins s σ H E I hf st hg;subst hP hw hK;obtain⟨xs,x,hq,hx⟩:=hg;obtain⟨aa,rv,p,hz⟩:=I.list hq;obtain⟨u,hu,ru⟩:=rv.get hx;obtain⟨f0,f1,f2,f3,f4,f5⟩:=hf it (by simp);refine wpAny_pyNext_list_item st p.isList (x:=u) (by simpa using hu) fun h' af sb=> ?_;have I1:Inv X pins σ H {s with heap:=h'} :=I.turned (t':=s.toks) (fun b o hb e=> (sb.2 b hb).trans e) f0 f1 f3 f4 f5;obtain⟨o,e,c,d⟩:=id af;exact⟨u,rfl,Ag (s:= {s with heap:=h'}) e c d .d ⟨x,H,I1,ru,⟨rfl,fun ys hy=>by rw[I.qD hy hq];exact hx⟩,af,fun b hb=> (hf b hb).1⟩⟩
 done:=by intro X hP hw hK hc i pins s σ H E I hf st hg;subst hP hw hK;obtain⟨xs,hq,hx⟩:=hg;obtain⟨aa,rv,p,hz⟩:=I.list hq;obtain⟨f0,f1,f2,f3,f4,f5⟩:=hf it (by simp);have hl:=rv.length;exact wpAny_pyNext_list_end (I.ok.hd hc) st p.isList (by simp;omega) fun h' eb=> ⟨rfl,I.turned (t':=s.toks) (fun b o hb e=>eb b o hb e) f0 f1 f3 f4 f5⟩
 self:=fun _ _ _ _ _ st h=>wpAny_pyIter_listiter st h
theorem ZbQ {P:Program}{w:World}{K:ZhK}{tg:Expr}(a it:Addr):Turn P w K tg (A7 K a) [it] it (fun i h=>h.IsTupleIter it a i) where
 mem:=by simp
 obj:=fun i h st b hb=>by
  have e:b=it:=by simpa using hb
  subst e;obtain⟨o,e,c,d⟩:=st;exact⟨o,e,fun v z=>by rw[d]at z;cases z⟩
 keep:=fun i h h' st k=>st.at fun o e=>k it (by simp) o e
 item:=by intro X hP hw hK hc i pins s σ H E I hf st hg;subst hP hw hK;obtain⟨xs,x,hq,hx⟩:=hg;obtain⟨aa,rv,p,hz⟩:=I.tuple hq;obtain⟨u,hu,ru⟩:=rv.get hx;obtain⟨f0,f1,f2,f3,f4,f5⟩:=hf it (by simp);refine wpAny_pyNext_tuple_item st (show s.heap.IsTuple a aa.toArray from p) (x:=u) (by simpa using hu) fun h' af sb=> ?_;have I1:Inv X pins σ H {s with heap:=h'} :=I.turned (t':=s.toks) (fun b o hb e=> (sb.2 b hb).trans e) f0 f1 f3 f4 f5;obtain⟨o,e,c,d⟩:=id af;exact⟨u,rfl,Ag (s:= {s with heap:=h'}) e c d .d ⟨x,H,I1,ru,⟨rfl,fun ys hy=>by rw[I.mF hy hq];exact hx⟩,af,fun b hb=> (hf b hb).1⟩⟩
 done:=by intro X hP hw hK hc i pins s σ H E I hf st hg;subst hP hw hK;obtain⟨xs,hq,hx⟩:=hg;obtain⟨aa,rv,p,hz⟩:=I.tuple hq;obtain⟨f0,f1,f2,f3,f4,f5⟩:=hf it (by simp);have hl:=rv.length;exact wpAny_pyNext_tuple_end (I.ok.hd hc) st (show s.heap.IsTuple a aa.toArray from p) (by simp;omega) fun h' eb=> ⟨rfl,I.turned (t':=s.toks) (fun b o hb e=>eb b o hb e) f0 f1 f3 f4 f5⟩
 self:=fun _ _ _ _ _ st h=>wpAny_pyIter_tupleiter st h
theorem ZbR {P:Program}{w:World}{K:ZhK}{tg:Expr}(it:Addr)(lo:Int)(n:Nat):Turn P w K tg (mw lo n) [it] it (fun i h=>IsRangeIter h it (lo+(i:Nat)*1) ((n:Int)-(i:Nat)) 1) where
 mem:=by simp
 obj:=fun i h st b hb=>by
  have e:b=it:=by simpa using hb
  subst e;exact⟨_,st,fun v z=>by have z':Data.fields _=Data.cell v:=z;cases z'⟩
 keep:=fun i h h' st k=>k it (by simp) _ st
 item:=by intro X hP hw hK hc i pins s σ H E I hf st hg;subst hP hw hK;obtain⟨f0,f1,f2,f3,f4,f5⟩:=hf it (by simp);have W:=Walks.range (prog:=X.prog) (w:=X.w) (I.ok.hd hc) it lo 1 n;refine W.item i s _ _ hg st fun v h' tk hv af kk=> ?_;obtain⟨t,rfl⟩:=hv;have I1:Inv X pins σ H {s with heap:=h',toks:=tk} :=I.turned (fun b o hb e=>kk b o (by simpa using hb) e) f0 f1 f3 f4 f5;refine⟨_,rfl,Ag (s:= {s with heap:=h',toks:=tk}) (n:= "range_iterator") af rfl rfl .d ⟨.int (lo+i),H,I1,⟨t,?_⟩,⟨rfl,rfl⟩,af,fun b hb=> (hf b hb).1⟩⟩;rw[Int.mul_one]
 done:=by intro X hP hw hK hc i pins s σ H E I hf st hg;subst hP hw hK;obtain⟨f0,f1,f2,f3,f4,f5⟩:=hf it (by simp);exact wpAny_pyNext_range_end (I.ok.hd hc) st (by have:n<=i:=hg;omega) fun h' eb=> ⟨rfl,I.turned (t':=s.toks) (fun b o hb e=>eb b o hb e) f0 f1 f3 f4 f5⟩
 self:=fun _ _ _ _ _ st h=>wpAny_pyIter_rangeiter st h
section
variable {X:Cx}{tg:Expr}
inductive aah (K:ZhK) (R:It->Hp->Prop) (x:V) (H:Hp):Prop
 |mk (a:Addr) (e:x=.ref a) (h:∃xs,ai K H a xs) (q:R (pB K a) H)
def uE (K:ZhK)(tl:TE):TI:=fun σ H R=>tl σ H (aah K R)
inductive aaf (K:ZhK) (R:It->Hp->Prop) (x:V) (H:Hp):Prop
 |mk (a:Addr) (e:x=.ref a) (h:∃xs,ab K H a xs) (q:R (A7 K a) H)
def Nr (K:ZhK)(tl:TE):TI:=fun σ H R=>tl σ H (aaf K R)
theorem Zw {l:Expr}{tl:TE}(hl:PE X l tl):PI X tg l (uE X.K tl):=by
 intro pins s σ H R I h;refine au (hl pins s σ H _ I h) fun v s1 ae=> ?_;obtain⟨x,H1,I1,r1,q1⟩:=ae;obtain⟨a,e,⟨xs,hq⟩,q⟩:=q1;subst e;cases r1;obtain⟨aa,rv,p,hz⟩:=I1.list hq;refine Zd4 p.isList ?_;refine⟨s1.heap.objs.size,[s1.heap.objs.size],_,_,H1,rfl,I1.kept (t':=s1.toks) fun b o e=>Zad _ e,Xe a _,⟨_,Zar _ rfl,rfl,rfl⟩,fun b hb=> ?_,q⟩;have e:b=s1.heap.objs.size:=by simpa using hb
 subst e;exact I1.jb (Zak _) (I1.aq.fresh (Zak _))
theorem WC {l:Expr}{tl:TE}(hl:PE X l tl):PI X tg l (Nr X.K tl):=by
 intro pins s σ H R I h;refine au (hl pins s σ H _ I h) fun v s1 ae=> ?_;obtain⟨x,H1,I1,r1,q1⟩:=ae;obtain⟨a,e,⟨xs,hq⟩,q⟩:=q1;subst e;cases r1;obtain⟨aa,rv,p,hz⟩:=I1.tuple hq;refine ZfS (show s1.heap.IsTuple a aa.toArray from p) ?_;refine⟨s1.heap.objs.size,[s1.heap.objs.size],_,_,H1,rfl,I1.kept (t':=s1.toks) fun b o e=>Zad _ e,ZbQ a _,⟨_,Zar _ rfl,rfl,rfl⟩,fun b hb=> ?_,q⟩;have e:b=s1.heap.objs.size:=by simpa using hb
 subst e;exact I1.jb (Zak _) (I1.aq.fresh (Zak _))
theorem Hr {pins:List (Addr×Obj)}{σ:St}{H:Hp}{s:Shared}{R:It->Hp->Prop}{E:Value->Shared->Prop}{lo hi:Int}{t u v:Tok}{tk:Nat}(I:Inv X pins σ H s)(h1: -(2^62)<=lo)(h2:lo<2^62)(h3: -(2^62)<=hi)(h4:hi<2^62)
  (q:R (mw lo (hi-lo).toNat) H):wpAny (model X.prog X.w) X.A (pyIter (.ref s.heap.objs.size)) (Hy X pins σ tg R) E {s with heap:=s.heap.push {cls:=.type "range",data:=.fields #[.int lo t,.int hi u,.int 1 v]},toks:=tk} :=by
 refine wpAny_pyIter_range (IsRange.new ..) (small_one h1 h2 h3 h4) ?_;have I1:Inv X pins σ H {s with heap:=s.heap.push {cls:=.type "range",data:=.fields #[.int lo t,.int hi u,.int 1 v]},toks:=tk} :=I.kept fun b o e=>Zad _ e;refine⟨(s.heap.push {cls:=.type "range",data:=.fields #[.int lo t,.int hi u,.int 1 v]}).objs.size,[(s.heap.push {cls:=.type "range",data:=.fields #[.int lo t,.int hi u,.int 1 v]}).objs.size],_,_,H,rfl,
  I1.kept (t':=tk) fun b o e=>Zad _ e,ZbR _ lo (hi-lo).toNat,?_,fun b hb=> ?_,q⟩
 ·have e1:lo+((0:Nat):Int)*1=lo:=by simp
  have e2:(((hi-lo).toNat:Nat):Int)-((0:Nat):Int)=Builtin.Range.rangeSize lo hi 1:=by rw[rangeSize_one];split<;>omega
  show IsRangeIter _ _ (lo+((0:Nat):Int)*1) ((((hi-lo).toNat:Nat):Int)-((0:Nat):Int)) 1;rw[e1,e2];exact Zar _ rfl
 ·have e:b=(s.heap.push {cls:=.type "range",data:=.fields #[.int lo t,.int hi u,.int 1 v]}).objs.size:=by simpa using hb
  subst e;exact I1.jb (Zak _) (I1.aq.fresh (Zak _))
inductive aag (R:It->Hp->Prop) (vs:List V) (H:Hp):Prop
 |mk (j:Int) (e:vs=[.int j]) (h: -(2^62)<=j) (h':j<2^62) (q:R (mw 0 j.toNat) H)
def Nu (ta:TA):TI:=fun σ H R=>ta σ H (aag R)
def Nt (ta:TA):TI:=fun σ H R=>ta σ H fun vs H1=> ∃i j:Int,vs=[.int i,.int j]/\(-(2^62)<=i/\i<2^62/\ -(2^62)<=j/\j<2^62)/\R (mw i (j-i).toNat) H1
theorem ZZ {a:Expr}{ta:TA}{p pos:Pos}(hg:Gl X "range")(hm:X.mg "range" =none)(ha:PA X [a] ta)(hs:starEach [a] X.env=[(false,eval a X.env)]:=by rfl):PI X tg (.Call (.Name "range" p) [a] [] pos) (Nu ta):=by
 intro pins s σ H R I h;refine Call_ (Z8 I hg hm boot_range (Zcs (au (ha pos pins s σ H _ I h) fun us s1 ae=> ?_) hs rfl));obtain⟨vs,H1,I1,r1,q1⟩:=ae;obtain⟨j,e,q1,q2,q⟩:=q1;subst e;cases r1 with
 |cons r rr=>cases rr;obtain⟨t,rfl⟩:=r;exact call_range_1 (Hr I1 .o .o q1 q2 (by simpa using q))
theorem V4 {a b:Expr}{ta:TA}{p pos:Pos}(hg:Gl X "range")(hm:X.mg "range" =none)(ha:PA X [a,b] ta)(hs:starEach [a,b] X.env=[(false,eval a X.env),(false,eval b X.env)]:=by rfl)(dH:starEach [b] X.env=[(false,eval b X.env)]:=by rfl):
  PI X tg (.Call (.Name "range" p) [a,b] [] pos) (Nt ta):=by
 intro pins s σ H R I h;refine Call_ (Z8 I hg hm boot_range (Zcs (au (ha pos pins s σ H _ I h) fun us s1 ae=> ?_) (by rw[hs,dH]) (by rw[dH];rfl)));obtain⟨vs,H1,I1,r1,q1⟩:=ae;obtain⟨i,j,e,⟨q1,q2,q3,q4⟩,q⟩:=q1;subst e;cases r1 with
 |cons r rr=>
  cases rr with
  |cons r' rr=>cases rr;obtain⟨t,rfl⟩:=r;obtain⟨t',rfl⟩:=r';exact call_range_2 (Hr I1 q1 q2 q3 q4 q)
def IU (wi:TI)(g:TG)(tb:TS):TS:=fun D σ H=>wi σ H fun J H1=> ∃W:Nat->Nat->St->Hp->Prop,(∃m,W 0 m σ H1)/\∀i m σ H,W i m σ H->
 (J.stop i H/\D.nx σ H)∨(J.go i H/\∃N:St->Hp->Prop,(∀ak H',N ak H'->∃m',m'<m/\W (i+1) m' ak H')/\∀x H',J.mE i H x H'->g x σ H' fun aQ H2=>tb {D with nx:=N,ct:=N,bk:=D.nx} aQ H2)
def iI (fp:List Addr)(h:Heap):List (Addr×Obj):=fp.filterMap fun b=> (h.get? b).map fun o=> (b,o)
theorem ZT {fp:List Addr}{h:Heap}{b:Addr}{o:Obj}(hb:b∈fp)(e:h.get? b=some o):(b,o)∈iI fp h:=Zcq.mpr ⟨b,hb,by rw[e];rfl⟩
theorem JK {fp:List Addr}{h:Heap}{p:Addr×Obj}(hp:p∈iI fp h):p.1∈fp/\h.get? p.1=some p.2:=by
 obtain⟨b,hb,e⟩:=Zcq.mp hp;cases q:h.get? b with
 |none=>rw[q]at e;cases e
 |some o=>rw[q]at e;have e':(b,o)=p:=Zbh e;subst e';exact⟨hb,q⟩
theorem Inv.pinned {pins:List (Addr×Obj)}{σ:St}{H:Hp}{s:Shared}{fp:List Addr}(I:Inv X pins σ H s)(hf:∀b∈fp,bj X pins H b)(ho:∀b∈fp,∃o,s.heap.get? b=some o/\∀v,o.data≠.cell v):Inv X (pins++iI fp s.heap) σ H s:=
 I.CP fun p hp=> (ZaO.mp hp).elim (fun z=>I.pin p (ZaA _ z)) fun z=>by obtain⟨hb,e⟩:=JK z;obtain⟨f0,f1,f2,_⟩:=hf p.1 hb;obtain⟨o,e',d⟩:=ho p.1 hb;rw[e]at e';cases e';exact⟨e,f0,f1,f2,d⟩
theorem Inv.gR {pins pl:List (Addr×Obj)}{σ:St}{H:Hp}{s:Shared}(I:Inv X (pins++pl) σ H s):Inv X pins σ H s:=I.CP fun p hp=>I.pin p (ZaA _ (Za3 _ hp))
theorem ZY {iter:Expr}{body:List Stmt}{wi:TI}{g:TG}{tb:TS}{pos:Pos}(hp:PassesOwn (model X.prog X.w) X.A X.env X.xe)(hc:X.calm=true)(hi:PI X tg iter wi)(hg:PG X tg g)(hb:fz X body tb)
  (hs:∀x,foldedSetIterable iter X.env x=pure x:=by intro _;rfl):PS X (.For tg iter body [] pos) (IU wi g tb):=by
 intro pins s σ H D I h;refine wpAny_For (au (hi pins s σ H _ I h) fun v s1 h1=>au h1 fun lg s2 h2=> ?_) hs;obtain⟨it,fp,tn,J,H2,e,I2,T,av,f2,W,⟨m0,w0⟩,turn⟩:=h2;subst e;have stat:∀{H':Hp},(∀b∈fp,H' b=none)->∀b∈fp,bj X pins H' b:=fun hn b hb=> ⟨hn b hb,(f2 b hb).2⟩;refine codeAny_forLoop_any (fun n s'=> ∃i ak H',Inv X pins ak H' s'/\tn i s'.heap/\(∀b∈fp,H' b=none)/\W i n ak H') ?_ m0 ⟨0,σ,H2,I2,av,fun b hb=> (f2 b hb).1,w0⟩;rintro n s3 ⟨i,iA,H3,I3,bU,vg,w3⟩;rcases turn i n iA H3 w3 with ⟨stop,qn⟩ |⟨go,N,hN,step⟩
 ·refine Ze1 hp (au (T.done X rfl rfl rfl hc i pins s3 iA H3 X.xe I3 (stat vg) bU stop) fun r s4 ae=> ?_);obtain⟨hr,I4⟩:=ae;subst hr;exact ZgL ⟨iA,H3,I4,qn⟩
 ·refine Ze1 hp (au (T.item X rfl rfl rfl hc i pins s3 iA H3 X.xe I3 (stat vg) bU go) fun r s4 ae=> ?_);obtain⟨u,hr,h4⟩:=ae;subst hr;refine Ze1 hp (au h4 fun _ s5 ae=> ?_);obtain⟨x,H5,I5,r5,y5,dM,zJ⟩:=ae;have Bb:=I5.pinned (stat zJ) (T.obj _ _ dM);refine Ze1 hp (au (hg _ s5 iA H5 x u _ Bb r5 (step x H5 y5)) fun _ s6 ae=> ?_);obtain⟨pF,H6,I6,q6⟩:=ae;refine Ze1 hp (au (hb _ s6 pF H6 _ I6 q6) fun f s7 q7=> ?_);have again:∀{eD:St}{H7:Hp},Inv X (pins++iI fp s5.heap) eD H7 s7->N eD H7->∃m,m<n/\∃i ak H',Inv X pins ak H' s7/\tn i s7.heap/\(∀b∈fp,H' b=none)/\W i m ak H':=fun {eD H7} I7 n7=>by obtain⟨m',hm,w7⟩:=hN eD H7 n7;refine⟨m',hm,i+1,eD,H7,I7.gR,T.keep _ _ _ dM fun b hb o e=> (I7.pin (b,o) (ZaA _ (ZaA _ (ZT hb e)))).1,fun b hb=> ?_,w7⟩;obtain⟨o,e,d⟩:=T.obj _ _ dM b hb;exact(I7.pin (b,o) (ZaA _ (ZaA _ (ZT hb e)))).2.1
  cases f with
  |next=>obtain⟨eD,H7,I7,n7⟩:=q7;exact again I7 n7
  |cont=>obtain⟨eD,H7,I7,n7⟩:=q7;exact again I7 n7
  |brk=>obtain⟨eD,H7,I7,q7⟩:=q7;exact⟨eD,H7,I7.gR,q7⟩
  |ret v=>obtain⟨x7,eD,H7,I7,r7,q7⟩:=q7;exact⟨x7,eD,H7,I7.gR,r7,q7⟩
end
theorem Yh {K:ZhK}{a:Addr}{xs:List V}{g:TG}{tb:TS}{D:Ends}{σ:St}{H:Hp}(Pv:Nat->St->Hp->Prop)(h0:Pv 0 σ H)(hl:∀i σ H,i<=xs.length->Pv i σ H->ai K H a xs)
  (hs:∀i x σ H,xs[i]? =some x->Pv i σ H->g x σ H fun aQ H2=>tb {D with nx:=Pv (i+1),ct:=Pv (i+1),bk:=D.nx} aQ H2) (hd:∀σ H,Pv xs.length σ H->D.nx σ H):
  ∃W:Nat->Nat->St->Hp->Prop,(∃m,W 0 m σ H)/\∀i m σ H,W i m σ H->
   ((pB K a).stop i H/\D.nx σ H)∨((pB K a).go i H/\∃N:St->Hp->Prop,(∀ak H',N ak H'->∃m',m'<m/\W (i+1) m' ak H')/\∀x H',(pB K a).mE i H x H'->g x σ H' fun aQ H2=>tb {D with nx:=N,ct:=N,bk:=D.nx} aQ H2):=by
 refine⟨fun i m σ H=>m=xs.length-i/\i<=xs.length/\Pv i σ H,⟨xs.length,by simp,ZaM _,h0⟩,?_⟩;rintro i m σ H ⟨rfl,hi,p⟩;have q:=hl i σ H hi p;by_cases aw:i<xs.length
 ·refine .inr ⟨⟨xs,xs[i],q,by simp[aw]⟩,Pv (i+1),fun ak H' p'=> ⟨xs.length-(i+1),.o,rfl,aw,p'⟩,fun x H' y=> ?_⟩;obtain⟨e,y⟩:=y;subst e;exact hs i x σ _ (y xs q) p
 ·have e:i=xs.length:=.o;subst e;exact .inl ⟨⟨xs,q,Zak _⟩,hd σ H p⟩
theorem Yd {lo:Int}{n:Nat}{g:TG}{tb:TS}{D:Ends}{σ:St}{H:Hp}(Pv:Nat->St->Hp->Prop)(h0:Pv 0 σ H)
  (hs:∀i σ H,i<n->Pv i σ H->g (.int (lo+i)) σ H fun aQ H2=>tb {D with nx:=Pv (i+1),ct:=Pv (i+1),bk:=D.nx} aQ H2) (hd:∀σ H,Pv n σ H->D.nx σ H):
  ∃W:Nat->Nat->St->Hp->Prop,(∃m,W 0 m σ H)/\∀i m σ H,W i m σ H->
   ((mw lo n).stop i H/\D.nx σ H)∨((mw lo n).go i H/\∃N:St->Hp->Prop,(∀ak H',N ak H'->∃m',m'<m/\W (i+1) m' ak H')/\∀x H',(mw lo n).mE i H x H'->g x σ H' fun aQ H2=>tb {D with nx:=N,ct:=N,bk:=D.nx} aQ H2):=by
 refine⟨fun i m σ H=>m=n-i/\i<=n/\Pv i σ H,⟨n,by simp,ZaM _,h0⟩,?_⟩;rintro i m σ H ⟨rfl,hi,p⟩;by_cases aw:i<n
 ·refine .inr ⟨aw,Pv (i+1),fun ak H' p'=> ⟨n-(i+1),.o,rfl,aw,p'⟩,fun x H' y=> ?_⟩;obtain⟨e,y⟩:=y;subst e y;exact hs i σ _ aw p
 ·have e:i=n:=.o;subst e;exact .inl ⟨Zak _,hd σ H p⟩
abbrev R2:=V->V->Hp->VK->Prop
def aV (X:Cx)(f:Value->Value->Sem Value)(r:R2):Prop:=
 ∀(pins:List (Addr×Obj)) (s:Shared) (σ:St) (H:Hp) (x y:V) (v u:Value) (Q:VK),Inv X pins σ H s->RelV x v->RelV y u->r x y H Q->
  wpAny (model X.prog X.w) X.A (f v u) (EP X pins σ Q) X.xe s
def AY (X:Cx)(f:Value->Sem Value)(r:V->Hp->VK->Prop):Prop:=
 ∀(pins:List (Addr×Obj)) (s:Shared) (σ:St) (H:Hp) (x:V) (v:Value) (Q:VK),Inv X pins σ H s->RelV x v->r x H Q->
  wpAny (model X.prog X.w) X.A (f v) (EP X pins σ Q) X.xe s
def fB (X:Cx)(f:Value)(r:List V->Hp->VK->Prop):Prop:=
 ∀(pins:List (Addr×Obj)) (s:Shared) (σ:St) (H:Hp) (xs:List V) (us:List Value) (Q:VK),Inv X pins σ H s->Vals xs us->r xs H Q->
  wpAny (model X.prog X.w) X.A (call f us) (EP X pins σ Q) X.xe s
def sU (r:R2)(ta tb:TE):TE:=fun σ H Q=>ta σ H fun x H1=>tb σ H1 fun y H2=>r x y H2 Q
def Iv (r:V->Hp->VK->Prop)(ta:TE):TE:=fun σ H Q=>ta σ H fun x H1=>r x H1 Q
inductive rI (C:Int->Int->Prop) (g:Int->Int->V) (x:V) (y:V) (H:Hp) (Q:VK):Prop
 |mk (i j:_) (_:x=.int i) (_:y=.int j) (_:C i j) (_:Q (g i j) H)
inductive jY (g:Int->Int->V) (x:V) (y:V) (H:Hp) (Q:VK):Prop
 |mk (i j:_) (_:x=.int i) (_:y=.int j) (_:Q (g i j) H)
inductive rU (g:Int->V) (x:V) (H:Hp) (Q:VK):Prop
 |mk (i:_) (_:x=.int i) (_:Q (g i) H)
section
variable {X:Cx}{a b c:Expr}{ta tb tc:TE}{pos:Pos}
theorem zW (ha:PE X a ta)(hb:PE X b tb){pins:List (Addr×Obj)}{s:Shared}{σ:St}{H:Hp}{R:V->V->Hp->Prop}(I:Inv X pins σ H s)
  (h:ta σ H fun x H1=>tb σ H1 fun y H2=>R x y H2) {Q:Value->Shared->Prop}{f:Value->Value->Sem Value}
  (hf:∀v u s2 x y H2,Inv X pins σ H2 s2->RelV x v->RelV y u->R x y H2->wpAny (model X.prog X.w) X.A (f v u) Q X.xe s2):
  wpAny (model X.prog X.w) X.A (eval a X.env) (fun v aR=>wpAny (model X.prog X.w) X.A (eval b X.env) (fun u nV=>wpAny (model X.prog X.w) X.A (f v u) Q X.xe nV) X.xe aR) X.xe s:=by
 refine au (ha pins s σ H _ I h) fun v s1 ae=> ?_;obtain⟨x,H1,I1,r1,q1⟩:=ae;refine au (hb pins s1 σ H1 _ I1 q1) fun u s2 ae=> ?_;obtain⟨y,H2,I2,r2,q2⟩:=ae;exact hf v u s2 x y H2 I2 r1 r2 q2
theorem Zp {op:Operator}{r:R2}(ho:aV X (binaryOp op) r)(ha:PE X a ta)(hb:PE X b tb):PE X (.BinOp a op b pos) (sU r ta tb):=by intro pins s σ H Q I h;exact wpAny_BinOp (zW ha hb I h fun v u s2 x y H2 I2 rx ry q=>ho pins s2 σ H2 x y v u Q I2 rx ry q)
theorem RT {op:UnaryOp}{r:V->Hp->VK->Prop}(ho:AY X (unaryOp op) r)(ha:PE X a ta):PE X (.UnaryOp op a pos) (Iv r ta):=by intro pins s σ H Q I h;exact UnaryOp_ (au (ha pins s σ H _ I h) fun v s1 ⟨x,H1,I1,r1,q1⟩=>ho pins s1 σ H1 x v Q I1 r1 q1)
theorem uh {f:Value->Value->Sem Value}{C:Int->Int->Prop}{g:Int->Int->Int}
  (rule:∀(i j:Int) (t u:Tok) (s:Shared) (Q:Value->Shared->Prop) (E:Value->Shared->Prop),C i j->Q (.int (g i j) s.toks) {s with toks:=s.toks+1}->wpAny (model X.prog X.w) X.A (f (.int i t) (.int j u)) Q E s):
  aV X f (rI C fun i j=> .int (g i j)):=by
 intro pins s σ H x y v u Q I rx ry h;obtain⟨i,j,rfl,rfl,hc,q⟩:=h;obtain⟨t,rfl⟩:=rx;obtain⟨t',rfl⟩:=ry;exact rule i j t t' s _ _ hc ⟨.int (g i j),H,I.tok _,⟨_,rfl⟩,q⟩
theorem yp {f:Value->Value->Sem Value}{g:Int->Int->Int}
  (rule:∀(i j:Int) (t u:Tok) (s:Shared) (Q:Value->Shared->Prop) (E:Value->Shared->Prop),Q (.int (g i j) s.toks) {s with toks:=s.toks+1}->wpAny (model X.prog X.w) X.A (f (.int i t) (.int j u)) Q E s):
  aV X f (jY fun i j=> .int (g i j)):=by
 intro pins s σ H x y v u Q I rx ry h;obtain⟨i,j,rfl,rfl,q⟩:=h;obtain⟨t,rfl⟩:=rx;obtain⟨t',rfl⟩:=ry;exact rule i j t t' s _ _ ⟨.int (g i j),H,I.tok _,⟨_,rfl⟩,q⟩
theorem ui {f:Value->Value->Sem Value}{g:Int->Int->Bool}
  (rule:∀(i j:Int) (t u:Tok) (s:Shared) (Q:Value->Shared->Prop) (E:Value->Shared->Prop),Q (.bool (g i j)) s->wpAny (model X.prog X.w) X.A (f (.int i t) (.int j u)) Q E s):
  aV X f (jY fun i j=> .bl (g i j)):=by
 intro pins s σ H x y v u Q I rx ry h;obtain⟨i,j,rfl,rfl,q⟩:=h;obtain⟨t,rfl⟩:=rx;obtain⟨t',rfl⟩:=ry;exact rule i j t t' s _ _ ⟨.bl (g i j),H,I,rfl,q⟩
def aaN (i j:Int):Prop:=0<j/\j<1073741824
def aaM (i j:Int):Prop:=0<=j/\j<=1000000/\i.natAbs<2^64
def Bx (i j:Int):Prop:=(-(2^64)<i/\i<2^64)∨(-(2^64)<j/\j<2^64)
theorem Bx.ok {i j:Int}(h:Bx i j):IntMulOk i j:=by
 rcases h with ⟨h1,h2⟩ |⟨h1,h2⟩
 ·exact .of_left (intBits_le_64 h1 h2)
 ·exact .of_right (intBits_le_64 h1 h2)
theorem Yo:aV X (binaryOp .Add) (jY fun i j=> .int (i+j)):=yp fun _ _ _ _ _ _ _ q=>add_int q
theorem Z7:aV X (binaryOp .Sub) (jY fun i j=> .int (i-j)):=yp fun _ _ _ _ _ _ _ q=>sub_int q
theorem YO:aV X (binaryOp .Mult) (rI Bx fun i j=> .int (i*j)):=uh fun _ _ _ _ _ _ _ hc q=>mul_int q hc.ok
theorem AM:aV X (binaryOp .FloorDiv) (rI aaN fun i j=> .int (i/j)):=uh fun i j _ _ _ _ _ hc q=>by have h1:(0:Int)<j:=hc.1;have h2:j<1073741824:=hc.2;exact floordiv_int .o (by rw[Int.fdiv_eq_ediv_of_nonneg i .o];exact q) (.inl (PyProof.noPylong_small .o))
theorem Jd:aV X (binaryOp .Mod) (rI (fun _ j=>0<j) fun i j=> .int (i%j)):=uh fun i j _ _ _ _ _ hc q=>by have h1:(0:Int)<j:=hc;exact mod_int' .o (by rw[Int.fmod_eq_emod_of_nonneg i .o];exact q)
theorem Ta:aV X (binaryOp .Pow) (rI aaM fun i j=> .int (i^j.toNat)):=uh fun _ _ _ _ _ _ _ hc q=>pow_int_small hc.1 hc.2.1 hc.2.2 q
theorem Au:aV X (binaryOp .BitXor) (jY fun i j=> .int (Builtin.bitXor i j)):=yp fun _ _ _ _ _ _ _ q=>xor_int q
theorem Ii {f:Value->Sem Value}{g:Int->Int}
  (rule:∀(i:Int) (t:Tok) (s:Shared) (Q:Value->Shared->Prop) (E:Value->Shared->Prop),Q (.int (g i) s.toks) {s with toks:=s.toks+1}->wpAny (model X.prog X.w) X.A (f (.int i t)) Q E s):
  AY X f (rU fun i=> .int (g i)):=by
 intro pins s σ H x v Q I rx h;obtain⟨i,rfl,q⟩:=h;obtain⟨t,rfl⟩:=rx;exact rule i t s _ _ ⟨.int (g i),H,I.tok _,⟨_,rfl⟩,q⟩
theorem SX:AY X (unaryOp .USub) (rU fun i=> .int (-i)):=Ii fun _ _ _ _ _ q=>neg_int q
end
noncomputable def Cp:V->V->Bool
 | .ah,.ah=>true | .ah,.int _=>true | .int _,.ah=>true | .ah,.bl _=>true | .bl _,.ah=>true | .ah,.str _=>true | .str _,.ah=>true
 | .int _,.int _=>true | .bl _,.bl _=>true | .str _,.str _=>true | .ig _,.ig _=>true
 | .int _,.str _=>true | .str _,.int _=>true | .bl _,.str _=>true | .str _,.bl _=>true
 |_,_=>false
def Lz:R2:=fun x y H Q=>Cp x y=true/\Q (.bl (decide (x=y))) H
def Lu:R2:=fun x y H Q=>Cp x y=true/\Q (.bl (!decide (x=y))) H
theorem AS {i j:Int} :decide (V.int i=V.int j)=(i==j):=by rw[Zcb];simp
theorem FE {i j:Bool} :decide (V.bl i=V.bl j)=(i==j):=by rw[Zcb];simp
theorem F4 {i j:Str} :decide (V.str i=V.str j)=(i==j):=by rw[Zcb];simp
theorem F3 {i j:Array UInt8} :decide (V.ig i=V.ig j)=(i.toList==j.toList):=by rw[Zcb];cases i;cases j;simp
section
variable {X:Cx}{a b c:Expr}{ta tb tc:TE}{pos:Pos}
theorem ZA {pins:List (Addr×Obj)}{σ:St}{H:Hp}{s:Shared}{Q:VK}{k k':Bool}(I:Inv X pins σ H s)(q:Q (.bl k) H)(e:k=k'):EP X pins σ Q (.bool k') s:=by subst e;exact⟨.bl k,H,I,rfl,q⟩
theorem YQ:aV X (compareOp .Eq) Lz:=by
 intro pins s σ H x y v u Q I rx ry h;obtain⟨hs,q⟩:=h;cases x with
 |ah=>
  cases rx;cases y with
  |ah=>cases ry;exact PySem.EqNone.eq_none_none (ZA I q (by simp))
  |bl j=>cases ry;exact PySem.EqNone.eq_none_bool (ZA I q (by simp))
  |int j=>obtain⟨t',rfl⟩:=ry;exact PySem.EqNone.eq_none_int (ZA I q (by simp))
  |str j=>obtain⟨t',rfl⟩:=ry;exact PySem.EqNone.eq_none_str (ZA I q (by simp))
  |_=>exact absurd (show false=true from hs) Zag
 |bl i=>
  cases rx;cases y with
  |ah=>cases ry;exact PySem.EqNone.eq_bool_none (ZA I q (by simp))
  |bl j=>cases ry;exact eq_bool (ZA I q FE)
  |str j=>obtain⟨t',rfl⟩:=ry;exact PySem.EqMixed.eq_bool_str (ZA I q (by simp))
  |_=>exact absurd (show false=true from hs) Zag
 |int i=>
  obtain⟨t,rfl⟩:=rx;cases y with
  |ah=>cases ry;exact PySem.EqNone.eq_int_none (ZA I q (by simp))
  |int j=>obtain⟨t',rfl⟩:=ry;exact eq_int (ZA I q AS)
  |str j=>obtain⟨t',rfl⟩:=ry;exact PySem.EqMixed.eq_int_str (ZA I q (by simp))
  |_=>exact absurd (show false=true from hs) Zag
 |str i=>
  obtain⟨t,rfl⟩:=rx;cases y with
  |ah=>cases ry;exact PySem.EqNone.eq_str_none (ZA I q (by simp))
  |bl j=>cases ry;exact PySem.EqMixed.eq_str_bool (ZA I q (by simp))
  |int j=>obtain⟨t',rfl⟩:=ry;exact PySem.EqMixed.eq_str_int (ZA I q (by simp))
  |str j=>obtain⟨t',rfl⟩:=ry;exact eq_str (ZA I q F4)
  |_=>exact absurd (show false=true from hs) Zag
 |ig i=>
  obtain⟨t,rfl⟩:=rx;cases y with
  |ig j=>obtain⟨t',rfl⟩:=ry;exact PySem.W.eq_bytes (ZA I q F3)
  |_=>exact absurd (show false=true from hs) Zag
 |_=>cases y<;>exact absurd (show false=true from hs) Zag
theorem vy:aV X (compareOp .NotEq) Lu:=by
 intro pins s σ H x y v u Q I rx ry h;obtain⟨hs,q⟩:=h;cases x with
 |ah=>
  cases rx;cases y with
  |ah=>cases ry;exact PySem.EqNone.ne_none_none (ZA I q (by simp))
  |bl j=>cases ry;exact PySem.EqNone.ne_none_bool (ZA I q (by simp))
  |int j=>obtain⟨t',rfl⟩:=ry;exact PySem.EqNone.ne_none_int (ZA I q (by simp))
  |str j=>obtain⟨t',rfl⟩:=ry;exact PySem.EqNone.ne_none_str (ZA I q (by simp))
  |_=>exact absurd (show false=true from hs) Zag
 |bl i=>
  cases rx;cases y with
  |ah=>cases ry;exact PySem.EqNone.ne_bool_none (ZA I q (by simp))
  |bl j=>cases ry;exact ne_bool (ZA I q (ZcE not FE))
  |str j=>obtain⟨t',rfl⟩:=ry;exact PySem.EqMixed.ne_bool_str (ZA I q (by simp))
  |_=>exact absurd (show false=true from hs) Zag
 |int i=>
  obtain⟨t,rfl⟩:=rx;cases y with
  |ah=>cases ry;exact PySem.EqNone.ne_int_none (ZA I q (by simp))
  |int j=>obtain⟨t',rfl⟩:=ry;exact ne_int (ZA I q (ZcE not AS))
  |str j=>obtain⟨t',rfl⟩:=ry;exact PySem.EqMixed.ne_int_str (ZA I q (by simp))
  |_=>exact absurd (show false=true from hs) Zag
 |str i=>
  obtain⟨t,rfl⟩:=rx;cases y with
  |ah=>cases ry;exact PySem.EqNone.ne_str_none (ZA I q (by simp))
  |bl j=>cases ry;exact PySem.EqMixed.ne_str_bool (ZA I q (by simp))
  |int j=>obtain⟨t',rfl⟩:=ry;exact PySem.EqMixed.ne_str_int (ZA I q (by simp))
  |str j=>obtain⟨t',rfl⟩:=ry;exact ne_str (ZA I q (ZcE not F4))
  |_=>exact absurd (show false=true from hs) Zag
 |ig i=>
  obtain⟨t,rfl⟩:=rx;cases y with
  |ig j=>obtain⟨t',rfl⟩:=ry;exact PySem.W.ne_bytes (ZA I q (ZcE not F3))
  |_=>exact absurd (show false=true from hs) Zag
 |_=>cases y<;>exact absurd (show false=true from hs) Zag
theorem An:aV X (compareOp .Lt) (jY fun i j=> .bl (decide (i<j))):=ui fun _ _ _ _ _ _ _ q=>lt_int q
theorem Fm:aV X (compareOp .LtE) (jY fun i j=> .bl (decide (i<=j))):=ui fun _ _ _ _ _ _ _ q=>le_int q
theorem vx:aV X (compareOp .Gt) (jY fun i j=> .bl (decide (j<i))):=ui fun _ _ _ _ _ _ _ q=>gt_int q
theorem RQ:aV X (compareOp .GtE) (jY fun i j=> .bl (decide (j<=i))):=ui fun _ _ _ _ _ _ _ q=>ge_int q
theorem aV.or {f:Value->Value->Sem Value}{r r':R2}(h:aV X f r)(h':aV X f r'):aV X f (fun x y H Q=>r x y H Q∨r' x y H Q):=by
 intro pins s σ H x y v u Q I rx ry q;rcases q with q |q
 ·exact h pins s σ H x y v u Q I rx ry q
 ·exact h' pins s σ H x y v u Q I rx ry q
theorem bR (b:Expr){op:CmpOp}(h:op≠.In:=by decide)(h2:op≠.NotIn:=by decide):behindInMarks op b=false:=by
 have e1:(op==CmpOp.In)=false:=by cases op<;>first |rfl |exact absurd rfl h
 have e2:(op==CmpOp.NotIn)=false:=by cases op<;>first |rfl |exact absurd rfl h2
 cases b<;>simp[behindInMarks,e1,e2]
theorem YG {op:CmpOp}{r:R2}(ho:aV X (compareOp op) r)(ha:PE X a ta)(hb:PE X b tb)(hm:behindInMarks op b=false):PE X (.Compare a [op] [b] pos) (sU r ta tb):=by intro pins s σ H Q I h;exact wpAny_Compare1 (zW ha hb I h fun v u s2 x y H2 I2 rx ry q=>ho pins s2 σ H2 x y v u Q I2 rx ry q) hm
def Iy (t:TE):TT:=fun σ H Q=>t σ H (Hw Q)
theorem Zq {op:CmpOp}{r:R2}(ho:aV X (compareOp op) r)(ha:PE X a ta)(hb:PE X b tb)(hm:behindInMarks op b=false):PT X (.Compare a [op] [b] pos) (Iy (sU r ta tb)):=by
 intro pins s σ H Q I h;refine wpAny_isTrue_Compare1 (au (ha pins s σ H _ I h) fun v s1 ⟨x,H1,I1,r1,q1⟩=>au (hb pins s1 σ H1 _ I1 q1) fun u s2 ⟨y,H2,I2,r2,q2⟩=>
  au (ho pins s2 σ H2 x y v u _ I2 r1 r2 q2) fun c s3 ⟨z,H3,I3,r3,k,e,q3⟩=> ?_) hm
 subst e;cases r3;exact Zc6 ⟨H3,I3,q3⟩
def IZ (r r':R2)(ta tb tc:TE):TE:=fun σ H Q=>ta σ H fun x H1=>tb σ H1 fun y H2=>r x y H2 fun z H3=> ∃k,z=.bl k/\
 (if k=true then tc σ H3 fun w' H4=>r' y w' H4 Q else Q (.bl false) H3)
theorem VL {op yq:CmpOp}{r r':R2}(ho:aV X (compareOp op) r)(cQ:aV X (compareOp yq) r')(ha:PE X a ta)(hb:PE X b tb)(hc:PE X c tc)
  (hm:lastMarks [op,yq] [b,c]=false:=by with_unfolding_all rfl):PE X (.Compare a [op,yq] [b,c] pos) (IZ r r' ta tb tc):=by
 intro pins s σ H Q I h;refine Compare_chain (au (ha pins s σ H _ I h) fun v s1 ⟨x,H1,I1,r1,q1⟩=>chain_link (au (hb pins s1 σ H1 _ I1 q1) fun u s2 ⟨y,H2,I2,r2,q2⟩=>
  au (ho pins s2 σ H2 x y v u _ I2 r1 r2 q2) fun d s3 ⟨z,H3,I3,r3,k,e,q3⟩=> ?_)) hm
 subst e;cases r3;refine Zc6 ?_;cases k with
 |false=>exact ite_ff ⟨.bl false,H3,I3,rfl,q3⟩
 |true=>exact ite_tt (chain_last (au (hc pins s3 σ H3 _ I3 q3) fun w' s4 ⟨z',H4,I4,r4,q4⟩=>cQ pins s4 σ H4 y z' u w' Q I4 r2 r4 q4))
theorem uy:(sizeLine:Nat)<2^63:=by rw[ZaX];decide
theorem ZgE {x:V}{us:List Value}(r:Vals [x] us):∃u,us=[u]/\RelV x u:=by
 cases r with
 |cons r1 r2=>cases r2;exact⟨_,rfl,r1⟩
theorem vals2 {x y:V}{us:List Value}(r:Vals [x,y] us):∃u w',us=[u,w']/\RelV x u/\RelV y w':=by
 cases r with
 |cons r1 r2=>
  cases r2 with
  |cons r3 r4=>cases r4;exact⟨_,_,rfl,r1,r3⟩
theorem UW (hc:X.calm=true):fB X (.builtin "max") (fun xs H Q=> ∃i j,xs=[.int i,.int j]/\Q (.int (if j>i then j else i)) H):=by
 intro pins s σ H xs us Q I r h;obtain⟨i,j,rfl,q⟩:=h;obtain⟨u,w',rfl,⟨t,rfl⟩,⟨t',rfl⟩⟩:=vals2 r;refine max_two_ints (I.ok.hd hc) fun h' tk k=> ⟨_,H,I.kept k,?_,q⟩;by_cases hj:j>i
 ·rw[ZaQ hj,ZaQ hj];exact⟨_,rfl⟩
 ·rw[Zaz hj,Zaz hj];exact⟨_,rfl⟩
theorem Vw (hc:X.calm=true):fB X (.builtin "min") (fun xs H Q=> ∃i j,xs=[.int i,.int j]/\Q (.int (if j<i then j else i)) H):=by
 intro pins s σ H xs us Q I r h;obtain⟨i,j,rfl,q⟩:=h;obtain⟨u,w',rfl,⟨t,rfl⟩,⟨t',rfl⟩⟩:=vals2 r;refine min_two_ints (I.ok.hd hc) fun h' tk k=> ⟨_,H,I.kept k,?_,q⟩;by_cases hj:j<i
 ·rw[ZaQ hj,ZaQ hj];exact⟨_,rfl⟩
 ·rw[Zaz hj,Zaz hj];exact⟨_,rfl⟩
end
structure A4 (h:Heap)(x dx C:Addr)(mA:Str->Option Value):Prop where
 obj:h.get? x=some (PySem.W.instObj C dx)
 ns:h.Ns1 dx mA
 ne:dx≠x
theorem Xs {h:Heap}{dx:Addr}{mA:Str->Option Value}(n:h.Ns1 dx mA):∃od,h.get? dx=some od/\∀name,PySem.W.lookIn name od=some (mA name):=by
 obtain⟨o,es,ep,ho,hd,hk,_,hm⟩:=n;refine⟨o,ho,fun name=> ?_⟩;have e:=hm name;unfold nsFind findBy at e;rw[<-Array.find?_toList]at e;unfold PySem.W.lookIn;rw[hd];dsimp only;split
 ·rename_i y q;rw[q]at e;exact ZcE some e
 ·rename_i q;rw[q]at e;have a:es.toList.any (·.refKey)=false:=by rw[Zf6];intro y hy;obtain⟨z,t,ze⟩:=hk y (Array.mem_toList_iff.mp hy);simp[DictEntry.refKey,ze]
  have a':¬es.toList.any (·.refKey)=true:=by rw[a];exact Zag
  rw[Zaz a'];exact ZcE some e
theorem A4.look {h:Heap}{x dx C:Addr}{mA:Str->Option Value}(I:A4 h x dx C mA):∃od,PySem.W.InstAt h x (PySem.W.instObj C dx) C (some od)/\∀name,PySem.W.lookIn name od=some (mA name):=
 let ⟨od,ho,hl⟩:=Xs I.ns
 ⟨od,⟨I.obj,rfl,rfl,ho⟩,hl⟩
section
variable {P:Program}{w:World}{H H':Hp}{h h':Heap}{a C dx:Addr}{fs rH:List (Str×V)}
theorem Sk (aq:bY P w H h)(e:H a=some (.ins C dx fs)):∃mA,A4 h a dx C mA/\(∀f,kI (fs.lookup f) (mA f))/\PySem.Within mA (fs.map (·.1))/\fs.length<=1000/\H dx=some (.own a):=by obtain⟨d,z,ne,ob,mA,n,r,q⟩:=(show bG P w H h a (.ins C dx fs) from aq a _ e);exact⟨mA,⟨ob,n,ne⟩,r,q,z,d⟩
end
structure Bw (K:ZhK)(C:Addr):Prop where
 pg:PySem.W.plainGet K C Str.empty=true
 hd:PySem.W.hasDictIn K C=true
 po:PySem.W.plainOver K C=true
 sa:PySem.W.findIn K (.ref C) "__setattr__" =some (some (.builtin "object.__setattr__"))
theorem Bw.get {K:ZhK}{C:Addr}(c:Bw K C)(f:Str):PySem.W.plainGet K C f=true:=c.pg
section
variable {X:Cx}{pins:List (Addr×Obj)}{σ:St}{H:Hp}{s:Shared}{A:Around}{E:Value->Shared->Prop}{Q:Value->Shared->Prop}{c:Value}{b:Bool}
inductive fc (K:ZhK) (H:Hp):V->Value->Prop where
 |ah:fc K H .ah (.type "NoneType")
 |bl (x:Bool):fc K H (.bl x) (.type "bool")
 |int (i:Int):fc K H (.int i) (.type "int")
 |str (x:Str):fc K H (.str x) (.type "str")
 |kC (x:UInt64):fc K H (.kC x) (.type "float")
 |lst {a:Addr}{xs:List V} (e:H a=some (.lst xs)):fc K H (.ref a) (.type "list")
 |bM {a:Addr}{o:Obj}{xs:List V} (e:H a=some (.bM o (.lst xs))):fc K H (.ref a) (.type "list")
 |tup {a:Addr}{xs:List V} (e:H a=some (.tup xs)):fc K H (.ref a) (.type "tuple")
 |dK {a:Addr}{kvs:List (Key×V)} (e:H a=some (.dK kvs)):fc K H (.ref a) (.type "dict")
 |dT {a:Addr}{kvs:List (List Key×V)} (e:H a=some (.dT kvs)):fc K H (.ref a) (.type "dict")
 |ins {a C dx:Addr}{fs:List (Str×V)} (e:H a=some (.ins C dx fs)) (cl:Bw K C) (ha:PySem.W.findIn K (.ref C) "__class__" =some (some (.builtin "object.__class__")))
  (hn:PySem.W.specialIn K (.builtin "object.__class__") "__get__" =some (some (.builtin "getset_descriptor.__get__"))) (DE:PySem.W.takesIn K (.builtin "object.__class__")=some true)
  (hm:PySem.W.mroIn K C (.type "object")=some true):fc K H (.ref a) (.ref C)
theorem XX {x:V}{u t:Value}(I:Inv X pins σ H s)(rx:RelV x u)(ty:fc X.K H x t)(e:PySem.W.kitOne X.K t c=some b)(h:∀tk,Q (.bool b) {s with toks:=tk}):
  wpAny (model X.prog X.w) A (call (.builtin "isinstance") [u,c]) Q E s:=by
 cases ty with
 |ah=>cases (show u=Value.none from rx);exact Zc1 PySem.W.kitx_none I.dF True.intro e (fun z=>nomatch z) h
 |bl y=>cases (show u=Value.bool y from rx);exact Zc1 PySem.W.kitx_bool I.dF True.intro e (fun z=>nomatch z) h
 |int i=>obtain⟨t,q⟩:=(show ∃t,u=Value.int i t from rx);cases q;exact Zc1 PySem.W.kitx_int I.dF True.intro e (fun z=>nomatch z) h
 |str y=>obtain⟨t,q⟩:=(show ∃t,u=Value.str y t from rx);cases q;exact Zc1 PySem.W.kitx_str I.dF True.intro e (fun z=>nomatch z) h
 |kC y=>obtain⟨t,q⟩:=(show ∃t,u=Value.float y t from rx);cases q;exact Zc1 PySem.W.kitx_float I.dF True.intro e (fun z=>nomatch z) h
 | @lst a xs ea=>cases (show u=Value.ref a from rx);obtain⟨_,_,n,_,h1⟩:=(show bG X.prog X.w H s.heap a (.lst xs) from I.aq a _ ea);exact Zc1 PySem.W.kitx_list I.dF ⟨_,h1,rfl⟩ e (fun z=>nomatch z) h
 | @bM a ob xs ea=>cases (show u=Value.ref a from rx);obtain⟨_,_,_,n,_,h1⟩:=(show bG X.prog X.w H s.heap a (.bM ob (.lst xs)) from I.aq a _ ea);exact Zc1 PySem.W.kitx_list I.dF ⟨_,h1,rfl⟩ e (fun z=>nomatch z) h
 | @tup a xs ea=>cases (show u=Value.ref a from rx);obtain⟨_,_,_,p,_⟩:=(show bG X.prog X.w H s.heap a (.tup xs) from I.aq a _ ea);obtain⟨o,h1,h2,_⟩:=p;exact Zc1 PySem.W.kitx_tuple I.dF ⟨o,h1,h2⟩ e (fun z=>nomatch z) h
 | @dK a kvs ea=>cases (show u=Value.ref a from rx);obtain⟨_,_,vs,_,p⟩:=(show bG X.prog X.w H s.heap a (.dK kvs) from I.aq a _ ea);obtain⟨o,es,ep,h1,h2,_⟩:=p;exact Zc1 PySem.W.kitx_dict I.dF ⟨o,h1,h2.1⟩ e (fun z=>nomatch z) h
 | @dT a kvs ea=>cases (show u=Value.ref a from rx);obtain⟨_,_,xs,_,o,es,ep,h1,h2,_⟩:=(show bG X.prog X.w H s.heap a (.dT kvs) from I.aq a _ ea);exact Zc1 PySem.W.kitx_dict I.dF ⟨o,h1,h2.1⟩ e (fun z=>nomatch z) h
 | @ins a C dx fs ea cl ha hn DE hm=>cases (show u=Value.ref a from rx);obtain⟨mA,O,_⟩:=Sk I.aq ea;obtain⟨od,J,_⟩:=O.look;exact Zc1 (PySem.W.kitx_own (cl.get _) cl.hd ha hn DE hm) I.dF J e (fun z=>nomatch z) h
end
structure bP (k:Nat)(A:Around):Prop where
 hd:A.handled=none
 dp:A.depth+3*k+5<recursionLimit
 un:A.units+16*k+200<cLine
 gd:A.guards=some []
theorem bP.mono {j k:Nat}{A:Around}(r:bP k A)(h:j<=k):bP j A:=⟨r.hd,by have:=r.dp;omega,by have:=r.un;omega,r.gd⟩
theorem bP.deeper {k:Nat}{A:Around}(r:bP (k+1) A)(env:Env):bP k (A.deeper env):=
 ⟨r.hd,by have:=r.dp;show A.depth+1+3*k+5<_;omega,by have:=r.un;show A.units+3+16*k+200<_;omega,r.gd⟩
theorem bP.in1 {k:Nat}{A:Around}(r:bP (k+1) A):bP k A.in1:=
 ⟨r.hd,by have:=r.dp;show A.depth+3*k+5<_;omega,by have:=r.un;show A.units+1+16*k+200<_;omega,r.gd⟩
theorem bP.depth {k:Nat}{A:Around}(r:bP k A):A.depth<recursionLimit:=by have:=r.dp;omega
theorem bP.units {k:Nat}{A:Around}(r:bP k A):A.units+64<cLine:=by have:=r.un;omega
theorem bP.vX {k:Nat}{A:Around}(r:bP k A):A.units<cLine:=by have:=r.un;omega
def jT:TA:=fun _ H Q=>Q [] H
def kO (ta:TE)(tr:TA):TA:=fun σ H Q=>ta σ H fun x H1=>tr σ H1 fun xs H2=>Q (x::xs) H2
section
variable {X:Cx}{e:Expr}{es:List Expr}{te:TE}{t:TA}{pos:Pos}
theorem Zb:PA X [] jT:=fun _ _ _ _ H Q I h=>Zfe ⟨[],H,I,.nil,h⟩
theorem Za (ha:PE X e te)(hr:PA X es t)(hs:starEach (e::es) X.env=(false,eval e X.env)::starEach es X.env:=by rfl):PA X (e::es) (kO te t):=by intro pos pins s σ H Q I h;rw[hs];show wpAny _ _ (spliced ((false,eval e X.env)::backTo pos (starEach es X.env))) _ _ s;refine Zew (au (ha pins s σ H _ I h) fun u s1 ae=> ?_);obtain⟨x,H1,I1,r1,q1⟩:=ae;exact au (hr pos pins s1 σ H1 _ I1 q1) fun us s2 ⟨xs,H2,I2,r2,q2⟩=> ⟨x::xs,H2,I2,.cons r1 r2,q2⟩
def Iw (t:TA):TE:=fun σ H Q=>t σ H fun xs H1=>xs.length<=sizeLine/\∀p,H1 p=none->Q (.ref p) (upd H1 p (.tup xs))
def IP (t:TA):TE:=fun σ H Q=>t σ H fun xs H1=>xs.length<=sizeLine/\∀p,H1 p=none->Q (.ref p) (upd H1 p (.lst xs))
theorem Zs {x1}(h:PA X es t):PE X (.Tuple es x1 pos) (Iw t):=by intro pins s σ H Q I hq;refine wpAny_Tuple_spliced (au (h pos pins s σ H _ I hq) fun us s1 ⟨xs,H1,I1,r,z,q⟩=> ⟨by rw[<-r.length];exact z,?_⟩);have hf:H1 s1.heap.objs.size=none:=I1.aq.fresh (Zak _);refine⟨.ref s1.heap.objs.size,upd H1 s1.heap.objs.size (.tup xs),I1.laid (t':=s1.toks) (fun b u e=>Zad _ e) (Zak _) ?_,rfl,q _ hf⟩;exact⟨z,us,r,⟨_,Zar _ rfl,rfl,_,rfl⟩,_,Zar _ rfl,rfl⟩
theorem Z6 (h:PA X es t):PE X (.List es pos) (IP t):=by intro pins s σ H Q I hq;refine wpAny_List_spliced (au (h pos pins s σ H _ I hq) fun us s1 ⟨xs,H1,I1,r,z,q⟩=> ⟨by rw[<-r.length];exact z,?_⟩);have hf:H1 s1.heap.objs.size=none:=I1.aq.fresh (Zak _);refine⟨.ref s1.heap.objs.size,upd H1 s1.heap.objs.size (.lst xs),I1.laid (t':=s1.toks) (fun b u e=>Zad _ e) (Zak _) ?_,rfl,q _ hf⟩;exact⟨z,us,0,r,Zar _ rfl⟩
end
abbrev Sp:=List V->Hp->VK->XK->Prop
abbrev jn:=List Env->Hp->Shared->XK->Value->Shared->Prop
structure vN (P:Program)(w:World)(K:ZhK)(mg:Str->Option Value)(base:Heap)(A:Around)(outer:List Env)(s:Shared)(H:Hp):Prop where
 frames:A.frames=some outer
 mod:Mod K mg base
 bs:∀b o,base.get? b=some o->s.heap.get? b=some o/\H b=none
 md:base.objs.size<=s.heap.objs.size
 hX:s.heap.FunFrames base outer
 nC:∀b∈gN outer,H b=none
 aq:bY P w H s.heap
 bare:AllBare s.gens
def CE (outer:List Env)(P:Program)(w:World)(H:Hp)(s:Shared)(Q:VK)(u:Value)(s':Shared):Prop:=
 ∃v H',s'.os=s.os/\AllBare s'.gens/\Un (gN outer) [] H H' s.heap s'.heap/\bY P w H' s'.heap/\RelV v u/\Q v H'
def CR (CX:jn)(outer:List Env)(P:Program)(w:World)(H:Hp)(s:Shared)(Q:VK)(E:XK)(r:Result)(s':Shared):Prop:=
 match r with
 | .ok (.ret u)=>CE outer P w H s Q u s'
 | .ok _=>False
 | .error e=>CX outer H s E e s'
structure ay (P:Program)(w:World)(K:ZhK)(mg:Str->Option Value)(base:Heap)(CX:jn)(k:Nat)(f:Addr)(fd:FuncData)(ps:List Str)(sp:Sp):Prop where
 len:∀vs H Q E,sp vs H Q E->vs.length=ps.length
 run:∀(A:Around) (outer:List Env) (s:Shared) (H:Hp) (args:Args) (us:List Value) (vs:List V) (Q:VK) (E:XK),bP k A->vN P w K mg base A outer s H->BindsTo s fd args (ps.zip us)->Vals vs us->sp vs H Q E->
  codeAny (model P w) A (.call (.ref f) args) (CR CX outer P w H s Q E) s
theorem ay.imp {P:Program}{w:World}{K:ZhK}{mg:Str->Option Value}{base:Heap}{CX:jn}{k:Nat}{f:Addr}{fd:FuncData}{ps:List Str}{sp Cm:Sp}(F:ay P w K mg base CX k f fd ps sp)
  (h:∀vs H Q E,Cm vs H Q E->sp vs H Q E):ay P w K mg base CX k f fd ps Cm:=
 ⟨fun vs H Q E q=>F.len vs H Q E (h _ _ _ _ q),fun A outer s H args us vs Q E hr he hb hv hs=>F.run A outer s H args us vs Q E hr he hb hv (h _ _ _ _ hs)⟩
section
variable {X:Cx}{pins:List (Addr×Obj)}{σ:St}{H:Hp}{s s':Shared}
theorem Inv.P1 (I:Inv X pins σ H s):vN X.prog X.w X.K X.mg X.base X.A X.stack s H:=
 ⟨I.ok.frames,I.ok.mod,I.bs,Zbi I.ok.md I.sz,I.stack,I.BL,I.aq,I.bare⟩
theorem Inv.after {Q:VK}{u:Value}(I:Inv X pins σ H s)(h:CE X.stack X.prog X.w H s Q u s'):EP X pins σ Q u s':=by obtain⟨v,H',os,bare,un,aq,r,q⟩:=h;obtain⟨hh,g,d,t,qw⟩:=s';obtain rfl:qw=s.os:=os;exact⟨v,H',I.call (h':=hh) (g':=g) (d':=d) (t':=t) (ch:=[]) un aq bare (fun b z=>absurd z (by simp)),r,q⟩
end
def sV (sp:Sp)(je:List V)(E:XK)(t:TA):TE:=fun σ H Q=>t σ H fun vs H1=>sp (vs++je) H1 Q E
def Binds (K:ZhK)(fd:FuncData)(ps:List Str)(ds:List Value):Prop:=
 ∀(s:Shared) (us:List Value),K.In s.heap->(us++ds).length=ps.length->BindsTo s fd ⟨us,[]⟩ (ps.zip (us++ds))
theorem Binds.all {K:ZhK}{fd:FuncData}{ps:List Str}(h:∀us:List Value,us.length=ps.length->bindArgs fd ⟨us,[]⟩=pure (ps.zip us)):Binds K fd ps []:=fun s us _ hl=>by rw[ZbE]at hl |-;exact .of_eq (h us hl)
def Passes (CX:jn)(X:Cx)(E:XK):Prop:=∀(pins:List (Addr×Obj)) (σ:St) (H:Hp) (s:Shared) (e:Value) (s':Shared),Inv X pins σ H s->CX X.stack H s E e s'->X.xe e s'
section
variable {X:Cx}{CX:jn}{k:Nat}{f C:Addr}{fd:FuncData}{ps:List Str}{sp:Sp}{je:List V}{ds:List Value}{E:XK}{x m:Str}{p pos apos:Pos}{e o:Expr}{es:List Expr}{ta:TE}{t:TA}
theorem AB {pins:List (Addr×Obj)}{σ:St}{H:Hp}{s:Shared}{Q:VK}{us:List Value}{vs:List V}(F:ay X.prog X.w X.K X.mg X.base CX k f fd ps sp)(hr:bP k X.A)(hb:Binds X.K fd ps ds)(hd:Vals je ds)(hx:Passes CX X E)
  (I:Inv X pins σ H s) (r:Vals vs us) (h:sp (vs++je) H Q E):wpAny (model X.prog X.w) X.A (call (.ref f) us) (EP X pins σ Q) X.xe s:=by
 have r2:Vals (vs++je) (us++ds):=r.append hd;have hl:(us++ds).length=ps.length:=by rw[<-r2.length];exact F.len _ _ _ _ h
 refine wpAny_call (ZeT (F.run X.A X.stack s H ⟨us,[]⟩ (us++ds) (vs++je) Q E hr I.P1 (hb s us I.dF hl) r2 h) fun r s' hq=> ?_);cases r with
 |error e=>exact hx pins σ H s e s' I hq
 |ok fl=>
  cases fl with
  |ret u=>exact I.after hq
  |next=>exact False.elim hq
  |brk=>exact False.elim hq
  |cont=>exact False.elim hq
theorem T7 (F:ay X.prog X.w X.K X.mg X.base CX k f fd ps sp)(hr:bP k X.A)(hg:Gl X x)(hm:X.mg x=some (.ref f))(hk:PySem.W.keepIn X.K (.ref f)=true)(hb:Binds X.K fd ps ds)(hd:Vals je ds)(hx:Passes CX X E)
  (ha:PA X (e::es) t) (eX:(x==("__debug__" :Str))=false:=by decide) (he:starEach (e::es) X.env=(false,eval e X.env)::starEach es X.env:=by rfl) (fP:(backTo pos (starEach es X.env)).any (·.1)=false:=by rfl):
  PE X (.Call (.Name x p) (e::es) [] pos) (sV sp je E t):=by
 intro pins s σ H Q I h;refine Zdd (AF I hg hm ?_ eX);refine PySem.W.callWith_K (h₀:=X.base) I.ok.mod.uC hk (au (ha pos pins s σ H _ I h) fun us s1 ⟨vs,H1,I1,r,q⟩=> ⟨I1.dF,?_⟩) he fP;exact AB F hr hb hd hx I1 r q
theorem VJ (F:ay X.prog X.w X.K X.mg X.base CX k f fd ps sp)(hr:bP k X.A)(hg:Gl X x)(hm:X.mg x=some (.ref f))(hk:PySem.W.keepIn X.K (.ref f)=true)(hb:Binds X.K fd ps ds)(hd:Vals je ds)(hx:Passes CX X E)
  (eX:(x==("__debug__" :Str))=false:=by decide):PE X (.Call (.Name x p) [] [] pos) (sV sp je E jT):=by
 intro pins s σ H Q I h;refine Zdd (AF I hg hm ?_ eX);exact PySem.W.callWith_K0 I.dF hk (AB (us:=[]) F hr hb hd hx I .nil h)
end
def PK (X:Cx)(qI:List Keyword)(t:TA):Prop:=
 ∀(pos:Pos) (pins:List (Addr×Obj)) (s:Shared) (σ:St) (H:Hp) (Q:List V->Hp->Prop),Inv X pins σ H s->t σ H Q->wpAny (model X.prog X.w) X.A (evalAll ((backToKw pos (keywordEach qI X.env)).map (·.2))) (AP X pins σ Q) X.xe s
section
variable {X:Cx}{CX:jn}{k:Nat}{f C:Addr}{fd:FuncData}{ps ks:List Str}{sp:Sp}{E:XK}{x m:Str}{p pos apos j6:Pos}{e o:Expr}{es:List Expr}{qI:List Keyword}{te ta:TE}{t tk:TA}{nm:Option Str}
theorem FO:PK X [] jT:=fun _ _ _ _ H Q I h=>wpAny_evalAll_nil ⟨[],H,I,.nil,h⟩
theorem Gi (ha:PE X e te)(hr:PK X qI t):PK X (⟨nm,e,j6⟩::qI) (kO te t):=by intro pos pins s σ H Q I h;show wpAny _ _ (evalAll ((do let v <-eval e X.env;standAt pos;pure v)::(backToKw pos (keywordEach qI X.env)).map (·.2))) _ _ s;refine wpAny_evalAll_cons (eg (au (ha pins s σ H _ I h) fun u s1 ⟨x,H1,I1,r1,q1⟩=>eg (Zef (gc ?_))));exact au (hr pos pins s1 σ H1 _ I1 q1) fun us s2 ⟨xs,H2,I2,r2,q2⟩=> ⟨x::xs,H2,I2,.cons r1 r2,q2⟩
variable {g:List Value->List Value->List Value}{gV:List V->List V->List V}
end
structure aM (N P:List Str)(sc:Scope):Prop where
 kind:sc.kind=.function
 co:sc.isCoroutine=false
 gen:sc.isGenerator=false
 nd:N.Nodup
 pre:N.take P.length=P
 par:∀x∈P,sc.names.lookup x=some .local∨sc.names.lookup x=some .cell
 MB:∀y∈sc.names,y.2≠.free
def KS (N P:List Str)(sc:Scope):Bool:=decide (sc.kind=.function/\sc.isCoroutine=false/\sc.isGenerator=false/\N.Nodup/\N.take P.length=P/\(∀x∈P,sc.names.lookup x=some .local∨sc.names.lookup x=some .cell)/\∀y∈sc.names,y.2≠.free)
theorem Zr {N P:List Str}{sc:Scope}(h:KS N P sc=true):aM N P sc:=let ⟨a,b,c,d,e,f,g⟩:=Zbt h;⟨a,b,c,d,e,f,g⟩
theorem UX {kindOf:Str->Option NameKind}{x:Str} :∀{binds:List (Str×Value)}{m:Str->Option Value},(∀v,(x,v)∉binds)->bindL kindOf binds m x=m x
 | [],_,_=>rfl
 |(n,v)::r,m,h=>by
  unfold bindL;rw[UX fun w hw=>h w (Zae _ hw)];split
  ·have:x≠n:=by rintro rfl;exact h v Zaf
   simp[this]
  ·rfl
theorem UZ {kindOf:Str->Option NameKind}{x:Str} :∀{binds:List (Str×Value)}{m:Str->Option Value},(∀v,(x,v)∉binds)->bindC kindOf binds m x=m x
 | [],_,_=>rfl
 |(n,v)::r,m,h=>by
  unfold bindC;rw[UZ fun w hw=>h w (Zae _ hw)];split
  ·rfl
  ·have:x≠n:=by rintro rfl;exact h v Zaf
   simp[this]
theorem UY {kindOf:Str->Option NameKind}{x:Str}{v:Value} :∀{P:List Str}{vs:List Value}{i:Nat}{m:Str->Option Value},P.Nodup->P[i]? =some x->vs[i]? =some v->kindOf x=some .local->
  bindL kindOf (P.zip vs) m x=some v
 | [],_,_,_,_,h,_,_=>by simp at h
 |_::_,[],_,_,_,_,h,_=>by simp at h
 |p::P,w::vs,0,m,nd,h1,h2,hk=>by simp at h1 h2;subst h1;subst h2;show bindL kindOf ((p,w)::P.zip vs) m p=_;unfold bindL;rw[UX fun v hv=> (Zcm.mp nd).1 (ZgM hv).1,ZaQ hk];simp
 |p::P,w::vs,i+1,m,nd,h1,h2,hk=>by show bindL kindOf ((p,w)::P.zip vs) m x=_;unfold bindL;exact UY (i:=i) (Zcm.mp nd).2 (by simpa using h1) (by simpa using h2) hk
theorem U0 {kindOf:Str->Option NameKind}{x:Str}{v:Value} :∀{P:List Str}{vs:List Value}{i:Nat}{m:Str->Option Value},P.Nodup->P[i]? =some x->vs[i]? =some v->kindOf x≠some .local->
  bindC kindOf (P.zip vs) m x=some v
 | [],_,_,_,_,h,_,_=>by simp at h
 |_::_,[],_,_,_,_,h,_=>by simp at h
 |p::P,w::vs,0,m,nd,h1,h2,hk=>by simp at h1 h2;subst h1;subst h2;show bindC kindOf ((p,w)::P.zip vs) m p=_;unfold bindC;rw[UZ fun v hv=> (Zcm.mp nd).1 (ZgM hv).1,Zaz hk];simp
 |p::P,w::vs,i+1,m,nd,h1,h2,hk=>by show bindC kindOf ((p,w)::P.zip vs) m x=_;unfold bindC;exact U0 (i:=i) (Zcm.mp nd).2 (by simpa using h1) (by simpa using h2) hk
def start (N:List Str)(vs:List V):St:=vs.map some++List.replicate (N.length-vs.length) none
noncomputable def ie (CX:jn)(P:Program)(w:World)(K:ZhK)(mg:Str->Option Value)(base:Heap)(N:List Str)(qual:Str)(scope:Scope)(f:Addr)(cd:Value)(A:Around)(outer:List Env)(s:Shared)(H:Hp)(E:XK):Cx where
 prog:=P
 w:=w
 K:=K
 mg:=mg
 base:=base
 A:=A.deeper (envOfC qual scope s.heap.objs.size f cd)
 N:=N
 cM:=s
 sr:=H
 env:=envOfC qual scope s.heap.objs.size f cd
 outer:=outer
 stack:=envOfC qual scope s.heap.objs.size f cd::outer
 ex:=[]
 calm:=true
 fn:=fun _=>true
 pn:=[]
 xe:=fun e s'=>wpAny (model P w) (A.deeper (envOfC qual scope s.heap.objs.size f cd)) (leaving (envOfC qual scope s.heap.objs.size f cd) e) (fun _ mO=>CX outer H s E e mO) (fun e' mO=>CX outer H s E e' mO) s'
theorem G2 {sc:Scope}{n:Nat}{x:Str}(h:sc.names.lookup x=some .cell):∃c,(cellsFrom n sc.names []).lookup x=some c:=by have q:=PySem.W.cellsFrom_some sc.names n [] (.inl h);exact ZeU.mp q
theorem XW {CX:jn}{P:Program}{w:World}{K:ZhK}{mg:Str->Option Value}{base:Heap}{N ps:List Str}{qual:Str}{scope:Scope}{f:Addr}{cd:Value}{A:Around}{outer:List Env}{s s1:Shared}{H:Hp}{E:XK}{us:List Value}{vs:List V}
  (S:aM N ps scope) (hd:A.handled=none) (e0:vN P w K mg base A outer s H) (hl:vs.length=ps.length) (r:Vals vs us)
  (x:InCallC s s.heap.objs.size (bindL (envOfC qual scope s.heap.objs.size f cd).kindOf (ps.zip us) fun _=>none) (cellsFrom (s.heap.objs.size+1) scope.names []) (bindC (envOfC qual scope s.heap.objs.size f cd).kindOf (ps.zip us) fun _=>none) s1):
  Inv (ie CX P w K mg base N qual scope f cd A outer s H E) [] (start N vs) H s1:=by
 have fP:ps.length<=N.length:=by have:=ZcE List.length S.pre;rw[ZaR]at this;omega
 obtain⟨h1,tk,rfl,hk⟩:=x.done;have oG:∀b:Addr,b∉(ie CX P w K mg base N qual scope f cd A outer s H E).ex:=fun b z=>absurd (show b∈([]:List Addr) from z) (by simp);refine⟨⟨e0.mod,S.kind,rfl,rfl,Zak _,fun y z c h1 h2=> ?_,fun y hy=> ?_,fun y c _ h=> ?_,fun _=>hd,Around.frames_deeper e0.frames,.inr ⟨rfl,rfl⟩,fun b z=>absurd z (oG b),e0.bs,e0.md,fun b _ _=>oG b,fun b z=>absurd z (oG b),e0.hX,e0.nC⟩,
  rfl,e0.bare,Un.kept hk,⟨_,x.toInCall.ns,fun i y v h1 h2 h3=> ?_⟩,fun y c h=> ⟨_,x.cell y c h⟩,e0.aq.fresh (Zak _),fun y c h=> ?_,fun p hp=>absurd (show p∈([]:List (Addr×Obj)) from hp) (by simp),e0.aq.kept hk,?_⟩
 ·exact name_of_addr x.apart (Zeg h1) (Zeg h2)
 ·have hy:scope.names.lookup y=some .cell∨scope.names.lookup y=some .free:=hy;rcases hy with hy |hy
  ·exact G2 hy
  ·exact absurd rfl (S.MB _ (Zeg hy))
 ·exact ZdQ (x.above y c (Zeg h))
 ·have hi:i<vs.length:=by
   unfold start at h2;by_cases hi:i<vs.length
   ·exact hi
   ·rw[Zcx (by simpa using hi)]at h2;rw[Zc7]at h2;split at h2<;>cases h2
  have ha:vs[i]? =some v:=by
   unfold start at h2;rw[ZcQ (by simpa using hi),Zbk]at h2;cases e:vs[i]? with
   |none=>rw[e]at h2;cases h2
   |some a=>rw[e]at h2;cases h2;rfl
  obtain⟨u,hu,rv⟩:=r.get ha;have hp:ps[i]? =some y:=by rw[<-S.pre,ZcZ .o];exact h1
  have De:ps.Nodup:=by rw[<-S.pre];exact S.nd.sublist (ZdI _ _)
  refine⟨u,rv,?_⟩;rcases S.par y (ZaD hp) with k |k
  ·exact .inl ⟨k,UY De hp hu k⟩
  ·obtain⟨c,e⟩:=G2 (n:=s.heap.objs.size+1) k;refine .inr ⟨.inl k,c,e,?_⟩;have q:=x.cell y c e;rw[U0 De hp hu (by show scope.names.lookup y≠_;rw[k];decide)]at q;exact q
 ·exact e0.aq.fresh (ZdQ (x.above y c (Zeg h)))
 ·unfold start;show _=N.length;rw[Zaj,Zal,Zco];omega
theorem RH {CX:jn}{P:Program}{w:World}{K:ZhK}{mg:Str->Option Value}{base:Heap}{k:Nat}{f:Addr}{name qual:Str}{params:Arguments}{body:List Stmt}{scope:Scope}{dV kV doc pm ao ct oc:Value}{an od:Option Addr}
    {iJ:Array (Option Value)}{N ps:List Str}{sp:Sp} (lk:K.lookup f=some ⟨oc,od,.func (PySem.W.fnOf name qual params body scope dV kV doc pm an ao ct),iJ⟩) (hJ:PySem.W.codeIn K ao qual=true) (S:aM N ps scope)
    (len:∀vs H Q E,sp vs H Q E->vs.length=ps.length)
    (zv:∀(A:Around) (outer:List Env) (s:Shared) (H:Hp) (vs:List V) (Q:VK) (E:XK),bP k (A.deeper (envOfC qual scope s.heap.objs.size f ao))->sp vs H Q E->
      ∃t,fz (ie CX P w K mg base N qual scope f ao A outer s H E) body t/\t {nx:=fun _ H'=>Q .ah H',rt:=Q} (start N vs) H):
    ay P w K mg base CX (k+1) f (PySem.W.fnOf name qual params body scope dV kV doc pm an ao ct) ps sp:=by
  refine⟨len,fun A outer s H args us vs Q E hr e0 hb r lO=> ?_⟩;have hl:=len _ _ _ _ lO;have KX:K.In s.heap:=e0.mod.uC.keeps fun b o e=> (e0.bs b o e).1;have lim:s.heap.NoLimit:=e0.mod.nolimit.keeps fun b o e=> (e0.bs b o e).1;have OD:∀y∈ps.zip us,scope.names.lookup y.1=some .local∨(scope.names.lookup y.1=some .cell/\((cellsFrom (s.heap.objs.size+1) scope.names []).lookup y.1).isSome=true):=fun⟨n,v⟩ hy=>by
    rcases S.par n (ZgM hy).1 with q |q
    · exact .inl q
    · exact .inr ⟨q,PySem.W.cellsFrom_some _ _ _ (.inl q)⟩
  refine codeAny_call_function hr.depth (KX _ _ lk) rfl S.co S.gen rfl (PySem.W.codeRec_of KX hJ) (hb _ _ _ _ ?_);refine wpAny_newFunctionEnv_cells S.kind OD fun env he s1 x=> ?_;subst he;refine⟨lim.keeps x.toInCall.keep,codeAny_func ?_⟩;obtain⟨t,ht,hq⟩:=zv A outer s H vs Q E (hr.deeper _) lO;have I:Inv (ie CX P w K mg base N qual scope f ao A outer s H E) [] (start N vs) H s1:=XW S hr.hd e0 hl r x;refine ZcD (ht [] s1 (start N vs) H _ I hq) (fun fl s' hs=> ?_) fun e s' hs=>hs;have fin:∀{ak:St}{H':Hp}{v:V}{u:Value},Inv (ie CX P w K mg base N qual scope f ao A outer s H E) [] ak H' s'->RelV v u->Q v H'->CE outer P w H s Q u s':=
    fun {ak H' v u} J rv q=> ⟨v,H',J.os,J.bare,J.base,J.aq,rv,q⟩
  cases fl with
  |ret u=>obtain⟨v,ak,H',J,rv,q⟩:=hs;exact fin J rv q
  |next=>obtain⟨ak,H',J,q⟩:=hs;exact fin (v:=V.ah) (u:=Value.none) J rfl q
  |brk=>obtain⟨_,_,_,q⟩:=hs;exact False.elim q
  |cont=>obtain⟨_,_,_,q⟩:=hs;exact False.elim q
section
variable {X:Cx}{x:Str}{p pos:Pos}{e:Expr}{es:List Expr}{t:TA}{id T:String}{r:List V->Hp->VK->Prop}
def BI (r:List V->Hp->VK->Prop)(t:TA):TE:=fun σ H Q=>t σ H fun vs H1=>r vs H1 Q
theorem Zo (hc:fB X (.builtin id) r)(hg:Gl X x)(hm:X.mg x=none)(hv:bootBuiltins x=some (.builtin id))(ha:PA X (e::es) t)(hn:x≠ "__name__" :=by decide)(eX:(x==("__debug__" :Str))=false:=by decide)
  (he:starEach (e::es) X.env=(false,eval e X.env)::starEach es X.env:=by rfl) (fP:(backTo pos (starEach es X.env)).any (·.1)=false:=by rfl):PE X (.Call (.Name x p) (e::es) [] pos) (BI r t):=by
 intro pins s σ H Q I h;refine Zdd (Z8 I hg hm hv ?_ hn eX);exact Zed (au (ha pos pins s σ H _ I h) fun us s1 ⟨vs,H1,I1,r1,q1⟩=>hc pins s1 σ H1 vs us Q I1 r1 q1) he fP
theorem Yz (hc:fB X (.type T) r)(hg:Gl X x)(hm:X.mg x=none)(hv:bootBuiltins x=some (.type T))(ha:PA X (e::es) t)(hn:x≠ "__name__" :=by decide)(eX:(x==("__debug__" :Str))=false:=by decide)
  (he:starEach (e::es) X.env=(false,eval e X.env)::starEach es X.env:=by rfl) (fP:(backTo pos (starEach es X.env)).any (·.1)=false:=by rfl):PE X (.Call (.Name x p) (e::es) [] pos) (BI r t):=by
 intro pins s σ H Q I h;refine Zdd (Z8 I hg hm hv ?_ hn eX);exact Zcs (au (ha pos pins s σ H _ I h) fun us s1 ⟨vs,H1,I1,r1,q1⟩=>hc pins s1 σ H1 vs us Q I1 r1 q1) he fP
end
end L2
namespace HT
open PySem PyProof.Rows
def lexLt:List Int->List Int->Bool
 | [],[]=>false
 | [],_::_=>true
 |_::_,[]=>false
 |x::xs,y::ys=>if x=y then lexLt xs ys else decide (x<y)
theorem yz (x y:Int)(xs ys:List Int):lexLt (x::xs) (y::ys)=if x=y then lexLt xs ys else decide (x<y):=rfl
theorem Ui:lexLt [] []=false:=rfl
theorem WO (y:Int)(ys:List Int):lexLt [] (y::ys)=true:=rfl
theorem WP (x:Int)(xs:List Int):lexLt (x::xs) []=false:=rfl
theorem Th (A:Around)(s:Shared)(a:Int)(t:Tok)(c:Int)(u:Tok):∃e,SeqAt.EqAt A s (.int a t) (.int c u) e/\(e=true↔a=c):=
 ⟨(a==c),ZdR a t c u,by simp⟩
theorem CF (A:Around)(s:Shared)(a:Int)(t:Tok)(c:Int)(u:Tok)(prog:Program)(w:World)(E:Value->Shared->Prop)(Q:Value->Shared->Prop)(h:Q (.bool (decide (a<c))) s):
  wpAny (model prog w) A (richCompare .Lt (.int a t) (.int c u)) Q E s:=
 (PyProof.Rows.lt_int h:wpAny (model prog w) A (compareOp .Lt (.int a t) (.int c u)) Q E s)
section
open PySem.SeqAt
open PySem.AutoSeq1 (wpAny_loadPart')
open PySem.MeetsSeq PySem.MeetsSeq2 PySem.MeetsSeq3
theorem Ue (l b:Addr)(items items2:Array Value)(n n2:Nat)(dd ic:Option Addr)(sl gA:Array (Option Value))(ns ms:List Int)(hi:IntsAre items.toList ns)(hj:IntsAre items2.toList ms):
  Meets (Builtin.«tuple.__lt__» ⟨[.ref l,.ref b],[]⟩)
   (fun _ R s=>s.heap.get? l=some {cls:=.type "tuple",dict:=dd,data:=.seq items n,slots:=sl}/\s.heap.get? b=some {cls:=.type "tuple",dict:=ic,data:=.seq items2 n2,slots:=gA}/\
    R (.ok (.ret (.bool (lexLt ns ms)))) s):=
 .of_wp fun prog w A R s h=>by
  obtain⟨hp,g,d,tk,os⟩:=s;obtain⟨hl,hb,h⟩:=h;have f2:=Zf7;have z1:items.size=ns.length:=by rw[<-hi.length];simp
  have z2:items2.size=ms.length:=by rw[<-hj.length];simp
  wp_walk using wpAny_loadPart' hl,PySem.wpAny_loadPart' hb,ZcI _ (fun rest b s'=>b.1=none/\s'=⟨hp,g,d,tk,os⟩/\∃(vs ws:List Value) (oE oJ:List Int),rest=vs.zip ws/\
   IntsAre vs oE/\IntsAre ws oJ/\oE.length+items2.size=oJ.length+items.size/\R (.ok (.ret (.bool (lexLt oE oJ)))) ⟨hp,g,d,tk,os⟩) _
  case turn=>
   rintro⟨y,x⟩ rest b s' ⟨cG,rfl,vs,ws,oE,oJ,hz,yH,uG,hlen,hR⟩;cases yH with
   |nil=>rw[List.zip_nil_left]at hz;cases hz
   |cons a t NB=>
    cases uG with
    |nil=>rw[List.zip_nil_right]at hz;cases hz
    |cons c u NA=>
     rw[Zcr]at hz;injection hz with qM uJ;injection qM with hy hx;subst hy hx;rw[yz]at hR;simp only[Za8]at hlen;obtain⟨e,he,Ef⟩:=Th A.in1 ⟨hp,g,d,tk,os⟩ a t c u;refine eg (he prog w _ _ ?_);cases e with
     |true=>
      rw[ZaQ (Ef.mp rfl)]at hR
      wp_walk
      exact⟨rfl,rfl,_,_,_,_,uJ,NB,NA,.o,hR⟩
     |false=>
      rw[Zaz (fun q=>absurd (Ef.mpr q) Zag)]at hR;have yQ:=CF A.in1 ⟨hp,g,d,tk,os⟩ a t c u prog w
      wp_walk using yQ
      exact⟨_,rfl,by simpa using hR⟩
  case fin=>
   rintro⟨b1,b2⟩ s' ⟨cG,rfl,vs,ws,oE,oJ,hz,yH,uG,hlen,hR⟩;simp only at cG;subst cG;have hv:lexLt oE oJ=decide (items.size<items2.size):=by
    cases yH with
    |nil=>
     cases uG with
     |nil=>simp only[ZcN]at hlen;rw[Ui];exact(ZaF .o).symm
     |cons c u hw=>simp only[ZcN,Za8]at hlen;rw[WO];exact(Zaq .o).symm
    |cons a t hv=>
     cases uG with
     |nil=>simp only[ZcN,Za8]at hlen;rw[WP];exact(ZaF .o).symm
     |cons c u hw=>rw[Zcr]at hz;cases hz
   rw[hv]at hR
   wp_walk
   exact⟨_,rfl,by simpa[Builtin.Tuple.tupleCompareSizes] using hR⟩
  case h=>exact⟨rfl,rfl,items.toList,items2.toList,ns,ms,rfl,hi,hj,.o,h⟩
end
section
variable {prog:Program}{w:World}{A:Around}{E:Value->Shared->Prop}{s:Shared}
theorem Dl {l b:Addr}{items items2:Array Value}{ns ms:List Int}{Q:Value->Shared->Prop}(hl:IsTup s.heap l items)(hb:IsTup s.heap b items2)(hi:IntsAre items.toList ns)(hj:IntsAre items2.toList ms)
  (hu:A.units<cLine) (h:Q (.bool (lexLt ns ms)) s):wpAny (model prog w) A (compareOp .Lt (.ref l) (.ref b)) Q E s:=by
 obtain⟨⟨cls,dd,data,sl⟩,ho,hc,n,hd⟩:=id hl;obtain⟨⟨zT,ic,data2,gA⟩,gH,gk,n2,hd2⟩:=id hb;simp only at hc hd gk hd2;subst hc hd gk hd2;exact richCompare_meets_room (op:=.Lt) ⟨_,ho,rfl⟩ ⟨_,gH,rfl⟩ PySem.F.slot_tuple_lt PySem.F.entry_tuple_lt (PySem.F.args_tuple_lt_2 _ _) (Ue l b items items2 n n2 dd ic sl gA ns ms hi hj)
  ⟨ho,gH,show Value.bool (lexLt ns ms)≠Value.notImplemented/\Q (.bool (lexLt ns ms)) s from ⟨(fun x=>nomatch x),h⟩⟩ hu
theorem Q3 {t b:Addr}{vs ws:List Value}{Q:Value->Shared->Prop}(ht:IsTup s.heap t vs.toArray)(hb:IsTup s.heap b ws.toArray)(hv:vs≠[])
  (h1:ws=[]->Q (.ref t) s) (h2:ws≠[]->Q (.ref s.heap.objs.size) {s with heap:=s.heap.push {cls:=.type "tuple",data:=.seq (vs++ws).toArray} })
  (hsz:vs.length+ws.length<=sizeLine):wpAny (model prog w) A (binaryOp .Add (.ref t) (.ref b)) Q E s:=by
 obtain⟨⟨cls,dd,data,sl⟩,ho,hc,n,hd⟩:=id ht;obtain⟨⟨zT,ic,data2,gA⟩,gH,gk,n2,hd2⟩:=id hb;simp only at hc hd gk hd2;subst hc hd gk hd2;have e:vs.toArray++ws.toArray=(vs++ws).toArray:=by simp
 by_cases hw:ws=[]
 ·exact concat_meets ⟨_,ho,rfl⟩ ⟨_,gH,rfl⟩ Zgu Zhj Ze7 Ze2 (ZeV _ _)
   (tuple_addW1 t b vs.toArray ws.toArray n n2 dd ic sl gA (by simpa using hv) (by simp[hw])) ⟨ho,gH,h1 hw⟩
 ·refine concat_meets ⟨_,ho,rfl⟩ ⟨_,gH,rfl⟩ Zgu Zhj Ze7 Ze2 (ZeV _ _)
   (tuple_addW2 t b vs.toArray ws.toArray n n2 dd ic sl gA (by simpa using hv) (by simpa using hw) (by rw[Zap,Zap];exact hsz)) ⟨ho,gH,?_⟩
  rw[e];exact h2 hw
def aN (n d:Nat):Option Int->Nat
 |none=>d
 |some v=>if v<0 then (v+(n:Int)).toNat else min v.toNat n
theorem Cy (n d:Nat):aN n d none=d:=rfl
theorem tU (n d k:Nat):aN n d (some (k:Int))=min k n:=by show(if (k:Int)<0 then ((k:Int)+(n:Int)).toNat else min (k:Int).toNat n)=min k n;rw[Zaz .o,Zbu]
theorem SO (n d:Nat)(hd:d<=n)(o:Option Int):aN n d o<=n:=by
 cases o with
 |none=>exact hd
 |some v=>
  show(if v<0 then (v+(n:Int)).toNat else min v.toNat n)<=n;by_cases hv:v<0
  ·rw[ZaQ hv];omega
  ·rw[Zaz hv];exact Nat.min_le_right _ _
theorem FY (v:Int)(n d:Nat):(if v<0 then max (v+(n:Int)) 0 else min v (n:Int))=((aN n d (some v):Nat):Int):=by
 show(if v<0 then max (v+(n:Int)) 0 else min v (n:Int))=(((if v<0 then (v+(n:Int)).toNat else min v.toNat n):Nat):Int);by_cases hv:v<0
 ·simp only[ZaQ hv];omega
 ·simp only[Zaz hv];omega
theorem XZ (lo hi:Option Int)(n:Nat):Builtin.Slice.sliceAdjust lo hi 1 (n:Int)=(((aN n 0 lo:Nat):Int),((aN n n hi:Nat):Int)):=by
 have h1:¬((1:Int)<0):=.o;unfold Builtin.Slice.sliceAdjust;simp only[h1,ZbI];refine Zeh ?_ ?_
 ·cases lo with
  |none=>rfl
  |some v=>exact FY v n 0
 ·cases hi with
  |none=>rfl
  |some v=>exact FY v n n
theorem Zb7 (i j:Nat):Builtin.Slice.slicePlaces (i:Int) (j:Int) 1=j-i:=by unfold Builtin.Slice.slicePlaces;have h1:(1:Int)>0:=.o;simp only[h1,ZdC,Int.ediv_one];split<;>omega
theorem Wx {v:Value}{o:Option Int}{Q:Option Int->Shared->Prop}(p:IsPart v o)(h:Q o s):wpAny (model prog w) A (Builtin.Slice.slicePartIndex v) Q E s:=by
 cases p with
 |none=>exact slicePart_none h
 |int i t=>exact slicePart_int h
theorem JF {sl:Addr}{vl vu:Value}{lo hi:Option Int}{n:Nat}{Q:Int×Int×Nat->Shared->Prop}(hs:s.heap.IsSliceOf sl vl vu .none)(pl:IsPart vl lo)(pu:IsPart vu hi)
  (h:Q (((aN n 0 lo:Nat):Int),1,aN n n hi-aN n 0 lo) s):wpAny (model prog w) A (Builtin.Slice.sliceApplied (.ref sl) (pure (n:Int))) Q E s:=by
 obtain⟨os,qZ,Em,uY⟩:=id hs;unfold Builtin.Slice.sliceApplied Builtin.Slice.sliceFields;refine eg (eg (Zcy qZ uY (x:=vl) rfl (eg (Zcy qZ uY (x:=vu) rfl (eg (Zcy qZ uY (x:=.none) rfl (gc ?_)))))));refine eg (slicePart_none ?_);show wpAny _ _ (if ((1:Int)==0)=true then _ else _) _ _ s;rw[Zaz .d];refine eg (Wx pl (eg (Wx pu (eg (gc ?_)))));show wpAny _ _ (match Builtin.Slice.sliceAdjust lo hi 1 (n:Int) with |(lo,hi)=>pure (lo,(1:Int),Builtin.Slice.slicePlaces lo hi 1)) _ _ s;rw[XZ lo hi n];show wpAny _ _ (pure (((aN n 0 lo:Nat):Int),(1:Int),Builtin.Slice.slicePlaces ((aN n 0 lo:Nat):Int) ((aN n n hi:Nat):Int) 1)) _ _ s;rw[Zb7];exact gc h
theorem VQ (xs:Array Value)(i k:Nat):((List.range k).filterMap fun(m:Nat)=>xs[((i:Int)+(m:Int)*1).toNat]?).toArray=((xs.toList.drop i).take k).toArray:=by
 have e:(fun(m:Nat)=>xs[((i:Int)+(m:Int)*1).toNat]?)=fun m=>xs[i+m]? :=by funext m;have:((i:Int)+(m:Int)*1).toNat=i+m:=.o;rw[this]
 rw[e];have:=pick_run xs i k;rw[List.filterMap_map]at this;have e2:((fun x=>xs[x]?)∘fun x=>i+x)=fun m=>xs[i+m]? :=rfl;rw[e2]at this;rw[this]
theorem Pq {t sl:Addr}{items:Array Value}{vl vu:Value}{lo hi:Option Int}{Q:Value->Shared->Prop}(ht:IsTup s.heap t items)(hs:s.heap.IsSliceOf sl vl vu .none)(pl:IsPart vl lo)(pu:IsPart vu hi)
  (hw:¬(aN items.size 0 lo=0/\aN items.size items.size hi=items.size))
  (h:Q (.ref s.heap.objs.size) {s with heap:=s.heap.push {cls:=.type "tuple",data:=.seq ((items.toList.drop (aN items.size 0 lo)).take (aN items.size items.size hi-aN items.size 0 lo)).toArray} })
  (hsz:items.size<=sizeLine):wpAny (model prog w) A (getItem (.ref t) (.ref sl)) Q E s:=by
 have uH:sizeOk (.seq ((items.toList.drop (aN items.size 0 lo)).take (aN items.size items.size hi-aN items.size 0 lo)).toArray):=by show((items.toList.drop (aN items.size 0 lo)).take (aN items.size items.size hi-aN items.size 0 lo)).toArray.size<=sizeLine;rw[Zap,ZaR,Zcz,Zau];omega
 have hj:aN items.size items.size hi<=items.size:=SO _ _ (Zak _) hi;obtain⟨os,qZ,Em,uY⟩:=id hs;have cR:s.TypeIs (.ref sl) "slice" :=⟨os,qZ,Em⟩;unfold getItem
 try with_reducible refine ZbA ?_
 first |refine eg (gc ?_) |skip
 refine eg (wpAny_sequenceKey ht.typeIs .d ?_);refine eg (ZbL (name:=Str.ofString "__getitem__") ht.typeIs Zd5
  (Zbn Zd5 ht.typeIs entry_tuple_getitem ?_ (args_tuple_getitem _ _)))
 show wpAny _ _ (Builtin.Tuple.tupleItemsOf (.ref t) >>=_) _ _ s;refine eg (tupleItemsOf_ ht ?_);refine eg (Zfn cR ?_);rw[ZaQ .d];refine eg (JF hs pl pu ?_);have Oh:¬((((aN items.size 0 lo:Nat):Int)==0&&(1:Int)==1&&(aN items.size items.size hi-aN items.size 0 lo)==items.size)=true):=by intro q;rw[Za5,Za5]at q;have q1:((aN items.size 0 lo:Nat):Int)=0:=eq_of_beq q.1.1;have q2:aN items.size items.size hi-aN items.size 0 lo=items.size:=eq_of_beq q.2;exact hw ⟨.o,.o⟩
 show wpAny _ _ (if (((aN items.size 0 lo:Nat):Int)==0&&(1:Int)==1&&(aN items.size items.size hi-aN items.size 0 lo)==items.size)=true then _ else _) _ _ s;rw[Zaz Oh,VQ]
 first
  |exact eg (m:=Builtin.Tuple.tupleExact _) (Zbs (gc ⟨_,rfl,gc h⟩) uH)
  |exact eg (m:=Builtin.Tuple.tupleExact _) (Zbs (eg (gc (gc ⟨_,rfl,gc h⟩))) uH)
  |exact eg (eg (m:=Builtin.Tuple.tupleExact _) (Zbs (gc (gc ⟨_,rfl,gc h⟩)) uH))
  |exact eg (eg (m:=Builtin.Tuple.tupleExact _) (Zbs (gc ⟨_,rfl,gc h⟩) uH))
end
end HT
namespace L2
open PySem PySem.Spec PyProof.Rows
abbrev TO:=St->Hp->(Option Int->Hp->Prop)->Prop
def PO (X:Cx)(e:Option Expr)(t:TO):Prop:=
 ∀(pins:List (Addr×Obj)) (s:Shared) (σ:St) (H:Hp) (Q:Option Int->Hp->Prop),Inv X pins σ H s->t σ H Q->
  wpAny (model X.prog X.w) X.A (evalPart e X.env) (fun u s'=> ∃o H',Inv X pins σ H' s'/\IsPart u o/\Q o H') X.xe s
def II:TO:=fun _ H Q=>Q none H
def IC (t:TE):TO:=fun σ H Q=>t σ H fun x H1=> ∃i,x=.int i/\Q (some i) H1
theorem ZL {ns:List Int} :∀{us:List Value},Vals (ns.map V.int) us->IntsAre us ns:=by
 induction ns with
 |nil=>intro us r;rw[Zfo]at r;cases r;exact .nil
 |cons n ns ih=>
  intro us r;rw[Zba]at r;cases r with
  |cons r1 r2=>obtain⟨t,e⟩:=r1;subst e;exact .cons n t (ih r2)
section
variable {X:Cx}{e:Expr}{te:TE}{lo hi:Option Expr}{tl th:TO}{pos p2:Pos}
theorem Wl:PO X none II:=by intro pins s σ H Q I h;rw[evalPart_none];exact gc ⟨none,H,I,.none,h⟩
theorem Wk (h:PE X e te):PO X (some e) (IC te):=by intro pins s σ H Q I hw;rw[evalPart_some];refine au (h pins s σ H _ I hw) fun u s1 ae=> ?_;obtain⟨x,H1,I1,r1,q1⟩:=ae;obtain⟨i,rfl,q⟩:=q1;obtain⟨t,rfl⟩:=r1;exact⟨some i,H1,I1,.int i t,q⟩
def A1 (X:Cx)(r:V->Option Int->Option Int->Hp->VK->Prop):Prop:=
 ∀(pins:List (Addr×Obj)) (s:Shared) (σ:St) (H:Hp) (x:V) (v vl vu:Value) (lo hi:Option Int) (sl:Addr) (Q:VK),Inv X pins σ H s->RelV x v->s.heap.IsSliceOf sl vl vu .none->IsPart vl lo->IsPart vu hi->r x lo hi H Q->
  ∃T id,typeLookup (.type T) "__getitem__" =pure (some (.builtin id))/\s.TypeIs v T/\wpAny (model X.prog X.w) X.A (getItem v (.ref sl)) (EP X pins σ Q) X.xe s
def IA (r:V->Option Int->Option Int->Hp->VK->Prop)(te:TE)(tl th:TO):TE:=fun σ H Q=>te σ H fun x H1=>tl σ H1 fun l H2=>th σ H2 fun u H3=>r x l u H3 Q
theorem Jp {r:V->Option Int->Option Int->Hp->VK->Prop}(hr:A1 X r)(he:PE X e te)(hl:PO X lo tl)(hu:PO X hi th):PE X (.Subscript e (.Slice lo hi none p2) pos) (IA r te tl th):=by intro pins s σ H Q I h;refine Subscript_ (au (he pins s σ H _ I h) fun v s1 ae=> ?_);obtain⟨x,H1,I1,r1,q1⟩:=ae;refine wpAny_Slice (au (hl pins s1 σ H1 _ I1 q1) fun vl s2 ⟨l,H2,I2,pl,q2⟩=>au (hu pins s2 σ H2 _ I2 q2) fun vu s3 ae=> ?_);obtain⟨u,H3,I3,pu,q3⟩:=ae;rw[evalPart_none];refine gc ?_;have I4:Inv X pins σ H3 {s3 with heap:=s3.heap.push {cls:=.type "slice",data:=.fields #[vl,vu,.none]} } :=I3.kept (t':=s3.toks) fun b ob q=>Zad _ q;obtain⟨T,id,hT,ht,hg⟩:=hr pins {s3 with heap:=s3.heap.push {cls:=.type "slice",data:=.fields #[vl,vu,.none]} } σ H3 x v vl vu l u s3.heap.objs.size Q I4 r1 (Heap.IsSliceOf.new ..) pl pu q3;show wpAny (model X.prog X.w) X.A (subscriptTail e (.Slice lo hi none p2) v (.ref s3.heap.objs.size)) (EP X pins σ Q) X.xe {s3 with heap:=s3.heap.push {cls:=.type "slice",data:=.fields #[vl,vu,.none]} };exact tail_any (ops:=[.ref s3.heap.objs.size,v]) ht hT hg (by with_unfolding_all rfl)
def fu (xs:List V)(lo hi:Option Int):List V:=(xs.drop (HT.aN xs.length 0 lo)).take (HT.aN xs.length xs.length hi-HT.aN xs.length 0 lo)
theorem Wc (xs:List V)(lo hi:Option Int):(fu xs lo hi).length<=xs.length:=by unfold fu;rw[ZaR,Zcz];omega
def Lm (K:ZhK):V->Option Int->Option Int->Hp->VK->Prop:=fun x lo hi H Q=> ∃a xs,x=.ref a/\ab K H a xs/\
 ¬(HT.aN xs.length 0 lo=0/\HT.aN xs.length xs.length hi=xs.length)/\∀p,H p=none->Q (.ref p) (upd H p (.tup (fu xs lo hi)))
theorem FG:A1 X (Lm X.K):=by
 intro pins s σ H x v vl vu lo hi sl Q I rx hs pl pu h;obtain⟨a,xs,rfl,hx,hw,q⟩:=h;cases rx;obtain⟨aa,r,ht,hz⟩:=I.tuple hx;have hlen:aa.toArray.size=xs.length:=by rw[Zap];exact r.length.symm
 refine⟨"tuple",_,Zd5.lookup,ht.typeIs,?_⟩;refine HT.Pq ht hs pl pu (by rw[hlen];exact hw) ?_ (by rw[hlen];exact hz);rw[hlen];refine⟨.ref s.heap.objs.size,_,I.laid (t':=s.toks) (o:=.tup (fu xs lo hi)) (fun b ob q=>Zad _ q) (Zak _) ?_,rfl,q _ (I.aq.fresh (Zak _))⟩;exact⟨Zbi (Wc xs lo hi) hz,_,(r.drop (HT.aN xs.length 0 lo)).take (HT.aN xs.length xs.length hi-HT.aN xs.length 0 lo),IsTup.new _ _,_,Zar _ rfl,rfl⟩
def yc (K:ZhK):R2:=fun x y H Q=> ∃a b xs ys,x=.ref a/\y=.ref b/\ab K H a xs/\ab K H b ys/\xs≠[]/\xs.length+ys.length<=sizeLine/\
 (ys=[]->Q (.ref a) H)/\(ys≠[]->∀p,H p=none->Q (.ref p) (upd H p (.tup (xs++ys))))
theorem Vals.yu {xs:List V}{us:List Value}(r:Vals xs us):us=[]↔xs=[]:=by
 cases r with
 |nil=>simp
 |cons _ _=>simp
theorem Ga:aV X (binaryOp .Add) (yc X.K):=by intro pins s σ H x y v u Q I rx ry h;obtain⟨a,b,xs,ys,rfl,rfl,ha,hb,hx,hz,q1,q2⟩:=h;cases rx;cases ry;obtain⟨aa,r1,p1,_⟩:=I.tuple ha;obtain⟨g9,r2,p2,_⟩:=I.tuple hb;refine HT.Q3 p1 p2 (fun z=>hx (r1.yu.mp z)) (fun z=> ⟨.ref a,H,I,rfl,q1 (r2.yu.mp z)⟩) (fun z=> ?_) (by rw[<-r1.length,<-r2.length];exact hz);refine⟨.ref s.heap.objs.size,_,I.laid (t':=s.toks) (o:=.tup (xs++ys)) (fun b ob q=>Zad _ q) (Zak _) ?_,rfl,q2 (fun w=>z (r2.yu.mpr w)) _ (I.aq.fresh (Zak _))⟩;exact⟨by rw[Zaj];exact hz,_,r1.append r2,IsTup.new _ _,_,Zar _ rfl,rfl⟩
end
def j8 (n:Nat)(i:Int):Option Nat:=if 0<=i then (if i<n then some i.toNat else none) else if -(n:Int)<=i then some (i+n).toNat else none
def fw {α:Type}(xs:List α)(i:Int):Option α:=(j8 xs.length i).bind fun j=>xs[j]?
theorem GF {n:Nat}{i:Int}{j:Nat}(h:j8 n i=some j):seqIndex? i n=some j/\j<n/\ -(n:Int)<=i/\i<n:=by
 unfold j8 at h;by_cases h0:0<=i
 ·rw[ZaQ h0]at h;by_cases h1:i<n
  ·rw[ZaQ h1]at h;have e:i.toNat=j:=Zbh h;exact⟨by rw[Zhe h0 h1,e],.o,.o,h1⟩
  ·rw[Zaz h1]at h;cases h
 ·rw[Zaz h0]at h;by_cases h1: -(n:Int)<=i
  ·rw[ZaQ h1]at h;have e:(i+n).toNat=j:=Zbh h;exact⟨by rw[seqIndex_neg .o h1,e],.o,h1,.o⟩
  ·rw[Zaz h1]at h;cases h
theorem FW {α:Type}{xs:List α}{i:Int}{v:α}(h:fw xs i=some v):∃j,seqIndex? i xs.length=some j/\xs[j]? =some v/\j<xs.length/\ -(xs.length:Int)<=i/\i<xs.length:=by
 unfold fw at h;cases e:j8 xs.length i with
 |none=>rw[e]at h;cases h
 |some j=>rw[e]at h;obtain⟨h1,h2,h3,h4⟩:=GF e;exact⟨j,h1,h,h2,h3,h4⟩
theorem Y8 {α:Type}{xs:List α}{j:Nat}{v:α}(h:xs[j]? =some v):fw xs (j:Int)=some v:=by
 have hj:j<xs.length:=(Zaa.mp h).1;have e:j8 xs.length (j:Int)=some j:=by unfold j8;rw[ZaQ .o,ZaQ .o];simp
 unfold fw;rw[e];exact h
def aac (b:Expr):Prop:=∀o i,subscripted b false o i=operate [o,i] (getItem o i)
def mv (X:Cx)(r:R2):Prop:=
 ∀(value slice:Expr) (pins:List (Addr×Obj)) (s:Shared) (σ:St) (H:Hp) (x y:V) (v u:Value) (Q:VK),Inv X pins σ H s->RelV x v->RelV y u->r x y H Q->
  subscripted slice false v u=operate [v,u] (getItem v u)->wpAny (model X.prog X.w) X.A (subscriptTail value slice v u) (EP X pins σ Q) X.xe s
def Hz (X:Cx)(id:String)(r:V->List V->Hp->VK->Prop):Prop:=
 ∀(pins:List (Addr×Obj)) (s:Shared) (σ:St) (H:Hp) (x:V) (xs:List V) (v:Value) (us:List Value) (Q:VK),Inv X pins σ H s->RelV x v->Vals xs us->r x xs H Q->
  wpAny (model X.prog X.w) X.A (call (.builtin id) (v::us)) (EP X pins σ Q) X.xe s
section
variable {X:Cx}{a b:Expr}{ta tb:TE}{pos:Pos}
theorem ZB {r:R2}(hr:mv X r)(ha:PE X a ta)(hb:PE X b tb)(hs:aac b):PE X (.Subscript a b pos) (sU r ta tb):=by intro pins s σ H Q I h;exact Subscript_ (zW ha hb I h fun v u s2 x y H2 I2 rx ry q=>hr a b pins s2 σ H2 x y v u Q I2 rx ry q (hs _ _))
inductive Lx (K:ZhK) (x:V) (y:V) (H:Hp) (Q:VK):Prop
 |mk (p xs i v:_) (_:x=.ref p) (_:y=.int i) (_:ai K H p xs) (_:fw xs i=some v) (_:Q v H)
inductive oz (K:ZhK) (x:V) (y:V) (H:Hp) (Q:VK):Prop
 |mk (p xs i v:_) (_:x=.ref p) (_:y=.int i) (_:ab K H p xs) (_:fw xs i=some v) (_:Q v H)
theorem Z9:mv X (Lx X.K):=by
 intro value slice pins s σ H x y v u Q I rx ry h hs;obtain⟨p,xs,i,z,rfl,rfl,hq,he,q⟩:=h;cases rx;obtain⟨t,rfl⟩:=ry;obtain⟨aa,r,pl,hz⟩:=I.list hq;obtain⟨j,h1,h2,h3,h4,h5⟩:=FW he;obtain⟨w,ew,jX⟩:=r.get h2;have hl:=r.length;have hn:=uy;have fin:EP X pins σ Q w s:=⟨z,H,I,jX,q⟩;by_cases h0:0<=i
 ·have hj:i.toNat=j:=by rw[Zhe h0 h5]at h1;exact Zbh h1
  exact item_listR pl.isList h0 .o (by rw[hj];simpa using ew) fin hs
 ·have hj:(i+(aa.toArray.size:Int)).toNat=j:=by rw[seqIndex_neg .o h4]at h1;rw[Zap,<-hl];exact Zbh h1
  exact subscriptTail_builtinR (x:=w) pl.isList.typeIs slot_list_getitem.lookup
   (wpAny_getItem_list_neg (Q:=fun r s'=>r=w/\EP X pins σ Q r s') pl.isList .o (by rw[Zap]<;>omega) .o (by rw[hj];simpa using ew) ⟨rfl,fin⟩) hs
theorem ZC:mv X (oz X.K):=by
 intro value slice pins s σ H x y v u Q I rx ry h hs;obtain⟨p,xs,i,z,rfl,rfl,hq,he,q⟩:=h;cases rx;obtain⟨t,rfl⟩:=ry;obtain⟨aa,r,pl,hz⟩:=I.tuple hq;obtain⟨j,h1,h2,h3,h4,h5⟩:=FW he;obtain⟨w,ew,jX⟩:=r.get h2;have hl:=r.length;have hn:=uy;have fin:EP X pins σ Q w s:=⟨z,H,I,jX,q⟩;exact subscriptTail_builtinR (x:=w) pl.typeIs slot_tuple_getitem.lookup
  (getItem_tuple (j:=j) (Q:=fun r s'=>r=w/\EP X pins σ Q r s') pl .o .o (by rw[Zap,<-hl];exact h1) (by simpa using ew) ⟨rfl,fin⟩) hs
theorem Zch (aa:List Value)(n j:Nat)(u:Value):Obj.mapSeq (·.setIfInBounds j u) {cls:=.type "list",data:=.seq aa.toArray n} = {cls:=.type "list",data:=.seq (aa.set j u).toArray n} :=by simp[Obj.mapSeq]
theorem Inv.lst {pins:List (Addr×Obj)}{σ:St}{H:Hp}{s:Shared}{p:Addr}{xs:List V}(I:Inv X pins σ H s)(h:H p=some (.lst xs)):
  ∃(aa:List Value) (n:Nat),Vals xs aa/\s.heap.get? p=some {cls:=.type "list",data:=.seq aa.toArray n}/\xs.length<=sizeLine:=by
 obtain⟨z,aa,n,r,e⟩:=I.aq p _ h;exact⟨aa,n,r,e,z⟩
theorem Inv.MX {pins:List (Addr×Obj)}{σ:St}{H:Hp}{s:Shared}{p:Addr}{xs ys:List V}{aa its':List Value}{n n':Nat}{f:Obj->Obj}(I:Inv X pins σ H s)(h:H p=some (.lst xs))
  (ho:s.heap.get? p=some {cls:=.type "list",data:=.seq aa.toArray n}) (hf:f {cls:=.type "list",data:=.seq aa.toArray n} = {cls:=.type "list",data:=.seq its'.toArray n'}) (r:Vals ys its') (hz:ys.length<=sizeLine) (t:Nat):
  Inv X pins σ (upd H p (.lst ys)) {s with heap:=s.heap.update p f,toks:=t} :=by
 have e:(s.heap.update p f).get? p=some {cls:=.type "list",data:=.seq its'.toArray n'} :=by rw[Zc2 f ho (by rw[hf]<;>rfl),hf]
 refine I.write (x:=p) (e:=p) (by rw[h];trivial) (.inl rfl) (fun b u hb q=> (Zbw _ _ (Zd3 hb)).trans q) ⟨_,e⟩ ?_;exact⟨hz,its',n',r,e⟩
def Lo:V->V->V->Hp->(Hp->Prop)->Prop:=fun o i v H Q=> ∃p xs k j,o=.ref p/\i=.int k/\H p=some (.lst xs)/\j8 xs.length k=some j/\Q (upd H p (.lst (xs.set j v)))
theorem Wy:Hx X Lo:=by
 intro pins s σ H o i v ov iv u Q I ro ri rv h;obtain⟨p,xs,k,j,rfl,rfl,hp,hj,q⟩:=h;cases ro;obtain⟨t,rfl⟩:=ri;obtain⟨aa,n,r,ho,hz⟩:=I.lst hp;obtain⟨h1,h2,h3,h4⟩:=GF hj;have hl:=r.length;have hn:=uy;have I':Inv X pins σ (upd H p (.lst (xs.set j v))) {s with heap:=s.heap.update p (Obj.mapSeq (·.setIfInBounds j u))} :=
  I.MX hp ho (Zch aa n j u) (r.set rv j) (by rw[ZgO];exact hz) s.toks
 by_cases h0:0<=k
 ·have hk:k.toNat=j:=by rw[Zhe h0 h4]at h1;exact Zbh h1
  exact PySem.W.ki_setAt ho h0 .o (by rw[Zap,<-hl];exact h4) (by rw[hk];exact⟨_,I',q⟩)
 ·have hk:(k+(aa.toArray.size:Int)).toNat=j:=by rw[seqIndex_neg .o h3]at h1;rw[Zap,<-hl];exact Zbh h1
  exact PySem.W.ki_setBack ho .o (by rw[Zap,<-hl];exact h3) .o (by rw[hk];exact⟨_,I',q⟩)
theorem U8 (lo hi:Option Int)(n:Nat):(sliceBounds lo hi none n).1=((HT.aN n 0 lo:Nat):Int)/\(sliceBounds lo hi none n).2.1=((HT.aN n n hi:Nat):Int)/\(sliceBounds lo hi none n).2.2=1:=by
 refine⟨?_,?_,rfl⟩
 ·cases lo with
  |none=>simp[sliceBounds,HT.aN]
  |some i=>
   simp only[sliceBounds,HT.aN,Option.getD_none,show(1:Int)>0 by decide,ZdC];by_cases h:i<0
   ·simp only[h,ZdC]<;>omega
   ·simp only[h,ZbI]<;>omega
 ·cases hi with
  |none=>simp[sliceBounds,HT.aN]
  |some i=>
   simp only[sliceBounds,HT.aN,Option.getD_none,show(1:Int)>0 by decide,ZdC];by_cases h:i<0
   ·simp only[h,ZdC]<;>omega
   ·simp only[h,ZbI]<;>omega
theorem Uf (aa:List Value)(lo hi:Option Int):slicePick aa.toArray lo hi none=((aa.drop (HT.aN aa.length 0 lo)).take (HT.aN aa.length aa.length hi-HT.aN aa.length 0 lo)).toArray:=by obtain⟨h1,h2,h3⟩:=U8 lo hi aa.toArray.size;unfold slicePick;rw[h1,h2,h3];simp only[sliceRange_one,pick_run,Zap]<;>rfl
def Ln (K:ZhK):V->Option Int->Option Int->Hp->VK->Prop:=fun x lo hi H Q=> ∃a xs,x=.ref a/\ai K H a xs/\∀p,H p=none->Q (.ref p) (upd H p (.lst (fu xs lo hi)))
theorem Gv:A1 X (Ln X.K):=by intro pins s σ H x v vl vu lo hi sl Q I rx hs pl pu h;obtain⟨a,xs,rfl,hx,q⟩:=h;cases rx;obtain⟨aa,r,ht,hz⟩:=I.list hx;have hlen:=r.length;refine⟨"list",_,slot_list_getitem.lookup,ht.isList.typeIs,?_⟩;refine wpAny_getItem_list_slice ht.isList hs pl pu .none (by simp) ?_ (by rw[Zap]<;>omega);rw[Uf,<-hlen];refine⟨.ref s.heap.objs.size,_,I.laid (t':=s.toks) (o:=.lst (fu xs lo hi)) (fun b ob q=>Zad _ q) (Zak _) ?_,rfl,q _ (I.aq.fresh (Zak _))⟩;exact⟨Zbi (Wc xs lo hi) hz,_,0,(r.drop (HT.aN xs.length 0 lo)).take (HT.aN xs.length xs.length hi-HT.aN xs.length 0 lo),Zar _ rfl⟩
def fT:V->Bool
 | .ah=>true
 | .bl _=>true
 | .int _=>true
 | .str _=>true
 |_=>false
noncomputable def dW:V->V->Bool
 | .ah,.ah=>true
 | .bl a,.bl b=>a==b
 | .bl a,.int b=> (if a then 1 else 0)==b
 | .int a,.bl b=>a==(if b then 1 else 0)
 | .int a,.int b=>a==b
 | .str a,.str b=>a==b
 |_,_=>false
theorem Rf {A:Around}{s:Shared}{y x:V}{u v:Value}(ry:RelV y u)(rx:RelV x v)(fy:fT y=true)(fx:fT x=true):SeqAt.EqAt A s u v (dW y x):=by
 cases y with
 |ah=>
  cases ry;cases x with
  |ah=>cases rx;exact SeqAt.EqAt.same _
  |bl b=>cases rx;exact SeqAt.EqAt.none_bool b
  |int b=>obtain⟨t,rfl⟩:=rx;exact SeqAt.EqAt.none_int b t
  |str b=>obtain⟨t,rfl⟩:=rx;exact SeqAt.EqAt.none_str b t
  |_=>exact absurd (show false=true from fx) Zag
 |bl a=>
  cases ry;cases x with
  |ah=>cases rx;exact SeqAt.EqAt.bool_none a
  |bl b=>cases rx;exact SeqAt.EqAt.bool_bool a b
  |int b=>obtain⟨t,rfl⟩:=rx;exact SeqAt.EqAt.bool_int a b t
  |str b=>obtain⟨t,rfl⟩:=rx;exact SeqAt.EqAt.bool_str a b t
  |_=>exact absurd (show false=true from fx) Zag
 |int a=>
  obtain⟨t',rfl⟩:=ry;cases x with
  |ah=>cases rx;exact SeqAt.EqAt.int_none a t'
  |bl b=>cases rx;exact SeqAt.EqAt.int_bool a t' b
  |int b=>obtain⟨t,rfl⟩:=rx;exact ZdR a t' b t
  |str b=>obtain⟨t,rfl⟩:=rx;exact SeqAt.EqAt.int_str a t' b t
  |_=>exact absurd (show false=true from fx) Zag
 |str a=>
  obtain⟨t',rfl⟩:=ry;cases x with
  |ah=>cases rx;exact SeqAt.EqAt.str_none a t'
  |bl b=>cases rx;exact SeqAt.EqAt.str_bool a t' b
  |int b=>obtain⟨t,rfl⟩:=rx;exact SeqAt.EqAt.str_int a t' b t
  |str b=>obtain⟨t,rfl⟩:=rx;exact SeqAt.EqAt.str_str a t' b t
  |_=>exact absurd (show false=true from fx) Zag
 |_=>exact absurd (show false=true from fy) Zag
def eZ (x:V)(u:Value):Bool:=match u with
 | .none=>dW .ah x
 | .bool b=>dW (.bl b) x
 | .int i _=>dW (.int i) x
 | .str z _=>dW (.str z) x
 |_=>false
theorem Aq {x y:V}{u:Value}(r:RelV y u)(f:fT y=true):eZ x u=dW y x:=by
 cases y with
 |ah=>cases r;rfl
 |bl b=>cases r;rfl
 |int i=>obtain⟨t,rfl⟩:=r;rfl
 |str z=>obtain⟨t,rfl⟩:=r;rfl
 |_=>exact absurd (show false=true from f) Zag
theorem JC {x:V} :∀{xs:List V}{us:List Value},Vals xs us->xs.all fT=true->us.any (eZ x)=xs.any fun y=>dW y x
 |_,_,.nil,_=>rfl
 |y::xs,u::us,.cons r t,f=>by rw[Zgm,Za5]at f;rw[ZdS,ZdS,Aq r f.1,JC t f.2]
theorem YA {A:Around}{s:Shared}{x:V}{v:Value}(rx:RelV x v)(fx:fT x=true):∀{xs:List V}{us:List Value},Vals xs us->xs.all fT=true->∀u∈us,SeqAt.EqAt A s u v (eZ x u)
 |_,_,.nil,_=>fun u hu=>by cases hu
 |y::xs,u::us,.cons r t,f=>fun u' hu=>by
  rw[Zgm,Za5]at f;rcases Zav.mp hu with rfl |hu
  ·rw[Aq r f.1];exact Rf r rx f.1 fx
  ·exact YA rx fx t f.2 u' hu
def bK (x:V)(xs:List V):Bool:=xs.any fun y=>dW y x
inductive t6 (K:ZhK) (neg:Bool) (x:V) (y:V) (H:Hp) (Q:VK):Prop
 |mk (p xs:_) (_:y=.ref p) (_:(ai K H p xs∨ab K H p xs)) (_:fT x=true) (_:xs.all fT=true) (_:Q (.bl (if neg then !bK x xs else bK x xs)) H)
theorem XI:aV X (compareOp .In) (t6 X.K false):=by
 intro pins s σ H x y v u Q I rx ry h;obtain⟨p,xs,rfl,hq,fx,fs,q⟩:=h;cases ry;rcases hq with hq |hq
 ·obtain⟨aa,r,pl,hz⟩:=I.list hq;refine SeqAt.in_listAt (eZ x) pl.isList (fun w hw=>YA rx fx r fs w (by simpa using hw)) ⟨.bl _,H,I,rfl,?_⟩;rw[show aa.toArray.any (eZ x)=aa.any (eZ x) by simp,JC r fs];exact q
 ·obtain⟨aa,r,pl,hz⟩:=I.tuple hq;refine SeqAt.in_tupleAt (eZ x) pl (fun w hw=>YA rx fx r fs w (by simpa using hw)) ⟨.bl _,H,I,rfl,?_⟩;rw[show aa.toArray.any (eZ x)=aa.any (eZ x) by simp,JC r fs];exact q
theorem Jt:aV X (compareOp .NotIn) (t6 X.K true):=by
 intro pins s σ H x y v u Q I rx ry h;obtain⟨p,xs,rfl,hq,fx,fs,q⟩:=h;cases ry;rcases hq with hq |hq
 ·obtain⟨aa,r,pl,hz⟩:=I.list hq;refine SeqAt.notIn_listAt (eZ x) pl.isList (fun w hw=>YA rx fx r fs w (by simpa using hw)) ⟨.bl _,H,I,rfl,?_⟩;rw[show aa.toArray.any (eZ x)=aa.any (eZ x) by simp,JC r fs];exact q
 ·obtain⟨aa,r,pl,hz⟩:=I.tuple hq;refine SeqAt.notIn_tupleAt (eZ x) pl (fun w hw=>YA rx fx r fs w (by simpa using hw)) ⟨.bl _,H,I,rfl,?_⟩;rw[show aa.toArray.any (eZ x)=aa.any (eZ x) by simp,JC r fs];exact q
inductive Lw (K:ZhK) (xs:List V) (H:Hp) (Q:VK):Prop
 |mk (p:Addr) (ys:List V) (e:xs=[.ref p]) (h:ai K H p ys∨ab K H p ys) (q:Q (.int ys.length) H)
theorem Zv:fB X (.builtin "len") (Lw X.K):=by
 intro pins s σ H xs us Q I r h;obtain⟨p,ys,rfl,hq,q⟩:=h;obtain⟨u,rfl,rx⟩:=ZgE r;cases rx;have hn:=uy;rcases hq with hq |hq
 ·obtain⟨aa,r',pl,hz⟩:=I.list hq;have hlen:=r'.length;exact Calls.call_len_list pl.isList (by simp only[Zap]<;>omega) ⟨.int ys.length,H,I.tok _,⟨s.toks+1,by rw[Zap,hlen]⟩,q⟩
 ·obtain⟨aa,r',pl,hz⟩:=I.tuple hq;have hlen:=r'.length;exact len_tuple pl (by simp only[Zap]<;>omega) ⟨.int ys.length,H,I.tok _,⟨s.toks+1,by rw[Zap,hlen]⟩,q⟩
theorem Jc:fB X (.type "tuple") (fun xs H Q=> ∃p ys,xs=[.ref p]/\((ai X.K H p ys/\∀l,H l=none->Q (.ref l) (upd H l (.tup ys)))∨(ab X.K H p ys/\Q (.ref p) H))):=by
 intro pins s σ H xs us Q I r h;obtain⟨p,ys,rfl,h⟩:=h;obtain⟨u,rfl,rx⟩:=ZgE r;cases rx;rcases h with ⟨hq,q⟩ |⟨hq,q⟩
 ·obtain⟨aa,r',pl,hz⟩:=I.list hq;have hlen:=r'.length;refine call_tuple_list pl.isList (fun h' kp=> ?_) (by simp only[Zap]<;>omega);have I1:Inv X pins σ H {s with heap:=h'} :=I.kept (t':=s.toks) kp;have I2:Inv X pins σ (upd H h'.objs.size (.tup ys)) {s with heap:=h'.push {cls:=.type "tuple",data:=.seq aa.toArray} } :=
   I1.laid (t':=s.toks) (fun b o e=>Zad _ e) (Zak _) (show bG X.prog X.w _ _ _ (.tup ys) from ⟨hz,aa,r',IsTup.new _ _,_,Zar _ rfl,rfl⟩)
  exact⟨.ref h'.objs.size,_,I2,rfl,q _ (I1.aq.fresh (Zak _))⟩
 ·obtain⟨aa,r',pl,hz⟩:=I.tuple hq;exact call_tuple_same pl ⟨.ref p,H,I,rfl,q⟩
def BB (K:ZhK)(T:String)(x:V)(H:Hp):Prop:=match x with
 | .str _=>T= "str"
 | .int _=>T= "int"
 | .ref p=> (T= "list" /\∃xs,ai K H p xs)∨(T= "tuple" /\((∃o,K.lookup p=some o/\o.cls=.type "tuple" /\o.dict=none)∨∃xs,H p=some (.tup xs)))∨
   (T= "dict" /\((∃kvs,H p=some (.dK kvs))∨∃kvs,H p=some (.dT kvs)))∨(T= "set" /\∃S n,H p=some (.set S n))
 |_=>False
theorem SW {pins:List (Addr×Obj)}{σ:St}{H:Hp}{s:Shared}{T:String}{x:V}{v:Value}(I:Inv X pins σ H s)(r:RelV x v)(ty:BB X.K T x H):
  s.TypeIs v T/\∀a,v=.ref a->∃ob,s.heap.get? a=some ob/\ob.dict=none:=by
 cases x with
 |str z=>obtain⟨t,rfl⟩:=r;cases (show T= "str" from ty);exact⟨typeIs_str s z t,fun _ e=>nomatch e⟩
 |int i=>obtain⟨t,rfl⟩:=r;cases (show T= "int" from ty);exact⟨Zg0 s i t,fun _ e=>nomatch e⟩
 |ref p=>
  cases r;rcases ty with ⟨rfl,xs,hq⟩ |⟨rfl,⟨o,hk,hc,hd⟩ |⟨xs,hx⟩⟩ |⟨rfl,hk⟩ |⟨rfl,S,n,hk⟩
  ·obtain⟨aa,_,pl,_⟩:=I.list hq;refine⟨pl.isList.typeIs,fun a e=> ?_⟩;cases e;obtain⟨o,n,e,c,hd,_⟩:=pl;exact⟨o,e,hd⟩
  ·refine⟨⟨o,I.dF p o hk,hc⟩,fun a e=> ?_⟩;cases e;exact⟨o,I.dF _ o hk,hd⟩
  ·obtain⟨_,_,_,⟨o,e,c,_⟩,o2,e2,hd⟩:=(show bG X.prog X.w H s.heap p (.tup xs) from I.aq p _ hx);refine⟨⟨o,e,c⟩,fun a e3=> ?_⟩;cases e3;exact⟨o2,e2,hd⟩
  ·have z:∃o,s.heap.get? p=some o/\o.ExactDict:=by
    rcases hk with ⟨kvs,hk⟩ |⟨kvs,hk⟩
    ·obtain⟨_,_,_,_,o,_,_,e,ex,_⟩:=I.aq p _ hk;exact⟨o,e,ex⟩
    ·obtain⟨_,_,_,_,o,_,_,e,ex,_⟩:=I.aq p _ hk;exact⟨o,e,ex⟩
   obtain⟨o,e,ex⟩:=z;refine⟨⟨o,e,ex.1⟩,fun a e2=> ?_⟩;cases e2;exact⟨o,e,ex.2.1⟩
  ·obtain⟨o,_,_,_,e,ex,_⟩:=I.aq p _ hk;refine⟨⟨o,e,ex.1⟩,fun a e2=> ?_⟩;cases e2;exact⟨o,e,ex.2.1⟩
 |_=>exact False.elim ty
def I9 (K:ZhK)(T:String)(r:V->List V->Hp->VK->Prop)(to:TE)(t:TA):TE:=fun σ H Q=>to σ H fun x H1=>BB K T x H1/\t σ H1 fun xs H2=>r x xs H2 Q
variable {o e:Expr}{es:List Expr}{to:TE}{t:TA}{name:Str}{apos dY:Pos}{T id:String}{r:V->List V->Hp->VK->Prop}
theorem rZ (pa:PlainAttrs T)(slot:Slot T name id)(NJ:typeOf (.builtin id)=pure (.type "method_descriptor"))(hm:Hz X id r)(ho:PE X o to)(ha:PA X (e::es) t)
    (zw:attributeBase o name X.env (eval o X.env)=eval o X.env:=by rfl)
    (ON:((backTo dY (starEach (e::es) X.env)).all (fun x=> !x.1)&&(backToKw dY (keywordEach [] X.env)).all (fun x=>x.1.isSome)
      &&decide ((e::es).length+([]:List Keyword).length+(if ([]:List Keyword).isEmpty then 0 else 1)<30))=true:=by rfl)
    (yZ:(apos.endLine==dY.line)=true:=by rfl) (hs:starEach (e::es) X.env=(false,eval e X.env)::starEach es X.env:=by rfl) (N5:(backTo dY (starEach es X.env)).any (·.1)=false:=by rfl):
    PE X (.Call (.Attribute o name apos) (e::es) [] dY) (I9 X.K T r to t):=by
  intro pins s σ H Q I h;refine wpAny_Call_method_late zw ON yZ rfl (au (ho pins s σ H _ I h) fun v s1 ae=> ?_);obtain⟨x,H1,I1,r1,ty,q1⟩:=ae;obtain⟨h1,h2⟩:=SW I1 r1 ty;refine⟨T,id,pa,slot,NJ,h1,h2,?_⟩;have hA:=ha dY pins s1 σ H1 _ I1 q1;rw[hs]at hA |-;refine Ze8 (by show(false||(backTo dY (starEach es X.env)).any (·.1))=false;rw[N5]<;>rfl) (Calls.evalArgs_plain ?_);exact au hA fun us s2 ⟨vs,H2,I2,r2,q2⟩=>hm pins s2 σ H2 x vs v us Q I2 r1 r2 q2
end
def A5 (X:Cx)(id:String)(r:V->List V->Hp->VK->Prop):Prop:=
 ∀(pins:List (Addr×Obj)) (s:Shared) (σ:St) (H:Hp) (x:V) (xs:List V) (v:Value) (us:List Value) (Q:VK),Inv X pins σ H s->RelV x v->Vals xs us->r x xs H Q->
  wpAny (model X.prog X.w) X.A (call (.builtin id) (v::us)) (EP X pins σ Q) X.xe s
theorem Vals.one:∀{x:V}{us:List Value},Vals [x] us->∃u,us=[u]/\RelV x u
 |_,_,.cons r .nil=> ⟨_,rfl,r⟩
theorem Vals.eraseIdx:∀{xs:List V}{us:List Value}(i:Nat),Vals xs us->Vals (xs.eraseIdx i) (us.eraseIdx i)
 |_,_,_,.nil=> .nil
 |_,_,0,.cons _ t=>t
 |_,_,i+1,.cons r t=> .cons r (Vals.eraseIdx i t)
theorem Vals.rep {xs:List V}{us:List Value}(h:Vals xs us):∀k:Nat,Vals (List.replicate k xs).flatten (List.replicate k us).flatten
 |0=> .nil
 |k+1=>by rw[ZcK,ZcK,Zd6,Zd6];exact Vals.append h (Vals.rep h k)
theorem UK {α:Type} :∀(l:List α) (i:Nat),(l.eraseIdx i).length<=l.length
 | [],_=>Zak _
 |_::_,0=>Zei _
 |_::r,i+1=>Nat.succ_le_succ (UK r i)
theorem JS (aa:List Value):∀(k:Nat) (acc:List Value),
  List.foldl (fun x1 x2=>x1++x2) acc.toArray (List.replicate k aa.toArray)=(acc++(List.replicate k aa).flatten).toArray
 |0,acc=>by simp
 |k+1,acc=>by
  have e:acc.toArray++aa.toArray=(acc++aa).toArray:=by simp
  have e2:(acc++aa)++(List.replicate k aa).flatten=acc++(List.replicate (k+1) aa).flatten:=by rw[ZcK,Zd6,ZaY]
  rw[<-e2,<-JS aa k (acc++aa),<-e,ZcK,Zdw]
section
variable {X:Cx}{pins:List (Addr×Obj)}{σ:St}{H:Hp}{s:Shared}{l b:Addr}{xs ys zs:List V}
theorem Inv.yx {aa its':List Value}{n:Nat}{f:Array Value->Array Value}{t':Nat}(I:Inv X pins σ H s)(hH:H l=some (.lst xs))
  (e:s.heap.get? l=some {cls:=.type "list",data:=.seq aa.toArray n}) (hf:f aa.toArray=its'.toArray) (hv:Vals ys its') (hz:ys.length<=sizeLine):
  Inv X pins σ (upd H l (.lst ys)) {s with heap:=s.heap.update l (Obj.mapSeq f),toks:=t'} :=by
 have q:=PySem.IsL.update e f;rw[hf]at q;refine I.write (x:=l) (e:=l) (by rw[hH];exact trivial) (.inl rfl) (fun b' u hb hu=> (Zbw s.heap (Obj.mapSeq f) (Zd3 hb)).trans hu) ⟨_,q⟩ ?_;exact⟨hz,its',_,hv,q⟩
theorem Inv.Dm {aa:List Value}{t':Nat}(I:Inv X pins σ H s)(hv:Vals ys aa)(hz:ys.length<=sizeLine):
  Inv X pins σ (upd H s.heap.objs.size (.lst ys)) {s with heap:=s.heap.push {cls:=.type "list",data:=.seq aa.toArray},toks:=t'} :=
 I.laid (fun _ _ q=>Zad _ q) (Zak _) ⟨hz,aa,0,hv,Zar _ rfl⟩
theorem Inv.fresh (I:Inv X pins σ H s):H s.heap.objs.size=none:=I.aq.fresh (Zak _)
theorem Inv.mU (I:Inv X pins σ H s)(hH:H l=some (.lst xs)):xs.length<=sizeLine/\∃(aa:List Value) (n:Nat),Vals xs aa/\xs.length=aa.length/\s.heap.get? l=some {cls:=.type "list",data:=.seq aa.toArray n} :=by obtain⟨z,aa,n,r,e⟩:=I.aq l _ hH;exact⟨z,aa,n,r,r.length,e⟩
theorem C3 {n:Nat}(h:n<=sizeLine):Builtin.List.listTooLong n=false:=by unfold Builtin.List.listTooLong;exact ZaF .o
end
section
variable {X:Cx}
inductive LC (x:V) (vs:List V) (H:Hp) (Q:VK):Prop
 |mk (l xs y:_) (_:x=.ref l) (_:vs=[y]) (_:H l=some (.lst xs)) (_:xs.length<sizeLine) (_:Q .ah (upd H l (.lst (xs++[y]))))
theorem Xw:A5 X "list.append" LC:=by intro pins s σ H x vs v us Q I rx rv h;obtain⟨l,xs,y,rfl,rfl,hH,hz,q⟩:=h;cases rx;obtain⟨u,rfl,ru⟩:=rv.one;obtain⟨z,aa,n,r,hl,e⟩:=I.mU hH;refine ZeG F.slot_list_append ⟨_,e,rfl⟩ F.entry_list_append (F.args_list_append_2 _ _) (PySem.list_append l aa.toArray n u (by rw[Zap];omega)) ⟨e,?_⟩;refine⟨.ah,_,I.yx (its':=aa++[u]) hH e (by simp) (r.append (.cons ru .nil)) ?_,rfl,q⟩;rw[Zaj,Zdx];omega
inductive Ly (x:V) (vs:List V) (H:Hp) (Q:VK):Prop
 |mk (l b xs zs:_) (_:x=.ref l) (_:vs=[.ref b]) (_:H l=some (.lst xs)) (_:H b=some (.lst zs)) (_:xs.length+zs.length<=sizeLine) (_:Q .ah (upd H l (.lst (xs++zs))))
theorem UI:A5 X "list.extend" Ly:=by
 intro pins s σ H x vs v us Q I rx rv h;obtain⟨l,b,xs,zs,rfl,rfl,hH,hB,hz,q⟩:=h;cases rx;obtain⟨u,rfl,ru⟩:=rv.one;cases ru;obtain⟨z,aa,n,r,hl,e⟩:=I.mU hH;obtain⟨z2,g9,n2,r2,hG,e2⟩:=I.mU hB;have hsz:aa.toArray.size+g9.toArray.size<=sizeLine:=by rw[Zap,Zap];omega
 have yY:¬(!aa.toArray.isEmpty&&Builtin.List.listTooLong (aa.toArray.size+g9.toArray.size))=true:=by rw[C3 hsz,ZeI];exact Zag
 refine ZeG F.slot_list_extend ⟨_,e,rfl⟩ F.entry_list_extend (F.args_list_extend_2 _ _)
  (AutoSeq1.list_extend_list_list_0 l aa.toArray n b g9.toArray n2 yY (by rw[Zap];omega) .o) ⟨e,e2,?_⟩
 refine⟨.ah,_,I.yx (its':=aa++g9) hH e (by simp) (r.append r2) ?_,rfl,q⟩;rw[Zaj];omega
inductive Lr (x:V) (vs:List V) (H:Hp) (Q:VK):Prop
 |mk (l xs i k y:_) (_:x=.ref l) (_:vs=[.int i]) (_:H l=some (.lst xs)) (_: -(2^63)<=i) (_:i<2^63) (_:seqIndex? i xs.length=some k) (_:xs[k]? =some y) (_:Q y (upd H l (.lst (xs.eraseIdx k))))
theorem VZ:A5 X "list.pop" Lr:=by
 intro pins s σ H x vs v us Q I rx rv h;obtain⟨l,xs,i,k,y,rfl,rfl,hH,h1,h2,hk,hy,q⟩:=h;cases rx;obtain⟨u,rfl,ru⟩:=rv.one;obtain⟨t,rfl⟩:=ru;obtain⟨z,aa,n,r,hl,e⟩:=I.mU hH;obtain⟨w,hw,jX⟩:=r.get hy;refine ZeG F.slot_list_pop ⟨_,e,rfl⟩ F.entry_list_pop (F.args_list_pop_2 _ _)
  (MeetsSeq.list_pop_at l aa.toArray n i t k w (fitsIndex_both h1 h2) (by rw[Zap,<-hl];exact hk) (by rw[<-ZaT];exact hw) (by rw[Zap];omega)) ⟨e,?_⟩
 refine⟨y,_,I.yx (its':=aa.eraseIdx k) hH e ?_ (r.eraseIdx k) ?_,jX,q⟩
 ·show aa.toArray.eraseIdxIfInBounds k=(aa.eraseIdx k).toArray;rw[List.eraseIdxIfInBounds_toArray]
 ·have:=UK xs k;omega
inductive LB (x:V) (y:V) (H:Hp) (Q:VK):Prop
 |mk (l b xs zs:_) (_:x=.ref l) (_:y=.ref b) (_:H l=some (.lst xs)) (_:H b=some (.lst zs)) (_:xs.length+zs.length<=sizeLine) (_:∀p,H p=none->Q (.ref p) (upd H p (.lst (xs++zs))))
theorem RD:aV X (binaryOp .Add) LB:=by
 intro pins s σ H x y v u Q I rx ry h;obtain⟨l,b,xs,zs,rfl,rfl,hH,hB,hz,q⟩:=h;cases rx;cases ry;obtain⟨z,aa,n,r,hl,e⟩:=I.mU hH;obtain⟨z2,g9,n2,r2,hG,e2⟩:=I.mU hB;refine PySem.P.add_list e e2 ?_ (by rw[Zap,Zap];omega);have ea:aa.toArray++g9.toArray=(aa++g9).toArray:=by simp
 rw[ea];exact⟨.ref _,_,I.Dm (t':=s.toks) (r.append r2) (by rw[Zaj];omega),rfl,q _ I.fresh⟩
def Lq:R2:=fun x y H Q=> ∃l k xs,x=.ref l/\y=.int k/\H l=some (.lst xs)/\ -(2^63)<=k/\k<2^63/\xs.length*k.toNat<=sizeLine/\
 ∀p,H p=none->Q (.ref p) (upd H p (.lst (List.replicate k.toNat xs).flatten))
theorem AH {α:Type}(xs:List α)(k:Nat):(List.replicate k xs).flatten.length=k*xs.length:=by
 induction k with
 |zero=>simp
 |succ k ih=>rw[ZcK,Zd6,Zaj,ih,Nat.succ_mul,Nat.add_comm]
theorem Tb:aV X (binaryOp .Mult) Lq:=by
  intro pins s σ H x y v u Q I rx ry h;obtain⟨l,k,xs,rfl,rfl,hH,h1,h2,hz,q⟩:=h;cases rx;obtain⟨t,rfl⟩:=ry;obtain⟨z,aa,n,r,hl,e⟩:=I.mU hH;have hlen:aa.toArray.size*k.toNat<=sizeLine:=by rw[Zap,<-hl];exact hz
  have OW:¬aa.toArray.size*k.toNat> (2^63-1)/8:=by have:(sizeLine:Nat)<=(2^63-1)/8:=.d;omega
  have lV:¬(!Builtin.List.listFitsIndex k)=true:=by rw[fitsIndex_both h1 h2];exact Zag
  have yY:¬Builtin.List.listTooLong (aa.toArray.size*k.toNat)=true:=by rw[C3 hlen];exact Zag
  have Oi:List.foldl (fun x1 x2=>x1++x2) #[] (List.replicate (if aa.toArray.isEmpty=true then 0 else k.toNat) aa.toArray)=(List.replicate k.toNat aa).flatten.toArray:=by
    have f0:∀m:Nat,List.foldl (fun x1 x2=>x1++x2) #[] (List.replicate m aa.toArray)=(List.replicate m aa).flatten.toArray:=fun m=>by have:=JS aa m [];rw[Zdn]at this;exact this
    rw[f0];cases aa with
    |nil=>simp
    |cons a r'=>rw[Zaz (by simp)]
  refine ZfZ (T:= "list") (U:= "int") .d ⟨_,e,rfl⟩ (fun s'=>Zg0 s' k t) noFill_list_mul F.fills_int_mul F.slot_int_rmul repeat_list F.slot_int_index.lookup
    (ZeG F.slot_int_rmul (Zg0 s k t) F.entry_int_rmul (F.args_int_rmul_2 _ _) (int___rmul___int_list k t l aa.toArray n)
      ⟨e,rfl,⟨_,e,rfl⟩,ZeG F.slot_list_mul ⟨_,e,rfl⟩ F.entry_list_mul (F.args_list_mul_2 _ _) (AutoListH.list___mul___list_int_3 l aa.toArray n k t lV OW yY) ⟨e,?_⟩⟩)
  rw[Oi];exact⟨.ref _,_,I.Dm (t':=s.toks) (r.rep k.toNat) (by rw[AH,Nat.mul_comm];exact hz),rfl,q _ I.fresh⟩
end
end L2
namespace HW
open PySem PySem.W PySem.Calls PyProof.Rows
theorem Wf {P:Params}{h:Heap} :∀(ns:List Int) (vs:List Value),WellAll P h vs (ns.map WData.int)->IntsAre vs ns:=by
 intro ns
 induction ns with
 |nil=>intro vs w;rw[Zfo]at w;cases w;exact .nil
 |cons n ns ih=>
  intro vs w;rw[Zba]at w;cases w with
  |cons a b=>cases a;exact .cons _ _ (ih _ b)
theorem V9 {l:OpenLaw}{n:Nat}(hn:l.most=some n){P:Params}{h:Heap}{args:List WData}{vals:List Value}
  (uK:l.row.toRowW.claim.pre args=true) (yG:WellAll P h vals args):
  ∃a vs ns,vals=[Value.ref a]/\args=[WData.list (ns.map WData.int)]/\h.get? a=some {cls:=.type "list",data:=.seq vs.toArray}/\IntsAre vs ns/\ns.length<=n:=by
 have qT:WShape.hasAll [] args [.list .int]=true:=(pre_splitW uK).1;have hc:l.pre.holds [] {args:=args} =true:=(pre_splitW uK).2;obtain⟨d,r,rfl,h1,h2⟩:=hasAllW_cons qT;obtain rfl:=hasAllW_nil h2;obtain⟨xs,rfl,h3⟩:=hasW_list h1;obtain⟨ns,rfl⟩:=items_int h3;have hlen:ns.length<=n:=by
  unfold OpenLaw.pre at hc;have h4:(WTm.not (.lt (.lit (.int (n:Int))) (.len (.arg 0)))).holds [] {args:=[.list (ns.map .int)]} =true:=by have h4:=(holds_andW hc).1;rw[hn]at h4;exact h4
  have h5:=condW_of h4 (w_not (w_lt w_lit (w_len_list (w_arg rfl))));rw[Zal]at h5;refine Nat.le_of_not_lt fun q=> ?_;have q':(n:Int)< ((ns.length:Nat):Int):=.o
  first
   |(rw[Zaq q']at h5;exact absurd h5 .d)
   |(simp at h5;omega)
 cases yG with
 |cons w1 w2=>
  cases w2;cases w1 with
  |list ho aO=>exact⟨_,_,ns,rfl,rfl,ho,Wf ns _ aO,hlen⟩
theorem V7 (l:OpenLaw)(args:List WData):l.row.toRowW.claim.post args (.bool true) args=true:=
 postW_of (r:=l.row.toRowW) (X:=(true==true))
  (show WShape.has [] (.bool true) .bool=true by first |rfl |decide |simp[WShape.has,WShape.arms,WShape.armsAll])
  (show(WTm.eq .res (.lit (.bool true))).value [] {args:=args,res:=some (.bool true),after:=args} =some (.bool (true==true)) from w_eq_bool (w_res rfl) w_lit) rfl
theorem Q9 {l:OpenLaw}{n:Nat}{q:Program}{loose:List Str}{XP:(Str->Option Value)->Heap->Prop}{YP:World->Heap->Prop}{d:DefRec}
    (hn:l.most=some n) (zq:d.params.defaults=[])
    (call:∀(w:World) (cM aR:Shared) (mg mb:Str->Option Value) (fa:Addr) (o:Obj) (pm cd doc:Value) (a:Addr) (vs:List Value) (ns:List Int),
      Ground q loose [] XP w cM mg mb aR.heap->YP w aR.heap->
      aR.heap.get? fa=some o->o.data=.func (docDef d.name d.params d.body d.scope pm cd doc)->aR.heap.CodeRec cd d.name->mg d.name=some (.ref fa)->
      aR.heap.get? a=some {cls:=.type "list",data:=.seq vs.toArray}->IntsAre vs ns->ns.length<=n->aR.gens= #[]->
      codeAny (model l.prog w) callerA (.call (.ref fa) ⟨[.ref a],[]⟩) (fun r s'=>r=.ok (.ret (.bool true))/\OldK aR.heap s'.heap/\s'.os=aR.os/\AllBare s'.gens) aR):
    WalkO q loose XP YP l.row.toRowW d [] (fun f vs=>PySem.call f vs):=by
  intro w cM aR mg mb G Y fa o pm cd doc dV kV ho hd hJ hD hmg hg args vals as uK aaZ hrd yG DX;obtain rfl:dV=.none:=Dflts.none hD zq;obtain rfl:kV=.none:=Dflts.noKw hD;obtain⟨a,vs,ns,rfl,rfl,yT,hints,hlen⟩:=V9 hn uK yG;refine enter_call (ZeT (call w cM aR mg mb fa o pm cd doc a vs ns G Y ho (fd_plain hd) hJ hmg yT hints hlen hg) fun r s' hq=> ?_);obtain⟨rfl,h2,h3,h4⟩:=hq;exact⟨.inl ⟨.bool true,.bool true,[],rfl,fun _=>rfl,.bool true,V7 l _,fun _=> ⟨List.Pairwise.nil,fun _ hm=> (nomatch hm)⟩⟩,h2,h3,h4⟩
end HW
namespace L2
open PySem PySem.Spec PyProof.Rows
theorem Uq:∀{vs:List Value}{ns:List Int},IntsAre vs ns->Vals (ns.map V.int) vs
 |_,_,.nil=> .nil
 |_,_,.cons n t h=> .cons ⟨t,rfl⟩ (Uq h)
def jf (s:Stmt):Arguments:=match s with
 | .FunctionDef _ a _ _ _ _ _ _ _ _=>a
 |_=> {posonlyargs:=[],args:=[],vararg:=none,kwonlyargs:=[],kw_defaults:=[],kwarg:=none,defaults:=[]}
def dX (s:Stmt):List Stmt:=match s with
 | .FunctionDef _ _ b _ _ _ _ _ _ _=>b
 |_=> []
def ax (s:Stmt):Scope:=match s with
 | .FunctionDef _ _ _ _ _ _ sc _ _ _=>sc
 |_=> {kind:=.function,names:=[],isGenerator:=false,isCoroutine:=false}
abbrev az:jn:=fun _ _ _ _ _ _=>False
abbrev E0:XK:=fun _ _ _=>False
theorem yl {X:Cx} :Passes az X E0:=fun _ _ _ _ _ _ _ h=>h.elim
structure aH (K:ZhK)(x qual:Str)(st:Stmt)(f:Addr)(fd:FuncData):Prop where
 ex:∃(oc:Value) (od:Option Addr) (kV doc pm:Value) (an:Option Addr) (ao ct:Value) (iJ:Array (Option Value)),
  fd=PySem.W.fnOf x qual (jf st) (dX st) (ax st) .none kV doc pm an ao ct/\K.lookup f=some ⟨oc,od,.func fd,iJ⟩/\PySem.W.codeIn K ao qual=true
 kp:PySem.W.keepIn K (.ref f)=true
section
variable {P:Program}{w:World}{K:ZhK}{mg:Str->Option Value}{base:Heap}
theorem aH.ok {x qual:Str}{st:Stmt}{f:Addr}{fd:FuncData}{N ps:List Str}{k:Nat}{sp:Sp}(F:aH K x qual st f fd)(S:aM N ps (ax st))(len:∀vs H Q E,sp vs H Q E->vs.length=ps.length)
    (zv:∀(ao:Value) (A:Around) (outer:List Env) (s:Shared) (H:Hp) (vs:List V) (Q:VK) (E:XK),bP k (A.deeper (envOfC qual (ax st) s.heap.objs.size f ao))->sp vs H Q E->
      ∃t,fz (ie az P w K mg base N qual (ax st) f ao A outer s H E).jZ (dX st) t/\t {nx:=fun _ H'=>Q .ah H',rt:=Q} (start N vs) H):ay P w K mg base az (k+1) f fd ps sp:=by
  obtain⟨oc,od,kV,doc,pm,an,ao,ct,iJ,rfl,lk,hJ⟩:=F.ex;refine RH lk hJ S len fun A outer s H vs Q E hr lO=> ?_;obtain⟨t,h,q⟩:=zv ao A outer s H vs Q E hr lO;exact⟨t,h.jZ,q⟩
theorem aH.binds {x qual:Str}{st:Stmt}{f:Addr}{fd:FuncData}{ps:List Str}(F:aH K x qual st f fd)
  (h:∀(kV doc pm:Value) (an:Option Addr) (ao ct:Value) (us:List Value),us.length=ps.length->bindArgs (PySem.W.fnOf x qual (jf st) (dX st) (ax st) .none kV doc pm an ao ct) ⟨us,[]⟩=pure (ps.zip us)):Binds K fd ps []:=by
 obtain⟨oc,od,kV,doc,pm,an,ao,ct,iJ,rfl,lk,hJ⟩:=F.ex;exact .all (h kV doc pm an ao ct)
theorem Ri {x qual:Str}{st:Stmt}{f:Addr}{oc:Value}{od an:Option Addr}{iJ:Array (Option Value)}{kV doc pm ao ct:Value}(l:K.lookup f=some ⟨oc,od,.func (PySem.W.fnOf x qual (jf st) (dX st) (ax st) .none kV doc pm an ao ct),iJ⟩)
  (c:PySem.W.codeIn K ao qual=true) (k:PySem.W.keepIn K (.ref f)=true):aH K x qual st f (PySem.W.fnOf x qual (jf st) (dX st) (ax st) .none kV doc pm an ao ct):=⟨⟨oc,od,kV,doc,pm,an,ao,ct,iJ,rfl,l,c⟩,k⟩
end
theorem rY {A:Around}{k:Nat}(hr:bP k A):A.units+1<cLine:=Ze3 (ZfH (by decide:1<=64) _) hr.units
section
variable {X:Cx}
theorem pv (i:Nat){x:Str}{pos:Pos}(hN:X.N[i]? =some x:=by rfl)(hv:vG X.env.scope x:=by first |exact Or.inl rfl |exact Or.inr (Or.inl rfl) |exact Or.inr (Or.inr rfl))(hd:(x==("__debug__" :Str))=false:=by decide)
  (hJ:(x==("__classdict__" :Str))=false:=by decide):PE X (.Name x pos) (wb i):=SF hN hv hd hJ
end
theorem aI {A B:Prop}(h:B):if false=true then A else B:=by rw[Zaz Zag];exact h
theorem aX {A B:Prop}(h:A):if true=true then A else B:=by rw[ZaQ rfl];exact h
def ag (H H':Hp):Prop:=∀b o,H b=some o->H' b=some o
theorem ag.refl (H:Hp):ag H H:=fun _ _ h=>h
theorem ag.trans {H H1 H2:Hp}(a:ag H H1)(b:ag H1 H2):ag H H2:=fun c o h=>b c o (a c o h)
theorem ag.free {H H':Hp}(e:ag H H'){l:Addr}(h:H' l=Option.none):H l=Option.none:=by
 cases q:H l with
 |none=>rfl
 |some o=>rw[e l o q]at h;cases h
section
variable {κ:Type} [DecidableEq κ]
noncomputable def cp (kvs:List (κ×V))(k:κ):Option V:=(kvs.find? fun kv=>decide (kv.1=k)).map (·.2)
noncomputable def putK (kvs:List (κ×V))(k:κ)(v:V):List (κ×V):=
 if (kvs.any fun kv=>decide (kv.1=k))=true then kvs.map (fun kv=>if kv.1=k then (kv.1,v) else kv) else kvs++[(k,v)]
theorem ZU {p:κ×V}{r:List (κ×V)}{k:κ}(e:p.1=k):cp (p::r) k=some p.2:=by simp[cp,ZeB,e]
theorem ZX {p:κ×V}{r:List (κ×V)}{k:κ}(e:¬p.1=k):cp (p::r) k=cp r k:=by simp[cp,ZeB,e]
theorem Jj (k:κ):∀kvs:List (κ×V),(kvs.any fun kv=>decide (kv.1=k))=(cp kvs k).isSome
 | []=>rfl
 |p::r=>by
  rw[ZdS];by_cases e:p.1=k
  ·simp only[ZU e,Zaq e,Bool.true_or,Option.isSome_some]
  ·rw[ZX e,ZaF e,Bool.false_or];exact Jj k r
theorem Hk (k j:κ)(y:V):∀kvs:List (κ×V),cp (kvs.map fun kv=>if kv.1=k then (kv.1,y) else kv) j=(cp kvs j).map fun x=>if j=k then y else x
 | []=>rfl
 |p::r=>by
  have ih:=Hk k j y r;rw[Zba];by_cases h:p.1=k
  ·rw[ZaQ h];by_cases e:p.1=j
   ·rw[ZU (p:=(p.1,y)) e,ZU e,Zd7,ZaQ (e.symm.trans h)]
   ·rw[ZX (p:=(p.1,y)) e,ZX e,ih]
  ·rw[Zaz h];by_cases e:p.1=j
   ·rw[ZU (p:=p) e,ZU e,Zd7,Zaz (fun z=>h (e.trans z))]
   ·rw[ZX (p:=p) e,ZX e,ih]
theorem Ur (k j:κ)(y:V):∀kvs:List (κ×V),cp kvs k=none->cp (kvs++[(k,y)]) j=if j=k then some y else cp kvs j
 | [],_=>by
  by_cases e:k=j
  ·rw[ZaQ e.symm];exact ZU (p:=(k,y)) e
  ·rw[Zaz (fun z=>e z.symm)];exact ZX (p:=(k,y)) e
 |p::r,hn=>by
  rw[List.cons_append];have hk:¬p.1=k:=fun z=>by rw[ZU z]at hn;cases hn
  rw[ZX hk]at hn;have ih:=Ur k j y r hn;by_cases e:p.1=j
  ·rw[ZU e,ZU e,Zaz (fun z=>hk (e.trans z))]
  ·rw[ZX e,ZX e,ih]
theorem Vt (kvs:List (κ×V))(k j:κ)(y:V):cp (putK kvs k y) j=if j=k then some y else cp kvs j:=by
 unfold putK;by_cases a:(kvs.any fun kv=>decide (kv.1=k))=true
 ·rw[ZaQ a,Hk];rw[Jj]at a;by_cases e:j=k
  ·obtain⟨x,hx⟩:=ZeU.mp a;rw[ZaQ e,e,hx,Zd7,ZaQ rfl]
  ·rw[Zaz e];cases cp kvs j with
   |none=>rfl
   |some x=>rw[Zd7,Zaz e]
 ·rw[Zaz a];refine Ur k j y kvs ?_;rw[Jj]at a;cases q:cp kvs k with
  |none=>rfl
  |some x=>rw[q]at a;exact(a rfl).elim
theorem YU (kvs:List (κ×V))(k:κ)(v:V):(putK kvs k v).length<=kvs.length+1:=by
 unfold putK;split
 ·rw[Zal];omega
 ·rw[Zaj,Za8,ZcN];omega
theorem kI.Nj {o:Option V}{u:Option Value}(r:kI o u):o.isSome=u.isSome:=by
 cases o with
 |none=>cases u with
  |none=>rfl
  |some _=>exact(show False from r).elim
 |some _=>cases u with
  |none=>exact(show False from r).elim
  |some _=>rfl
theorem kI.getD {o:Option V}{u:Option Value}{d:V}{d':Value}(r:kI o u)(rd:RelV d d'):RelV (o.getD d) (u.getD d'):=by
 cases o with
 |none=>cases u with
  |none=>exact rd
  |some _=>exact(show False from r).elim
 |some _=>cases u with
  |none=>exact(show False from r).elim
  |some _=>exact r
theorem KV.val {kvs:List (κ×V)}{vs:List (κ×Value)}(r:KV kvs vs)(k:κ):kI (cp kvs k) (valueAt vs k):=by
 unfold KV at r
 induction r with
 |nil=>exact True.intro
 | @cons p q ps qs h t ih=>
  obtain⟨h1,h2⟩:=h;by_cases e:p.1=k
  ·have e':q.1=k:=h1.symm.trans e;have b:valueAt (q::qs) k=some q.2:=by simp[valueAt,ZeB,e']
   rw[ZU e,b];exact h2
  ·have e':¬q.1=k:=fun z=>e (h1.trans z);have b:valueAt (q::qs) k=valueAt qs k:=by simp[valueAt,ZeB,e']
   rw[ZX e,b];exact ih
theorem KV.any {kvs:List (κ×V)}{vs:List (κ×Value)}(r:KV kvs vs)(k:κ):(kvs.any fun kv=>decide (kv.1=k))=vs.any fun kv=>decide (kv.1=k):=by
 unfold KV at r
 induction r with
 |nil=>rfl
 |cons h t ih=>rw[ZdS,ZdS,ih,h.1]
theorem KV.xY {kvs:List (κ×V)}{vs:List (κ×Value)}(r:KV kvs vs)(k:κ){y:V}{u:Value}(ry:RelV y u):
  KV (kvs.map fun kv=>if kv.1=k then (kv.1,y) else kv) (vs.map fun kv=>if kv.1=k then (kv.1,u) else kv):=by
 unfold KV at r |-
 induction r with
 |nil=>exact .nil
 | @cons p q ps qs h t ih=>
  rw[Zba,Zba];refine .cons ?_ ih;obtain⟨h1,h2⟩:=h;by_cases e:p.1=k
  ·rw[ZaQ e,ZaQ (h1.symm.trans e)];exact⟨h1,ry⟩
  ·rw[Zaz e,Zaz (fun z=>e (h1.trans z))];exact⟨h1,h2⟩
theorem KV.put {kvs:List (κ×V)}{vs:List (κ×Value)}(r:KV kvs vs)(k:κ){y:V}{u:Value}(ry:RelV y u):KV (putK kvs k y) (stored vs k u):=by
 unfold putK stored;rw[r.any k];by_cases e:(vs.any fun kv=>decide (kv.1=k))=true
 ·rw[ZaQ e,ZaQ e];exact r.xY k ry
 ·rw[Zaz e,Zaz e];exact Zc3 r ⟨rfl,ry⟩
theorem KV.length {kvs:List (κ×V)}{vs:List (κ×Value)}(r:KV kvs vs):kvs.length=vs.length:=Za0 r
end
theorem Ah {P:Program}{w:World}{k:Key}{u:Value}(r:RelV (kV k) u):(fk P w).is k u=true:=by
 cases k with
 |inl i=>obtain⟨t,e⟩:=(show ∃t,u=Value.int i t from r);subst e;exact Zbc P w i t
 |inr x=>obtain⟨t,e⟩:=(show ∃t,u=Value.str x t from r);subst e;exact Zbb P w x t
theorem UM {P:Program}{w:World} :∀{ks:List Key}{us:List Value},Vals (ks.map kV) us->ItemsAre (fk P w) ks us
 | [],_,r=>by rw[Zfo]at r;cases r;exact .nil
 |k::ks,_,r=>by
  rw[Zba]at r;cases r with
  |cons h t=>exact .cons (Ah h) (UM t)
abbrev KT (H:Hp):List (List Key×V)->List (List Key×Addr×Value)->Prop:=Paired fun p q=>p.1=q.1/\H q.2.1=some (.tup (p.1.map kV))/\RelV p.2 q.2.2
theorem KT.val {H:Hp}{kvs:List (List Key×V)}{xs:List (List Key×Addr×Value)}(r:KT H kvs xs)(k:List Key):kI (cp kvs k) ((atKey xs k).map (·.2)):=by
 induction r with
 |nil=>exact True.intro
 | @cons p q ps qs h t ih=>
  obtain⟨h1,_,h2⟩:=h;by_cases e:p.1=k
  ·have e':q.1=k:=h1.symm.trans e;have b:atKey (q::qs) k=some q.2:=by simp[atKey,ZeB,e']
   rw[ZU e,b];exact h2
  ·have e':¬q.1=k:=fun z=>e (h1.trans z);have b:atKey (q::qs) k=atKey qs k:=by simp[atKey,ZeB,e']
   rw[ZX e,b];exact ih
theorem KT.xY {H:Hp}{kvs:List (List Key×V)}{xs:List (List Key×Addr×Value)}(r:KT H kvs xs)(k:List Key){y:V}{u:Value}(ry:RelV y u):
  KT H (kvs.map fun kv=>if kv.1=k then (kv.1,y) else kv) (xs.map (putAt k u)):=by
 induction r with
 |nil=>exact .nil
 | @cons p q ps qs h t ih=>
  rw[Zba,Zba];refine .cons ?_ ih;obtain⟨h1,h2,h3⟩:=h;unfold putAt;by_cases e:p.1=k
  ·rw[ZaQ e,ZaQ (h1.symm.trans e)];exact⟨h1,h2,ry⟩
  ·rw[Zaz e,Zaz (fun z=>e (h1.trans z))];exact⟨h1,h2,h3⟩
theorem KT.put {H:Hp}{kvs:List (List Key×V)}{xs:List (List Key×Addr×Value)}(r:KT H kvs xs)(k:List Key){b:Addr}{y:V}{u:Value}(hb:H b=some (.tup (k.map kV)))(ry:RelV y u):
  KT H (putK kvs k y) (storedH xs k b u):=by
 have e:(kvs.any fun kv=>decide (kv.1=k))=(atKey xs k).isSome:=by rw[Jj,(r.val k).Nj,Option.isSome_map]
 unfold putK storedH;rw[e];by_cases q:(atKey xs k).isSome=true
 ·rw[ZaQ q,ZaQ q];exact r.xY k ry
 ·rw[Zaz q,Zaz q];exact Zc3 r ⟨rfl,hb,ry⟩
theorem KT.keeps {H H':Hp}{kvs:List (List Key×V)}{xs:List (List Key×Addr×Value)}(r:KT H kvs xs)(ht:∀b ys,H b=some (.tup ys)->H' b=some (.tup ys)):KT H' kvs xs:=
 Paired.ba r fun _ _ z=> ⟨z.1,ht _ _ z.2.1,z.2.2⟩
section
variable {P:Program}{w:World}{H:Hp}{h:Heap}{a:Addr}
theorem Fp {u:HO}(ok:bY P w H h)(e:Rd H a u):bG P w H h a u:=e.ok ok
theorem Al {kvs:List (Key×V)}(ok:bY P w H h)(e:Rd H a (.dK kvs)):kvs.length<=sizeLine/\(a==sysModules)=false/\∃vs,KV kvs vs/\h.DictOf (fk P w) a vs:=
 show bG P w H h a (.dK kvs) from Fp ok e
theorem RF {kvs:List (Key×V)}(ok:bY P w H h)(e:H a=some (.dK kvs)):kvs.length<=sizeLine/\(a==sysModules)=false/\∃vs,KV kvs vs/\h.DictOf (fk P w) a vs:=Al ok (.inl e)
theorem As {ks:List Key}(ok:bY P w H h)(e:H a=some (.tup (ks.map kV))):(tupleKind (fk P w)).is h ks a:=by obtain⟨_,aa,r,⟨o,h1,h2,n,h3⟩,_⟩:=(show bG P w H h a (.tup (ks.map kV)) from ok a _ e);exact⟨o,aa.toArray,n,h1,h2,h3,by simpa using UM r⟩
theorem Am {kvs:List (List Key×V)}(ok:bY P w H h)(e:Rd H a (.dT kvs)):kvs.length<=sizeLine/\(a==sysModules)=false/\
  ∃xs,KT H kvs xs/\h.DictOfH (tupleKind (fk P w)) a xs:=by
 obtain⟨z,y,xs,r,o,es,ep,h1,h2,h3,h4,h5⟩:=(show bG P w H h a (.dT kvs) from Fp ok e);refine⟨z,y,xs,r,o,es,ep,h1,h2,h3,h4,fun x hx=> ?_,h5⟩;have all:∀{l:List (List Key×V)}{m:List (List Key×Addr×Value)},KT H l m->∀x∈m,(tupleKind (fk P w)).is h x.1 x.2.1:=by
  intro l m q
  induction q with
  |nil=>intro x hx;exact nomatch hx
  | @cons p q ps qs hq t ih=>
   intro x hx;rcases Zav.mp hx with e |hx
   ·subst e;exact As ok (by rw[<-hq.1];exact hq.2.1)
   ·exact ih x hx
 exact all r x hx
theorem RG {kvs:List (List Key×V)}(ok:bY P w H h)(e:H a=some (.dT kvs)):kvs.length<=sizeLine/\(a==sysModules)=false/\
  ∃xs,KT H kvs xs/\h.DictOfH (tupleKind (fk P w)) a xs:=Am ok (.inl e)
end
def sH (H:Hp)(a:Addr)(y:V)(r:Option V):Prop:=
 (∃kvs k,Rd H a (.dK kvs)/\y=kV k/\r=cp kvs k)∨∃kvs k b,Rd H a (.dT kvs)/\y=.ref b/\H b=some (.tup (k.map kV))/\r=cp kvs k
def sG (H:Hp)(a:Addr)(y v:V)(H':Hp):Prop:=
 (∃kvs k,H a=some (.dK kvs)/\y=kV k/\kvs.length<sizeLine/\H'=upd H a (.dK (putK kvs k v)))∨
 ∃kvs k b,H a=some (.dT kvs)/\y=.ref b/\H b=some (.tup (k.map kV))/\kvs.length<sizeLine/\H'=upd H a (.dT (putK kvs k v))
theorem sH.t {H:Hp}{a b:Addr}{kvs:List (List Key×V)}{k:List Key}(e:H a=some (.dT kvs))(eb:H b=some (.tup (k.map kV))):sH H a (.ref b) (cp kvs k):=.inr ⟨kvs,k,b,.inl e,rfl,eb,rfl⟩
theorem sG.t {H:Hp}{a b:Addr}{kvs:List (List Key×V)}{k:List Key}{v:V}(e:H a=some (.dT kvs))(eb:H b=some (.tup (k.map kV)))(hl:kvs.length<sizeLine):
  sG H a (.ref b) v (upd H a (.dT (putK kvs k v))):=.inr ⟨kvs,k,b,e,rfl,eb,hl,rfl⟩
section
variable {X:Cx}{pins:List (Addr×Obj)}{σ:St}{H:Hp}{s:Shared}{a:Addr}{y v:V}{u r:Value}{o:Option V}{A:Around}{E:Value->Shared->Prop}
theorem Inv.big (I:Inv X pins σ H s):sysModules<s.heap.objs.size:=by have h:mainGlobals<s.heap.objs.size:=(I.mod.glob.keeps I.bk).lt;exact Nat.lt_trans .d h
theorem F2 {h':Heap}{t':Nat}{ob:HO}(I:Inv X pins σ H s)(mu:r9 (H a))(hs:Heap.SameBut a s.heap h')(he:∃q,h'.get? a=some q)(new:bG X.prog X.w (upd H a ob) h' a ob):
  Inv X pins σ (upd H a ob) {s with heap:=h',toks:=t'} :=
 I.write (x:=a) (e:=a) mu (.inl rfl) (fun b q hb z=> (hs.2 b hb).trans z) he new
theorem Rc {P:Program}{w:World}{H':Hp}{h':Heap}{kvs:List (Key×V)}{vs:List (Key×Value)}(z:kvs.length<=sizeLine)(hd:(a==sysModules)=false)(rel:KV kvs vs)(dd:h'.DictOf (fk P w) a vs):
  bG P w H' h' a (.dK kvs):=⟨z,hd,vs,rel,dd⟩
theorem Vz {H':Hp}{Q:Unit->Shared->Prop}(hu:A.units+1<cLine)(I:Inv X pins σ H s)(g:sG H a y v H')(ry:RelV y u)(rv:RelV v r)(h:∀s',Inv X pins σ H' s'->Q () s'):
  wpAny (model X.prog X.w) A (setItem (.ref a) u r) Q E s:=by
 rcases g with ⟨kvs,k,e,ey,l,eH⟩ |⟨kvs,k,b,e,ey,eb,l,eH⟩
 ·subst ey eH;obtain⟨z,hd,vs,rel,dd⟩:=RF I.aq e;have hz:vs.length<=sizeLine:=by rw[<-rel.length];exact z
  have hl:(putK kvs k v).length<=sizeLine:=by have:=YU kvs k v;omega
  refine wpAny_setItem_pairs (hsz:=hz) (Ah ry) dd fun h' vo hs=>h _ ?_;have he:∃q,h'.get? a=some q:=let ⟨q,_,_,hq,_⟩:=vo;⟨q,hq⟩;exact F2 I (by rw[e];exact True.intro) hs he (Rc hl hd (rel.put k rv) vo)
 ·subst ey eH;cases (show u=Value.ref b from ry);obtain⟨z,hd,xs,rel,dd⟩:=RG I.aq e;have hz:xs.length<=sizeLine:=by rw[<-Za0 rel];exact z
  have hl:(putK kvs k v).length<=sizeLine:=by have:=YU kvs k v;omega
  refine wpAny_setItem_heap (hsz:=hz) (tupleKind_room_in1 hu) (As I.aq eb) dd fun h' vo hs=>h _ ?_;obtain⟨q,es,ep,hq,h2,h3,h4,_,h5⟩:=vo;refine F2 I (by rw[e];exact True.intro) hs ⟨q,hq⟩ ⟨hl,hd,_,(rel.put k eb rv).keeps fun c ys ec=> ?_,q,es,ep,hq,h2,h3,h4,h5⟩;rw[Zi (YS ec e (fun z=>nomatch z))];exact ec
end
def K7 (td ty tv:TE):TS:=fun D σ H=>tv σ H fun v H1=>td σ H1 fun x H2=>ty σ H2 fun y H3=> ∃a H4,x=.ref a/\sG H3 a y v H4/\D.nx σ H4
section
variable {X:Cx}{o i e value:Expr}{pos pos' aaO:Pos}{td ty tv:TE}
theorem Vd (hu:X.A.units+1<cLine)(ho:PE X o td)(hi:PE X i ty)(hv:PE X value tv)(hs:swapsWith value (some (.Subscript o i pos')) pos.line X.env=pure false):
  PS X (.Assign [.Subscript o i pos'] value pos) (K7 td ty tv):=by
 intro pins s σ H D I h;refine wpAny_Assign_Subscript (au (hv pins s σ H _ I h) fun r s1 ⟨v,H1,I1,rv,q1⟩=>au (ho pins s1 σ H1 _ I1 q1) fun u s2 ⟨x,H2,I2,rx,q2⟩=>au (hi pins s2 σ H2 _ I2 q2) fun iv s3 ae=> ?_) hs;obtain⟨y,H3,I3,ry,a,H4,ex,g,q3⟩:=ae;subst ex;obtain rfl:u=Value.ref a:=rx;exact Vz hu I3 g ry rv fun s4 I4=> ⟨σ,H4,I4,q3⟩
end
theorem T6 {P:Program}{w:World}{H:Hp}(h:Heap)(hb:sysModules<h.objs.size):bG P w H (h.push {cls:=.type "dict",data:=.dict #[]}) h.objs.size (.dT []):=
 ⟨ZaM _,Zee.mpr (Zd3 (Za1 hb)),[],.nil,_, #[],0,Zar _ rfl,⟨rfl,rfl,rfl⟩,rfl,rfl,Zfm⟩
def IW:TE:=fun _ H Q=> ∀p,H p=none->Q (.ref p) (upd H p (.dT []))
section
variable {X:Cx}{pos:Pos}
theorem VN:PE X (.Dict [] [] pos) IW:=fun pins s σ H Q I h=>
 wpAny_Dict_empty ⟨.ref s.heap.objs.size,_,I.laid (a:=s.heap.objs.size) (o:=.dT []) (t':=s.toks) (fun _ _ q=>Zad _ q) (Zak _) (T6 s.heap I.big),rfl,h _ (I.aq.fresh (Zak _))⟩
end
structure M2 (X:Cx)(o:Expr)(m:Str)(apos:Pos)(e f:Expr)(dY:Pos):Prop where
 base:attributeBase o m X.env (eval o X.env)=eval o X.env
 vh:((backTo dY (starEach [e,f] X.env)).all (fun x=> !x.1)&&(backToKw dY (keywordEach [] X.env)).all (fun x=>x.1.isSome)
  &&decide (([e,f]:List Expr).length+([]:List Keyword).length+(if ([]:List Keyword).isEmpty then 0 else 1)<30))=true
 line:(apos.endLine==dY.line)=true
 trees:backTo dY (starEach [e,f] X.env)=[(false,eval e X.env),(false,eval f X.env)]
def HA (H:Hp)(a:Addr):Prop:=(∃kvs,Rd H a (.dK kvs))∨∃kvs,Rd H a (.dT kvs)
theorem Rl {X:Cx}{pins:List (Addr×Obj)}{σ:St}{H:Hp}{s:Shared}{a:Addr}(I:Inv X pins σ H s)(d:HA H a):
  s.TypeIs (.ref a) "dict" /\(∀b,Value.ref a=.ref b->∃ob,s.heap.get? b=some ob/\ob.dict=none)/\(a==sysModules)=false:=by
 rcases d with ⟨kvs,e⟩ |⟨kvs,e⟩
 ·obtain⟨_,hd,vs,_,dd⟩:=Al I.aq e;refine⟨dd.typeIs,fun b q=> ?_,hd⟩;cases q;obtain⟨ob,_,_,h1,h2,_⟩:=dd;exact⟨ob,h1,h2.2.1⟩
 ·obtain⟨_,hd,xs,_,dd⟩:=Am I.aq e;refine⟨dd.typeIs,fun b q=> ?_,hd⟩;cases q;obtain⟨ob,_,_,h1,h2,_⟩:=dd;exact⟨ob,h1,h2.2.1⟩
section
variable {X:Cx}{pins:List (Addr×Obj)}{σ:St}{H:Hp}{s:Shared}{a:Addr}{y d:V}{u r:Value}{o:Option V}{A:Around}{E:Value->Shared->Prop}
theorem Rb {Q:Value->Shared->Prop}(hu:A.units+1<cLine)(I:Inv X pins σ H s)(g:sH H a y o)(ry:RelV y u)(rd:RelV d r)(h:∀w' s',Inv X pins σ H s'->RelV (o.getD d) w'->Q w' s'):
  wpAny (model X.prog X.w) A (call (.builtin "dict.get") [.ref a,u,r]) Q E s:=by
 rcases g with ⟨kvs,k,e,ey,l⟩ |⟨kvs,k,b,e,ey,eb,l⟩
 ·subst ey;obtain⟨z,hd,vs,rel,dd⟩:=Al I.aq e;refine call_meetsIn Zfp dd.typeIs PySem.F.entry_dict_get (PySem.F.args_dict_get_3 _ _ _) (meets_dict_get_default (fk X.prog X.w) a (Ah ry) hd r) ⟨_,dd.mapOf,h _ _ (I.tok _) ?_⟩;rw[l];exact(rel.val k).getD rd
 ·subst ey;cases (show u=Value.ref b from ry);obtain⟨z,hd,xs,rel,dd⟩:=Am I.aq e;refine call_meetsIn Zfp dd.typeIs PySem.F.entry_dict_get (PySem.F.args_dict_get_3 _ _ _) (meetsH_dict_get_default (tupleKind (fk X.prog X.w)) a b hd r) ⟨tupleKind_room_in1 hu,k,xs,As I.aq eb,dd,h _ _ (I.tok _) ?_⟩;rw[l];exact(rel.val k).getD rd
end
def IY (td ty tx:TE):TE:=fun σ H Q=>td σ H fun x H1=> ∃a,x=.ref a/\HA H1 a/\ty σ H1 fun y H2=>tx σ H2 fun z H3=> ∃o,sH H3 a y o/\Q (o.getD z) H3
section
variable {X:Cx}{o e f:Expr}{apos dY:Pos}{td ty tx:TE}
theorem VM (hu:X.A.units+1<cLine)(ho:PE X o td)(he:PE X e ty)(hf:PE X f tx)(m:M2 X o "get" apos e f dY):PE X (.Call (.Attribute o "get" apos) [e,f] [] dY) (IY td ty tx):=by
 intro pins s σ H Q I h;refine wpAny_Call_method m.base m.vh m.line PySem.F.plainAttrs_dict Zfp PySem.F.type_dict_get (au (ho pins s σ H _ I h) fun u s1 ae=> ?_);obtain⟨x,H1,I1,rx,a,ex,d,q1⟩:=ae;subst ex;obtain rfl:u=Value.ref a:=rx;obtain⟨t1,t2,_⟩:=Rl I1 d;refine⟨t1,t2,?_⟩;rw[m.trees];refine Ze8 rfl (Calls.evalArgs_plain (Zew (au (he pins s1 σ H1 _ I1 q1) fun iv s2 ⟨y,H2,I2,ry,q2⟩=>
  Zew (au (hf pins s2 σ H2 _ I2 q2) fun fv s3 ⟨z,H3,I3,rz,ov,g,q3⟩=>Zfe ?_))))
 exact Rb hu I3 g ry rz fun w' s4 I4 jX=> ⟨_,H3,I4,jX,q3⟩
end
def kF (scope:Scope)(env:Env):List (Str×Addr):=scope.names.foldl (fun cs y=>if y.2==.free then (y.1,(env.cells.lookup y.1).getD 0)::cs else cs) []
theorem Yw {scope:Scope}{env:Env}(h:∀y∈scope.names,y.2=.free->∃c,env.cells.lookup y.1=some c):closureFor scope env=pure (kF scope env):=by
 unfold closureFor kF;have key:∀(l:List (Str×NameKind)) (cs:List (Str×Addr)),(∀y∈l,y.2=.free->∃c,env.cells.lookup y.1=some c)->
   (forIn l cs (fun x r=>match x with |(name,kind)=>if (kind==NameKind.free)=true then do let c <-cellOf env name;pure (ForInStep.yield ((name,c)::r)) else pure (ForInStep.yield r)):Sem (List (Str×Addr)))
    =pure (l.foldl (fun cs y=>if y.2==.free then (y.1,(env.cells.lookup y.1).getD 0)::cs else cs) cs):=by
  intro l
  induction l with
  |nil=>intro cs _;rfl
  |cons y l ih=>
   intro cs hl;obtain⟨n,k⟩:=y;rw[ZgP,Zdw];by_cases hk:k=.free
   ·subst hk;obtain⟨c,hc⟩:=hl (n,.free) Zaf rfl;have bL:env.cells.lookup n=some c:=hc;have e1:cellOf env n=pure c:=by unfold cellOf;rw[bL]
    simp only[Zgv,ZdC,e1,bL,Zem,pure_bind];exact ih _ fun y hy=>hl y (Zae _ hy)
   ·have hb:(k==NameKind.free)=false:=by simpa using hk
    simp only[hb,Zax,ZbI,pure_bind];exact ih _ fun y hy=>hl y (Zae _ hy)
 simp only[key scope.names [] h,pure_bind]
 all_goals rfl
theorem G4 {scope:Scope}{env:Env}{x:Str}{c:Addr}(h:(kF scope env).lookup x=some c):c=(env.cells.lookup x).getD 0/\(x,NameKind.free)∈scope.names:=by
 unfold kF at h;have key:∀(l:List (Str×NameKind)) (cs:List (Str×Addr)),(l.foldl (fun cs y=>if y.2==.free then (y.1,(env.cells.lookup y.1).getD 0)::cs else cs) cs).lookup x=some c->
   (c=(env.cells.lookup x).getD 0/\(x,NameKind.free)∈l)∨cs.lookup x=some c:=by
  intro l
  induction l with
  |nil=>intro cs h;exact .inr h
  |cons y l ih=>
   intro cs h;obtain⟨n,k⟩:=y;rw[Zdw]at h;rcases ih _ h with ⟨h1,h2⟩ |h'
   ·exact .inl ⟨h1,Zae _ h2⟩
   ·by_cases hk:k=.free
    ·subst hk;simp only[Zgv,ZdC]at h';rw[Zen]at h';cases hx:x==n with
     |true=>
      rw[hx]at h';have e:x=n:=by simpa using hx
      subst e;have e':(env.cells.lookup x).getD 0=c:=Zbh h';exact .inl ⟨e'.symm,Zaf⟩
     |false=>rw[hx]at h';exact .inr h'
    ·have hb:(k==NameKind.free)=false:=by simpa using hk
     simp only[hb,Zax,ZbI]at h';exact .inr h'
 rcases key _ _ h with h |h
 ·exact h
 ·simp at h
theorem G3 {scope:Scope}{env:Env}{x:Str}(h:(x,NameKind.free)∈scope.names):∃c,(kF scope env).lookup x=some c:=by
 unfold kF;have key:∀(l:List (Str×NameKind)) (cs:List (Str×Addr)),((x,NameKind.free)∈l∨∃c,cs.lookup x=some c)->∃c,(l.foldl (fun cs y=>if y.2==.free then (y.1,(env.cells.lookup y.1).getD 0)::cs else cs) cs).lookup x=some c:=by
  intro l
  induction l with
  |nil=>
   intro cs h;rcases h with h |h
   ·simp at h
   ·exact h
  |cons y l ih=>
   intro cs h;obtain⟨n,k⟩:=y;rw[Zdw];refine ih _ ?_;by_cases hk:k=.free
   ·subst hk;simp only[Zgv,ZdC];rw[Zen];cases hx:x==n with
    |true=>exact .inr ⟨_,rfl⟩
    |false=>
     rcases h with h |h
     ·rcases Zav.mp h with e |h
      ·have e1:x=n:=ZcE Prod.fst e;simp[e1]at hx
      ·exact .inl h
     ·exact .inr h
   ·have hb:(k==NameKind.free)=false:=by simpa using hk
    simp only[hb,Zax,ZbI];rcases h with h |h
    ·rcases Zav.mp h with e |h
     ·exact absurd (ZcE Prod.snd e).symm hk
     ·exact .inl h
    ·exact .inr h
 exact key _ _ (.inl h)
noncomputable def rl (env:Env)(y:Str×NameKind):Str×NameKind:=if (y.2==NameKind.free&&env.scope.kind==.function&&env.kindOf y.1==some .cell) then (y.1,NameKind.cell) else y
theorem FT (env:Env)(y:Str×NameKind):(rl env y).1=y.1:=by unfold rl;split<;>rfl
theorem TK {env:Env}{y:Str×NameKind}(h:y.2=.free):(rl env y).2=.cell∨(rl env y).2=.free:=by
 unfold rl;split
 ·exact .inl rfl
 ·exact .inr h
theorem SM {env:Env}{y:Str×NameKind}(h:y.2≠.free):rl env y=y:=by
 have hb:(y.2==NameKind.free)=false:=by simpa using h
 unfold rl;rw[hb];simp
theorem Ja (scope:Scope)(env:Env):(relabel scope env).names=scope.names.map (rl env):=rfl
theorem Zac {scope:Scope}{env:Env}{x:Str}(hc:∀y∈scope.names,y.2≠.cell)(h:(relabel scope env).names.lookup x=some .cell∨(relabel scope env).names.lookup x=some .free):(x,NameKind.free)∈scope.names:=by
 rw[Ja]at h;have key:∀(l:List (Str×NameKind)),(∀y∈l,y.2≠.cell)->(∃k,(k=NameKind.cell∨k=.free)/\(l.map (rl env)).lookup x=some k)->(x,NameKind.free)∈l:=by
  intro l
  induction l with
  |nil=>rintro _ ⟨k,_,h⟩;simp at h
  |cons y l ih=>
   rintro hl ⟨k',aG,h⟩;obtain⟨n,k⟩:=y;have e1:(rl env (n,k))=(n,(rl env (n,k)).2):=Zeh (FT env _) rfl;rw[Zba,e1,Zen]at h;cases hx:x==n with
   |true=>
    have e:x=n:=by simpa using hx
    subst e;by_cases hk:k=.free
    ·subst hk;exact Zaf
    ·rw[hx]at h;rw[SM (env:=env) (y:=(x,k)) hk]at h;have e:k=k':=Zbh h;subst e;rcases aG with z |z
     ·exact absurd z (hl _ Zaf)
     ·exact absurd z hk
   |false=>rw[hx]at h;exact Zae _ (ih (fun y hy=>hl y (Zae _ hy)) ⟨k',aG,h⟩)
 refine key _ hc ?_;rcases h with h |h
 ·exact⟨_,.inl rfl,h⟩
 ·exact⟨_,.inr rfl,h⟩
theorem Y9 {scope:Scope}{env:Env}{x:Str}(h:scope.names.lookup x=some .free):(relabel scope env).names.lookup x=some .cell∨(relabel scope env).names.lookup x=some .free:=by
 rw[Ja];have key:∀(l:List (Str×NameKind)),l.lookup x=some .free->(l.map (rl env)).lookup x=some .cell∨(l.map (rl env)).lookup x=some .free:=by
  intro l
  induction l with
  |nil=>intro h;simp at h
  |cons y l ih=>
   intro h;obtain⟨n,k⟩:=y;have e1:(rl env (n,k))=(n,(rl env (n,k)).2):=Zeh (FT env _) rfl;rw[Zba,e1,Zen];rw[Zen]at h;cases hx:x==n with
   |true=>
    rw[hx]at h;have e:k=.free:=Zbh h;rcases TK (env:=env) (y:=(n,k)) e with z |z
    ·exact .inl (ZcE some z)
    ·exact .inr (ZcE some z)
   |false=>rw[hx]at h;exact ih h
 exact key _ h
noncomputable def aU (X:Cx)(N':List Str)(scope:Scope)(C:Addr)(s2:Shared)(H2:Hp)(fp:List Addr):Cx:=
 {X with N:=N',cM:=s2,sr:=H2,env:=compEnvC scope (kF scope X.env) C X.env,outer:=X.stack,stack:=X.stack,ex:=fp,fn:=fun _=>false,pn:=[],xe:=fun _ _=>False}
noncomputable def rR (so si:Scope)(N N':List Str)(ts:Nat)(bF:List Nat):Bool:=
 decide (si.kind=.function)&&si.names.all (fun y=>y.2 !=.cell)&&si.names.all (fun y=>y.2 !=.local||si.names.lookup y.1==some .local)
 &&si.names.all (fun y=>y.2 !=.free||so.names.lookup y.1==some .cell||so.names.lookup y.1==some .free)
 &&decide N'.Nodup&&decide (N'.length=ts+bF.length)
 &&(List.range bF.length).all (fun k=> (N'[ts+k]? ==(bF[k]?.bind fun j=>N[j]?))&&(N'[ts+k]?.isSome)&&(N'[ts+k]?.all fun x=>so.names.lookup x !=some .local&&si.names.lookup x==some .free))
def kG (ts:Nat)(bF:List Nat)(σ:St):St:=List.replicate ts none++bF.map fun j=> (σ[j]?).join
structure Bv (X:Cx)(N':List Str)(ts:Nat)(bF:List Nat)(scope:Scope):Prop where
 kind:scope.kind=.function
 kZ:∀y∈scope.names,y.2≠.cell
 names:∀y∈scope.names,y.2=.local->scope.names.lookup y.1=some .local
 free:∀y∈scope.names,y.2=.free->X.env.kindOf y.1=some .cell∨X.env.kindOf y.1=some .free
 nd:N'.Nodup
 len:N'.length=ts+bF.length
 Q4:∀k j,bF[k]? =some j->∃x,N'[ts+k]? =some x/\X.N[j]? =some x/\X.env.kindOf x≠some .local/\scope.names.lookup x=some .free
theorem Jf {x:Str}{k:NameKind} :∀{l:List (Str×NameKind)},l.lookup x=some k->(x,k)∈l
 | [],h=>by simp at h
 |(n,j)::l,h=>by
  rw[Zen]at h;cases hx:x==n with
  |true=>
   rw[hx]at h;have e:x=n:=by simpa using hx
   have e':j=k:=Zbh h;subst e e';exact Zaf
  |false=>rw[hx]at h;exact Zae _ (Jf h)
theorem W7 {X:Cx}{N':List Str}{ts:Nat}{bF:List Nat}{scope:Scope}(h:rR X.env.scope scope X.N N' ts bF=true):Bv X N' ts bF scope:=by
 unfold rR at h;simp only[Za5]at h;obtain⟨⟨⟨⟨⟨⟨h1,h2⟩,h3⟩,h4⟩,h5⟩,h6⟩,h7⟩:=h;refine⟨Zbt h1,fun y hy z=> ?_,fun y hy z=> ?_,fun y hy z=> ?_,Zbt h5,Zbt h6,fun k j hk=> ?_⟩
 ·have q:=Zbd.mp h2 y hy;rw[z]at q;exact absurd q .d
 ·have q:=Zbd.mp h3 y hy;rw[z]at q;simpa using q
 ·have q:=Zbd.mp h4 y hy;rw[z]at q;simpa[Env.kindOf] using q
 ·have aw:k<bF.length:=(Zaa.mp hk).1;have q:=Zbd.mp h7 k (Za6.mpr aw);simp only[Za5]at q;obtain⟨⟨q1,q2⟩,q3⟩:=q;obtain⟨x,hx⟩:=ZeU.mp q2;rw[hx]at q1 q3;rw[hk]at q1;have e1:some x=X.N[j]? :=by simpa using q1
  have ye:(X.env.scope.names.lookup x !=some .local&&scope.names.lookup x==some .free)=true:=q3;simp only[Za5]at ye;refine⟨x,hx,e1.symm,?_,by simpa using ye.2⟩;have z:=ye.1;intro e;have e':X.env.scope.names.lookup x=some .local:=e;rw[e']at z;exact absurd z .d
section
variable {X:Cx}{pins:List (Addr×Obj)}{σ:St}{H:Hp}{s:Shared}
theorem Sl {N':List Str}{ts:Nat}{bF:List Nat}{scope:Scope}{fp:List Addr}{h':Heap}{t':Nat}{m:Str->Option Value}{C:Addr}(S:Bv X N' ts bF scope)(I:Inv X pins σ H s)(hf:∀b∈fp,bj X pins H b)
  (ho:∀b∈fp,∃o,s.heap.get? b=some o) (hC:s.heap.objs.size<=C) (hn:h'.Ns C m) (k:∀b o,s.heap.get? b=some o->h'.get? b=some o):
  Inv (aU X N' scope C s H fp) [] (kG ts bF σ) H {s with heap:=h',toks:=t'} :=by
 have sub:∀x c,(kF scope X.env).lookup x=some c->X.env.cells.lookup x=some c:=fun x c e=>by obtain⟨e1,e2⟩:=G4 e;obtain⟨c',bL⟩:=I.ok.has x (S.free _ e2 rfl);rw[bL]at e1;rw[bL,e1];rfl
 have fj:∀b o,s.heap.get? b=some o->b≠C:=fun b o e=>Za1 (Za7 (ZaC e) hC);refine⟨⟨I.ok.mod,?_,I.ok.glob,I.ok.blt,hC,fun x y c e1 e2=>I.ok.inj x y c (sub x c e1) (sub y c e2),fun x hx=> ?_,fun x c z _=>absurd z Zag,I.ok.hd,I.ok.frames,.inl rfl,fun b hb=> ?_,fun b o e=>I.bs b o e,Zbi I.ok.md I.sz,fun b o e hb=> ?_,fun b hb=> ?_,I.stack,I.BL⟩,
  rfl,I.bare,Un.kept k,⟨m,hn,fun i x v e1 e2 e3=> ?_⟩,fun x c e=> ?_,I.aq.fresh hC,fun x c e=>I.ja x c (sub x c e),fun p hp=>absurd (show p∈([]:List (Addr×Obj)) from hp) (by simp),I.aq.kept k,?_⟩
 ·show(relabel scope X.env).kind=.function;exact S.kind
 ·exact G3 (Zac S.kZ hx)
 ·obtain⟨o,e⟩:=ho b hb;refine⟨fj b o e,fun x c ec=> ?_⟩;exact(hf b hb).2.2.2.2.1 x c (sub x c ec)
 ·obtain⟨e1,e2⟩:=I.bs b o e;obtain⟨f0,f1,f2,f3,f4,f5⟩:=hf b hb;rcases f3 with z |z
  ·exact I.ok.oF b o e z
  ·exact absurd (Za7 (ZaC (I.ok.bs b o e).1) z) (Zdg _)
 ·intro z;obtain⟨f0,f1,f2,f3,f4,f5⟩:=hf b hb;rcases Zav.mp (I.wj b z) with q |q
  ·exact f1 q
  ·exact f2 q
 ·-- the aaS values
  have hlen:¬i<ts:=fun aw=>by unfold kG at e2;rw[ZcQ (by simpa using aw),Zc7]at e2;split at e2<;>cases e2
  have nF:(bF.map fun j=> (σ[j]?).join)[i-ts]? =some (some v):=by unfold kG at e2;rw[Zcx (by simpa using hlen),Zco]at e2;exact e2
  rw[Zbk]at nF;cases hc:bF[i-ts]? with
  |none=>rw[hc]at nF;cases nF
  |some j=>
   rw[hc]at nF;have vm:(σ[j]?).join=some v:=Zbh nF;have e4:σ[j]? =some (some v):=by
    cases q:σ[j]? with
    |none=>rw[q]at vm;cases vm
    |some o=>rw[q]at vm;exact ZcE some vm
   obtain⟨x',n1,n2,n3,n4⟩:=S.Q4 _ _ hc;have ei:ts+(i-ts)=i:=.o;rw[ei]at n1;have ex:x=x':=by have kE:N'[i]? =some x:=e1;rw[n1]at kE;exact(Zbh kE).symm
   subst ex;obtain⟨mX,hnX,hl⟩:=I.loc;have Ie:vG X.env.scope x:=by
    rcases S.free _ (Jf n4) rfl with z |z
    ·exact .inr (.inl z)
    ·exact .inr (.inr z)
   obtain⟨u,ru,lk⟩:=hl j x v n2 e4 Ie;refine⟨u,ru,?_⟩;rcases lk with ⟨z,_⟩ |⟨z,c,ec,uZ⟩
   ·exact absurd z n3
   ·obtain⟨c',bL⟩:=G3 (env:=X.env) (Jf n4);have:=sub x c' bL;rw[ec]at this;cases this;refine .inr ⟨?_,c,bL,uZ.keeps k⟩;exact Y9 n4
 ·obtain⟨v,z⟩:=I.cell x c (sub x c e);exact⟨v,z.keeps k⟩
 ·show(kG ts bF σ).length=N'.length;unfold kG;rw[Zaj,Zco,Zal,S.len]
end
structure CK where
 ex:Expr->List Comprehension->Scope->Pos->Expr
 em:Expr->Value->Env->Sem PUnit
 acc:Program->World->Heap->Addr->List V->Prop
 nw:Sem Value
 ob:World->Obj
abbrev TC:=List V->St->Hp->(List V->St->Hp->Prop)->Prop
def vJ (κ:CK)(Y:Cx)(D:Addr)(m:Sem PySem.Fin->Sem PySem.Fin)(t:TC):Prop:=
 ∀(pins:List (Addr×Obj)) (s:Shared) (σ:St) (H:Hp) (ys:List V) (Q:List V->St->Hp->Prop) (k:Sem PySem.Fin) (R:PySem.Fin->Shared->Prop),Inv Y pins σ H s->bj Y pins H D->κ.acc Y.prog Y.w s.heap D ys->t ys σ H Q->
  (∀s' aF ak H',Inv Y pins ak H' s'->bj Y pins H' D->κ.acc Y.prog Y.w s'.heap D aF->Q aF ak H'->wpAny (model Y.prog Y.w) Y.A k R (fun _ _=>False) s')->wpAny (model Y.prog Y.w) Y.A (m k) R (fun _ _=>False) s
def BE (ifs:List Expr)(env:Env):Sem Bool:=forIn ifs true fun c r=>if r=true then do let ok <-isTrue c env (eval c env);pure (ForInStep.yield ok) else pure (ForInStep.yield r)
def mj (Y:Cx)(ifs:List Expr)(t:TT):Prop:=
 ∀(pins:List (Addr×Obj)) (s:Shared) (σ:St) (H:Hp) (Q:Bool->Hp->Prop),Inv Y pins σ H s->t σ H Q->wpAny (model Y.prog Y.w) Y.A (BE ifs Y.env) (TP Y pins σ Q) Y.xe s
def kN:TT:=fun _ H Q=>Q true H
section
variable {Y:Cx}{D:Addr}
theorem ZE:mj Y [] kN:=fun pins s σ H Q I h=>wpAny_tests_nil ⟨H,I,h⟩
theorem Ye {c:Expr}{t:TT}(hc:PT Y c t):mj Y [c] t:=fun pins s σ H Q I h=>wpAny_tests_one (hc pins s σ H Q I h)
noncomputable def lC (κ:CK)(elt:Expr)(gens:List Comprehension)(scope:Scope)(pos:Pos)(d:Nat)(acc:Value)(env:Env)(k:Sem PySem.Fin):Sem PySem.Fin:=
 match gens[d+1]? with
 |some g'=>eval g'.iter env >>=fun x=>standAt g'.iter.pos >>=fun _=>foldedSetIterable g'.iter env x >>=fun x=>holding [x] (pyIter x) >>=fun lg=>runOwn (.compStart (κ.ex elt gens scope pos) (d+1) lg acc env) env >>=fun _=>k
 |none=>κ.em elt acc env >>=fun _=>k
end
structure kL (κ:CK):Prop where
 turn:∀(elt tg iter:Expr) (ifs:List Expr) (gens:List Comprehension) (scope:Scope) (pos:Pos) (d:Nat) (it acc:Value) (env:Env),gens[d]? =some ⟨tg,iter,ifs,0⟩->(∀g',gens[d+1]? =some g'->g'.is_async=0)->
  compTurn (κ.ex elt gens scope pos) d it acc env=(standAt iter.pos >>=fun _=>pyNext it >>=fun r=>match r with
   |none=>pure (.done .next)
   |some v=>letOwnedTupleGo tg it v >>=fun _=>assign tg env v >>=fun _=>BE ifs env >>=fun ok=>if ok=true then lC κ elt gens scope pos d acc env (again (.compLoop (κ.ex elt gens scope pos) d it acc env)) else again (.compLoop (κ.ex elt gens scope pos) d it acc env))
 cl:∀elt gens scope pos,clausesOf (κ.ex elt gens scope pos)=gens
 dl:∀{P:Program}{w:World}{A:Around} (elt:Expr) (gens:List Comprehension) (scope:Scope) (pos:Pos) (d:Nat) (it acc:Value) (env:Env),(model P w).den (.compLoop (κ.ex elt gens scope pos) d it acc env)=(compTurn (κ.ex elt gens scope pos) d it acc env).onRaise (fun x=>do noteFrame x env;theTreesLotGoes x)/\A.under (.compLoop (κ.ex elt gens scope pos) d it acc env)=A
 ds:∀{P:Program}{w:World}{A:Around} (elt:Expr) (gens:List Comprehension) (scope:Scope) (pos:Pos) (d:Nat) (it acc:Value) (env:Env),(model P w).den (.compStart (κ.ex elt gens scope pos) d it acc env)=(compStart (κ.ex elt gens scope pos) d it acc env).onRaise (fun x=>do noteFrame x env;standAt theWindowsPlace)/\A.under (.compStart (κ.ex elt gens scope pos) d it acc env)=A
 obj:∀{P:Program}{w:World}{h:Heap}{D:Addr}{ys:List V},κ.acc P w h D ys->∃o,h.get? D=some o/\(∀v,o.data≠.cell v)/\∀h',h'.get? D=some o->κ.acc P w h' D ys
 new:∀{P:Program}{w:World}{A:Around}{E:Value->Shared->Prop}{s:Shared}{Q:Value->Shared->Prop},Q (.ref s.heap.objs.size) {s with heap:=s.heap.push (κ.ob w)}->wpAny (model P w) A κ.nw Q E s
 fr:∀w,(κ.ob w).isFreed=false
 Ad:∀{P:Program}{w:World}{h:Heap}{D:Addr},h.get? D=some (κ.ob w)->κ.acc P w h D []
section
variable {κ:CK}(C:kL κ)
include C
theorem kL.keep {P:Program}{w:World}{h h':Heap}{D:Addr}{ys:List V}(a:κ.acc P w h D ys)(k:∀o,h.get? D=some o->h'.get? D=some o):κ.acc P w h' D ys:=let ⟨o,e,_,q⟩:=C.obj a;q h' (k o e)
theorem kL.kZ {P:Program}{w:World}{h:Heap}{D:Addr}{ys:List V}(a:κ.acc P w h D ys):∀b∈[D],∃o,h.get? b=some o/\∀v,o.data≠.cell v:=fun b hb=>by
 have e:b=D:=by simpa using hb
 subst e;obtain⟨o,e,n,_⟩:=C.obj a;exact⟨o,e,n⟩
theorem kL.through {Y:Cx}{D:Addr}{P:Program}{w:World}{h:Heap}{fp:List Addr}{pins:List (Addr×Obj)}{ak:St}{H':Hp}{s':Shared}{ys:List V}(hD:D∈fp)(a:κ.acc P w h D ys)(I:Inv Y (pins++iI fp h) ak H' s'):κ.acc P w s'.heap D ys/\H' D=none:=by obtain⟨o,e,_,kp⟩:=C.obj a;have q:=I.pin (D,_) (ZaA _ (ZaA _ (ZT hD e)));exact⟨kp _ q.1,q.2.1⟩
end
section
variable {Y:Cx}{D:Addr}{κ:CK}
def gU (g:TG)(tt:TT)(ti:TC)(J:It):TC:=fun ys σ H Q=> ∃W:Nat->Nat->List V->St->Hp->Prop,(∃m,W 0 m ys σ H)/\∀i m ys σ H,W i m ys σ H->
 (J.stop i H/\Q ys σ H)∨(J.go i H/\∃N:List V->St->Hp->Prop,(∀aF ak H',N aF ak H'->∃m',m'<m/\W (i+1) m' aF ak H')/\
  ∀x H',J.mE i H x H'->g x σ H' fun aQ H2=>tt aQ H2 fun b H3=>if b=true then ti ys aQ H3 N else N ys aQ H3)
theorem W6 (C:kL κ){elt tg iter:Expr}{ifs:List Expr}{gens:List Comprehension}{scope:Scope}{pos:Pos}{d:Nat}{it:Addr}{fp:List Addr}{tn:Nat->Heap->Prop}{J:It}{g:TG}{tt:TT}{ti:TC}{pins:List (Addr×Obj)}{s:Shared}{σ:St}{H:Hp}{ys:List V}{Q:List V->St->Hp->Prop}
  (hx:Y.xe=fun _ _=>False) (hc:Y.calm=true) (hg:gens[d]? =some ⟨tg,iter,ifs,0⟩) (T:Turn Y.prog Y.w Y.K tg J fp it tn) (hf:∀b∈fp,bj Y pins H b) (st:tn 0 s.heap) (hD:D∉fp)
  (h2:∀g',gens[d+1]? =some g'->g'.is_async=0) (pg:PG Y tg g) (pt:mj Y ifs tt) (pi:vJ κ Y D (lC κ elt gens scope pos d (.ref D) Y.env) ti)
  (I:Inv Y pins σ H s) (f:bj Y pins H D) (a:κ.acc Y.prog Y.w s.heap D ys) (h:gU g tt ti J ys σ H Q):
  codeAny (model Y.prog Y.w) Y.A (.compLoop (κ.ex elt gens scope pos) d (.ref it) (.ref D) Y.env) (fun r s'=>match r with
   | .ok _=> ∃aF ak H',Inv Y pins ak H' s'/\bj Y pins H' D/\κ.acc Y.prog Y.w s'.heap D aF/\Q aF ak H'
   | .error _=>False) s:=by
 obtain⟨W,⟨m0,w0⟩,turn⟩:=h;have stat:∀{H':Hp},(∀b∈fp,H' b=none)->∀b∈fp,bj Y pins H' b:=fun hn b hb=> ⟨hn b hb,(hf b hb).2⟩;refine codeAny_loop rfl (fun n s'=> ∃i aF ak H',Inv Y pins ak H' s'/\bj Y pins H' D/\κ.acc Y.prog Y.w s'.heap D aF/\tn i s'.heap/\(∀b∈fp,H' b=none)/\W i n aF ak H') (fun n s3 hI=> ?_) m0 ⟨0,ys,σ,H,I,f,a,st,fun b hb=> (hf b hb).1,w0⟩;obtain⟨i,pG,iA,H3,I3,f3,a3,bU,vg,w3⟩:=hI;rw[(C.dl (P:=Y.prog) (w:=Y.w) (A:=Y.A) elt gens scope pos d (.ref it) (.ref D) Y.env).1,(C.dl (P:=Y.prog) (w:=Y.w) (A:=Y.A) elt gens scope pos d (.ref it) (.ref D) Y.env).2];refine wpAny_noted (ZcD (E:=fun _ _=>False) ?_ (fun _ _ q=>q) fun _ _ z=>z.elim);rw[C.turn elt tg iter ifs gens scope pos d (.ref it) (.ref D) Y.env hg h2];refine eg (Zef (eg ?_));have aD:∀{h h':Heap},(∀b o,b∉fp->h.get? b=some o->h'.get? b=some o)->∀{zs},κ.acc Y.prog Y.w h D zs->κ.acc Y.prog Y.w h' D zs:=fun k _ q=>C.keep q fun o e=>k D o hD e;have HB:=I3.pinned (fp:=[D]) (fun b hb=>by rw[Zas.mp hb];exact f3) (C.kZ a3);have BM:∀b∈fp,bj Y (pins++iI [D] s3.heap) H3 b:=fun b hb=>by
  obtain⟨g0,g1,g2,g3,g4,g5⟩:=stat vg b hb;refine⟨g0,g1,g2,g3,g4,fun p hp=> ?_⟩;rcases ZaO.mp hp with z |z
  ·exact g5 p (Za3 _ z)
  ·rcases ZaO.mp z with z |z
   ·exact g5 p (ZaA _ z)
   ·intro q;have e:p.1=D:=by simpa using (JK z).1
    exact hD (by rw[<-e,q];exact hb)
 rcases turn i n pG iA H3 w3 with ⟨stop,qn⟩ |⟨go,N,hN,step⟩
 ·refine ZcD (T.done Y rfl rfl rfl hc i _ s3 iA H3 (fun _ _=>False) HB BM bU stop) (fun r s4 ae=> ?_) fun _ _ z=>z;obtain⟨hr,I4⟩:=ae;subst hr;obtain⟨a4,n4⟩:=C.through Zaf a3 I4;exact gc ⟨pG,iA,H3,I4.gR,f3,a4,qn⟩
 ·refine ZcD (T.item Y rfl rfl rfl hc i _ s3 iA H3 (fun _ _=>False) HB BM bU go) (fun r s4 ae=> ?_) fun _ _ z=>z;obtain⟨u,hr,h4⟩:=ae;subst hr;refine eg (ZcD h4 (fun _ s5 ae=> ?_) fun _ _ z=>z);obtain⟨x,H5,I5,r5,y5,dM,zJ⟩:=ae;obtain⟨a5,n5⟩:=C.through Zaf a3 I5;have f5:bj Y pins H5 D:=⟨n5,f3.2⟩;have Og:∀b∈D::fp,∃o,s5.heap.get? b=some o/\∀v,o.data≠.cell v:=fun b hb=>by
   rcases Zav.mp hb with e |hb
   ·exact C.kZ a5 b (by simp[e])
   ·exact T.obj _ _ dM b hb
  have Bb:=I5.gR.pinned (fp:=D::fp) (fun b hb=>by
   rcases Zav.mp hb with e |hb
   ·rw[e];exact f5
   ·exact stat zJ b hb) Og
  refine eg (ZcD (pg _ s5 iA H5 x u _ Bb r5 (step x H5 y5)) (fun _ s6 ae=> ?_) fun _ _ z=>by rw[hx]at z;exact z);obtain⟨pF,H6,I6,q6⟩:=ae;refine eg (ZcD (pt _ s6 pF H6 _ I6 q6) (fun b s7 ae=> ?_) fun _ _ z=>by rw[hx]at z;exact z);obtain⟨H7,I7,q7⟩:=ae;have CT:∀{eD:St}{H7:Hp}{s7:Shared},Inv Y (pins++iI (D::fp) s5.heap) eD H7 s7->κ.acc Y.prog Y.w s7.heap D pG/\H7 D=none:=fun {eD H7 s7} J=>C.through Zaf a5 J;have CS:∀{eD:St}{H7:Hp}{s7:Shared},Inv Y (pins++iI (D::fp) s5.heap) eD H7 s7->tn (i+1) s7.heap/\∀b∈fp,H7 b=none:=fun {eD H7 s7} J=>by refine⟨T.keep _ _ _ dM fun b hb o e=> (J.pin (b,o) (ZaA _ (ZaA _ (ZT (Zae _ hb) e)))).1,fun b hb=> ?_⟩;obtain⟨o,e,dd⟩:=T.obj _ _ dM b hb;exact(J.pin (b,o) (ZaA _ (ZaA _ (ZT (Zae _ hb) e)))).2.1
  cases b with
  |false=>simp only[Zax,ZbI]at q7 |-;obtain⟨m',hm,w7⟩:=hN _ _ _ q7;obtain⟨a7,n7⟩:=CT I7;obtain⟨t7,r7⟩:=CS I7;exact gc ⟨rfl,m',hm,i+1,pG,pF,H7,I7.gR,⟨n7,f3.2⟩,a7,t7,r7,w7⟩
  |true=>
   simp only[ZdC]at q7 |-;obtain⟨a7,n7⟩:=CT I7;obtain⟨t7,r7⟩:=CS I7;have I7':=I7.gR.pinned (fp:=fp) (stat r7) (T.obj _ _ t7);have f7:bj Y (pins++iI fp s7.heap) H7 D:=by
    obtain⟨g0,g1,g2,g3,g4,g5⟩:=f3;refine⟨n7,g1,g2,g3,g4,fun p hp=> ?_⟩;rcases ZaO.mp hp with z |z
    ·exact g5 p (Za3 _ z)
    ·rcases ZaO.mp z with z |z
     ·exact g5 p (ZaA _ z)
     ·intro q;exact hD (by rw[<-q];exact(JK z).1)
   refine pi _ s7 pF H7 pG N _ _ I7' f7 a7 q7 fun s8 Ia HX H8 I8 f8 a8 q8=> ?_;obtain⟨m',hm,w8⟩:=hN _ _ _ q8;refine gc ⟨rfl,m',hm,i+1,Ia,HX,H8,I8.gR,⟨f8.1,f3.2⟩,a8,T.keep _ _ _ t7 fun b hb o e=> (I8.pin (b,o) (ZaA _ (ZaA _ (ZT hb e)))).1,fun b hb=> ?_,w8⟩;obtain⟨o,e,dd⟩:=T.obj _ _ t7 b hb;exact(I8.pin (b,o) (ZaA _ (ZaA _ (ZT hb e)))).2.1
theorem Wd (C:kL κ){elt tg iter:Expr}{ifs:List Expr}{gens:List Comprehension}{scope:Scope}{pos:Pos}{d:Nat}{it:Addr}{R:Result->Shared->Prop}{s:Shared}{A:Around}{prog:Program}{w:World}{env:Env}{acc:Value}{fp:List Addr}{tn:Nat->Heap->Prop}{J:It}{K:ZhK}
  (hg:gens[d]? =some ⟨tg,iter,ifs,0⟩) (T:Turn prog w K tg J fp it tn) {i:Nat} (st:tn i s.heap) (h:codeAny (model prog w) A (.compLoop (κ.ex elt gens scope pos) d (.ref it) acc env) R s):
  codeAny (model prog w) A (.compStart (κ.ex elt gens scope pos) d (.ref it) acc env) R s:=by
 refine ZgQ ?_;rw[(C.ds (P:=prog) (w:=w) (A:=A) elt gens scope pos d (.ref it) acc env).1,(C.ds (P:=prog) (w:=w) (A:=A) elt gens scope pos d (.ref it) acc env).2];refine wpAny_notedAt ?_;have dS:(clausesOf (κ.ex elt gens scope pos))[d]? =some ⟨tg,iter,ifs,0⟩:=by rw[C.cl];exact hg
 unfold compStart;rw[dS];show wpAny _ _ (ask >>=_) _ _ s;refine eg (ZdO (wpAny_ite ?_));split
 ·first
   |exact eg (gc (gc (And.intro rfl h)))
   |exact gc (And.intro rfl h)
 ·refine eg (Zdt ?_);show wpAny _ _ (standAt iter.pos >>=_) _ _ s;exact eg (Zef (eg (T.self A i s _ _ st (gc (And.intro rfl h)))))
def IK (wi:TI)(g:TG)(tt:TT)(ti:TC):TC:=fun ys σ H Q=>wi σ H fun J H1=>gU g tt ti J ys σ H1 Q
end
section
variable {Y:Cx}{D:Addr}
def AccAt (h:Heap)(D:Addr)(ys:List V):Prop:=ys.length<=sizeLine/\∃(aa:List Value) (n:Nat),Vals ys aa/\h.get? D=some {cls:=.type "list",data:=.seq aa.toArray n}
noncomputable abbrev lk:CK:=⟨.ListComp,fun elt acc env=> (do let _ <-call (.builtin "list.append") [acc,<-eval elt env]),fun _ _ h D ys=>AccAt h D ys,newList [],fun _=> {cls:=.type "list",dict:=none,data:=.seq ([]:List Value).toArray}⟩
abbrev mn:=vJ lk
noncomputable abbrev inner:=lC lk
theorem kY:kL lk where
 turn:=fun elt tg iter ifs gens scope pos d it acc env hg h2=>by
  unfold compTurn lC;dsimp only;rw[hg];generalize hn:gens[d+1]? =o;cases o with
  |none=>rfl
  |some g'=>have e:=h2 g' hn;obtain⟨t',i',f',a'⟩:=g';have e':a'=0:=e;subst e';rfl
 cl:=fun _ _ _ _=>rfl
 dl:=fun _ _ _ _ _ _ _ _=> ⟨rfl,rfl⟩
 ds:=fun _ _ _ _ _ _ _ _=> ⟨rfl,rfl⟩
 obj:=fun⟨z,aa,n,r,e⟩=> ⟨_,e,fun v z=> (by have z':Data.seq aa.toArray n=Data.cell v:=z;cases z'),fun h' q=> ⟨z,aa,n,r,q⟩⟩
 new:=fun h=>Zbs h
 fr:=fun _=>rfl
 Ad:=fun e=> ⟨ZaM _,[],0,.nil,e⟩
def wg (te:TE):TC:=fun ys σ H Q=>te σ H fun v H1=>ys.length<sizeLine/\Q (ys++[v]) σ H1
theorem cc {elt:Expr}{te:TE}(hx:Y.xe=fun _ _=>False)(he:PE Y elt te):
  mn Y D (fun k=> (do let _ <-call (.builtin "list.append") [.ref D,<-eval elt Y.env]) >>=fun _=>k) (wg te):=by
 intro pins s σ H ys Q k R I f a h hk;refine eg (ZcD (Q:=fun _ s'=> ∃aF ak H',Inv Y pins ak H' s'/\bj Y pins H' D/\AccAt s'.heap D aF/\Q aF ak H') ?_ (fun _ s' ae=>by obtain⟨aF,ak,H',q1,q2,q3,q4⟩:=ae;exact hk s' aF ak H' q1 q2 q3 q4) fun _ _ z=>z);have I':=I.pinned (fp:=[D]) (fun b hb=>by rw[Zas.mp hb];exact f) (kY.kZ a);refine eg (ZcD (he _ s σ H _ I' h) (fun u s1 ae=> ?_) fun e s1 z=>by rw[hx]at z;exact z);obtain⟨v,H1,I1,ru,hz,q⟩:=ae;obtain⟨a1,n1⟩:=kY.through Zaf a I1;have f1:bj Y pins H1 D:=⟨n1,f.2⟩;obtain⟨z,aa,n,r,e⟩:=a1;have hl:=r.length;refine eg (ZeG F.slot_list_append ⟨_,e,rfl⟩ F.entry_list_append (F.args_list_append_2 _ _) (PySem.list_append D aa.toArray n u (by rw[Zap];omega)) ⟨e,gc ?_⟩);have q2:=PySem.IsL.update e (·.push u);obtain⟨f0,g1,g2,g3,g4,g5⟩:=f1;have I2:Inv Y pins σ H1 {s1 with heap:=s1.heap.update D (Obj.mapSeq (·.push u))} :=I1.gR.turned (t':=s1.toks) (it:=D) (fun b o hb eb=> (Zbw s1.heap _ (Zd3 hb)).trans eb) f0 g1 g3 g4 g5;refine⟨ys++[v],σ,H1,I2,⟨f0,g1,g2,g3,g4,g5⟩,⟨by rw[Zaj,Zdx];omega,aa++[u],(if ((aa.toArray.push u).size==aa.toArray.size)=true then n else n+1),r.append (.cons ru .nil),?_⟩,q⟩;have e3:aa.toArray.push u=(aa++[u]).toArray:=by simp
 rw[<-e3];exact q2
theorem WB {elt tg iter:Expr}{ifs:List Expr}{gens:List Comprehension}{scope:Scope}{pos:Pos}{d:Nat}{wi:TI}{g:TG}{tt:TT}{ti:TC}
  (hx:Y.xe=fun _ _=>False) (hc:Y.calm=true) (hg:gens[d+1]? =some ⟨tg,iter,ifs,0⟩) (hi:PI Y tg iter wi) (pg:PG Y tg g) (pt:mj Y ifs tt) (pi:mn Y D (inner elt gens scope pos (d+1) (.ref D) Y.env) ti)
  (hs:∀x,foldedSetIterable iter Y.env x=pure x) (h2:∀g',gens[d+1+1]? =some g'->g'.is_async=0):mn Y D (inner elt gens scope pos d (.ref D) Y.env) (IK wi g tt ti):=by
 intro pins s σ H ys Q k R I f a h hk;unfold inner lC;rw[hg];have I':=I.pinned (fp:=[D]) (fun b hb=>by rw[Zas.mp hb];exact f) (kY.kZ a);refine eg (ZcD (hi _ s σ H _ I' h) (fun v s1 h1=> ?_) fun _ _ z=>by rw[hx]at z;exact z);refine eg (Zef (eg (ZeO (hs v) (eg (ZbA (ZcD h1 (fun lg s2 h2=> ?_) fun _ _ z=>by rw[hx]at z;exact z))))));obtain⟨it,fp,tn,J,H2,e,I2,T,av,f2,q2⟩:=h2;subst e;obtain⟨a2,n2⟩:=kY.through Zaf a I2;have fD:bj Y pins H2 D:=⟨n2,f.2⟩;have hD:D∉fp:=fun z=>by obtain⟨z1,aa,n,r,e⟩:=a;exact(f2 D z).2.2.2.2.2 (D,_) (ZaA _ (ZaA _ (ZT (Zas.mpr rfl) e))) rfl
 have ET:∀b∈fp,bj Y pins H2 b:=fun b hb=>by
  obtain⟨g0,g1,g2,g3,g4,g5⟩:=f2 b hb;exact⟨g0,g1,g2,g3,g4,fun p hp=>g5 p (by
   rcases ZaO.mp hp with z |z
   ·exact Za3 _ z
   ·exact ZaA _ (Za3 _ z))⟩
 refine eg (wpAny_runOwn (ZeT (Wd kY hg T av (W6 kY (Q:=Q) hx hc hg T ET av hD h2 pg pt pi I2.gR fD a2 q2)) fun r s' hr=> ?_));cases r with
 |ok fl=>obtain⟨aF,ak,H',q1,q2,q3,q4⟩:=hr;exact hk s' aF ak H' q1 q2 q3 q4
 |error e=>exact hr.elim
end
section
variable {X:Cx}{pins:List (Addr×Obj)}{σ:St}{H H':Hp}{s s':Shared}
theorem vq {N':List Str}{scope:Scope}{C D:Addr}{fp:List Addr}{ak:St}{ys:List V}{pl:List (Addr×Obj)}{h':Heap}(I:Inv X pins σ H s)(hf:∀b∈fp,bj X pins H b)(hC:s.heap.objs.size<=C)(hD:s.heap.objs.size<=D)(i7:D≠C)
  (J:Inv (aU X N' scope C s H fp) pl ak H' s') (n:H' D=none) (a:AccAt s'.heap D ys) (sb:Heap.SameBut C s'.heap h'):Inv X pins σ (upd H' D (.lst ys)) {s' with heap:=h'} :=by
 have fj:∀b o,s.heap.get? b=some o->b≠C:=fun b o e=>Za1 (Za7 (ZaC e) hC);have Dd:∀b o,s.heap.get? b=some o->b≠D:=fun b o e=>Za1 (Za7 (ZaC e) hD);have uq:∀b o,H b=some o->b≠D:=fun b o e=>Za1 (Za7 (I.aq.lt e) hD);have fC:H' C=none:=J.free;have u:Un (gN X.stack) fp H H' s.heap s'.heap:=J.base;refine I.Fc (s':= {s' with heap:=h'}) (ch:=fp) J.os ⟨fun b o e nb hb hx=> (sb.2 b (fj b o e)).trans (u.keep b o e nb hb hx),fun b o e nb hb hx=> ?_,fun b o e nb hx=>by rw[Zi (Dd b o e)];exact u.free b o e nb hx,fun b o e hx=> ?_,
  fun b xs e=>by rw[Zi (uq b _ e)];exact u.jq b xs e,fun b o xs e=>by rw[Zi (uq b _ e)];exact u.i9 b o xs e,fun b ps e=>by rw[Zi (uq b _ e)];exact u.iC b ps e⟩ (fun b v e=> ?_) J.bare fun b hb=> ?_
 ·obtain⟨sl,q⟩:=u.slot b o e nb hb hx;exact⟨sl,(sb.2 b (fj b o e)).trans q⟩
 ·obtain⟨o',q⟩:=u.there b o e hx;exact⟨o',(sb.2 b (fj b o e)).trans q⟩
 ·by_cases hb:b=D
  ·subst hb;rw[Zd]at e;cases e;obtain⟨z,aa,k,r,q⟩:=a;exact⟨z,aa,k,r,(sb.2 b i7).trans q⟩
  ·rw[Zi hb]at e;refine(J.aq b v e).cq (fun c w hc q=> (sb.2 c ?_).trans q) (fun c q=>by rw[Zi (Zh q n)];exact q) fun c xs q=>by rw[Zi (Zh q n)];exact q
   rcases hc with z |z
   ·rw[z];exact Zh e fC
   ·exact Zh z fC
 ·obtain⟨f0,f1,f2,f3,f4,f5⟩:=hf b hb;exact⟨f3,f1,f4,f5⟩
theorem YZ {κ:CK}(K:kL κ){elt tg iter:Expr}{ifs:List Expr}{rest:List Comprehension}{scope:Scope}{pos:Pos}{N':List Str}{ts:Nat}{bF:List Nat}{it:Addr}{fp:List Addr}{tn:Nat->Heap->Prop}{J:It}{g:TG}{tt:TT}{ti:TC}{Q:List V->Hp->Prop}{E:Value->Shared->Prop}{RR:Value->Addr->Result->Shared->Prop}
  (S:Bv X N' ts bF scope) (hc:X.calm=true) (I:Inv X pins σ H s) (T:Turn X.prog X.w X.K tg J fp it tn) (st:tn 0 s.heap) (hf:∀b∈fp,bj X pins H b)
  (h2:∀g',(Comprehension.mk tg iter ifs 0::rest)[0+1]? =some g'->g'.is_async=0)
  (pg:∀C,PG (aU X N' scope C s H fp) tg g) (pt:∀C,mj (aU X N' scope C s H fp) ifs tt)
  (pi:∀C D,vJ κ (aU X N' scope C s H fp) D (lC κ elt (⟨tg,iter,ifs,0⟩::rest) scope pos 0 (.ref D) (aU X N' scope C s H fp).env) ti)
  (h:gU g tt ti J [] (kG ts bF σ) H fun ys _ H2=>Q ys H2)
  (Pb:∀C D s' ak H' ys fl,s.heap.objs.size<=C->s.heap.objs.size<=D->D≠C->Inv (aU X N' scope C s H fp) [] ak H' s'->H' D=none->κ.acc X.prog X.w s'.heap D ys->Q ys H'->RR (.ref D) C (.ok fl) s'):
  wpAny (model X.prog X.w) X.A κ.nw (fun acc Kd=>wpAny (model X.prog X.w) X.A (newFunctionEnv scope X.env.globals (kF scope X.env) [] X.env.qual none .none (some X.env)) (fun Fb Kc=>
   codeAny (model X.prog X.w) X.A (.compStart (κ.ex elt (⟨tg,iter,ifs,0⟩::rest) scope pos) 0 (.ref it) acc {Fb with scope:=relabel scope X.env}) (RR acc Fb.locals) Kc) E Kd) E s:=by
 refine K.new (wpAny_newFunctionEnv S.kZ (by intro y hy;simp at hy) (fun qL yV uI=> ?_) S.kind);dsimp only at yV uI |-;generalize oZ:s.heap.push (κ.ob X.w)=h0 at yV uI |-;have hC:h0.objs.size=s.heap.objs.size+1:=by rw[<-oZ,Zc5]
 have i7:s.heap.objs.size≠h0.objs.size:=by rw[hC];exact Za1 (ZeL _)
 have zE:s.heap.objs.size<=h0.objs.size:=by rw[hC];exact Zei _
 have fj:∀b o,s.heap.get? b=some o->b≠h0.objs.size:=fun b o e=>Za1 (Za7 (ZaC e) zE);have old:∀b o,s.heap.get? b=some o->qL.get? b=some o:=fun b o e=>uI.extBut b o (fj b o e) (Zad _ (oZ▸Zad _ e));have nA:qL.get? s.heap.objs.size=some (κ.ob X.w):=uI.extBut _ _ i7 (Zad _ (oZ▸Zar _ (K.fr _)));have ho:∀b∈fp,∃o,s.heap.get? b=some o:=fun b hb=>let ⟨o,e,_⟩:=T.obj _ _ st b hb;⟨o,e⟩;have I1:Inv (aU X N' scope h0.objs.size s H fp) [] (kG ts bF σ) H {s with heap:=qL,toks:=s.toks+([]:List (Str×Value)).length} :=Sl S I hf ho zE yV old;have fresh:=I.aq.fresh (a:=s.heap.objs.size) (Zak _);have PF:∀b∈fp,bj (aU X N' scope h0.objs.size s H fp) [] H b:=fun b hb=>by obtain⟨f0,f1,f2,f3,f4,f5⟩:=hf b hb;refine⟨f0,(I1.ok.rK b hb).1,I1.ok.o9 b hb,.inl hb,(I1.ok.rK b hb).2,fun p hp=>absurd (show p∈([]:List (Addr×Obj)) from hp) (by simp)⟩
 have fD:bj (aU X N' scope h0.objs.size s H fp) [] H s.heap.objs.size:=by
  refine⟨fresh,i7,fun z=> ?_,.inr (Zak _),fun x c e z=> ?_,fun p hp=>absurd (show p∈([]:List (Addr×Obj)) from hp) (by simp)⟩
  ·obtain⟨_,o,cQ,_⟩:=I.stack.mem z;exact absurd (ZaC cQ) (Zdg _)
  ·obtain⟨e1,e2⟩:=G4 e;obtain⟨c',bL⟩:=I.ok.has x (S.free _ e2 rfl);obtain⟨v,q⟩:=I.cell x c' bL;rw[bL]at e1;have e3:c=c':=e1;have l:=q.lt;rw[<-e3,z]at l;exact absurd l (Zdg _)
 have aD:κ.acc X.prog X.w qL s.heap.objs.size []:=K.Ad nA;have Pl:s.heap.objs.size∉fp:=fun z=>by obtain⟨o,e⟩:=ho _ z;exact absurd (ZaC e) (Zdg _)
 have aA:tn 0 qL:=T.keep _ _ _ st fun b _ o e=>old b o e;have run:=Wd K (elt:=elt) (gens:=⟨tg,iter,ifs,0⟩::rest) (scope:=scope) (pos:=pos) (d:=0) rfl T aA
  (W6 K (Y:=aU X N' scope h0.objs.size s H fp) (D:=s.heap.objs.size) (Q:=fun ys _ H2=>Q ys H2) (elt:=elt) (gens:=⟨tg,iter,ifs,0⟩::rest) (scope:=scope) (pos:=pos) (d:=0) rfl hc rfl T PF aA Pl h2 (pg _) (pt _) (pi _ _) I1 fD aD h)
 refine ZeT run fun r s' hr=> ?_;cases r with
 |error e=>exact hr.elim
 |ok fl=>obtain⟨aF,ak,H',q1,q2,q3,q4⟩:=hr;exact Pb _ _ s' ak H' aF fl zE (Zak _) i7 q1 q2.1 q3 q4
end
def BH (wi:TI)(ts:Nat)(bF:List Nat)(g:TG)(tt:TT)(ti:TC):TE:=fun σ H Q=>wi σ H fun J H1=>gU g tt ti J [] (kG ts bF σ) H1 fun ys _ H2=> ∀p,H2 p=none->Q (.ref p) (upd H2 p (.lst ys))
section
variable {X:Cx}{elt tg iter:Expr}{ifs:List Expr}{rest:List Comprehension}{scope:Scope}{pos:Pos}{wi:TI}{g:TG}{tt:TT}{ti:TC}
theorem ZM (N':List Str)(ts:Nat)(bF:List Nat)(hi:PI X tg iter wi)(pg:∀C s H fp,PG (aU X N' scope C s H fp) tg g)(pt:∀C s H fp,mj (aU X N' scope C s H fp) ifs tt)
  (pi:∀C s H fp D,mn (aU X N' scope C s H fp) D (inner elt (⟨tg,iter,ifs,0⟩::rest) scope pos 0 (.ref D) (aU X N' scope C s H fp).env) ti)
  (ok:rR X.env.scope scope X.N N' ts bF=true:=by rfl) (hc:X.calm=true:=by rfl) (h2:∀g',(Comprehension.mk tg iter ifs 0::rest)[0+1]? =some g'->g'.is_async=0:=by(intro g' h;cases h<;>rfl))
  (hs:∀x,foldedSetIterable iter X.env x=pure x:=by intro _;rfl):
  PE X (.ListComp elt (⟨tg,iter,ifs,0⟩::rest) scope pos) (BH wi ts bF g tt ti):=by
 intro pins s σ H Q I h;have S:=W7 ok;rw[eval_ListComp];refine ZeW (use:=none) rfl hs (Yw fun y hy e=>I.ok.has _ (S.free y hy e)) S.kind S.names (au (hi pins s σ H _ I h) fun v s1 h1=>au h1 fun lg s2 eY=> ?_);obtain⟨it,fp,tn,J,H2,e,I2,T,av,f2,q2⟩:=eY;subst e;refine YZ kY (RR:=fun acc C=>compPost (model X.prog X.w) X.A X.xe none _ acc C) S hc I2 T av f2 h2 (fun C=>pg C _ _ _) (fun C=>pt C _ _ _) (fun C D=>pi C _ _ _ D) q2 ?_;intro C D s' ak H' ys fl hC hD i7 J' n a q;obtain⟨m,hn,_⟩:=J'.loc;exact⟨m,hn,fun h' sb=> ⟨.ref D,_,vq I2 f2 hC hD i7 J' n a sb,rfl,q D n⟩⟩
theorem Yr (N':List Str)(ts:Nat)(bF:List Nat){i:Nat}{x:Str}{px BP:Pos}(hN:X.N.Nodup)(zh:X.N[i]? =some x)(hx:Loc X.env.scope x)(hi:PI X tg iter wi)(pg:∀C s H fp,PG (aU X N' scope C s H fp) tg g)(pt:∀C s H fp,mj (aU X N' scope C s H fp) ifs tt)
  (pi:∀C s H fp D,mn (aU X N' scope C s H fp) D (inner elt (⟨tg,iter,ifs,0⟩::rest) scope pos 0 (.ref D) (aU X N' scope C s H fp).env) ti)
  (NP:swapsWith (.ListComp elt (⟨tg,iter,ifs,0⟩::rest) scope pos) (some (.Name x px)) BP.line X.env=pure true:=by rfl)
  (ok:rR X.env.scope scope X.N N' ts bF=true:=by rfl) (hc:X.calm=true:=by rfl) (h2:∀g',(Comprehension.mk tg iter ifs 0::rest)[0+1]? =some g'->g'.is_async=0:=by(intro g' h;cases h<;>rfl))
  (hs:∀x,foldedSetIterable iter X.env x=pure x:=by intro _;rfl) (i5:X.fn x=true∨X.env.scope.names.lookup x=some .local:=by first |exact .inl rfl |exact .inr rfl |assumption):
  PS X (.Assign [.Name x px] (.ListComp elt (⟨tg,iter,ifs,0⟩::rest) scope pos) BP) (pR (BH wi ts bF g tt ti) (bE i)):=by
 intro pins s σ H D I h;have S:=W7 ok;rw[exec_Assign_Name_used _ _ _ _ NP];refine eg (Zef (eg ?_));show wpAny _ X.A (do let _ <-comprehension (.ListComp elt (⟨tg,iter,ifs,0⟩::rest) scope pos) scope X.env _ (newList []) false (eval iter X.env) (some (assign (.Name x px) X.env))) _ _ s;refine eg (ZcD (ZeW (use:=some (assign (.Name x px) X.env)) (Q:=fun _ s'=> ∃ak H',Inv X pins ak H' s'/\D.nx ak H') rfl hs (Yw fun y hy e=>I.ok.has _ (S.free y hy e)) S.kind S.names
  (au (hi pins s σ H _ I h) fun v s1 h1=>au h1 fun lg s2 eY=> ?_)) (fun _ s' hq=>gc (gc hq)) fun _ _ e=>e)
 obtain⟨it,fp,tn,J,H2,e,I2,T,av,f2,q2⟩:=eY;subst e;refine YZ kY (RR:=fun acc C=>compPost (model X.prog X.w) X.A X.xe (some (assign (.Name x px) X.env)) _ acc C) S hc I2 T av f2 h2 (fun C=>pg C _ _ _) (fun C=>pt C _ _ _) (fun C D=>pi C _ _ _ D) q2 ?_;intro C B s' ak H' ys fl hC hB EF J' n a q;obtain⟨m,hn,_⟩:=J'.loc;have IX:Inv X pins σ (upd H' B (.lst ys)) s':=vq I2 f2 hC hB EF J' n a (Heap.SameBut.refl C s'.heap);have fC:=I2.jb (H':=upd H' B (.lst ys)) (b:=C) hC (by rw[Zi (Zd3 EF)];exact J'.free);obtain⟨f0,f1,ET,f3,f4,f5⟩:=fC;show wpAny _ X.A (assign (.Name x px) X.env (.ref B)) _ _ s';refine wpAny_assign_Name (Ut (v:=.ref B) (u:=.ref B) IX hN zh hx rfl (fun mO I'' ae=> ?_) i5);obtain⟨c,sb,u3⟩:=ae;have Pn:C≠c:=by
  rcases u3 with z |z
  ·rw[z];exact f1
  ·exact(f4 x c z).symm
 refine⟨m,Heap.Ns.sameBut hn sb Pn,fun h' K6=> ?_⟩;refine⟨σ.set i (some (.ref B)),_,I''.turned (t':=mO.toks) (it:=C) (fun b o hb e=> (K6.2 b hb).trans e) f0 f1 f3 f4 f5,q B n⟩
end
theorem ZJ {t u:TS}{D:Ends}{σ:St}{H:Hp}(h:∀U:St->Hp->Prop,(∀ak H',u D ak H'->U ak H')->t {D with nx:=U} σ H):pP t u D σ H:=h _ fun _ _ q=>q
theorem aP {CX:jn}{P:Program}{w:World}{K:ZhK}{mg:Str->Option Value}{base:Heap}{N:List Str}{nm:Str}{sc:Scope}{f:Addr}{c:Value}{A:Around}{o:List Env}{s:Shared}{H:Hp}{E:XK} :(ie CX P w K mg base N nm sc f c A o s H E).K=K:=rfl
section
variable {X:Cx}
theorem Yt {c:String} :fB X (.builtin "isinstance") (fun xs H Q=> ∃x t b,xs=[x,.ty c]/\fc X.K H x t/\PySem.W.kitOne X.K t (.type c)=some b/\Q (.bl b) H):=by intro pins s σ H xs us Q I r h;obtain⟨x,t,b,rfl,ty,e,q⟩:=h;obtain⟨u,v,rfl,ru,rv⟩:=vals2 r;cases rv;exact XX I ru ty e fun tk=> ⟨.bl b,H,I.tok tk,rfl,q⟩
theorem Y0 (hc:X.calm=true:=by rfl):fB X (.builtin "all") (fun xs H Q=> ∃(p:Addr) (bs:List Bool),xs=[.ref p]/\ai X.K H p (bs.map V.bl)/\Q (.bl (bs.all id)) H):=by
 intro pins s σ H xs us Q I r h;obtain⟨p,bs,rfl,hp,q⟩:=h;obtain⟨u,rfl,ru⟩:=ZgE r;cases ru;obtain⟨aa,rv,pl,hz⟩:=I.list hp;have hb:∀(i:Nat) (v:Value),aa.toArray[i]? =some v->v=.bool (bs.getD i false):=fun i v e=>by
  have e':aa[i]? =some v:=by simpa using e
  have hl:=rv.length;have hi:i<aa.length:=(Zaa.mp e').1;have aY:i< (bs.map V.bl).length:=.o;obtain⟨u,hu,ru⟩:=rv.get (i:=i) (x:=(bs.map V.bl)[i]) (by simp);rw[e']at hu;cases hu;rw[Zgw]at ru;have rm:i<bs.length:=by simpa using aY
  have e2:bs.getD i false=bs[i]:=by simp[ZbC,rm]
  rw[e2];exact ru
 refine call_all_walk (Zd4 pl.isList ?_);have bf:p≠s.heap.objs.size:=Za1 (by obtain⟨o,n,e,_⟩:=pl;exact ZaC e);refine⟨s.heap.objs.size,_,_,_,_,_,fun i=>bs.getD i false,rfl,ZfG (A:=X.A.in1) (show X.A.in1.handled=none from I.ok.hd hc) s.heap.objs.size p bf aa.toArray,⟨⟨_,Zar _ rfl,rfl,rfl⟩,pl.isList.at fun o e=>Zad _ e⟩,fun i v s' Q' E' hP hQ=> ?_,fun h' tk hk=> ?_⟩
 ·rw[hb i v hP];exact Zc6 hQ
 ·have e:(List.range aa.toArray.size).all (fun i=>bs.getD i false)=bs.all id:=by
   have hl:aa.toArray.size=bs.length:=by have:=rv.length;rw[Zal]at this;simpa using this.symm
   rw[hl,Zcb,Zbd,Zbd];constructor
   ·intro h b hb;obtain⟨i,hi,e⟩:=List.mem_iff_getElem.mp hb;have:=h i (Za6.mpr hi);rw[ZbC,Zaw hi,Zem,e]at this;exact this
   ·intro h i hi;have aY:=Za6.mp hi;rw[ZbC,Zaw aY,Zem];exact h _ (Zeo aY)
  rw[e];refine⟨.bl (bs.all id),H,I.kept fun b o eb=>hk b o ?_ (Zad _ eb),rfl,q⟩;intro z;have e1:b=s.heap.objs.size:=by simpa using z
  exact absurd (ZaC eb) (by rw[e1];exact Zdg _)
def n8 (ns:List Int):Nat:=(PyProof.Rows.firstMet (fun i=>ns.getD i 0) ns.length).length
theorem Uk (hc:X.calm=true:=by rfl):fB X (.type "set") (fun xs H Q=> ∃(p:Addr) (ns:List Int),xs=[.ref p]/\ai X.K H p (ns.map V.int)/\ns.length<=1000/\∀q S,H q=none->Q (.ref q) (upd H q (.set S (n8 ns)))):=by
 intro pins s σ H xs us Q I r h;obtain⟨p,ns,rfl,hp,hn,q⟩:=h;obtain⟨u,rfl,ru⟩:=ZgE r;cases ru;obtain⟨aa,rv,pl,hz⟩:=I.list hp;have hl:=rv.length;rw[Zal]at hl;refine call_set_list (I.ok.hd hc) pl.isList (ZL rv) (by rw[Zap,<-hl];unfold scanBound;omega) fun h' tk hs hk=> ?_;have e:aa.toArray.size=ns.length:=by simp[hl]
 rw[e]at hs;exact⟨.ref s.heap.objs.size,_,I.laid (a:=s.heap.objs.size) (o:=.set _ (n8 ns)) (fun b o eb=>hk b o (ZaC eb) eb) (Zak _) hs,rfl,q _ _ I.fresh⟩
theorem Um:fB X (.builtin "len") (fun xs H Q=> ∃p S n,xs=[.ref p]/\H p=some (.set S n)/\Q (.int n) H):=by intro pins s σ H xs us Q I r h;obtain⟨p,S,n,rfl,hp,q⟩:=h;obtain⟨u,rfl,ru⟩:=ZgE r;cases ru;obtain⟨o,es,ep,t,h1,h2,h3,h4,h5,h6,h7,h8⟩:=(show bG X.prog X.w H s.heap p (.set S n) from I.aq p _ hp);refine call_len_set h1 h2 h3 h7 (by have:scanBound=4096:=rfl;omega) ⟨.int n,H,I.tok _,⟨_,by rw[h8]⟩,q⟩
theorem ZbJ:fB X (.type "range") (fun xs H Q=> ∃j:Int,xs=[.int j]/\∀q,H q=none->Q (.ref q) (upd H q (.iH 0 j))):=by intro pins s σ H xs us Q I r h;obtain⟨j,rfl,q⟩:=h;obtain⟨u,rfl,ru⟩:=ZgE r;obtain⟨t,rfl⟩:=ru;refine call_range_1 ?_;exact⟨.ref s.heap.objs.size,_,I.laid (a:=s.heap.objs.size) (o:=.iH 0 j) (fun b o eb=>Zad _ eb) (Zak _) ⟨_,_,_,Zar _ rfl⟩,rfl,q _ I.fresh⟩
def upTo (n:Nat):List V:=(List.range n).map fun(i:Nat)=>V.int (i:Int)
theorem Zay {acc:Array Value}{n:Nat}(h:ItemsOf (fun i v=> ∃t,v=.int (0+i*1) t) acc n):Vals (upTo n) acc.toList:=by
 obtain⟨h1,h2⟩:=h;obtain⟨l⟩:=acc;have h1:l.length=n:=h1;have h2:∀(j:Nat) (v:Value),l[j]? =some v->∃t,v=.int (j:Int) t:=fun j v e=>by obtain⟨t,q⟩:=h2 j v (by simpa using e);exact⟨t,by rw[q];congr 1;omega⟩
 have key:∀(l:List Value) (k:Nat),(∀(j:Nat) (v:Value),l[j]? =some v->∃t,v=.int ((k+j:Nat):Int) t)->Vals ((List.range' k l.length).map fun(i:Nat)=>V.int (i:Int)) l:=by
  intro l
  induction l with
  |nil=>intro k _;exact .nil
  |cons v l ih=>intro k h;rw[Za8,List.range'_succ,Zba];obtain⟨t,e⟩:=h 0 v rfl;refine .cons ⟨t,by rw[e];simp⟩ (ih (k+1) fun j w q=> ?_);obtain⟨t',e'⟩:=h (j+1) w (by simpa using q);exact⟨t',by rw[e'];congr 1;omega⟩
 have:=key l 0 (fun j v e=>by simpa using h2 j v e);unfold upTo;rw[<-h1,ZfA];exact this
theorem Ul (hc:X.calm=true:=by rfl):fB X (.type "list") (fun xs H Q=> ∃(p:Addr) (j:Int),xs=[.ref p]/\H p=some (.iH 0 j)/\0<=j/\j<=1000/\∀q,H q=none->Q (.ref q) (upd H q (.lst (upTo j.toNat)))):=by
 intro pins s σ H xs us Q I r h;obtain⟨p,j,rfl,hp,h0,h1,q⟩:=h;obtain⟨u,rfl,ru⟩:=ZgE r;cases ru;obtain⟨t,u,v,e⟩:=(show bG X.prog X.w H s.heap p (.iH 0 j) from I.aq p _ hp);refine call_list_range (n:=j.toNat) (I.ok.hd hc) e (small_one .o .o .o .o) (by rw[rangeSize_one];split<;>omega) .o fun h' tk acc c' hk hS nA=> ?_;have r2:=Zay nA;have hlen:(upTo j.toNat).length<=sizeLine:=by unfold upTo;rw[Zal,ZcA,ZaX];omega
 exact⟨.ref s.heap.objs.size,_,I.laid (a:=s.heap.objs.size) (o:=.lst (upTo j.toNat)) hk (Zak _) ⟨hlen,acc.toList,c',r2,by simpa using hS⟩,rfl,q _ I.fresh⟩
theorem Ho:aV X (binaryOp .Add) (fun x y H Q=> ∃a b ys,x=.ref a/\y=.ref b/\ab X.K H a []/\ab X.K H b ys/\Q (.ref b) H):=by
 intro pins s σ H x y u v Q I rx ry h;obtain⟨a,b,ys,rfl,rfl,ha,hb,q⟩:=h;cases rx;cases ry;obtain⟨aa,rv,pl,hz⟩:=I.tuple ha;obtain⟨g9,fG,cO,oQ⟩:=I.tuple hb;cases rv;obtain⟨⟨cls,dd,data,sl⟩,ho,lZ,n,hd⟩:=id pl;obtain⟨⟨zT,ic,data2,gA⟩,gH,gk,n2,hd2⟩:=id cO;simp only at lZ hd gk hd2;subst lZ hd gk hd2;exact concat_meets ⟨_,ho,rfl⟩ ⟨_,gH,rfl⟩ Zgu Zhj Ze7 Ze2 (ZeV _ _)
   (tuple_addW0 a b #[] g9.toArray n n2 dd ic sl gA rfl) ⟨ho,gH,⟨.ref b,H,I,rfl,q⟩⟩
end
theorem YR {K:ZhK}{a:Addr}{xs:List V}{g:TG}{tt:TT}{ti:TC}{ys:List V}{σ:St}{H:Hp}{Q:List V->St->Hp->Prop}(Pv:Nat->List V->St->Hp->Prop)(h0:Pv 0 ys σ H)
  (hl:∀i ys σ H,i<=xs.length->Pv i ys σ H->ab K H a xs)
  (hs:∀i x ys σ H,xs[i]? =some x->Pv i ys σ H->g x σ H fun aQ H2=>tt aQ H2 fun b H3=>if b=true then ti ys aQ H3 (Pv (i+1)) else Pv (i+1) ys aQ H3)
  (hd:∀ys σ H,Pv xs.length ys σ H->Q ys σ H):gU g tt ti (A7 K a) ys σ H Q:=by
 refine⟨fun i m ys σ H=>m=xs.length-i/\i<=xs.length/\Pv i ys σ H,⟨xs.length,by simp,ZaM _,h0⟩,?_⟩;rintro i m ys σ H ⟨rfl,hi,p⟩;have q:=hl i ys σ H hi p;by_cases aw:i<xs.length
 ·refine .inr ⟨⟨xs,xs[i],q,by simp[aw]⟩,Pv (i+1),fun aF ak H' p'=> ⟨xs.length-(i+1),.o,rfl,aw,p'⟩,fun x H' y=> ?_⟩;obtain⟨e,y⟩:=y;subst e;exact hs i x ys σ _ (y xs q) p
 ·have e:i=xs.length:=.o;subst e;exact .inl ⟨⟨xs,q,Zak _⟩,hd ys σ H p⟩
theorem Zy {K:ZhK}{a:Addr}{xs:List V}{g:TG}{tt:TT}{ti:TC}{ys:List V}{σ:St}{H:Hp}{Q:List V->St->Hp->Prop}(Pv:Nat->List V->St->Hp->Prop)(h0:Pv 0 ys σ H)
  (hl:∀i ys σ H,i<=xs.length->Pv i ys σ H->ai K H a xs)
  (hs:∀i x ys σ H,xs[i]? =some x->Pv i ys σ H->g x σ H fun aQ H2=>tt aQ H2 fun b H3=>if b=true then ti ys aQ H3 (Pv (i+1)) else Pv (i+1) ys aQ H3)
  (hd:∀ys σ H,Pv xs.length ys σ H->Q ys σ H):gU g tt ti (pB K a) ys σ H Q:=by
 refine⟨fun i m ys σ H=>m=xs.length-i/\i<=xs.length/\Pv i ys σ H,⟨xs.length,by simp,ZaM _,h0⟩,?_⟩;rintro i m ys σ H ⟨rfl,hi,p⟩;have q:=hl i ys σ H hi p;by_cases aw:i<xs.length
 ·refine .inr ⟨⟨xs,xs[i],q,by simp[aw]⟩,Pv (i+1),fun aF ak H' p'=> ⟨xs.length-(i+1),.o,rfl,aw,p'⟩,fun x H' y=> ?_⟩;obtain⟨e,y⟩:=y;subst e;exact hs i x ys σ _ (y xs q) p
 ·have e:i=xs.length:=.o;subst e;exact .inl ⟨⟨xs,q,Zak _⟩,hd ys σ H p⟩
theorem Je {lo:Int}{n:Nat}{g:TG}{tt:TT}{ti:TC}{ys:List V}{σ:St}{H:Hp}{Q:List V->St->Hp->Prop}(Pv:Nat->List V->St->Hp->Prop)(h0:Pv 0 ys σ H)
  (hs:∀i ys σ H,i<n->Pv i ys σ H->g (.int (lo+i)) σ H fun aQ H2=>tt aQ H2 fun b H3=>if b=true then ti ys aQ H3 (Pv (i+1)) else Pv (i+1) ys aQ H3)
  (hd:∀ys σ H,Pv n ys σ H->Q ys σ H):gU g tt ti (mw lo n) ys σ H Q:=by
 refine⟨fun i m ys σ H=>m=n-i/\i<=n/\Pv i ys σ H,⟨n,by simp,ZaM _,h0⟩,?_⟩;rintro i m ys σ H ⟨rfl,hi,p⟩;by_cases aw:i<n
 ·refine .inr ⟨aw,Pv (i+1),fun aF ak H' p'=> ⟨n-(i+1),.o,rfl,aw,p'⟩,fun x H' y=> ?_⟩;obtain⟨e,y⟩:=y;subst e y;exact hs i ys σ _ aw p
 ·have e:i=n:=.o;subst e;exact .inl ⟨Zak _,hd ys σ H p⟩
theorem pb {X:Cx}{N':List Str}{scope:Scope}{C:Addr}{s:Shared}{H:Hp}{fp:List Addr}(i:Nat){x:Str}{pos:Pos}(hN:N'.Nodup:=by decide+kernel)(hi:N'[i]? =some x:=by rfl)(hx:(relabel scope X.env).names.lookup x=some .local:=by rfl):
  PG (aU X N' scope C s H fp) (.Name x pos) (bE i):=Zn (X:=aU X N' scope C s H fp) hN hi (.inl hx) (.inr hx)
def Def (P:Program)(w:World)(K:ZhK)(mg:Str->Option Value)(base:Heap)(k:Nat)(x:Str)(ps:List Str)(sp:Sp):Prop:=
 ∃f fd,ay P w K mg base az k f fd ps sp/\mg x=some (.ref f)/\PySem.W.keepIn K (.ref f)=true/\Binds K fd ps []
section
variable {X:Cx}{k:Nat}{x:Str}{ps:List Str}{sp:Sp}{e:Expr}{es:List Expr}{t:TA}{p pos:Pos}
theorem Zc (d:Def X.prog X.w X.K X.mg X.base k x ps sp)(hr:bP k X.A)(ha:PA X (e::es) t)(hg:Gl X x:=by rfl)(eX:(x==("__debug__" :Str))=false:=by decide)
  (he:starEach (e::es) X.env=(false,eval e X.env)::starEach es X.env:=by rfl) (fP:(backTo pos (starEach es X.env)).any (·.1)=false:=by rfl):
  PE X (.Call (.Name x p) (e::es) [] pos) (sV sp [] E0 t):=by
 obtain⟨f,fd,F,hm,hk,hb⟩:=d;exact T7 F hr hg hm hk hb .nil yl ha eX he fP
end
def nO (K:ZhK)(H:Hp)(x:V):Prop:=∃T,fc K H x (.type T)
def whole:V->Bool
 | .int _=>true
 |_=>false
def cm:V->Int->Int->Bool
 | .int i,a,b=>decide (a<=i)&&decide (i<=b)
 |_,_,_=>false
def wa:Option HO->Option (List V)
 |some (.tup xs)=>some xs
 |_=>none
def cV (H:Hp):V->Option (List V)
 | .ref a=>wa (H a)
 |_=>none
theorem Yj {H:Hp}{a:Addr} :cV H (.ref a)=wa (H a):=rfl
theorem Zx {H:Hp}{a:Addr}{xs:List V}(h:H a=some (.tup xs)):cV H (.ref a)=some xs:=by rw[Yj,h];rfl
theorem Xc {o:Option HO}{xs:List V}(h:wa o=some xs):o=some (.tup xs):=by
 cases o with
 |none=>cases h
 |some o=>cases o<;>first |(cases h;rfl) |cases h
theorem Zk {H:Hp}{x:V}{xs:List V}(h:cV H x=some xs):∃a,x=.ref a/\H a=some (.tup xs):=by
 cases x with
 |ref a=>exact⟨a,rfl,Xc h⟩
 |_=>cases h
theorem ag.cV {H H':Hp}(s:ag H H'){x:V}{xs:List V}(h:L2.cV H x=some xs):L2.cV H' x=some xs:=by obtain⟨a,rfl,q⟩:=Zk h;exact Zx (s _ _ q)
theorem ag.CN {K:ZhK}{H H':Hp}(s:ag H H'){x:V}(h:nO K H x):nO K H' x:=by
 obtain⟨T,t⟩:=h;cases t with
 |ah=>exact⟨_,.ah⟩
 |bl y=>exact⟨_,.bl y⟩
 |int i=>exact⟨_,.int i⟩
 |str y=>exact⟨_,.str y⟩
 |kC y=>exact⟨_,.kC y⟩
 |lst e=>exact⟨_,.lst (s _ _ e)⟩
 |bM e=>exact⟨_,.bM (s _ _ e)⟩
 |tup e=>exact⟨_,.tup (s _ _ e)⟩
 |dK e=>exact⟨_,.dK (s _ _ e)⟩
 |dT e=>exact⟨_,.dT (s _ _ e)⟩
def yD:V->Bool
 | .int _=>true
 | .bl _=>true
 |_=>false
def Dv:V->Bool
 | .bl _=>true
 |_=>false
theorem So {K:ZhK}{H:Hp}{x:V}{T:String}(t:fc K H x (.type T)):PySem.W.kitOne K (.type T) (.type "int")=some (yD x):=by cases t<;>rfl
theorem TB {K:ZhK}{H:Hp}{x:V}{T:String}(t:fc K H x (.type T)):PySem.W.kitOne K (.type T) (.type "bool")=some (Dv x):=by cases t<;>rfl
theorem Xn {K:ZhK}{H:Hp}{x:V}{T:String}(t:fc K H x (.type T)):PySem.W.kitOne K (.type T) (.type "tuple")=some (cV H x).isSome:=by
 cases t with
 |tup e=>rw[Zx e];rfl
 |lst e=>rw[Yj,e];rfl
 |bM e=>rw[Yj,e];rfl
 |dK e=>rw[Yj,e];rfl
 |dT e=>rw[Yj,e];rfl
 |_=>rfl
theorem Zbp (x:V):whole x=(yD x&& !Dv x):=by cases x<;>rfl
def bD (p:Addr)(H H':Hp):Prop:=∀b o,H b=some o->b≠p->H' b=some o
theorem bD.trans {p:Addr}{H H1 H2:Hp}(a:bD p H H1)(b:bD p H1 H2):bD p H H2:=fun c o h n=>b c o (a c o h n) n
theorem ag.x {p:Addr}{H H1:Hp}(a:ag H H1):bD p H H1:=fun c o h _=>a c o h
theorem bD.upd {p:Addr}{H:Hp}{o:HO} :bD p H (L2.upd H p o):=fun b u h n=>by rw[Zi n];exact h
theorem newX (H:Hp)(p:Addr)(o:HO):∃H',upd H p o=H'/\bD p H H':=⟨_,rfl,bD.upd⟩
theorem bV {H:Hp}{t:Addr}{o:HO}(h:H t=none):∃H',upd H t o=H'/\ag H H'/\H' t=some o:=⟨_,rfl,fun b u hb=>by rw[Zi (Zh hb h)];exact hb,Zd⟩
theorem S5 {X:Cx}(hu:X.A.units<cLine):aV X (compareOp .Eq) (fun x y H Q=> ∃(a b:Addr) (xs:List V),x=.ref a/\y=.ref b/\ai X.K H a xs/\ai X.K H b []/\Q (.bl xs.isEmpty) H):=by
 intro pins s σ H x y u v Q I rx ry h;obtain⟨a,b,xs,rfl,rfl,ha,hb,q⟩:=h;cases rx;cases ry;obtain⟨aa,rv,pl,hz⟩:=I.list ha;obtain⟨g9,fG,cO,oQ⟩:=I.list hb;cases fG;cases rv with
 |nil=>exact SeqAt.eq_listAt (e:=fun _=>true) pl.isList cO.isList rfl hu (fun j h1 h2=>absurd h2 (by simp)) ⟨.bl true,H,I,rfl,q⟩
 |cons r t=>exact SeqAt.eq_list_lengthsAt pl.isList cO.isList (by simp) hu ⟨.bl false,H,I,rfl,q⟩
theorem S7 {X:Cx}(hu:X.A.units<cLine):aV X (compareOp .NotEq) (fun x y H Q=> ∃(a b:Addr) (xs:List V),x=.ref a/\y=.ref b/\ai X.K H a xs/\ai X.K H b []/\Q (.bl (!xs.isEmpty)) H):=by
 intro pins s σ H x y u v Q I rx ry h;obtain⟨a,b,xs,rfl,rfl,ha,hb,q⟩:=h;cases rx;cases ry;obtain⟨aa,rv,pl,hz⟩:=I.list ha;obtain⟨g9,fG,cO,oQ⟩:=I.list hb;cases fG;cases rv with
 |nil=>exact SeqAt.RcNeAt.lists (e:=fun _=>true) pl.isList cO.isList rfl hu (fun j h1 h2=>absurd h2 (by simp)) _ _ _ _ ⟨.bl false,H,I,rfl,q⟩
 |cons r t=>exact SeqAt.RcNeAt.lists_lengths pl.isList cO.isList (by simp) hu _ _ _ _ ⟨.bl true,H,I,rfl,q⟩
section
variable {X:Cx}{pins:List (Addr×Obj)}{σ:St}{H:Hp}{s:Shared}{fp:List Addr}{h':Heap}{tk:Nat}
theorem Wo (hf:∀b∈fp,bj X pins H b)(b:Addr)(o:HO)(q:H b=some o):b∉fp:=fun hm=>by rw[(hf b hm).1]at q;cases q
theorem Ws (I:Inv X pins σ H s)(hf:∀b∈fp,bj X pins H b)(hk:∀b o,b∉fp->s.heap.get? b=some o->h'.get? b=some o):Inv X pins σ H {s with heap:=h',toks:=tk} :=by
 refine I.call (g':=s.gens) (d':=s.drawn) (t':=tk) (h':=h') (ch:=fp) ⟨fun b o q _ _ hx=>hk b o hx q,fun b o q _ _ hx=> ⟨o.slots,hk b o hx q⟩,fun b o q n hx=>n,fun b o q hx=> ⟨o,hk b o hx q⟩,fun b ys q=>q,fun b o u q=>q,fun b ps q=> ⟨#[],by rw[q];simp⟩⟩ (fun b o q=> ?_) I.bare fun b hb=> ?_
 ·refine(I.aq b o q).cq (fun c ob bL q'=>hk c ob ?_ q') (fun _ q'=>q') fun _ _ q'=>q';rcases bL with z' |z'
  ·rw[z'];exact Wo hf b o q
  ·exact Wo hf c _ z'
 ·obtain⟨f0,f1,f2,f3,f4,f5⟩:=hf b hb;exact⟨f3,f1,f4,f5⟩
theorem JA {T:Addr}{x y:V}{u v:Value}(I:Inv X pins σ H s)(hf:∀b∈fp,bj X pins H b)(hk:∀b o,b∉fp->s.heap.get? b=some o->h'.get? b=some o)(cR:s.heap.objs.size<=T)(rD:h'.IsTuple T #[u,v])(ru:RelV x u)(rv:RelV y v):
  Inv X pins σ (upd H T (.par [x,y])) {s with heap:=h',toks:=tk} :=by
 have u4:H T=none:=I.aq.fresh cR;have neT:∀b o,s.heap.get? b=some o->b≠T:=fun b o q=>Za1 (Za7 (ZaC q) cR);have iL:∀b o,H b=some o->b≠T:=fun b o q=>Zh q u4;refine I.call (g':=s.gens) (d':=s.drawn) (t':=tk) (h':=h') (ch:=fp) ⟨fun b o q _ _ hx=>hk b o hx q,fun b o q _ _ hx=> ⟨o.slots,hk b o hx q⟩,fun b o q n hx=>by rw[Zi (neT b o q)];exact n,fun b o q hx=> ⟨o,hk b o hx q⟩,
  fun b ys q=>by rw[Zi (iL b _ q)];exact q,fun b o u q=>by rw[Zi (iL b _ q)];exact q,fun b ps q=> ⟨#[],by rw[Zi (iL b _ q),q];simp⟩⟩ (fun b o q=> ?_) I.bare fun b hb=> ?_
 ·by_cases hb:b=T
  ·subst hb;rw[Zd]at q;cases q;exact⟨bT,[u,v],.cons ru (.cons rv .nil),rD⟩
  ·rw[Zi hb]at q;refine(I.aq b o q).cq (fun c ob bL q'=>hk c ob ?_ q') (fun c q'=>by rw[Zi (iL c _ q')];exact q') fun c ys q'=>by rw[Zi (iL c _ q')];exact q'
   rcases bL with z' |z'
   ·rw[z'];exact Wo hf b o q
   ·exact Wo hf c _ z'
 ·obtain⟨f0,f1,f2,f3,f4,f5⟩:=hf b hb;exact⟨f3,f1,f4,f5⟩
end
section
variable {prog:Program}{w:World}{A:Around}{E:Value->Shared->Prop}{s:Shared}
theorem Zcf {j t:Addr}{i:Nat}{aa:Array Value}{x:Value}{Q:Value->Shared->Prop}(h1:s.heap.IsTupleIter j t i)(h2:s.heap.IsTuple t aa)(hx:aa[i]? =some x)
  (k:∀h',h'.IsTupleIter j t (i+1)->Heap.SameBut j s.heap h'->Q x {s with heap:=h'}):wpAny (model prog w) A (Builtin.SmallTypes.nextOf (.ref j)) Q E s:=by
 obtain⟨o,eo,co,dO⟩:=id h1;obtain⟨ot,et,_,nt,dt⟩:=h2;unfold Builtin.SmallTypes.nextOf;refine eg (ZbL (name:=Str.ofString "__next__") h1.typeIs ZdN (Zbn ZdN h1.typeIs ZfI ?_ (ZfC _)));show wpAny _ _ (field (.ref j) 0 >>=_) _ _ s;refine eg (Zcy eo dO (x:=.ref t) rfl ?_);show wpAny _ _ (if (Value.ref t==Value.none)=true then _ else _) _ _ s;rw[Zaz (show ¬((Value.ref t==Value.none)=true) from Zag)];show wpAny _ _ (field (.ref j) 1 >>=_) _ _ s;refine eg (Zcy eo dO (x:=.int i 0) rfl ?_);show wpAny _ _ (seqItems? (.ref t) >>=_) _ _ s;refine eg (Zbr et dt ?_);simp only[Zbu,hx];refine eg (ZdY eo dO (by simp) (gc ⟨x,rfl,gc (k _ ⟨_,Zc2 _ eo (ZeC (Zdo dO _)),(Obj.cls_mapFields ..).trans co,?_⟩ (Zct ..))⟩));rw[Zdo dO];simp[rawInt]
theorem XC {j t:Addr}{i:Nat}{aa:Array Value}{Q:Value->Shared->Prop}(hh:A.handled=none)(h1:s.heap.IsTupleIter j t i)(h2:s.heap.IsTuple t aa)(hx:aa[i]? =none)
  (k:∀h' e,Heap.ExtBut j s.heap h'->(∃o,h'.get? e=some o/\o.cls=.type "StopIteration")->E (.ref e) {s with heap:=h'}):wpAny (model prog w) A (Builtin.SmallTypes.nextOf (.ref j)) Q E s:=by
 obtain⟨o,eo,co,dO⟩:=id h1;obtain⟨ot,et,_,nt,dt⟩:=h2;unfold Builtin.SmallTypes.nextOf;refine eg (ZbL (name:=Str.ofString "__next__") h1.typeIs ZdN (Zbn ZdN h1.typeIs ZfI ?_ (ZfC _)));show wpAny _ _ (field (.ref j) 0 >>=_) _ _ s;refine eg (Zcy eo dO (x:=.ref t) rfl ?_);show wpAny _ _ (if (Value.ref t==Value.none)=true then _ else _) _ _ s;rw[Zaz (show ¬((Value.ref t==Value.none)=true) from Zag)];show wpAny _ _ (field (.ref j) 1 >>=_) _ _ s;refine eg (Zcy eo dO (x:=.int i 0) rfl ?_);show wpAny _ _ (seqItems? (.ref t) >>=_) _ _ s;refine eg (Zbr et dt ?_);simp only[Zbu,hx];refine eg (Zdt (eg (ZdY eo dO (by simp) ?_)));show wpAny _ _ (newExc (.type "StopIteration") [] >>=_) _ _ _;refine eg ?_;simp only[newExc,newTuple];refine eg (Zbs ?_ (by size_fits));refine eg (m:=firstArgMember _ _) (ZeO (a:=Value.none) (by first |rfl |(simp only[firstArgMember];rfl)) (Zbs ?_ (by size_fits)));simp only[raiseNew];refine eg (Zgp ?_)
 first |rw[show A.in1.handled=none from hh] |rw[hh]
 exact eg (gc (Zhf (k _ _ (((Zct ..).extBut.push _).push _) ⟨_,Zar _ rfl,rfl⟩)))
end
theorem E6 {prog:Program}{w:World}{A:Around}(hh:A.handled=none)(j t:Addr)(bf:t≠j)(aa:Array Value):
  Draws prog w A j [j,t] aa.size (fun i v=>aa[i]? =some v) (fun i h=>h.IsTupleIter j t i/\h.IsTuple t aa) where
 live:=fun _ _ st=>let ⟨o,ho,_⟩:=st.1;⟨o,ho⟩
 frame:=fun _ _ _ st hk=> ⟨st.1.at fun o e=>hk j (by simp) o e,st.2.at fun o e=>hk t (by simp) o e⟩
 item:=fun i s Q E hi st hQ=>Zcf st.1 st.2 (x:=aa[i]) (by simp[hi]) fun h' a b=>hQ _ h' s.toks (by simp[hi]) ⟨a,st.2.extBut b.extBut bf⟩ b
 done:=fun s Q E st hE=>XC hh st.1 st.2 (by simp) hE
section
variable {prog:Program}{w:World}{A:Around}{E:Value->Shared->Prop}{s:Shared}
theorem VB (l:Addr)(aa:Array Value)(n:Nat)(vp:Option Addr)(sl:Array (Option Value)):
  Meets (Builtin.«enumerate.__new__» ⟨[.type "enumerate",.ref l],[]⟩) (fun _ R s=>s.heap.get? l=some {cls:=.type "tuple",dict:=vp,data:=.seq aa n,slots:=sl}/\
   R (.ok (.ret (.ref (s.heap.push {cls:=.type "tuple_iterator",data:=.fields #[.ref l,.int 0 0]}).objs.size)))
    {s with heap:=(s.heap.push {cls:=.type "tuple_iterator",data:=.fields #[.ref l,.int 0 0]}).push {cls:=.type "enumerate",data:=.fields #[.none,.bool false,.ref s.heap.objs.size,rawInt 0,.none,.none]} }):=
 .of_wp fun prog w A R s h=>by
  obtain⟨hp,g,d,tk,os⟩:=s;obtain⟨hl,h⟩:=h;have lN:=sub_enumerate;have hL:Heap.IsTuple (Shared.heap ⟨hp,g,d,tk,os⟩) l aa:=⟨_,hl,rfl,n,rfl⟩
  wp_walk using AutoSeq1.wpAny_loadPart' hl
  refine wpAny_stack_any fun st=>gc ?_;split
  ·rename_i c _ _ _ _ _;cases (c==Value.type "enumerate")<;> (wp_walk using AutoSeq1.wpAny_loadPart' hl,ZfS hL;exact⟨_,rfl,h⟩)
  ·wp_walk using AutoSeq1.wpAny_loadPart' hl,ZfS hL
   exact⟨_,rfl,h⟩
theorem X0 {l:Addr}{aa:Array Value}{Q:Value->Shared->Prop}(hL:s.heap.IsTuple l aa)
  (h:∀h',IsEnum h' (s.heap.objs.size+1) s.heap.objs.size 0 .none->h'.IsTupleIter s.heap.objs.size l 0->(∀b o,s.heap.get? b=some o->h'.get? b=some o)->Q (.ref (s.heap.objs.size+1)) {s with heap:=h'}):
  wpAny (model prog w) A (call (.type "enumerate") [.ref l]) Q E s:=by
 obtain⟨⟨c,vp,dt,sl⟩,hl,hc,n,hd⟩:=hL;replace hc:c=.type "tuple" :=hc;replace hd:dt=.seq aa n:=hd;subst hc hd;refine callType_new F.called_enumerate .d (F.typeCall_enumerate_1 _) (F.newCall_enumerate_1 _) (fun obj=>F.args_object_init_2 obj _) F.entry_enumerate_new (VB l aa n vp sl) ⟨hl,?_⟩;have hz:(s.heap.push {cls:=.type "tuple_iterator",data:=.fields #[.ref l,.int 0 0]}).objs.size=s.heap.objs.size+1:=Zc5 ..;show _/\_;rw[hz];have he:IsEnum ((s.heap.push {cls:=.type "tuple_iterator",data:=.fields #[.ref l,.int 0 0]}).push {cls:=.type "enumerate",data:=.fields #[.none,.bool false,.ref s.heap.objs.size,rawInt 0,.none,.none]}) (s.heap.objs.size+1) s.heap.objs.size 0 .none:=by have q:=Zar (s.heap.push {cls:=.type "tuple_iterator",data:=.fields #[.ref l,.int 0 0]}) (o:= {cls:=.type "enumerate",data:=.fields #[.none,.bool false,.ref s.heap.objs.size,rawInt 0,.none,.none]}) rfl;rw[hz]at q;exact q
 exact⟨⟨_,he,rfl⟩,h _ he ⟨_,Zad _ (Zar _ rfl),rfl,rfl⟩ fun b o x=>Zad _ (Zad _ x)⟩
end
def A8 (K:ZhK)(t:Addr):It:=
 ⟨fun i H=> ∃xs x,ab K H t xs/\xs[i]? =some x,fun i H x H'=> ∃(T:Addr) (y:V),x=.ref T/\H T=none/\H'=upd H T (.par [.int (i:Int),y])/\∀xs,ab K H t xs->xs[i]? =some y,fun i H=> ∃xs,ab K H t xs/\xs.length=i⟩
theorem Xd {P:Program}{w:World}{K:ZhK}{elts:List Expr}{kk:Nat}{pos:Pos}(t e j:Addr)(kr:e≠j)(qP:t≠e)(qO:t≠j):
  Turn P w K (.Tuple elts kk pos) (A8 K t) [e,j] e (fun i h=> (∃old,IsEnum h e j i old)/\h.IsTupleIter j t i) where
 mem:=by simp
 obj:=fun i h st b hb=>by
  obtain⟨⟨old,he⟩,o,ho,hc,hd⟩:=st;rcases Zav.mp hb with rfl |hb
  ·exact⟨_,he,fun v z=>by cases z⟩
  ·rw[Zas.mp hb];exact⟨o,ho,fun v z=>by rw[hd]at z;cases z⟩
 keep:=fun i h h' st k=> ⟨let ⟨old,he⟩:=st.1;⟨old,k e (by simp) _ he⟩,st.2.at fun o q=>k j (by simp) o q⟩
 item:=by
  intro X hP hw hK hc i pins s σ H E I hf st hg;subst hP hw hK;obtain⟨xs,x,hq,hx⟩:=hg;obtain⟨aa,rv,p,hz⟩:=I.tuple hq;obtain⟨u,hu,ru⟩:=rv.get hx;have hl:=rv.length;have nh:i<aa.toArray.size:=by have:=(Zaa.mp hu).1;simpa using this
  have W:=Zff (prog:=X.prog) (w:=X.w) (A:=X.A) (E6 (A:=X.A.in1) (show X.A.in1.handled=none from I.ok.hd hc) j t qO aa.toArray) e kr (by simp[kr,qP.symm]) (by simp);have hT:s.heap.IsTuple t aa.toArray:=p;refine W.item i s _ _ nh ⟨st.1,st.2,hT⟩ fun T vals h' tk hP cR nB iY hk=> ⟨_,rfl,W.go elts kk pos i T _ _ _ iY fun da dq bW=> ?_⟩;obtain⟨pN,x2,kg,rfl⟩:=hP;have lK:aa[i]? =some x2:=by simpa using kg
  rw[hu]at lK;cases lK;have rC:T∉[e,j]:=W.apart _ _ _ iY;refine⟨.ref T,upd H T (.par [.int (i:Int),x]),JA (s:=s) (h':=da) (tk:=tk) I hf (fun b o hb q=>bW b o hb (hk b o hb q)) cR (nB.at fun o q=>bW T o rC q) ⟨pN,rfl⟩ ru,rfl,⟨T,x,rfl,I.aq.fresh cR,rfl,fun ys hy=>by rw[I.mF hy hq];exact hx⟩,⟨dq.1,dq.2.1⟩,fun b hb=> ?_⟩;rw[Zi (fun z=>rC (by rw[<-z];exact hb))];exact(hf b hb).1
 done:=by
  intro X hP hw hK hc i pins s σ H E I hf st hg;subst hP hw hK;obtain⟨xs,hq,hx⟩:=hg;obtain⟨aa,rv,p,hz⟩:=I.tuple hq;have hl:=rv.length;have W:=Zff (prog:=X.prog) (w:=X.w) (A:=X.A) (E6 (A:=X.A.in1) (show X.A.in1.handled=none from I.ok.hd hc) j t qO aa.toArray) e kr (by simp[kr,qP.symm]) (by simp);have hn:i=aa.toArray.size:=by rw[Zap];omega
  have hT:s.heap.IsTuple t aa.toArray:=p;rw[hn]at st;exact W.done s _ _ ⟨st.1,st.2,hT⟩ fun h' tk hk=> ⟨rfl,Ws (s:=s) (h':=h') (tk:=tk) I hf hk⟩
 self:=fun A i s Q E st h=>let ⟨old,he⟩:=st.1;Zfg he h
section
variable {X:Cx}{elts:List Expr}{kk:Nat}{tp:Pos}
def Nx (K:ZhK)(ta:TA):TI:=fun σ H R=>ta σ H fun vs H1=> ∃t,vs=[.ref t]/\(∃xs,ab K H1 t xs)/\R (A8 K t) H1
theorem Va {a:Expr}{ta:TA}{p pos:Pos}(hg:Gl X "enumerate")(hm:X.mg "enumerate" =none)(ha:PA X [a] ta)(hs:starEach [a] X.env=[(false,eval a X.env)]:=by rfl):PI X (.Tuple elts kk tp) (.Call (.Name "enumerate" p) [a] [] pos) (Nx X.K ta):=by
 intro pins s σ H R I h;refine Call_ (Z8 I hg hm boot_enumerate (Zcs (au (ha pos pins s σ H _ I h) fun us s1 ae=> ?_) hs rfl));obtain⟨vs,H1,I1,r1,q1⟩:=ae;obtain⟨t,e,⟨xs,hq⟩,q⟩:=q1;subst e;obtain⟨u,rfl,ru⟩:=ZgE r1;cases ru;obtain⟨aa,rv,pl,hz⟩:=I1.tuple hq;have hT:s1.heap.IsTuple t aa.toArray:=pl;have ht:t<s1.heap.objs.size:=by obtain⟨o,ho,_⟩:=hT;exact ZaC ho
 refine X0 hT fun h' he hj hk=>Zfg he ?_;have I2:Inv X pins σ H1 {s1 with heap:=h'} :=I1.kept (t':=s1.toks) hk;refine⟨s1.heap.objs.size+1,[s1.heap.objs.size+1,s1.heap.objs.size],_,_,H1,rfl,I2,Xd t _ _ (Zft _) (Za1 (Zc8 ht)) (Za1 ht),⟨⟨_,he⟩,hj⟩,fun b hb=> ?_,q⟩;have i6:s1.heap.objs.size<=b:=by
  rcases Zav.mp hb with z |z
  ·rw[z];exact Zei _
  ·rw[Zas.mp z];exact Zak _
 exact I1.jb i6 (I1.aq.fresh i6)
end
theorem Xy {K:ZhK}{a:Addr}{xs:List V}{g:TG}{tt:TT}{ti:TC}{ys:List V}{σ:St}{H:Hp}{Q:List V->St->Hp->Prop}(Pv:Nat->List V->St->Hp->Prop)(h0:Pv 0 ys σ H)
  (hl:∀i ys σ H,i<=xs.length->Pv i ys σ H->ab K H a xs)
  (hs:∀i x T ys σ H,xs[i]? =some x->H T=none->Pv i ys σ H->g (.ref T) σ (upd H T (.par [.int (i:Int),x])) fun aQ H2=>tt aQ H2 fun b H3=>if b=true then ti ys aQ H3 (Pv (i+1)) else Pv (i+1) ys aQ H3)
  (hd:∀ys σ H,Pv xs.length ys σ H->Q ys σ H):gU g tt ti (A8 K a) ys σ H Q:=by
 refine⟨fun i m ys σ H=>m=xs.length-i/\i<=xs.length/\Pv i ys σ H,⟨xs.length,by simp,ZaM _,h0⟩,?_⟩;rintro i m ys σ H ⟨rfl,hi,p⟩;have q:=hl i ys σ H hi p;by_cases aw:i<xs.length
 ·refine .inr ⟨⟨xs,xs[i],q,by simp[aw]⟩,Pv (i+1),fun aF ak H' p'=> ⟨xs.length-(i+1),.o,rfl,aw,p'⟩,fun x H' y=> ?_⟩;obtain⟨T,z,e1,e2,e3,e4⟩:=y;subst e1 e3;exact hs i z T ys σ H (e4 xs q) e2 p
 ·have e:i=xs.length:=.o;subst e;exact .inl ⟨⟨xs,q,rfl⟩,hd ys σ H p⟩
inductive Lit where
 |sc (v:V)
 |tup (xs:List V)
 |lst (xs:List V)
 |vp
theorem Uo (n l1 l2:Nat)(h1:l1<n)(h2:l2<n):ZipApart (n+4) (n+2) (n+3) n (n+1) l1 l2:=by constructor<;>intro z<;>refine absurd (show @Eq Nat _ _ from z) ?_<;>omega
end L2
namespace L2
open PySem PySem.Spec PyProof.Rows SeqAt
theorem ZV {α β:Type}{F:α->β->Prop} :∀{k7:List α}{k6:List β}{i:Nat}{x:α},Paired F k7 k6->k7[i]? =some x->∃y,k6[i]? =some y/\F x y
 |_,_,_,_,.nil,h=>by simp at h
 |_,_,0,_,.cons r _,h=>by simp at h;subst h;exact⟨_,rfl,r⟩
 |_,_,i+1,_,.cons _ t,h=>by obtain⟨y,e,q⟩:=ZV t (i:=i) (by simpa using h);exact⟨y,by simpa using e,q⟩
section
variable {X:Cx}
def h9 (i:Int)(n:Nat):List Int:=(List.range n).map fun(k:Nat)=>i+(k:Int)
theorem UN {ns:List Int}{us:List Value}(r:Vals (ns.map V.int) us)(j:Nat)(h:j<us.length):∃t,us[j]=.int (ns.getD j 0) t:=by have hl:=r.length;rw[Zal]at hl;have hj:j<ns.length:=.o;obtain⟨u,hu,t,ru⟩:=r.get (i:=j) (x:=.int ns[j]) (by rw[Zbk,Zaw hj];rfl);rw[Zaw h]at hu;cases hu;exact⟨t,by rw[ru];simp[hj]⟩
theorem UV {x:V} :∀{xs:List V}{us:List Value},Vals xs us->xs.all fT=true->us.countP (eZ x)=xs.countP fun y=>dW y x
 |_,_,.nil,_=>rfl
 |y::xs,u::us,.cons r t,f=>by rw[Zgm,Za5]at f;rw[Zdh,Zdh,Aq r f.1,UV t f.2]
end
end L2
namespace L2
open PySem PySem.Spec PyProof.Rows
structure Src (prog:Program)(w:World)(i l:Addr)(n:Nat)(f:Nat->Value)(S:Nat->Heap->Prop):Prop where
 here:∀k h,S k h->∃o,h.get? i=some o
 cq:∀k h h',S k h->(∀c,c=i∨c=l->∀o,h.get? c=some o->h'.get? c=some o)->S k h'
 item:∀(A:Around) k (s:Shared) (Q:Value->Shared->Prop) (E:Value->Shared->Prop),k<n->S k s.heap->(∀h',S (k+1) h'->Heap.SameBut i s.heap h'->Q (f k) {s with heap:=h'})->wpAny (model prog w) A (Builtin.SmallTypes.nextOf (.ref i)) Q E s
 stop:∀(A:Around) (s:Shared) (Q:Value->Shared->Prop) (E:Value->Shared->Prop),A.handled=none->S n s.heap->(∀h' e,Heap.ExtBut i s.heap h'->(∃o,h'.get? e=some o/\o.cls=.type "StopIteration")->E (.ref e) {s with heap:=h'})->wpAny (model prog w) A (Builtin.SmallTypes.nextOf (.ref i)) Q E s
theorem Xb (prog:Program)(w:World){i l:Addr}(aa:Array Value)(bf:l≠i):Src prog w i l aa.size (fun k=>aa.getD k .none) (fun k h=>IsTupIter h i l k/\IsTup h l aa) where
 here:=fun k h ⟨⟨o,ho,_⟩,_⟩=> ⟨o,ho⟩
 cq:=fun k h h' ⟨⟨o,ho,r⟩,⟨u,hu,r'⟩⟩ st=> ⟨⟨o,st i (.inl rfl) o ho,r⟩,⟨u,st l (.inr rfl) u hu,r'⟩⟩
 item:=fun A k s Q E hk ⟨hi,ht⟩ q=>by
  obtain⟨oi,gi,ci,di⟩:=id hi;obtain⟨ot,gt,ct,nt,dt⟩:=id ht;have hx:aa[k]? =some (aa.getD k .none):=by simp[hk]
  unfold Builtin.SmallTypes.nextOf;refine eg (ZbL (name:=Str.ofString "__next__") hi.typeIs ZeP (Zbn ZeP hi.typeIs entry_tupleiter_next ?_ (args_tupleiter_next _)));refine(show wpAny _ _ (field (.ref i) 0 >>=_) _ _ s from eg (Zcy gi di (x:=.ref l) rfl ?_));refine(show wpAny _ _ (if (Value.ref l==Value.none)=true then _ else _) _ _ s from ?_);rw[Zaz (by exact Zag)];refine(show wpAny _ _ (field (.ref i) 1 >>=_) _ _ s from eg (Zcy gi di (x:=.int k 0) rfl ?_));refine(show wpAny _ _ (seqItems? (.ref l) >>=_) _ _ s from eg (Zbr gt dt ?_));simp only[Zbu,hx];refine eg (ZdY gi di (by simp) (gc ⟨_,rfl,gc (q _ ⟨⟨_,Zc2 _ gi (ZeC (Zdo di _)),(Obj.cls_mapFields ..).trans ci,?_⟩,?_⟩ (Zct ..))⟩))
  ·rw[Zdo di];simp[rawInt]
  ·exact⟨ot,(Zct ..).extBut _ _ bf gt,ct,nt,dt⟩
 stop:=fun A s Q E hh ⟨hi,ht⟩ q=>by
  obtain⟨oi,gi,ci,di⟩:=id hi;obtain⟨ot,gt,ct,nt,dt⟩:=id ht;have hx:aa[aa.size]? =none:=by simp
  unfold Builtin.SmallTypes.nextOf;refine eg (ZbL (name:=Str.ofString "__next__") hi.typeIs ZeP (Zbn ZeP hi.typeIs entry_tupleiter_next ?_ (args_tupleiter_next _)));refine(show wpAny _ _ (field (.ref i) 0 >>=_) _ _ s from eg (Zcy gi di (x:=.ref l) rfl ?_));refine(show wpAny _ _ (if (Value.ref l==Value.none)=true then _ else _) _ _ s from ?_);rw[Zaz (by exact Zag)];refine(show wpAny _ _ (field (.ref i) 1 >>=_) _ _ s from eg (Zcy gi di (x:=.int aa.size 0) rfl ?_));refine(show wpAny _ _ (seqItems? (.ref l) >>=_) _ _ s from eg (Zbr gt dt ?_));simp only[Zbu,hx];refine eg (Zdt (eg (ZdY gi di (by simp) ?_)));refine(show wpAny _ _ (newExc (.type "StopIteration") [] >>=_) _ _ _ from eg ?_);simp only[newExc,newTuple];refine eg (Zbs ?_ (by size_fits));refine eg (m:=firstArgMember _ _) (ZeO (a:=Value.none) (by first |rfl |(simp only[firstArgMember];rfl)) ?_);refine Zbs ?_ (by size_fits);simp only[raiseNew];refine eg (Zgp ?_)
  first |rw[show A.in1.handled=none from hh] |rw[hh]
  refine eg (gc (Zhf ?_));exact q _ _ (((Zct ..).extBut.push _).push _) ⟨_,Zar _ rfl,rfl⟩
section
variable {prog:Program}{w:World}{A:Around}{E:Value->Shared->Prop}{s:Shared}{z TI TO i1 i2 l1 l2:Addr}{n k:Nat}{f g:Nat->Value}{S1 S2:Nat->Heap->Prop}
theorem T4 {a b:Value}{Q:Value->Shared->Prop}(U1:Src prog w i1 l1 n f S1)(U2:Src prog w i2 l2 n g S2)(D:ZipApart z TI TO i1 i2 l1 l2)(hk:k<n)(hz:IsZip s.heap z TI TO .none)(hI:IsPair s.heap TI (.ref i1) (.ref i2))(hO:IsPair s.heap TO a b)(h1:S1 k s.heap)(h2:S2 k s.heap)
    (q:∀h',IsZip h' z TI TO (rawInt s.heap.objs.size)->IsPair h' TO (f k) (g k)->S1 (k+1) h'->S2 (k+1) h'->IsPair h' s.heap.objs.size (f k) (g k)->h'.objs.size=s.heap.objs.size+1->
      (∀c o,c≠z->c≠TO->c≠i1->c≠i2->s.heap.get? c=some o->h'.get? c=some o)->Q (.ref s.heap.objs.size) {s with heap:=h'}):
    wpAny (model prog w) A (Builtin.«zip.__next__» ⟨[.ref z],[]⟩) (fun fin s'=> ∃v,fin=.done (.ret v)/\Q v s') E s:=by
  refine(show wpAny _ _ (field (.ref z) 2 >>=_) _ _ _ from eg (Zcy hz rfl (x:=.bool false) rfl ?_));refine(show wpAny _ _ (field (.ref z) 3 >>=_) _ _ _ from eg (Zcy hz rfl (x:=.ref TI) rfl (eg (Zbr hI rfl ?_))));refine(show wpAny _ _ (Builtin.SmallTypes.ownedTupleIsFree (.ref z) >>=_) _ _ _ from eg ?_);unfold Builtin.SmallTypes.ownedTupleIsFree;refine eg (Zcy hz rfl (x:=.none) rfl (gc ?_));simp only[ZdC];refine eg (Zdt (eg (Zcy hz rfl (x:=.ref TO) rfl (eg (ZcW hz (by simp) fun m1 mD e1=> ?_)))));replace mD:IsZip m1 z TI TO .ellipsis:=mD;have b1:=e1.extBut;refine eg ?_;simp only[Zgx,List.zipIdx_nil,ZgP,List.forIn_nil];refine eg (eg (Zhk ?_));have aA:S1 k m1:=U1.cq _ _ _ h1 fun c hc o ho=>by rcases hc with rfl |rfl<;>first |exact b1 _ _ D.i1z ho |exact b1 _ _ D.l1z ho
  refine(show wpAny _ _ (Builtin.SmallTypes.nextOf (.ref i1) >>=_) _ _ _ from eg (U1.item _ k _ _ _ hk aA fun m2 av e2=>gc ?_));have b2:=e2.extBut;have o2:IsPair m2 TO a b:=b2 _ _ D.TOi1 (b1 _ _ D.TOz hO);refine eg (Zbr o2 rfl (eg (wpAny_updateSeq_pair o2 fun m3 o3 e3=> ?_)));replace o3:IsPair m3 TO (f k) b:=o3;have b3:=e3.extBut;refine eg (ZdZ (gc (eg (eg (Zhk ?_)))));have w3:S2 k m3:=U2.cq _ _ _ h2 fun c hc o ho=>by
    rcases hc with rfl |rfl
    · exact b3 _ _ D.TOi2.symm (b2 _ _ D.i12.symm (b1 _ _ D.i2z ho))
    · exact b3 _ _ D.l2TO (b2 _ _ D.l2i1 (b1 _ _ D.l2z ho))
  refine(show wpAny _ _ (Builtin.SmallTypes.nextOf (.ref i2) >>=_) _ _ _ from eg (U2.item _ k _ _ _ hk w3 fun m4 w4 e4=>gc ?_));have b4:=e4.extBut;have o4:IsPair m4 TO (f k) b:=b4 _ _ D.TOi2 o3;refine eg (Zbr o4 rfl (eg (wpAny_updateSeq_pair o4 fun m5 o5 e5=> ?_)));replace o5:IsPair m5 TO (f k) (g k):=o5;have b5:=e5.extBut;refine eg (ZdZ (gc (gc (eg (Zbr o5 rfl (eg (Zg7 ?_)))))));have sz:m5.objs.size=s.heap.objs.size:=by rw[e5.1,e4.1,e3.1,e2.1,e1.1]
  have z5:IsZip m5 z TI TO .ellipsis:=b5 _ _ D.TOz.symm (b4 _ _ D.i2z.symm (b3 _ _ D.TOz.symm (b2 _ _ D.i1z.symm mD)));have kp:∀c o,c≠z->c≠TO->c≠i1->c≠i2->s.heap.get? c=some o->m5.get? c=some o:=fun c o c1 c2 c3 c4 e=>b5 _ _ c2 (b4 _ _ c4 (b3 _ _ c2 (b2 _ _ c3 (b1 _ _ c1 e))));have dM:S1 (k+1) m5:=U1.cq _ _ _ av fun c hc o ho=>by
    rcases hc with rfl |rfl
    · exact b5 _ _ D.TOi1.symm (b4 _ _ D.i12 (b3 _ _ D.TOi1.symm ho))
    · exact b5 _ _ D.l1TO (b4 _ _ D.l1i2 (b3 _ _ D.l1TO ho))
  have w5:S2 (k+1) m5:=U2.cq _ _ _ w4 fun c hc o ho=>by rcases hc with rfl |rfl<;>first |exact b5 _ _ D.TOi2.symm ho |exact b5 _ _ D.l2TO ho
  have By:z<m5.objs.size:=ZaC z5;refine(show wpAny _ _ (Builtin.SmallTypes.ownedTupleHandOut (.ref z) (.ref m5.objs.size) >>=_) _ _ _ from eg ?_);unfold Builtin.SmallTypes.ownedTupleHandOut;have z6:IsZip (m5.push {cls:=.type "tuple",data:=.seq #[f k,g k]}) z TI TO .ellipsis:=Zad _ z5;refine eg (ZcW z6 (by simp) fun m7 z7 e7=> ?_);replace z7:IsZip m7 z TI TO (rawInt m5.objs.size):=z7;refine ZcW z7 (by simp) fun m8 z8 e8=> ?_;replace z8:IsZip m8 z TI TO (rawInt m5.objs.size):=z8;have up:∀c o,c≠z->m5.get? c=some o->m8.get? c=some o:=fun c o c1 e=>e8.extBut _ _ c1 (e7.extBut _ _ c1 (Zad _ e));have t8:IsPair m8 m5.objs.size (f k) (g k):=e8.extBut _ _ (Zdq By) (e7.extBut _ _ (Zdq By) (Zar _ rfl));have s8:m8.objs.size=m5.objs.size+1:=by rw[e8.1,e7.1,Zc5]
  rw[sz]at z8 t8 s8;refine gc ⟨_,rfl,?_⟩;show Q (.ref m5.objs.size) _;rw[sz];refine q m8 z8 (up _ _ D.TOz o5) (U1.cq _ _ _ dM fun c hc o ho=> ?_) (U2.cq _ _ _ w5 fun c hc o ho=> ?_) t8 s8 fun c o c1 c2 c3 c4 e=>up c o c1 (kp c o c1 c2 c3 c4 e)
  · rcases hc with rfl |rfl<;>first |exact up _ _ D.i1z ho |exact up _ _ D.l1z ho
  · rcases hc with rfl |rfl<;>first |exact up _ _ D.i2z ho |exact up _ _ D.l2z ho
theorem S4 {a b:Value}{Q:PySem.Fin->Shared->Prop}(hh:A.handled=none)(U1:Src prog w i1 l1 n f S1)(D:ZipApart z TI TO i1 i2 l1 l2)(hz:IsZip s.heap z TI TO .none)(hI:IsPair s.heap TI (.ref i1) (.ref i2))(hO:IsPair s.heap TO a b)(h1:S1 n s.heap)
  (q:∀h' e,(∀c o,c≠z->c≠TO->c≠i1->c≠i2->s.heap.get? c=some o->h'.get? c=some o)->(∃o,h'.get? e=some o/\o.cls=.type "StopIteration")->E (.ref e) {s with heap:=h'}):
  wpAny (model prog w) A (Builtin.«zip.__next__» ⟨[.ref z],[]⟩) Q E s:=by
 refine(show wpAny _ _ (field (.ref z) 2 >>=_) _ _ _ from eg (Zcy hz rfl (x:=.bool false) rfl ?_));refine(show wpAny _ _ (field (.ref z) 3 >>=_) _ _ _ from eg (Zcy hz rfl (x:=.ref TI) rfl (eg (Zbr hI rfl ?_))));refine(show wpAny _ _ (Builtin.SmallTypes.ownedTupleIsFree (.ref z) >>=_) _ _ _ from eg ?_);unfold Builtin.SmallTypes.ownedTupleIsFree;refine eg (Zcy hz rfl (x:=.none) rfl (gc ?_));simp only[ZdC];refine eg (Zdt (eg (Zcy hz rfl (x:=.ref TO) rfl (eg (ZcW hz (by simp) fun m1 mD e1=> ?_)))));replace mD:IsZip m1 z TI TO .ellipsis:=mD;have b1:=e1.extBut;refine eg ?_;simp only[Zgx,List.zipIdx_nil,ZgP,List.forIn_nil];refine eg (eg (Zhk ?_));have aA:S1 n m1:=U1.cq _ _ _ h1 fun c hc o ho=>by rcases hc with rfl |rfl<;>first |exact b1 _ _ D.i1z ho |exact b1 _ _ D.l1z ho
 refine(show wpAny _ _ (Builtin.SmallTypes.nextOf (.ref i1) >>=_) _ _ _ from eg (U1.stop _ _ _ _ hh aA fun m2 e e2 he=> ?_));obtain⟨oe,ge,ce⟩:=he;have z2:IsZip m2 z TI TO .ellipsis:=e2 _ _ D.i1z.symm mD;have MG:e≠z:=fun y=>by subst y;rw[z2]at ge;cases ge;simp at ce
 refine ZcW z2 (by simp) fun m3 _ e3=>q m3 e (fun c o c1 _ c3 _ x=>e3.extBut _ _ c1 (e2 _ _ c3 (b1 _ _ c1 x))) ⟨oe,e3.extBut _ _ MG ge,ce⟩
end
section
variable {prog:Program}{w:World}{A:Around}{z TI TO i1 i2 l1 l2:Addr}{n:Nat}{f g:Nat->Value}{S1 S2:Nat->Heap->Prop}
theorem Hl (hh:A.handled=none)(U1:Src prog w i1 l1 n f S1)(U2:Src prog w i2 l2 n g S2)(D:ZipApart z TI TO i1 i2 l1 l2):
  WalksT prog w A z [z,TI,TO,i1,i2,l1,l2] [z,TO,i1,i2] n (fun k vals=>vals= #[f k,g k])
   (fun k h=>IsZip h z TI TO .none/\IsPair h TI (.ref i1) (.ref i2)/\(∃a b,IsPair h TO a b)/\S1 k h/\S2 k h)
   (fun k T h=>IsZip h z TI TO (rawInt T)/\IsPair h TI (.ref i1) (.ref i2)/\(∃a b,IsPair h TO a b)/\S1 (k+1) h/\S2 (k+1) h/\T∉[z,TO,i1,i2]) where
 sub:=fun c hc=>by simp only[Zav,ZcB,ZdT]at hc |-;rcases hc with rfl |rfl |rfl |rfl<;>simp
 frame:=fun k h h' ⟨a1,a2,⟨a,b,a3⟩,a4,a5⟩ kp=> ⟨kp z (by simp) _ a1,kp TI (by simp) _ a2,⟨a,b,kp TO (by simp) _ a3⟩,U1.cq _ _ _ a4 fun c hc o=>kp c (by rcases hc with rfl |rfl<;>simp) o,U2.cq _ _ _ a5 fun c hc o=>kp c (by rcases hc with rfl |rfl<;>simp) o⟩
 item:=fun k s Q E hk ⟨a1,a2,⟨a,b,a3⟩,a4,a5⟩ q=>by
  have ty:s.TypeIs (.ref z) "zip" :=⟨_,a1,rfl⟩;have ne:∀{c o},s.heap.get? c=some o->s.heap.objs.size≠c:=fun e=>Zdq (ZaC e);obtain⟨o1,g1⟩:=U1.here _ _ a4;obtain⟨o2,g2⟩:=U2.here _ _ a5;unfold pyNext;refine eg (ZdU (ZbL (name:=Str.ofString "__next__") ty ZfJ (Zbn ZfJ ty F.entry_zip_next (T4 U1 U2 D hk a1 a2 a3 a4 a5 fun h' c1 c2 c3 c4 c5 c6 c7=>gc ?_) (F.args_zip_next_1 _))));refine q s.heap.objs.size #[f k,g k] h' s.toks rfl (Zak _) ⟨_,c5,rfl,_,rfl⟩ ⟨c1,c7 _ _ D.TIz D.TITO D.TIi1 D.TIi2 a2,⟨_,_,c2⟩,c3,c4,fun m=> ?_⟩ fun c o hc e=>c7 c o (fun x=>hc (by simp[x])) (fun x=>hc (by simp[x])) (fun x=>hc (by simp[x])) (fun x=>hc (by simp[x])) e;simp only[Zav,ZcB,ZdT]at m;rcases m with m |m |m |m
  ·exact ne a1 m
  ·exact ne a3 m
  ·exact ne g1 m
  ·exact ne g2 m
 go:=fun elts kk pos k T s Q E ⟨a1,a2,⟨a,b,a3⟩,a4,a5,_⟩ q=>wpAny_letOwnedTupleGo_zip a1 fun h' z' s'=>by
  have ex:=s'.extBut;refine q h' ⟨z',ex _ _ D.TIz a2,⟨a,b,ex _ _ D.TOz a3⟩,U1.cq _ _ _ a4 fun c hc o ho=> ?_,U2.cq _ _ _ a5 fun c hc o ho=> ?_⟩ fun c o hc e=>ex _ _ (fun x=>hc (by simp[x])) e
  ·rcases hc with rfl |rfl<;>first |exact ex _ _ D.i1z ho |exact ex _ _ D.l1z ho
  ·rcases hc with rfl |rfl<;>first |exact ex _ _ D.i2z ho |exact ex _ _ D.l2z ho
 apart:=fun k T h ⟨_,_,_,_,_,t⟩=>t
 done:=fun s Q E ⟨a1,a2,⟨a,b,a3⟩,a4,a5⟩ q=>by have ty:s.TypeIs (.ref z) "zip" :=⟨_,a1,rfl⟩;unfold pyNext;refine eg (ZdU (ZbL (name:=Str.ofString "__next__") ty ZfJ (Zbn ZfJ ty F.entry_zip_next (S4 hh U1 D a1 a2 a3 a4 fun h' e kp he=> ?_) (F.args_zip_next_1 _))));obtain⟨o,ho,hc⟩:=he;refine eg (ZdP (T:= "StopIteration") (b:=true) ⟨o,ho,hc⟩ Zg8 (gc (q _ s.toks fun c o hc e=> ?_)));exact kp c o (fun x=>hc (by simp[x])) (fun x=>hc (by simp[x])) (fun x=>hc (by simp[x])) (fun x=>hc (by simp[x])) e
 self:=fun k s Q E st q=>ZeM st.1 q
end
theorem X7 {h:Heap}{l:Addr}{xs:Array Value}(t:IsTup h l xs)(o:Obj):IsTup (h.push o) l xs:=let ⟨u,hu,r⟩:=t;⟨u,Zad _ hu,r⟩
section
variable {X:Cx}{pins:List (Addr×Obj)}{σ:St}{H:Hp}{s:Shared}{fp:List Addr}
theorem Hq {T:Addr}{o:HO}(hf:∀b∈fp,bj X pins H b)(cR:s.heap.objs.size<=T)(yU:∀b∈fp,∃o,s.heap.get? b=some o/\∀v,o.data≠.cell v)(b:Addr)(hb:b∈fp):upd H T o b=none:=by obtain⟨o,ho,_⟩:=yU b hb;rw[Zi (Za1 (Za7 (ZaC ho) cR))];exact(hf b hb).1
end
theorem Y2 {z TI TO i1 i2 b:Addr}(hb:b∉[z,TI,TO,i1,i2]):b∉[z,TO,i1,i2]:=fun hm=>hb (by
 simp only[Zav,ZcB,ZdT]at hm |-;rcases hm with h |h |h |h
 ·exact .inl h
 ·exact .inr (.inr (.inl h))
 ·exact .inr (.inr (.inr (.inl h)))
 ·exact .inr (.inr (.inr (.inr h))))
theorem uv {z TI TO i1 i2:Addr}{P:Addr->Prop}(h1:P z)(h2:P TI)(h3:P TO)(h4:P i1)(h5:P i2):∀b∈[z,TI,TO,i1,i2],P b:=fun b hb=>by
 simp only[Zav,ZcB,ZdT]at hb;rcases hb with rfl |rfl |rfl |rfl |rfl
 ·exact h1
 ·exact h2
 ·exact h3
 ·exact h4
 ·exact h5
structure jg where
 sq:ZhK->Hp->Addr->List V->Prop
 it:Heap->Addr->Addr->Nat->Prop
 is:Heap->Addr->Array Value->Prop
 nm:String
noncomputable abbrev dh (k:jg) (l:Addr):Obj:= {cls:=.type k.nm,data:=.fields #[.ref l,.int 0 0]}
structure jQ (k:jg):Prop where
 inv:∀{X:Cx}{pins:List (Addr×Obj)}{σ:St}{H:Hp}{s:Shared}{l:Addr}{xs:List V},Inv X pins σ H s->k.sq X.K H l xs->∃aa:List Value,Vals xs aa/\k.is s.heap l aa.toArray
 inj:∀{X:Cx}{pins:List (Addr×Obj)}{σ:St}{H:Hp}{s:Shared}{l:Addr}{xs ys:List V},Inv X pins σ H s->k.sq X.K H l xs->k.sq X.K H l ys->xs=ys
 src:∀(prog:Program) (w:World) {i l:Addr} (aa:Array Value),l≠i->Src prog w i l aa.size (fun j=>aa.getD j .none) (fun j h=>k.it h i l j/\k.is h l aa)
 ob:∀{h:Heap}{i l:Addr}{j:Nat},k.it h i l j->∃o,h.get? i=some o/\∀v,o.data≠.cell v
 kp:∀{h h':Heap}{i l:Addr}{j:Nat},k.it h i l j->(∀o,h.get? i=some o->h'.get? i=some o)->k.it h' i l j
 lt:∀{h:Heap}{l:Addr}{aa:Array Value},k.is h l aa->l<h.objs.size
 push:∀{h:Heap}{l:Addr}{aa:Array Value} (o:Obj),k.is h l aa->k.is (h.push o) l aa
 new:∀{h:Heap}{i l:Addr},h.get? i=some (dh k l)->k.it h i l 0
 iter:∀{prog:Program}{w:World}{A:Around}{E:Value->Shared->Prop}{s:Shared}{l:Addr}{aa:Array Value}{Q:Value->Shared->Prop},k.is s.heap l aa->Q (.ref s.heap.objs.size) {s with heap:=s.heap.push (dh k l)}->wpAny (model prog w) A (pyIter (.ref l)) Q E s
abbrev mI:jg:=⟨ab,IsTupIter,IsTup, "tuple_iterator"⟩
theorem yt:jQ mI where
 inv:=fun I h=>let ⟨aa,r,p,_⟩:=I.tuple h;⟨aa,r,p⟩
 inj:=fun I h h'=>I.mF h h'
 src:=fun prog w _ _ aa bf=>Xb prog w aa bf
 ob:=fun⟨o,h,_,d⟩=> ⟨o,h,fun v z=>by rw[d]at z;cases z⟩
 kp:=fun⟨o,h,r⟩ k=> ⟨o,k o h,r⟩
 lt:=fun⟨o,h,_⟩=>ZaC h
 push:=fun o t=>X7 t o
 new:=fun h=> ⟨_,h,rfl,rfl⟩
 iter:=fun t q=>iter_tuple t q
section
variable {a b:jg}
noncomputable abbrev sO (a b:jg) (h:Heap) (l1 l2:Addr):Heap:=(h.push (dh a l1)).push (dh b l2)
noncomputable abbrev sN (a b:jg) (h:Heap) (l1 l2:Addr):Heap:=(sO a b h l1 l2).push {cls:=.type "tuple",data:=.seq #[.ref h.objs.size,.ref (h.push (dh a l1)).objs.size]}
noncomputable abbrev sJ (a b:jg) (h:Heap) (l1 l2:Addr):Heap:=(sN a b h l1 l2).push {cls:=.type "tuple",data:=.seq #[.none,.none]}
noncomputable abbrev nT (a b:jg) (h:Heap) (l1 l2:Addr):Heap:=(sJ a b h l1 l2).push {cls:=.type "zip",data:=.fields #[.none,.bool false,.bool false,.ref (sO a b h l1 l2).objs.size,.ref (sN a b h l1 l2).objs.size]}
theorem SY (ka:jQ a)(kb:jQ b)(l1 l2:Addr)(xs ys:Array Value):Meets (Builtin.«zip.__new__» ⟨[.type "zip",.ref l1,.ref l2],[]⟩) (fun _ R s=>a.is s.heap l1 xs/\b.is s.heap l2 ys/\R (.ok (.ret (.ref (sJ a b s.heap l1 l2).objs.size))) {s with heap:=nT a b s.heap l1 l2}):=
 .of_wp fun prog w A R s h=>by
  obtain⟨hp,gg,d,tk,os⟩:=s;obtain⟨t1,t2,h⟩:=h;have lN:=sub_zip;have T1:a.is (Shared.heap ⟨hp,gg,d,tk,os⟩) l1 xs:=t1;have T2:b.is (Shared.heap ⟨hp.push (dh a l1),gg,d,tk,os⟩) l2 ys:=kb.push _ t2
  wp_walk using ka.iter T1,kb.iter T2
  exact⟨_,rfl,h⟩
theorem Sb {prog:Program}{w:World}{A:Around}{E:Value->Shared->Prop}{s:Shared}{l1 l2:Addr}{xs ys:Array Value}{Q:Value->Shared->Prop}(ka:jQ a)(kb:jQ b)(t1:a.is s.heap l1 xs)(t2:b.is s.heap l2 ys)
    (q:∀h',IsZip h' (s.heap.objs.size+4) (s.heap.objs.size+2) (s.heap.objs.size+3) .none->IsPair h' (s.heap.objs.size+2) (.ref s.heap.objs.size) (.ref (s.heap.objs.size+1))->IsPair h' (s.heap.objs.size+3) .none .none->
      a.it h' s.heap.objs.size l1 0->b.it h' (s.heap.objs.size+1) l2 0->(∀c o,s.heap.get? c=some o->h'.get? c=some o)->Q (.ref (s.heap.objs.size+4)) {s with heap:=h'}):
    wpAny (model prog w) A (call (.type "zip") [.ref l1,.ref l2]) Q E s:=by
  refine callType_new F.called_zip .d (F.typeCall_zip_2 _ _) (F.newCall_zip_2 _ _) (fun obj=>F.args_object_init_3 obj _ _) F.entry_zip_new (SY ka kb l1 l2 xs ys) ⟨t1,t2,?_⟩;have y1:(s.heap.push (dh a l1)).objs.size=s.heap.objs.size+1:=Zc5 ..;have y2:(sO a b s.heap l1 l2).objs.size=s.heap.objs.size+2:=by rw[Zc5,y1]
  have y3:(sN a b s.heap l1 l2).objs.size=s.heap.objs.size+3:=by rw[Zc5,y2]
  have y4:(sJ a b s.heap l1 l2).objs.size=s.heap.objs.size+4:=by rw[Zc5,y3]
  have p:∀{h:Heap}{c:Addr}{o u:Obj},h.get? c=some o->(h.push u).get? c=some o:=fun e=>Zad _ e;have x5:(nT a b s.heap l1 l2).get? (sJ a b s.heap l1 l2).objs.size=some _:=Zar _ rfl;have x4:(nT a b s.heap l1 l2).get? (sN a b s.heap l1 l2).objs.size=some _:=p (Zar _ rfl);have x3:(nT a b s.heap l1 l2).get? (sO a b s.heap l1 l2).objs.size=some _:=p (p (Zar _ rfl));have x2:(nT a b s.heap l1 l2).get? (s.heap.push (dh a l1)).objs.size=some _:=p (p (p (Zar _ rfl)));have x1:(nT a b s.heap l1 l2).get? s.heap.objs.size=some _:=p (p (p (p (Zar _ rfl))));show _/\_;rw[y2,y3,y4]at x5;rw[y1,y2]at x3;rw[y3]at x4;rw[y1]at x2;rw[y4];exact⟨⟨_,x5,rfl⟩,q _ x5 x3 x4 (ka.new x1) (kb.new x2) fun c o x=>p (p (p (p (p x))))⟩
def A6 (a b:jg)(K:ZhK)(l1 l2:Addr):It:=
 ⟨fun i H=> ∃xs ys x y,a.sq K H l1 xs/\b.sq K H l2 ys/\xs.length=ys.length/\xs[i]? =some x/\ys[i]? =some y,
  fun i H v H'=> ∃(T:Addr) (x y:V),v=.ref T/\H T=none/\H'=upd H T (.par [x,y])/\∀xs ys,a.sq K H l1 xs->b.sq K H l2 ys->xs[i]? =some x/\ys[i]? =some y,
  fun i H=> ∃xs ys,a.sq K H l1 xs/\b.sq K H l2 ys/\xs.length=i/\ys.length=i⟩
theorem Xf (ka:jQ a)(kb:jQ b){P:Program}{w:World}{K:ZhK}{elts:List Expr}{kk:Nat}{pos:Pos}(z TI TO i1 i2 l1 l2:Addr)(D:ZipApart z TI TO i1 i2 l1 l2):
  Turn P w K (.Tuple elts kk pos) (A6 a b K l1 l2) [z,TI,TO,i1,i2] z (fun i h=>IsZip h z TI TO .none/\IsPair h TI (.ref i1) (.ref i2)/\(∃a b,IsPair h TO a b)/\a.it h i1 l1 i/\b.it h i2 l2 i) where
 mem:=by simp
 obj:=fun i h st b hb=>by obtain⟨a1,a2,⟨u,v,a3⟩,a4,a5⟩:=st;exact uv (P:=fun b=> ∃o,h.get? b=some o/\∀v,o.data≠.cell v) ⟨_,a1,fun v z=>by cases z⟩ ⟨_,a2,fun v z=>by cases z⟩ ⟨_,a3,fun v z=>by cases z⟩ (ka.ob a4) (kb.ob a5) b hb
 keep:=fun i h h' st k=>by obtain⟨a1,a2,⟨u,v,a3⟩,a4,a5⟩:=st;exact⟨k z (by simp) _ a1,k TI (by simp) _ a2,⟨u,v,k TO (by simp) _ a3⟩,ka.kp a4 (k i1 (by simp)),kb.kp a5 (k i2 (by simp))⟩
 item:=by
  intro X hP hw hK hc i pins s σ H E I hf st hg;subst hP hw hK;obtain⟨xs,ys,x,y,fO,cP,DY,hx,hy⟩:=hg;obtain⟨dG,jw,dN⟩:=ka.inv I fO;obtain⟨eU,fG,cO⟩:=kb.inv I cP;obtain⟨u,hu,ru⟩:=jw.get hx;obtain⟨v,hv,rv⟩:=fG.get hy;have yO:eU.toArray.size=dG.toArray.size:=by have e1:=jw.length;have e2:=fG.length;simp only[Zap];omega
  have nh:i<dG.toArray.size:=by have e1:=(Zaa.mp hu).1;simp only[Zap];omega
  have U2:=kb.src X.prog X.w eU.toArray D.l2i2;rw[yO]at U2;have W:=Hl (A:=X.A) (I.ok.hd hc) (ka.src X.prog X.w dG.toArray D.l1i1) U2 D;obtain⟨a1,a2,a3,a4,a5⟩:=st;refine W.item i s _ _ nh ⟨a1,a2,a3,⟨a4,dN⟩,⟨a5,cO⟩⟩ fun T vals h' tk hP cR nB iY hk=> ⟨_,rfl,W.go elts kk pos i T _ _ _ iY fun da dq bW=> ?_⟩;have kg:dG.toArray.getD i .none=u:=by simp[ZbC,hu]
  have dQ:eU.toArray.getD i .none=v:=by simp[ZbC,hv]
  rw[kg,dQ]at hP;subst hP;have both:∀b o,b∉[z,TI,TO,i1,i2]->s.heap.get? b=some o->da.get? b=some o:=fun b o hb q=>bW b o (Y2 hb) (hk b o (Y2 hb) q);have rD:da.IsTuple T #[u,v]:=nB.at fun o q=>bW T o (W.apart _ _ _ iY) q;refine⟨.ref T,upd H T (.par [x,y]),JA (s:=s) (h':=da) (tk:=tk) I hf both cR rD ru rv,rfl,⟨T,x,y,rfl,I.aq.fresh cR,rfl,fun as bs ha hb=>by rw[ka.inj I ha fO,kb.inj I hb cP];exact⟨hx,hy⟩⟩,⟨dq.1,dq.2.1,dq.2.2.1,dq.2.2.2.1.1,dq.2.2.2.2.1⟩,Hq hf cR ?_⟩;obtain⟨u',v',Af⟩:=a3;exact uv (P:=fun b=> ∃o,s.heap.get? b=some o/\∀v,o.data≠.cell v) ⟨_,a1,fun v z=>by cases z⟩ ⟨_,a2,fun v z=>by cases z⟩ ⟨_,Af,fun v z=>by cases z⟩ (ka.ob a4) (kb.ob a5)
 done:=by
  intro X hP hw hK hc i pins s σ H E I hf st hg;subst hP hw hK;obtain⟨xs,ys,fO,cP,hx,hy⟩:=hg;obtain⟨dG,jw,dN⟩:=ka.inv I fO;obtain⟨eU,fG,cO⟩:=kb.inv I cP;have e1:=jw.length;have e2:=fG.length;have yO:eU.toArray.size=dG.toArray.size:=by simp only[Zap];omega
  have U2:=kb.src X.prog X.w eU.toArray D.l2i2;rw[yO]at U2;have W:=Hl (A:=X.A) (I.ok.hd hc) (ka.src X.prog X.w dG.toArray D.l1i1) U2 D;have hn:i=dG.toArray.size:=by simp only[Zap];omega
  obtain⟨a1,a2,a3,a4,a5⟩:=st;rw[hn]at a4 a5;exact W.done s _ _ ⟨a1,a2,a3,⟨a4,dN⟩,⟨a5,cO⟩⟩ fun h' tk hk=> ⟨rfl,Ws (s:=s) (h':=h') (tk:=tk) I hf fun b o hb q=>hk b o (Y2 hb) q⟩
 self:=fun A i s Q E st h=>ZeM st.1 h
variable {X:Cx}{elts:List Expr}{kk:Nat}{tp:Pos}
def yE (a b:jg)(K:ZhK)(ta:TA):TI:=fun σ H R=>ta σ H fun vs H1=> ∃l1 l2,vs=[.ref l1,.ref l2]/\(∃xs ys,a.sq K H1 l1 xs/\b.sq K H1 l2 ys)/\R (A6 a b K l1 l2) H1
theorem Gf (ka:jQ a)(kb:jQ b){x y:Expr}{ta:TA}{p pos:Pos}(hg:Gl X "zip")(hm:X.mg "zip" =none)(ha:PA X [x,y] ta)(hs:starEach [x,y] X.env=[(false,eval x X.env),(false,eval y X.env)])(dH:starEach [y] X.env=[(false,eval y X.env)]):
  PI X (.Tuple elts kk tp) (.Call (.Name "zip" p) [x,y] [] pos) (yE a b X.K ta):=by
 intro pins s σ H R I h;refine Call_ (Z8 I hg hm PyProof.Rows.Boot.«zip» (Zcs (au (ha pos pins s σ H _ I h) fun us s1 ae=> ?_) (by rw[hs,dH]) (by rw[dH];rfl)));obtain⟨vs,H1,I1,r1,q1⟩:=ae;obtain⟨l1,l2,e,⟨xs,ys,fO,cP⟩,q⟩:=q1;subst e;obtain⟨u,v,rfl,ru,rv⟩:=vals2 r1;cases ru;cases rv;obtain⟨dG,jw,dN⟩:=ka.inv I1 fO;obtain⟨eU,fG,cO⟩:=kb.inv I1 cP;have D:=Uo s1.heap.objs.size l1 l2 (ka.lt dN) (kb.lt cO);refine Sb ka kb dN cO fun h' b1 b2 b3 b4 b5 hk=>ZeM b1 ?_;have I2:Inv X pins σ H1 {s1 with heap:=h'} :=I1.kept (t':=s1.toks) hk;refine⟨s1.heap.objs.size+4,[s1.heap.objs.size+4,s1.heap.objs.size+2,s1.heap.objs.size+3,s1.heap.objs.size,s1.heap.objs.size+1],_,_,H1,rfl,I2,
  Xf ka kb _ _ _ _ _ l1 l2 D,⟨b1,b2,⟨_,_,b3⟩,b4,b5⟩,fun b hb=> ?_,q⟩
 have i6:s1.heap.objs.size<=b:=by simp only[Zav,ZcB,ZdT]at hb;rcases hb with z |z |z |z |z<;>rw[z]<;>first |exact Zak _ |exact Zep _ _
 exact I1.jb i6 (I1.aq.fresh i6)
theorem UH {K:ZhK}{l1 l2:Addr}{xs zs:List V}{g:TG}{tt:TT}{ti:TC}{ys:List V}{σ:St}{H:Hp}{Q:List V->St->Hp->Prop}(hlen:xs.length=zs.length)(Pv:Nat->List V->St->Hp->Prop)(h0:Pv 0 ys σ H)
  (hl:∀i ys σ H,i<=xs.length->Pv i ys σ H->a.sq K H l1 xs/\b.sq K H l2 zs)
  (hs:∀i x y T ys σ H,xs[i]? =some x->zs[i]? =some y->H T=none->Pv i ys σ H->g (.ref T) σ (upd H T (.par [x,y])) fun aQ H2=>tt aQ H2 fun b H3=>if b=true then ti ys aQ H3 (Pv (i+1)) else Pv (i+1) ys aQ H3)
  (hd:∀ys σ H,Pv xs.length ys σ H->Q ys σ H):gU g tt ti (A6 a b K l1 l2) ys σ H Q:=by
 refine⟨fun i m ys σ H=>m=xs.length-i/\i<=xs.length/\Pv i ys σ H,⟨xs.length,by simp,ZaM _,h0⟩,?_⟩;rintro i m ys σ H ⟨rfl,hi,p⟩;obtain⟨q1,q2⟩:=hl i ys σ H hi p;by_cases aw:i<xs.length
 ·refine .inr ⟨⟨xs,zs,xs[i],zs[i]'(by omega),q1,q2,hlen,by simp[aw],by simp[hlen▸aw]⟩,Pv (i+1),fun aF ak H' p'=> ⟨xs.length-(i+1),.o,rfl,aw,p'⟩,fun x H' y=> ?_⟩;obtain⟨T,a,b,e1,e2,e3,e4⟩:=y;subst e1 e3;obtain⟨f1,f2⟩:=e4 xs zs q1 q2;exact hs i a b T ys σ H f1 f2 e2 p
 ·have e:i=xs.length:=.o;subst e;exact .inl ⟨⟨xs,zs,q1,q2,rfl,hlen.symm⟩,hd ys σ H p⟩
end
section
variable {X:Cx}{elts:List Expr}{kk:Nat}{tp:Pos}
abbrev Np:=yE mI mI
theorem Vb {a b:Expr}{ta:TA}{p pos:Pos}(hg:Gl X "zip")(hm:X.mg "zip" =none)(ha:PA X [a,b] ta)(hs:starEach [a,b] X.env=[(false,eval a X.env),(false,eval b X.env)]:=by rfl)(dH:starEach [b] X.env=[(false,eval b X.env)]:=by rfl):
  PI X (.Tuple elts kk tp) (.Call (.Name "zip" p) [a,b] [] pos) (Np X.K ta):=Gf yt yt hg hm ha hs dH
abbrev XA {K:ZhK}{l1 l2:Addr} := @UH mI mI K l1 l2
end
end L2
namespace L2
open PySem PySem.Spec PyProof.Rows SeqAt
section
variable {X:Cx}
theorem Sz (hu:X.A.units<cLine):aV X (compareOp .Eq) (fun x y H Q=> ∃(a b:Addr) (ns ms:List Int),x=.ref a/\y=.ref b/\ab X.K H a (ns.map V.int)/\ab X.K H b (ms.map V.int)/\Q (.bl (decide (ns=ms))) H):=by
 intro pins s σ H x y u v Q I rx ry h;obtain⟨a,b,ns,ms,rfl,rfl,ha,hb,q⟩:=h;cases rx;cases ry;obtain⟨us,r1,p1,_⟩:=I.tuple ha;obtain⟨vs,r2,p2,_⟩:=I.tuple hb;have l1:=r1.length;have l2:=r2.length;rw[Zal]at l1 l2;refine eq_tupleAt (e:=fun j=>ns.getD j 0==ms.getD j 0) p1 p2 hu (fun j h1 h2=> ?_) ?_
 ·obtain⟨t1,e1⟩:=UN r1 j (by simpa using h1);obtain⟨t2,e2⟩:=UN r2 j (by simpa using h2);rw[show us.toArray[j]=us[j]'(by simpa using h1) by simp,show vs.toArray[j]=vs[j]'(by simpa using h2) by simp,e1,e2];exact ZdR _ _ _ _
 ·have e:((List.range (min us.toArray.size vs.toArray.size)).all (fun j=>ns.getD j 0==ms.getD j 0)&&us.toArray.size==vs.toArray.size)=decide (ns=ms):=by
   rw[Zcb,Za5,Zbd,Zbg,Zd8,Zap,Zap];constructor
   ·rintro⟨h,hl⟩;refine ZeN .o fun i h1 h2=> ?_;have:=h i (by rw[Za6];omega);simpa[h1,h2] using this
   ·rintro rfl;exact⟨fun j _=>by simp,.o⟩
  rw[e];exact⟨.bl _,H,I,rfl,q⟩
end
end L2
namespace L2
open PySem PySem.Spec PyProof.Rows
theorem JM:fillsNumberSlot (.type "tuple") "mul" =pure false:=
 PySem.fillsNumberSlot_seq (id:= "tuple.__mul__") (r:=some (.builtin "tuple.__rmul__")) Zeu.lookup (by decide+kernel) PySem.F.slot_tuple_rmul.lookup (by decide+kernel)
theorem Zab:seqRepeat? (.type "tuple")=pure (some (.builtin "tuple.__mul__")):=by unfold seqRepeat?;rw[PySem.seqSlot_of (T:= "tuple") (name:= "__mul__") (id:= "tuple.__mul__") Zeu.lookup (by decide+kernel),PySem.seqSlot_of (T:= "tuple") (name:= "__rmul__") (id:= "tuple.__rmul__") PySem.F.slot_tuple_rmul.lookup (by decide+kernel)];rfl
theorem WA (a:Int)(t:Tok)(l:Addr)(items:Array Value)(n:Nat)(d:Option Addr)(sl:Array (Option Value)):
  Meets (Builtin.«int.__rmul__» ⟨[.int a t,.ref l],[]⟩) (fun _ R s=>s.heap.get? l=some {cls:=.type "tuple",dict:=d,data:=.seq items n,slots:=sl}/\R (.ok (.ret Value.notImplemented)) s):=
 .of_wp fun prog w A R s h=>by obtain⟨hp,g,d,tk,os⟩:=s;obtain⟨hl,h⟩:=h;wp_walk;exact⟨_,rfl,h⟩
theorem Uh (l:Addr)(items:Array Value)(n:Nat)(d:Option Addr)(sl:Array (Option Value))(u:Tok):
  Meets (Builtin.«tuple.__mul__» ⟨[.ref l,.int 1 u],[]⟩) (fun _ R s=>s.heap.get? l=some {cls:=.type "tuple",dict:=d,data:=.seq items n,slots:=sl}/\R (.ok (.ret (.ref l))) s):=
 .of_wp fun prog w A R s h=>by
  obtain⟨hp,g,d,tk,os⟩:=s;obtain⟨hl,h⟩:=h
  wp_walk;exact⟨_,rfl,h⟩
theorem WJ (l:Addr)(items:Array Value)(n:Nat)(d:Option Addr)(sl:Array (Option Value))(x:Int)(u:Tok)(h0:items.isEmpty=false)(h1:(x==1)=false)(h2:1<=x)(hs:items.size*x.toNat<=1000)(hx:x<=1000)(hz:(List.foldl (fun x1 x2=>x1++x2) #[] (List.replicate x.toNat items)).size<=sizeLine):
  Meets (Builtin.«tuple.__mul__» ⟨[.ref l,.int x u],[]⟩) (fun _ R s=>s.heap.get? l=some {cls:=.type "tuple",dict:=d,data:=.seq items n,slots:=sl}/\R (.ok (.ret (Value.ref s.heap.objs.size))) {s with heap:=s.heap.push {cls:=Value.type "tuple",data:=Data.seq (List.foldl (fun x1 x2=>x1++x2) #[] (List.replicate x.toNat items))},toks:=s.toks}):=
 .of_wp fun prog w A R s h=>by
  obtain⟨hp,g,d,tk,os⟩:=s;obtain⟨hl,h⟩:=h;have a1:decide (x< -(2^63))=false:=ZaF .o;have a2:decide (x>=2^63)=false:=ZaF .o;have a3:decide (x<=0)=false:=ZaF .o;have hn:(items.size:Int)*x<=1000:=by
   have e:x=(x.toNat:Int):=.o;rw[e]
   exact_mod_cast hs
  have a4:¬((items.size:Int)*x> (2^63-1)/8):=.o;have a5:Builtin.Tuple.tupleTooMany ((items.size:Int)*x)=false:=by unfold Builtin.Tuple.tupleTooMany;have e:=ZaX;simp;omega
  wp_walk
  rw[Zaz (by rw[a1,a2];decide)];have ht:IsTup hp l items:=⟨_,hl,rfl,n,rfl⟩;refine eg (tupleItemsOf_ ht ?_);dsimp only;rw[Zaz (by rw[h0,h1];decide),Zaz (by rw[a3,h0];decide),Zaz a4,a5,Zaz Zag]
  wp_walk;exact⟨_,rfl,h⟩
section
variable {X:Cx}
inductive Lp (x:V) (y:V) (H:Hp) (Q:VK):Prop
 |mk (a k xs:_) (_:x=.ref a) (_:y=.int k) (_:H a=some (.tup xs)) (_:xs≠[]) (_:1<=k) (_:k<=1000) (_:xs.length*k.toNat<=1000) (_:∀(c:Addr) H',ag H H'->H' c=some (.tup (List.replicate k.toNat xs).flatten)->Q (.ref c) H')
theorem Gd:aV X (binaryOp .Mult) Lp:=by
  intro pins s σ H x y v u Q I rx ry h;obtain⟨l,k,xs,rfl,rfl,hH,bf,h1,h2,hz,q⟩:=h;cases rx;obtain⟨t,rfl⟩:=ry;obtain⟨aa,r,pl,_⟩:=I.tuple (ab.of hH);have hl:=r.length;obtain⟨⟨cls,dd,data,sl⟩,ho,lZ,n,hd⟩:=id pl;simp only at lZ hd;subst lZ hd;have f0:∀m:Nat,List.foldl (fun x1 x2=>x1++x2) #[] (List.replicate m aa.toArray)=(List.replicate m aa).flatten.toArray:=fun m=>by have:=JS aa m [];rw[Zdn]at this;exact this
  have hsz:aa.toArray.size*k.toNat<=1000:=by rw[Zap,<-hl];exact hz
  have h0:aa.toArray.isEmpty=false:=by
    cases aa with
    |nil=>
     cases xs with
     |nil=>exact absurd rfl bf
     |cons a b=>cases hl
    |cons a b=>rfl
  refine ZfZ (T:= "tuple") (U:= "int") .d ⟨_,ho,rfl⟩ (fun s'=>Zg0 s' k t) JM PySem.F.fills_int_mul PySem.F.slot_int_rmul Zab PySem.F.slot_int_index.lookup
    (ZeG PySem.F.slot_int_rmul (Zg0 s k t) PySem.F.entry_int_rmul (PySem.F.args_int_rmul_2 _ _) (WA k t l aa.toArray n dd sl)
      ⟨ho,rfl,⟨_,ho,rfl⟩,?_⟩)
  by_cases hk:k=1
  · subst hk;refine ZeG Zeu ⟨_,ho,rfl⟩ PySem.F.entry_tuple_mul (Zf8 _ _) (Uh l aa.toArray n dd sl t) ⟨ho,⟨.ref l,H,I,rfl,q l H (ag.refl _) ?_⟩⟩;rw[hH];simp
  · refine ZeG Zeu ⟨_,ho,rfl⟩ PySem.F.entry_tuple_mul (Zf8 _ _) (WJ l aa.toArray n dd sl k t h0 (by simpa using hk) h1 hsz h2 ?_) ⟨ho,?_⟩
    · rw[f0,Zap,AH,ZaX];rw[Zap,Nat.mul_comm]at hsz;omega
    · rw[f0];refine⟨.ref s.heap.objs.size,upd H s.heap.objs.size (.tup (List.replicate k.toNat xs).flatten),?_,rfl,q _ _ (fun b o hb=>by rw[Zi (Zh hb I.fresh)];exact hb) Zd⟩;refine I.laid (t':=s.toks) (fun b o e=>Zad _ e) (Zak _) ⟨by rw[AH,ZaX,Nat.mul_comm];omega,_,r.rep k.toNat,?_⟩;exact⟨⟨_,Zar s.heap rfl,rfl,0,rfl⟩,_,Zar s.heap rfl,rfl⟩
end
end L2
namespace PyProof.Rows.dc
open PySem
def Pr:Bool->Keyed->Array Keyed->Nat->Nat->Nat->StateT SortSt Sem (Option Nat):=sortPriv%PySem.Builtin.gallop
noncomputable def vt (left:Bool)(key:Keyed)(arr:Array Keyed)(base:Nat)(i:Nat):StateT SortSt Sem (Option Bool):=
 elem' arr (base+i) >>=fun x=>if left=true then lt' x key else lt' key x >>=fun c=>pure (c.map fun z=> !z)
structure Ord (r:Keyed->Keyed->Bool):Prop where
 gw:∀x y,r x y=true->r y x=false
 dP:∀x y z,r y x=false->r z y=false->r z x=false
theorem Ord.lj {r:Keyed->Keyed->Bool}(o:Ord r)(x:Keyed):r x x=false:=by
 cases h:r x x with
 |false=>rfl
 |true=>have:=o.gw x x h;rw[h]at this;cases this
section
variable {prog:Program}{w:World}{A:Around}{E:Value->Shared->Prop}{s:Shared}{κ:SortKind}{a₀:Array Keyed}{r:Keyed->Keyed->Bool}
def jm (prog:Program)(w:World)(A:Around)(E:Value->Shared->Prop)(s:Shared)(κ:SortKind)(a₀:Array Keyed)(r:Keyed->Keyed->Bool):Prop:=
 ∀(x y:Keyed) (st:SortSt) (Q:Option Bool->SortSt->Prop),x∈a₀.toList->y∈a₀.toList->kindOf st=κ->Q (some (r x y)) st->wpS (model prog w) A E s (lt' x y) Q st
theorem Zt {arr:Array Keyed}{i:Nat}{x:Keyed}{Q:Keyed->SortSt->Prop}{st:SortSt}(hx:arr[i]? =some x)(h:Q x st):wpS (model prog w) A E s (elem' arr i) Q st:=by rw[elem'_eq,hx];exact ZaP h
theorem ZG {σ α:Type}{c:Prop}[Decidable c]{t e:StateT σ Sem α}{Q:α->σ->Prop}{st:σ}(h1:c->wpS (model prog w) A E s t Q st)(h2:¬c->wpS (model prog w) A E s e Q st):wpS (model prog w) A E s (if c then t else e) Q st:=by
 by_cases h:c
 ·rw[ZaQ h];exact h1 h
 ·rw[Zaz h];exact h2 h
theorem ZH {σ α:Type}{x y:Nat}{t e:StateT σ Sem α}{Q:α->σ->Prop}{st:σ}(h1:x=y->wpS (model prog w) A E s t Q st)(h2:¬x=y->wpS (model prog w) A E s e Q st):wpS (model prog w) A E s (if (x==y)=true then t else e) Q st:=
 ZG (fun h=>h1 (Zd8.mp h)) (fun h=>h2 fun z=>h (Zd8.mpr z))
theorem Aw {σ α:Type}{b:Bool}{t e:StateT σ Sem α}{Q:α->σ->Prop}{st:σ}(h1:b=true->wpS (model prog w) A E s t Q st)(h2:b=false->wpS (model prog w) A E s e Q st):wpS (model prog w) A E s (if b=true then t else e) Q st:=
 ZG h1 (fun h=>h2 (Zf9.mpr h))
theorem FJ {σ α γ:Type}{c:Prop}[Decidable c]{j:Unit->γ->StateT σ Sem α}{x y:γ}{Q:α->σ->Prop}{st:σ}(h:∀x,wpS (model prog w) A E s (j () x) Q st):wpS (model prog w) A E s (if c then j () x else j () y) Q st:=
 ZG (fun _=>h _) (fun _=>h _)
theorem vB {σ α γ δ:Type}{c:Prop}[Decidable c]{j:Unit->γ->δ->StateT σ Sem α}{t:StateT σ Sem α}{x:γ}{y:δ}{Q:α->σ->Prop}{st:σ}(P:γ->δ->Prop)(h:∀x y,P x y->wpS (model prog w) A E s (j () x y) Q st)
  (h1:c->(∀x y,P x y->wpS (model prog w) A E s (j () x y) Q st)->wpS (model prog w) A E s t Q st) (h2:¬c->P x y):wpS (model prog w) A E s (if c then t else j () x y) Q st:=
 ZG (fun z=>h1 z h) (fun z=>h _ _ (h2 z))
theorem FK {σ α:Type}{c:Prop}[Decidable c]{j:Unit->StateT σ Sem α}{t:StateT σ Sem α}{Q:α->σ->Prop}{st:σ}(P:σ->Prop)(h:∀af,P af->wpS (model prog w) A E s (j ()) Q af)
  (h1:c->(∀af,P af->wpS (model prog w) A E s (j ()) Q af)->wpS (model prog w) A E s t Q st) (h2:¬c->P st):wpS (model prog w) A E s (if c then t else j ()) Q st:=
 ZG (fun z=>h1 z h) (fun z=>h _ (h2 z))
def bp (r:Keyed->Keyed->Bool)(left:Bool)(key x:Keyed):Bool:=if left=true then r x key else !r key x
theorem ZbP {left:Bool}{key:Keyed}{arr:Array Keyed}{base i:Nat}{x:Keyed}{Q:Option Bool->SortSt->Prop}{st:SortSt}(hc:jm prog w A E s κ a₀ r)(hk:kindOf st=κ)(hx:arr[base+i]? =some x)(mx:x∈a₀.toList)(mk:key∈a₀.toList)(h:Q (some (bp r left key x)) st):
  wpS (model prog w) A E s (vt left key arr base i) Q st:=by
 unfold vt;refine ZaE (Zt hx ?_);cases left with
 |true=>rw[ZaQ rfl];exact hc _ _ _ _ mx mk hk h
 |false=>rw[Zaz Zag];exact ZaE (hc _ _ _ _ mk mx hk (ZaP h))
theorem Yb {left:Bool}{key:Keyed}{arr:Array Keyed}{base n hint:Nat}{Q:Option Nat->SortSt->Prop}{st:SortSt}(hc:jm prog w A E s κ a₀ r)(hk:kindOf st=κ)(p:Nat->Bool)
  (hp:∀i,i<n->∃x,arr[base+i]? =some x/\x∈a₀.toList/\p i=bp r left key x) (mk:key∈a₀.toList) (mono:∀i j,i<=j->j<n->p j=true->p i=true) (hh:hint<n)
  (h:∀k,k<=n->(∀i,i<k->p i=true)->(∀i,k<=i->i<n->p i=false)->Q (some k) st):wpS (model prog w) A E s (Pr left key arr base n hint) Q st:=by
 have rS:∀{i:Nat}{Q:Option Bool->SortSt->Prop},i<n->Q (some (p i)) st->wpS (model prog w) A E s (vt left key arr base i) Q st:=fun {i Q} hi hq=>by obtain⟨x,e,m,ep⟩:=hp i hi;exact ZbP hc hk e m mk (by rw[<-ep];exact hq)
 have down:∀i j,i<=j->j<n->p i=false->p j=false:=fun i j cZ hj hf=>by
  cases hh:p j with
  |false=>rfl
  |true=>rw[mono i j cZ hj hh]at hf;cases hf
 show wpS (model prog w) A E s (vt left key arr base hint >>=_) _ _;dsimp only;refine ZaE (rS hh ?_);cases DP:p hint with
 |true=>
  dsimp only;rw[ZaQ rfl];refine ZaE (Zex (ZcF (I:=fun x c af=>af=st/\∃ck bZ,c=(none,ck,bZ)/\hint+ck<n/\p (hint+ck)=true/\ck<bZ/\x+1<=bZ) (Q:=fun c af=>af=st/\∃ck bZ,c=(none,ck,bZ)/\hint+ck<n/\p (hint+ck)=true/\ck<bZ/\∀i,hint+bZ<=i->i<n->p i=false) ?_ ?_ ⟨rfl,0,1,rfl,hh,DP,Nat.one_pos,Zak _⟩) ?_)
  ·rintro x c af _ hx ⟨rfl,ck,bZ,rfl,q1,q2,q3,q4⟩;dsimp only;refine ZG (fun gf=>ZaP ⟨rfl,_,_,rfl,q1,q2,q3,fun i h1 h2=>.o⟩) (fun gf=>ZaE (rS .o ?_));cases qW:p (hint+bZ) with
   |true=>exact ZaP ⟨rfl,bZ,2*bZ+1,rfl,.o,qW,.o,.o⟩
   |false=>exact ZaP ⟨rfl,_,_,rfl,q1,q2,q3,fun i h1 h2=>down (hint+bZ) i h1 h2 qW⟩
  ·rintro c af ⟨rfl,ck,bZ,rfl,q1,q2,q3,q4⟩;rw[Zbx (ZaM n)]at q4;exact⟨rfl,_,_,rfl,q1,q2,q3,fun i h1 h2=>.o⟩
  ·rintro c af ⟨rfl,ck,bZ,rfl,q1,q2,q3,q4⟩;dsimp only;refine ZaE (ZcF (I:=fun x c av=>av=af/\∃lo hi,c=(none,lo,hi)/\lo<=hi/\hi<=n/\(∀i,i<lo->p i=true)/\(∀i,hi<=i->i<n->p i=false)/\hi-lo<=n-x) ?_ ?_ ⟨rfl,_,_,rfl,.o,.o,(fun i hi=>mono i (hint+ck) .o q1 q2),(fun i h1 h2=>q4 i .o h2),.o⟩)
   ·rintro x c av _ hx ⟨rfl,lo,hi,rfl,h1,h2,h3,h4,h5⟩;dsimp only;refine ZG (fun gf=> ?_) (fun gf=> ?_)
    ·have e:=ZfK h1 gf;subst e;exact ZaP (ZaP (h lo h2 h3 h4))
    ·have hm:lo+(hi-lo)/2<hi:=.o;have rb:=Zep lo ((hi-lo)/2);generalize em:lo+(hi-lo)/2=m at hm rb;refine ZaE (rS .o ?_);cases qX:p m with
     |true=>exact ZaP ⟨rfl,m+1,hi,rfl,hm,h2,fun i aY=>mono i m (Nat.le_of_lt_succ aY) .o qX,h4,.o⟩
     |false=>exact ZaP ⟨rfl,lo,m,rfl,rb,.o,h3,fun i h1 h2=>down m i h1 h2 qX,.o⟩
   ·rintro c av ⟨rfl,lo,hi,rfl,h1,h2,h3,h4,h5⟩;rw[Zbx (ZaM n)]at h5;have e:lo=hi:=.o;subst e;exact ZaP (h lo h2 h3 h4)
 |false=>
  dsimp only;rw[Zaz Zag];refine ZaE (Zex (ZcF (I:=fun x c af=>af=st/\∃ck bZ,c=(none,ck,bZ)/\ck<=hint/\p (hint-ck)=false/\ck<bZ/\x+1<=bZ) (Q:=fun c af=>af=st/\∃ck bZ,c=(none,ck,bZ)/\ck<=hint/\p (hint-ck)=false/\ck<bZ/\∀i,i+bZ<=hint->p i=true) ?_ ?_ ⟨rfl,0,1,rfl,ZaM _,DP,Nat.one_pos,Zak _⟩) ?_)
  ·rintro x c af _ hx ⟨rfl,ck,bZ,rfl,q1,q2,q3,q4⟩;dsimp only;refine ZG (fun gf=>ZaP ⟨rfl,_,_,rfl,q1,q2,q3,fun i h1=>.o⟩) (fun gf=>ZaE (rS .o ?_));cases qW:p (hint-bZ) with
   |true=>exact ZaP ⟨rfl,_,_,rfl,q1,q2,q3,fun i h1=>mono i (hint-bZ) (Nat.le_sub_of_add_le h1) .o qW⟩
   |false=>exact ZaP ⟨rfl,bZ,2*bZ+1,rfl,.o,qW,.o,.o⟩
  ·rintro c af ⟨rfl,ck,bZ,rfl,q1,q2,q3,q4⟩;rw[Zbx (ZaM n)]at q4;exact⟨rfl,_,_,rfl,q1,q2,q3,fun i h1=>.o⟩
  ·rintro c af ⟨rfl,ck,bZ,rfl,q1,q2,q3,q4⟩;dsimp only;refine ZaE (ZcF (I:=fun x c av=>av=af/\∃lo hi,c=(none,lo,hi)/\lo<=hi/\hi<=n/\(∀i,i<lo->p i=true)/\(∀i,hi<=i->i<n->p i=false)/\hi-lo<=n-x) ?_ ?_ ⟨rfl,_,_,rfl,.o,.o,(fun i hi=>q4 i .o),(fun i h1 h2=>down (hint-ck) i .o h2 q2),.o⟩)
   ·rintro x c av _ hx ⟨rfl,lo,hi,rfl,h1,h2,h3,h4,h5⟩;dsimp only;refine ZG (fun gf=> ?_) (fun gf=> ?_)
    ·have e:=ZfK h1 gf;subst e;exact ZaP (ZaP (h lo h2 h3 h4))
    ·have hm:lo+(hi-lo)/2<hi:=.o;have rb:=Zep lo ((hi-lo)/2);generalize em:lo+(hi-lo)/2=m at hm rb;refine ZaE (rS .o ?_);cases qX:p m with
     |true=>exact ZaP ⟨rfl,m+1,hi,rfl,hm,h2,fun i aY=>mono i m (Nat.le_of_lt_succ aY) .o qX,h4,.o⟩
     |false=>exact ZaP ⟨rfl,lo,m,rfl,rb,.o,h3,fun i h1 h2=>down m i h1 h2 qX,.o⟩
   ·rintro c av ⟨rfl,lo,hi,rfl,h1,h2,h3,h4,h5⟩;rw[Zbx (ZaM n)]at h5;have e:lo=hi:=.o;subst e;exact ZaP (h lo h2 h3 h4)
end
def Cn:Nat->StateT SortSt Sem Unit:=sortPriv%PySem.Builtin.setMinGallop
def MV:Array Keyed->Array Keyed->StateT SortSt Sem (Array Keyed):=sortPriv%PySem.Builtin.mergeLo
theorem JG (g:Nat):Cn g=modify fun s=>SortSt.mk' (kindOf s) (arrOf s) (pendingOf s) g (failedOf s):=rfl
abbrev Pw (r:Keyed->Keyed->Bool)(l:List Keyed):Prop:=l.Pairwise fun x y=>r y x=false
def SG (st af:SortSt):Prop:=kindOf af=kindOf st/\arrOf af=arrOf st/\pendingOf af=pendingOf st/\failedOf af=failedOf st
theorem SG.refl (st:SortSt):SG st st:=⟨rfl,rfl,rfl,rfl⟩
def Good (r:Keyed->Keyed->Bool)(a b res:Array Keyed):Prop:=res.toList.Perm (a.toList++b.toList)/\Pw r res.toList
structure JW (r:Keyed->Keyed->Bool)(a b out:Array Keyed)(ia ib:Nat):Prop where
 perm:(out.toList++(a.toList.drop ia++b.toList.drop ib)).Perm (a.toList++b.toList)
 jU:Pw r out.toList
 gO:∀x∈out.toList,∀y∈a.toList.drop ia++b.toList.drop ib,r y x=false
structure ff (r:Keyed->Keyed->Bool)(a b:Array Keyed):Prop where
 o:Ord r
 sa:Pw r a.toList
 sb:Pw r b.toList
theorem Y7 {α:Type}{l:List α}{i:Nat}{x:α}(h:l[i]? =some x):l.drop i=x::l.drop (i+1):=by obtain⟨hi,e⟩:=Zaa.mp h;rw[Zdu hi,e]
theorem ZN {xs:Array Keyed}{i:Nat}{x:Keyed}(h:xs[i]? =some x):xs.toList[i]? =some x:=by rw[ZaT];exact h
theorem Zl {xs:Array Keyed}{i:Nat}(h:i<xs.size):∃x,xs[i]? =some x:=⟨xs[i],getElem?_pos xs i h⟩
theorem Jn {r:Keyed->Keyed->Bool}{l:List Keyed}{i:Nat}{x:Keyed}(o:Ord r)(p:Pw r l)(h:l[i]? =some x):∀y∈l.drop i,r y x=false:=fun y hy=>by
 rw[Y7 h]at hy;rcases Zav.mp hy with rfl |hy
 ·exact o.lj _
 ·have q:Pw r (l.drop i):=Zcp (ZdJ i l) p;rw[Y7 h]at q;exact(ZbG.mp q).1 y hy
theorem JU (xs:Array Keyed)(i j:Nat):(xs.extract i j).toList=(xs.toList.drop i).take (j-i):=by rw[Array.toList_extract,List.extract_eq_drop_take]
theorem Wu (xs:Array Keyed)(i:Nat):(xs.extract i xs.size).toList=xs.toList.drop i:=by rw[JU,Zds (by rw[Zcz,Zau];exact Zak _)]
section
variable {r:Keyed->Keyed->Bool}{a b out:Array Keyed}{ia ib:Nat}
theorem JW.kW (C:ff r a b)(J:JW r a b out ia ib){x:Keyed}(hx:a[ia]? =some x)(h:∀y,b[ib]? =some y->r y x=false):JW r a b (out.push x) (ia+1) ib:=by
 have mW:=ZN hx;have hd:=Y7 mW;have low:∀y∈a.toList.drop (ia+1)++b.toList.drop ib,r y x=false:=fun y hy=>by
  rcases ZaO.mp hy with hy |hy
  ·exact Jn C.o C.sa mW y (by rw[hd];exact Zae _ hy)
  ·cases e:b[ib]? with
   |none=>rw[<-ZaT]at e;rw[ZcV (by rw[Zf0]at e;exact e)]at hy;cases hy
   |some z=>have h1:=Jn C.o C.sb (ZN e) y hy;exact C.o.dP x z y (h z e) h1
 refine⟨?_,?_,fun u hu y hy=> ?_⟩
 ·rw[ZbH,ZaY];have:=J.perm;rw[hd]at this;exact this
 ·rw[ZbH];refine Zbo.mpr ⟨J.jU,ZdF _ _,fun u hu v hv=> ?_⟩;rw[Zas.mp hv];exact J.gO u hu x (Za3 _ (by rw[hd];exact Zaf))
 ·rw[ZbH]at hu;rcases ZaO.mp hu with hu |hu
  ·refine J.gO u hu y ?_;rcases ZaO.mp hy with hy |hy
   ·exact Za3 _ (by rw[hd];exact Zae _ hy)
   ·exact ZaA _ hy
  ·rw[Zas.mp hu];exact low y hy
theorem JW.kU (C:ff r a b)(J:JW r a b out ia ib){y:Keyed}(hy:b[ib]? =some y)(h:∀x,a[ia]? =some x->r x y=false):JW r a b (out.push y) ia (ib+1):=by
 have mV:=ZN hy;have hd:=Y7 mV;have low:∀z∈a.toList.drop ia++b.toList.drop (ib+1),r z y=false:=fun z hz=>by
  rcases ZaO.mp hz with hz |hz
  ·cases e:a[ia]? with
   |none=>rw[<-ZaT]at e;rw[ZcV (by rw[Zf0]at e;exact e)]at hz;cases hz
   |some x=>have h1:=Jn C.o C.sa (ZN e) z hz;exact C.o.dP y x z (h x e) h1
  ·exact Jn C.o C.sb mV z (by rw[hd];exact Zae _ hz)
 refine⟨?_,?_,fun u hu z hz=> ?_⟩
 ·rw[ZbH,ZaY];have:=J.perm;rw[hd]at this;refine List.Perm.trans (Zdy _ ?_) this;exact(show(y::(a.toList.drop ia++b.toList.drop (ib+1))).Perm _ from Zgy.symm)
 ·rw[ZbH];refine Zbo.mpr ⟨J.jU,ZdF _ _,fun u hu v hv=> ?_⟩;rw[Zas.mp hv];exact J.gO u hu y (ZaA _ (by rw[hd];exact Zaf))
 ·rw[ZbH]at hu;rcases ZaO.mp hu with hu |hu
  ·refine J.gO u hu z ?_;rcases ZaO.mp hz with hz |hz
   ·exact Za3 _ hz
   ·exact ZaA _ (by rw[hd];exact Zae _ hz)
  ·rw[Zas.mp hu];exact low z hz
theorem G8 {xs:Array Keyed}{i k:Nat}{x:Keyed}(hx:xs[i+k]? =some x):xs.extract i (i+(k+1))=(xs.extract i (i+k)).push x:=by obtain⟨h,e⟩:=Zbm.mp hx;rw[<-e,<-Zej,Array.extract_succ_right .o h]
theorem JW.ql (C:ff r a b)(J:JW r a b out ia ib):∀k,ia+k<=a.size->(∀i,i<k->∀x y,a[ia+i]? =some x->b[ib]? =some y->r y x=false)->JW r a b (out++a.extract ia (ia+k)) (ia+k) ib
 |0,_,_=>by
  rw[ZdV];have e:a.extract ia ia= #[]:=by simp;omega
  rw[e,Array.append_empty];exact J
 |k+1,hk,h=>by obtain⟨x,hx⟩:=Zl (xs:=a) (i:=ia+k) .o;have ih:=JW.ql C J k .o fun i hi=>h i .o;have:=ih.kW C hx fun y hy=>h k .o x y hx hy;rw[G8 hx,Zfh];exact this
theorem JW.qk (C:ff r a b)(J:JW r a b out ia ib):∀k,ib+k<=b.size->(∀i,i<k->∀y x,b[ib+i]? =some y->a[ia]? =some x->r x y=false)->JW r a b (out++b.extract ib (ib+k)) ia (ib+k)
 |0,_,_=>by
  rw[ZdV];have e:b.extract ib ib= #[]:=by simp;omega
  rw[e,Array.append_empty];exact J
 |k+1,hk,h=>by obtain⟨y,hy⟩:=Zl (xs:=b) (i:=ib+k) .o;have ih:=JW.qk C J k .o fun i hi=>h i .o;have:=ih.kU C hy fun x hx=>h k .o y x hy hx;rw[G8 hy,Zfh];exact this
theorem JW.done (C:ff r a b)(J:JW r a b out ia ib)(h:a.size<=ia∨b.size<=ib):Good r a b (out++a.extract ia a.size++b.extract ib b.size):=by
 unfold Good;rw[Zdi,Zdi,Wu,Wu];refine⟨by rw[ZaY];exact J.perm,?_⟩;have pa:Pw r (a.toList.drop ia):=Zcp (ZdJ _ _) C.sa;have pb:Pw r (b.toList.drop ib):=Zcp (ZdJ _ _) C.sb;rw[ZaY];refine Zbo.mpr ⟨J.jU,?_,J.gO⟩;rcases h with h |h
 ·rw[ZcV (by rw[Zau];exact h),Zdn];exact pb
 ·rw[ZcV (as:=b.toList) (by rw[Zau];exact h),ZbE];exact pa
theorem JW.last (C:ff r a b)(J:JW r a b out ia ib)(h:ia+1=a.size)(hl:∀x,a[a.size-1]? =some x->∀y∈b.toList,r x y=false):Good r a b (out++b.extract ib b.size++a.extract ia a.size):=by
 unfold Good;rw[Zdi,Zdi,Wu,Wu];obtain⟨x,hx⟩:=Zl (xs:=a) (i:=ia) .o;have ed:a.toList.drop ia=[x]:=by rw[Y7 (ZN hx),ZcV (by rw[Zau];omega)]
 have P:=J.perm;have B:=J.gO;rw[ed]at P B |-;have pb:Pw r (b.toList.drop ib):=Zcp (ZdJ _ _) C.sb;refine⟨?_,?_⟩
 ·rw[ZaY];exact List.Perm.trans (Zdy _ List.perm_append_comm) P
 ·rw[ZaY];refine Zbo.mpr ⟨J.jU,Zbo.mpr ⟨pb,ZdF _ _,fun y hy z hz=> ?_⟩,fun u hu z hz=>B u hu z ?_⟩
  ·rw[Zas.mp hz];exact hl x (by rw[show a.size-1=ia by omega];exact hx) y (ZcH hy)
  ·rcases ZaO.mp hz with hz |hz
   ·exact ZaA _ hz
   ·exact Za3 _ hz
end
theorem ZR {xs:Array Keyed}{i:Nat}{x:Keyed}(h:xs[i]? =some x):x∈xs.toList:=ZaD (ZN h)
theorem Jm {r:Keyed->Keyed->Bool}{l:List Keyed}{i j:Nat}{x y:Keyed}(o:Ord r)(p:Pw r l)(hx:l[i]? =some x)(hy:l[j]? =some y)(h:i<=j):r y x=false:=by
 refine Jn o p hx y ?_;have:(l.drop i)[j-i]? =some y:=by rw[ZdA,show i+(j-i)=j by omega];exact hy
 exact ZaD this
theorem Ai {r:Keyed->Keyed->Bool}{x y z:Keyed}(o:Ord r)(h:r y z=true)(h2:r y x=false):r x z=true:=by
 cases e:r x z with
 |true=>rfl
 |false=>have:=o.dP z x y e h2;rw[h]at this;cases this
section
variable {prog:Program}{w:World}{A:Around}{E:Value->Shared->Prop}{s:Shared}{κ:SortKind}{a₀:Array Keyed}{r:Keyed->Keyed->Bool}
theorem Jh {g:Nat}{Q:Unit->SortSt->Prop}{st:SortSt}(h:Q () (SortSt.mk' (kindOf st) (arrOf st) (pendingOf st) g (failedOf st))):wpS (model prog w) A E s (Cn g) Q st:=by rw[JG];exact Zer h
theorem ZaJ {a b:Array Keyed}{Q:Array Keyed->SortSt->Prop}{st:SortSt}(hc:jm prog w A E s κ a₀ r)(hk:kindOf st=κ)(C:ff r a b)(ma:∀x∈a.toList,x∈a₀.toList)(mb:∀x∈b.toList,x∈a₀.toList)(na:1<=a.size)(nb:1<=b.size)
  (h0:∀y,b[0]? =some y->∀x∈a.toList,r x y=false) (hl:∀x,a[a.size-1]? =some x->∀y∈b.toList,r x y=false)
  (h:∀res af,SG st af->Good r a b res->Q res af):wpS (model prog w) A E s (MV a b) Q st:=by
 show wpS (model prog w) A E s (_ >>=_) _ _
 try dsimp -zeta only
 refine ZaE (ZfT (Zdt ⟨rfl,?_⟩));obtain⟨y0,lF⟩:=Zl (xs:=b) (i:=0) .o;refine ZaE (Zt lF ?_);have J0:JW r a b #[y0] 0 1:=by have e:JW r a b #[] 0 0:=⟨by simp,.nil,fun x hx=>by cases hx⟩;exact e.kU C lF fun x hx=>h0 y0 lF x (ZR hx)
 refine ZH (fun jE=>ZaP (h _ _ (SG.refl _) (J0.done C (.inr .o)))) (fun jE=>ZH (fun iO=>ZaP (h _ _ (SG.refl _) (J0.last C .o hl))) (fun iO=>ZaE (Ze4 ?_)));refine ZaE (Zex (ZcF (I:=fun x c aA=>SG st aA/\∃out ia ib g,c=(none,out,ia,ib,g)/\JW r a b out ia ib/\ia+1<a.size/\ib<b.size/\x+1<=ia+ib) (Q:=fun c aA=>SG st aA/\∃res,c.fst=some res/\Good r a b res) ?step ?fin ⟨SG.refl _,_,_,_,_,rfl,J0,.o,.o,.o⟩) ?post)
 case post=>rintro c aA ⟨iE,res,ec,gd⟩;rw[ec];exact ZaP (h res aA iE gd)
 case fin=>rintro c aA ⟨_,out,ia,ib,g,_,_,i1,i2,i3⟩;rw[Zbx (ZaM _)]at i3;omega
 case step=>
  rintro x c aA _ hx ⟨iE,out,ia,ib,g,rfl,J,i1,i2,i3⟩;have lU:kindOf aA=κ:=by rw[iE.1];exact hk
  refine ZaE (Zex (ZcF (I:=fun y c av=>av=aA/\∃eO fN fM ac bc,c=(none,eO,fN,fM,ac,bc)/\JW r a b eO fN fM/\fN+1<a.size/\fM<b.size/\ia+ib+y<=fN+fM)
   (Q:=fun c av=>av=aA/\((∃res,c.fst=some res/\Good r a b res)∨∃eO fN fM ac bc,c=(none,eO,fN,fM,ac,bc)/\JW r a b eO fN fM/\fN+1<a.size/\fM<b.size/\ia+ib+1<=fN+fM)) ?_ ?_ ⟨rfl,_,_,_,_,_,rfl,J,i1,i2,Zak _⟩) ?_)
  ·rintro y c av _ hy ⟨rfl,eO,fN,fM,ac,bc,rfl,J',j1,j2,j3⟩;dsimp only;obtain⟨yb,iP⟩:=Zl (xs:=b) (i:=fM) j2;obtain⟨xa,iQ⟩:=Zl (xs:=a) (i:=fN) .o;refine ZaE (Zt iP (ZaE (Zt iQ (ZaE (hc _ _ _ _ (mb _ (ZR iP)) (ma _ (ZR iQ)) lU ?_)))));refine Aw (fun hr=>ZaE (Zt iP ?_)) (fun hr=>ZaE (Zt iQ ?_))
   ·have J2:=J'.kU C iP (fun x hx=>by rw[iQ]at hx;cases hx;exact C.o.gw _ _ hr);exact ZH (fun hz=>ZaP ⟨rfl,.inl ⟨_,rfl,J2.done C (.inr .o)⟩⟩) (fun hz=>ZG (fun _=>ZaP ⟨rfl,.inr ⟨_,_,_,_,_,rfl,J2,j1,.o,.o⟩⟩) (fun _=>ZaP ⟨rfl,_,_,_,_,_,rfl,J2,j1,.o,.o⟩))
   ·have J2:=J'.kW C iQ (fun x hx=>by rw[iP]at hx;cases hx;exact hr);exact ZH (fun hz=>ZaP ⟨rfl,.inl ⟨_,rfl,J2.last C hz hl⟩⟩) (fun hz=>ZG (fun _=>ZaP ⟨rfl,.inr ⟨_,_,_,_,_,rfl,J2,.o,j2,.o⟩⟩) (fun _=>ZaP ⟨rfl,_,_,_,_,_,rfl,J2,.o,j2,.o⟩))
  ·rintro c av ⟨rfl,eO,fN,fM,ac,bc,rfl,J',j1,j2,j3⟩;rw[Zbx (ZaM _)]at j3;omega
  rintro c av ⟨rfl,⟨res,ec,gd⟩ |⟨eO,fN,fM,ac,bc,rfl,J',j1,j2,j3⟩⟩
  ·rw[ec];exact ZaP ⟨iE,res,rfl,gd⟩
  clear J i1 i2 lU;dsimp -zeta only;refine ZaE (ZfT (Zdt ⟨rfl,?_⟩));refine ZaE (Zex (ZcF (I:=fun y c av=>SG st av/\∃out ia ib g ac bc,c=(none,out,ia,ib,g,ac,bc)/\JW r a b out ia ib/\ia+1<a.size/\ib<b.size/\fN+fM+y<=ia+ib)
   (Q:=fun c av=>SG st av/\((∃res,c.fst=some res/\Good r a b res)∨∃out ia ib g ac bc,c=(none,out,ia,ib,g,ac,bc)/\JW r a b out ia ib/\ia+1<a.size/\ib<b.size/\fN+fM<=ia+ib)) ?_ ?_ ⟨iE,_,_,_,_,_,_,rfl,J',j1,j2,Zak _⟩) ?_)
  ·rintro y c av _ hy ⟨jt,out,ia,ib,g,ac,bc,rfl,J,i1,i2,i4⟩;obtain⟨y2,dQ⟩:=Zl (xs:=b) (i:=ib) i2
   extract_lets -underBinder s1 o1 s2 x1 s3 z1 s4 g1 s5 rW rT jp g2
   refine FJ (j:=jp) fun g'=> ?_;dsimp -zeta only[jp,rT,rW,s5,s4,z1,s3,x1,s2,o1,s1];clear g2 jp rT rW s5 g1 s4 z1 s3 x1 s2 o1 s1;refine ZaE (Jh ?_);generalize zl:SortSt.mk' _ _ _ _ _=bU;have eJ:SG st bU:=by rw[<-zl];exact jt
   have rf:kindOf bU=κ:=by rw[eJ.1];exact hk
   refine ZaE (Zt dQ ?_);refine ZaE (Yb hc rf (fun i=>match a[ia+i]? with |some x=> !r y2 x |none=>false) (fun i hi=> ?_) (mb y2 (ZR dQ)) (fun i j cZ hj hp=> ?_) .o fun k kn gE gF=> ?_)
   ·obtain⟨x,hx⟩:=Zl (xs:=a) (i:=ia+i) .o;refine⟨x,hx,ma x (ZR hx),?_⟩
    try dsimp only
    rw[hx];rfl
   ·obtain⟨xj,lI⟩:=Zl (xs:=a) (i:=ia+j) .o;obtain⟨xi,lJ⟩:=Zl (xs:=a) (i:=ia+i) .o
    try dsimp only at hp |-
    rw[lI]at hp;rw[lJ];rw[ZcR]at hp |-;exact C.o.dP _ _ _ (Jm C.o C.sa (ZN lJ) (ZN lI) .o) hp
   have low:ia+k<a.size->∀x,a[ia+k]? =some x->r y2 x=true:=fun hk x hx=>by
    have:=gF k (Zak _) .o
    try dsimp only at this
    rw[hx,ZfU]at this;exact this
   dsimp -zeta only
   extract_lets -underBinder Ae jp o3 x3
   refine vB (j:=jp) (fun o i=>JW r a b o i ib/\i+1<a.size/\ia<=i/\∀x,a[i]? =some x->r y2 x=true) ?_ (fun kq hj=> ?_) (fun kq=> ?_)
   ·rintro o i ⟨J1,q1,q2,q3⟩;clear low gE gF kn;dsimp -zeta only[jp];clear x3 o3 jp
    clear_value Ae
    refine ZaE (Zt dQ ?_);have J2:=J1.kU C dQ (fun x hx=>C.o.gw _ _ (q3 x hx));obtain⟨x3,iR⟩:=Zl (xs:=a) (i:=i) .o;refine ZH (fun hz=>ZaP ⟨eJ,.inl ⟨_,rfl,J2.done C (.inr .o)⟩⟩) (fun hz=>ZaE (Zt iR ?_));refine ZaE (Yb hc rf (fun i=>match b[ib+1+i]? with |some y=>r y x3 |none=>false) (fun i hi=> ?_) (ma x3 (ZR iR)) (fun i j cZ hj hp=> ?_) .o fun k1 oP gE gF=> ?_)
    ·obtain⟨y,hy⟩:=Zl (xs:=b) (i:=ib+1+i) .o;refine⟨y,hy,mb y (ZR hy),?_⟩
     try dsimp only
     rw[hy];rfl
    ·obtain⟨yj,lD⟩:=Zl (xs:=b) (i:=ib+1+j) .o;obtain⟨yi,lE⟩:=Zl (xs:=b) (i:=ib+1+i) .o
     try dsimp only at hp |-
     rw[lD]at hp;rw[lE];exact Ai C.o hp (Jm C.o C.sb (ZN lE) (ZN lD) .o)
    have low:ib+1+k1<b.size->∀y,b[ib+1+k1]? =some y->r y x3=false:=fun hk y hy=>by
     have:=gF k1 (Zak _) .o
     try dsimp only at this
     rw[hy]at this;exact this
    dsimp -zeta only
    extract_lets -underBinder zX jp o3 z3
    refine vB (j:=jp) (fun o z=>JW r a b o i z/\z<b.size/\ib+1<=z/\∀y,b[z]? =some y->r y x3=false) ?_ (fun kq hj=> ?_) (fun kq=> ?_)
    ·rintro o z ⟨J3,p1,p2,p3⟩;clear low gE gF oP;dsimp -zeta only[jp];clear z3 o3 jp
     clear_value zX
     refine ZaE (Zt iR ?_);have J4:=J3.kW C iR p3;exact ZH (fun hz=>ZaP ⟨eJ,.inl ⟨_,rfl,J4.last C hz hl⟩⟩) (fun hz=>ZG (fun _=>ZaP ⟨eJ,.inr ⟨_,_,_,_,_,_,rfl,J4,.o,p1,.o⟩⟩) (fun _=>ZaP ⟨eJ,_,_,_,_,_,_,rfl,J4,.o,p1,.o⟩))
    ·dsimp only[o3,z3]
     clear_value jp
     have J3:=J2.qk C k1 .o (fun i hi y x hy hx=>by
      rw[iR]at hx;cases hx;have:=gE i hi
      try dsimp only at this
      rw[hy]at this;exact C.o.gw _ _ this)
     exact ZH (fun hz=>ZaP ⟨eJ,.inl ⟨_,rfl,J3.done C (.inr .o)⟩⟩) (fun hz=>hj _ _ ⟨J3,.o,.o,low .o⟩)
    ·obtain rfl:k1=0:=.o;exact⟨J2,.o,Zak _,low .o⟩
   ·dsimp only[o3,x3]
    clear_value jp
    have J1:=J.ql C k .o (fun i hi x y hx hy=>by
     rw[dQ]at hy;cases hy;have:=gE i hi
     try dsimp only at this
     rw[hx,ZcR]at this;exact this)
    exact ZH (fun hz=>ZaP ⟨eJ,.inl ⟨_,rfl,J1.last C hz hl⟩⟩) (fun jE=>ZH (fun hz=>ZaP ⟨eJ,.inl ⟨_,rfl,J1.done C (.inl .o)⟩⟩) (fun hz=>hj _ _ ⟨J1,.o,.o,low .o⟩))
   ·obtain rfl:k=0:=.o;exact⟨J,i1,Zak _,low .o⟩
  ·rintro c av ⟨_,out,Nm,Nl,g,ac,bc,rfl,_,k1,k2,k3⟩;rw[Zbx (ZaM _)]at k3;omega
  rintro c av ⟨jt,⟨res,ec,gd⟩ |⟨out,Nm,Nl,g,ac,bc,rfl,J2,k1,k2,k3⟩⟩
  ·rw[ec];exact ZaP ⟨jt,res,rfl,gd⟩
  dsimp only;exact ZaE (Jh (ZaP ⟨jt,_,_,_,_,rfl,J2,k1,k2,.o⟩))
end
def MW:Array Keyed->Array Keyed->StateT SortSt Sem (Array Keyed):=sortPriv%PySem.Builtin.mergeHi
structure JH (r:Keyed->Keyed->Bool)(a b out:Array Keyed)(na nb:Nat):Prop where
 la:na<=a.size
 lb:nb<=b.size
 perm:((a.toList.take na++b.toList.take nb)++out.toList.reverse).Perm (a.toList++b.toList)
 jU:Pw r out.toList.reverse
 gO:∀y∈a.toList.take na++b.toList.take nb,∀x∈out.toList,r x y=false
theorem U5 {α:Type}{l:List α}{i:Nat}{x:α}(h:l[i]? =some x):l.take (i+1)=l.take i++[x]:=by rw[Za2,h];rfl
theorem Wj {r:Keyed->Keyed->Bool}{l:List Keyed}{i:Nat}{x:Keyed}(o:Ord r)(p:Pw r l)(h:l[i]? =some x):∀y∈l.take (i+1),r x y=false:=fun y hy=>by obtain⟨j,hj,e⟩:=ZcC hy;rw[ZaR]at hj;rw[Zga]at e;exact Jm (i:=j) o p (by rw[Zaw .o,e]) h .o
theorem vC (xs:Array Keyed)(j:Nat):(xs.extract 0 j).toList=xs.toList.take j:=by rw[JU,Zf1,Nat.sub_zero]
section
variable {r:Keyed->Keyed->Bool}{a b out:Array Keyed}{na nb:Nat}
theorem JH.kW (C:ff r a b)(J:JH r a b out na nb){x:Keyed}(h1:1<=na)(hx:a[na-1]? =some x)(h:1<=nb->∀y,b[nb-1]? =some y->r x y=false):JH r a b (out.push x) (na-1) nb:=by
 have la:=J.la;have lb:=J.lb;have mW:=ZN hx;have ht:=U5 mW;rw[ZdW h1]at ht;have mx:x∈a.toList.take na:=by rw[ht];simp
 have low:∀y∈a.toList.take (na-1)++b.toList.take nb,r x y=false:=fun y hy=>by
  rcases ZaO.mp hy with hy |hy
  ·exact Wj C.o C.sa mW y (by rw[ZdW h1,ht];exact Za3 _ hy)
  ·have n1:1<=nb:=by
    rcases ZfV nb with z |z
    ·rw[z]at hy;cases hy
    ·exact z
   obtain⟨z,e⟩:=Zl (xs:=b) (i:=nb-1) .o;have:=Wj C.o C.sb (ZN e) y (by rw[ZdW n1];exact hy);exact C.o.dP y z x this (h n1 z e)
 refine⟨.o,lb,?_,?_,fun y hy u hu=> ?_⟩
 ·rw[ZbH,ZeQ];have P:=J.perm;rw[ht]at P;refine List.Perm.trans ?_ P;show((a.toList.take (na-1)++b.toList.take nb)++(x::out.toList.reverse)).Perm (((a.toList.take (na-1)++[x])++b.toList.take nb)++out.toList.reverse);rw[ZaY,ZaY,ZaY];refine Zdy _ ?_;show(b.toList.take nb++x::out.toList.reverse).Perm (x::(b.toList.take nb++out.toList.reverse));exact Zgy
 ·rw[ZbH,ZeQ];refine ZbG.mpr ⟨fun u hu=> ?_,J.jU⟩;exact J.gO x (Za3 _ mx) u (Zfu.mp hu)
 ·rw[ZbH]at hu;rcases ZaO.mp hu with hu |hu
  ·refine J.gO y ?_ u hu;rcases ZaO.mp hy with hy |hy
   ·exact Za3 _ (by rw[ht];exact Za3 _ hy)
   ·exact ZaA _ hy
  ·rw[Zas.mp hu];exact low y hy
theorem JH.kU (C:ff r a b)(J:JH r a b out na nb){y:Keyed}(h1:1<=nb)(hy:b[nb-1]? =some y)(h:1<=na->∀x,a[na-1]? =some x->r y x=false):JH r a b (out.push y) na (nb-1):=by
 have la:=J.la;have lb:=J.lb;have mV:=ZN hy;have ht:=U5 mV;rw[ZdW h1]at ht;have my:y∈b.toList.take nb:=by rw[ht];simp
 have low:∀z∈a.toList.take na++b.toList.take (nb-1),r y z=false:=fun z hz=>by
  rcases ZaO.mp hz with hz |hz
  ·have n1:1<=na:=by
    rcases ZfV na with q |q
    ·rw[q]at hz;cases hz
    ·exact q
   obtain⟨x,e⟩:=Zl (xs:=a) (i:=na-1) .o;have:=Wj C.o C.sa (ZN e) z (by rw[ZdW n1];exact hz);exact C.o.dP z x y this (h n1 x e)
  ·exact Wj C.o C.sb mV z (by rw[ZdW h1,ht];exact Za3 _ hz)
 refine⟨la,.o,?_,?_,fun z hz u hu=> ?_⟩
 ·rw[ZbH,ZeQ];have P:=J.perm;rw[ht]at P;refine List.Perm.trans ?_ P;show((a.toList.take na++b.toList.take (nb-1))++(y::out.toList.reverse)).Perm ((a.toList.take na++(b.toList.take (nb-1)++[y]))++out.toList.reverse);rw[ZaY,ZaY,ZaY];exact .refl _
 ·rw[ZbH,ZeQ];refine ZbG.mpr ⟨fun u hu=> ?_,J.jU⟩;exact J.gO y (ZaA _ my) u (Zfu.mp hu)
 ·rw[ZbH]at hu;rcases ZaO.mp hu with hu |hu
  ·refine J.gO z ?_ u hu;rcases ZaO.mp hz with hz |hz
   ·exact Za3 _ hz
   ·exact ZaA _ (by rw[ht];exact Za3 _ hz)
  ·rw[Zas.mp hu];exact low z hz
theorem Gy {xs:Array Keyed}{i n:Nat}{x:Keyed}(hx:xs[i]? =some x)(h:i<n)(hn:n<=xs.size):(xs.extract i n).reverse=(xs.extract (i+1) n).reverse.push x:=by apply Array.toList_inj.mp;rw[ZeH,ZbH,ZeH,JU,JU,Y7 (ZN hx),show n-i=(n-(i+1))+1 by omega,List.take_succ_cons,List.reverse_cons]
theorem JH.ql (C:ff r a b)(J:JH r a b out na nb):∀k,k<=na->(∀i,na-k<=i->i<na->∀x y,a[i]? =some x->b[nb-1]? =some y->r x y=false)->JH r a b (out++(a.extract (na-k) na).reverse) (na-k) nb
 |0,_,_=>by
  have e:a.extract (na-0) na= #[]:=by simp;omega
  rw[e];simpa using J
 |k+1,hk,h=>by have la:=J.la;obtain⟨x,hx⟩:=Zl (xs:=a) (i:=na-(k+1)) .o;have ih:=JH.ql C J k .o fun i h1 h2=>h i .o h2;have e1:na-k-1=na-(k+1):=.o;have:=ih.kW C (x:=x) .o (by rw[e1];exact hx) fun _ y hy=>h (na-(k+1)) (Zak _) .o x y hx hy;rw[e1]at this;rw[Gy hx .o la,show na-(k+1)+1=na-k by omega,Zfh];exact this
theorem JH.qk (C:ff r a b)(J:JH r a b out na nb):∀k,k<=nb->(∀i,nb-k<=i->i<nb->∀y x,b[i]? =some y->a[na-1]? =some x->r y x=false)->JH r a b (out++(b.extract (nb-k) nb).reverse) na (nb-k)
 |0,_,_=>by
  have e:b.extract (nb-0) nb= #[]:=by simp;omega
  rw[e];simpa using J
 |k+1,hk,h=>by have lb:=J.lb;obtain⟨y,hy⟩:=Zl (xs:=b) (i:=nb-(k+1)) .o;have ih:=JH.qk C J k .o fun i h1 h2=>h i .o h2;have e1:nb-k-1=nb-(k+1):=.o;have:=ih.kU C (y:=y) .o (by rw[e1];exact hy) fun _ x hx=>h (nb-(k+1)) (Zak _) .o y x hy hx;rw[e1]at this;rw[Gy hy .o lb,show nb-(k+1)+1=nb-k by omega,Zfh];exact this
theorem JH.Li (C:ff r a b)(J:JH r a b out na nb){m:Nat}(hm:m<=na)(h:∀i,m<=i->i<na->∀x y,a[i]? =some x->b[nb-1]? =some y->r x y=false):JH r a b (out++(a.extract m na).reverse) m nb:=by have:=J.ql C (na-m) .o (fun i h1 h2=>h i .o h2);rw[show na-(na-m)=m by omega]at this;exact this
theorem JH.Lh (C:ff r a b)(J:JH r a b out na nb){m:Nat}(hm:m<=nb)(h:∀i,m<=i->i<nb->∀y x,b[i]? =some y->a[na-1]? =some x->r y x=false):JH r a b (out++(b.extract m nb).reverse) na m:=by have:=J.qk C (nb-m) .o (fun i h1 h2=>h i .o h2);rw[show nb-(nb-m)=m by omega]at this;exact this
theorem JH.done (C:ff r a b)(J:JH r a b out na nb)(h:na=0∨nb=0):Good r a b (a.extract 0 na++b.extract 0 nb++out.reverse):=by
 unfold Good;rw[Zdi,Zdi,vC,vC,ZeH];refine⟨J.perm,?_⟩;have pa:Pw r (a.toList.take na):=Zcp (ZdI _ _) C.sa;have pb:Pw r (b.toList.take nb):=Zcp (ZdI _ _) C.sb;refine Zbo.mpr ⟨?_,J.jU,fun y hy x hx=>J.gO y hy x (Zfu.mp hx)⟩;rcases h with h |h
 ·rw[h,Zg9,Zdn];exact pb
 ·rw[h,Zg9,ZbE];exact pa
theorem JH.first (C:ff r a b)(J:JH r a b out na nb)(h:nb=1)(h0:∀y,b[0]? =some y->∀x∈a.toList,r x y=false):Good r a b (b.extract 0 nb++a.extract 0 na++out.reverse):=by
 have lb:=J.lb;subst h;unfold Good;obtain⟨y,hy⟩:=Zl (xs:=b) (i:=0) .o;have et:b.toList.take 1=[y]:=by rw[show(1:Nat)=0+1 from rfl,U5 (ZN hy)];rfl
 rw[Zdi,Zdi,vC,vC,ZeH,et];have P:=J.perm;have B:=J.gO;rw[et]at P B;have pa:Pw r (a.toList.take na):=Zcp (ZdI _ _) C.sa;refine⟨List.Perm.trans (Ze9 _ List.perm_append_comm) P,?_⟩;refine Zbo.mpr ⟨?_,J.jU,fun z hz x hx=>B z ?_ x (Zfu.mp hx)⟩
 ·refine ZbG.mpr ⟨fun z hz=>h0 y hy z (ZdE hz),pa⟩
 ·rcases ZaO.mp hz with hz |hz
  ·exact ZaA _ hz
  ·exact Za3 _ hz
end
section
variable {prog:Program}{w:World}{A:Around}{E:Value->Shared->Prop}{s:Shared}{κ:SortKind}{a₀:Array Keyed}{r:Keyed->Keyed->Bool}
theorem ZaK {a b:Array Keyed}{Q:Array Keyed->SortSt->Prop}{st:SortSt}(hc:jm prog w A E s κ a₀ r)(hk:kindOf st=κ)(C:ff r a b)(ma:∀x∈a.toList,x∈a₀.toList)(mb:∀x∈b.toList,x∈a₀.toList)(MI:1<=a.size)(nb0:1<=b.size)
  (h0:∀y,b[0]? =some y->∀x∈a.toList,r x y=false) (hl:∀x,a[a.size-1]? =some x->∀y∈b.toList,r x y=false)
  (h:∀res af,SG st af->Good r a b res->Q res af):wpS (model prog w) A E s (MW a b) Q st:=by
 show wpS (model prog w) A E s (_ >>=_) _ _
 try dsimp -zeta only
 refine ZaE (ZfT (Zdt ⟨rfl,?_⟩));obtain⟨x0,jF⟩:=Zl (xs:=a) (i:=a.size-1) .o;refine ZaE (Zt jF ?_);have J0:JH r a b #[x0] (a.size-1) b.size:=by have e:JH r a b #[] a.size b.size:=⟨Zak _,Zak _,by simp[<-Array.length_toList],.nil,fun y hy x hx=>by cases hx⟩;exact e.kW C MI jF fun _ y hy=>hl x0 jF y (ZR hy)
 refine ZH (fun jE=>ZaP (h _ _ (SG.refl _) (J0.done C (.inl jE)))) (fun jE=>ZH (fun iO=>ZaP (h _ _ (SG.refl _) (J0.first C iO h0))) (fun iO=>ZaE (Ze4 ?_)));refine ZaE (Zex (ZcF (I:=fun x c aA=>SG st aA/\∃na nb out g,c=(none,na,nb,out,g)/\JH r a b out na nb/\1<=na/\2<=nb/\na+nb+x+1<=a.size+b.size) (Q:=fun c aA=>SG st aA/\∃res,c.fst=some res/\Good r a b res) ?step ?fin ⟨SG.refl _,_,_,_,_,rfl,J0,.o,.o,.o⟩) ?post)
 case post=>rintro c aA ⟨iE,res,ec,gd⟩;rw[ec];exact ZaP (h res aA iE gd)
 case fin=>rintro c aA ⟨_,na,nb,out,g,_,_,i1,i2,i3⟩;rw[Zbx (ZaM _)]at i3;omega
 case step=>
  rintro x c aA _ hx ⟨iE,na,nb,out,g,rfl,J,i1,i2,i3⟩;have lU:kindOf aA=κ:=by rw[iE.1];exact hk
  refine ZaE (Zex (ZcF (I:=fun y c av=>av=aA/\∃fK fJ eO ac bc,c=(none,fK,fJ,eO,ac,bc)/\JH r a b eO fK fJ/\1<=fK/\2<=fJ/\fK+fJ+y<=na+nb)
   (Q:=fun c av=>av=aA/\((∃res,c.fst=some res/\Good r a b res)∨∃fK fJ eO ac bc,c=(none,fK,fJ,eO,ac,bc)/\JH r a b eO fK fJ/\1<=fK/\2<=fJ/\fK+fJ+1<=na+nb)) ?_ ?_ ⟨rfl,_,_,_,_,_,rfl,J,i1,i2,Zak _⟩) ?_)
  ·rintro y c av _ hy ⟨rfl,fK,fJ,eO,ac,bc,rfl,J',j1,j2,j3⟩;dsimp only;have la:=J'.la;have lb:=J'.lb;obtain⟨yb,iP⟩:=Zl (xs:=b) (i:=fJ-1) .o;obtain⟨xa,iQ⟩:=Zl (xs:=a) (i:=fK-1) .o;refine ZaE (Zt iP (ZaE (Zt iQ (ZaE (hc _ _ _ _ (mb _ (ZR iP)) (ma _ (ZR iQ)) lU ?_)))));refine Aw (fun hr=>ZaE (Zt iQ ?_)) (fun hr=>ZaE (Zt iP ?_))
   ·have J2:=J'.kW C j1 iQ (fun _ y hy=>by rw[iP]at hy;cases hy;exact C.o.gw _ _ hr);exact ZH (fun hz=>ZaP ⟨rfl,.inl ⟨_,rfl,J2.done C (.inl hz)⟩⟩) (fun hz=>ZG (fun _=>ZaP ⟨rfl,.inr ⟨_,_,_,_,_,rfl,J2,.o,j2,.o⟩⟩) (fun _=>ZaP ⟨rfl,_,_,_,_,_,rfl,J2,.o,j2,.o⟩))
   ·have J2:=J'.kU C .o iP (fun _ x hx=>by rw[iQ]at hx;cases hx;exact hr);exact ZH (fun hz=>ZaP ⟨rfl,.inl ⟨_,rfl,J2.first C hz h0⟩⟩) (fun hz=>ZG (fun _=>ZaP ⟨rfl,.inr ⟨_,_,_,_,_,rfl,J2,j1,.o,.o⟩⟩) (fun _=>ZaP ⟨rfl,_,_,_,_,_,rfl,J2,j1,.o,.o⟩))
  ·rintro c av ⟨rfl,fK,fJ,eO,ac,bc,rfl,J',j1,j2,j3⟩;rw[Zbx (ZaM _)]at j3;have la:=J.la;have lb:=J.lb;omega
  rintro c av ⟨rfl,⟨res,ec,gd⟩ |⟨fK,fJ,eO,ac,bc,rfl,J',j1,j2,j3⟩⟩
  ·rw[ec];exact ZaP ⟨iE,res,rfl,gd⟩
  clear J i1 i2 lU;dsimp -zeta only;refine ZaE (ZfT (Zdt ⟨rfl,?_⟩));refine ZaE (Zex (ZcF (I:=fun y c av=>SG st av/\∃na nb out g ac bc,c=(none,na,nb,out,g,ac,bc)/\JH r a b out na nb/\1<=na/\2<=nb/\na+nb+y<=fK+fJ)
   (Q:=fun c av=>SG st av/\((∃res,c.fst=some res/\Good r a b res)∨∃na nb out g ac bc,c=(none,na,nb,out,g,ac,bc)/\JH r a b out na nb/\1<=na/\2<=nb/\na+nb<=fK+fJ)) ?_ ?_ ⟨iE,_,_,_,_,_,_,rfl,J',j1,j2,Zak _⟩) ?_)
  ·rintro y c av _ hy ⟨jt,na,nb,out,g,ac,bc,rfl,J,i1,i2,i4⟩;have la:=J.la;have lb:=J.lb;obtain⟨y2,dQ⟩:=Zl (xs:=b) (i:=nb-1) .o
   extract_lets -underBinder s1 x1 s2 z1 s3 o1 s4 g1 s5 rW rT jp g2
   refine FJ (j:=jp) fun g'=> ?_;dsimp -zeta only[jp,rT,rW,s5,s4,z1,s3,x1,s2,o1,s1];clear g2 jp rT rW s5 g1 s4 o1 s3 z1 s2 x1 s1;refine ZaE (Jh ?_);generalize zl:SortSt.mk' _ _ _ _ _=bU;have eJ:SG st bU:=by rw[<-zl];exact jt
   have rf:kindOf bU=κ:=by rw[eJ.1];exact hk
   refine ZaE (Zt dQ ?_);refine ZaE (Yb hc rf (fun i=>match a[0+i]? with |some x=> !r y2 x |none=>false) (fun i hi=> ?_) (mb y2 (ZR dQ)) (fun i j cZ hj hp=> ?_) .o fun at_ kn gE gF=> ?_)
   ·obtain⟨x,hx⟩:=Zl (xs:=a) (i:=0+i) .o;refine⟨x,hx,ma x (ZR hx),?_⟩
    try dsimp only
    rw[hx];rfl
   ·obtain⟨xj,lI⟩:=Zl (xs:=a) (i:=0+j) .o;obtain⟨xi,lJ⟩:=Zl (xs:=a) (i:=0+i) .o
    try dsimp only at hp |-
    rw[lI]at hp;rw[lJ];rw[ZcR]at hp |-;exact C.o.dP _ _ _ (Jm C.o C.sa (ZN lJ) (ZN lI) .o) hp
   have low:1<=at_->∀x,a[at_-1]? =some x->r y2 x=false:=fun hk x hx=>by
    have:=gE (at_-1) .o
    try dsimp only at this
    rw[ZeY,hx,ZcR]at this;exact this
   dsimp -zeta only
   extract_lets -underBinder k2 Ae jp o3 x3
   refine vB (j:=jp) (fun n o=>JH r a b o n nb/\1<=n/\n<=na/\∀x,a[n-1]? =some x->r y2 x=false) ?_ (fun kq hj=> ?_) (fun kq=> ?_)
   ·rintro n o ⟨J1,q1,q2,q3⟩;clear low gE gF kn;dsimp -zeta only[jp];clear x3 o3 jp
    clear_value Ae k2
    refine ZaE (Zt dQ ?_);have J2:=J1.kU C .o dQ (fun _=>q3);obtain⟨x3,iR⟩:=Zl (xs:=a) (i:=n-1) .o;refine ZH (fun hz=>ZaP ⟨eJ,.inl ⟨_,rfl,J2.first C hz h0⟩⟩) (fun hz=>ZaE (Zt iR ?_));refine ZaE (Yb hc rf (fun i=>match b[0+i]? with |some y=>r y x3 |none=>false) (fun i hi=> ?_) (ma x3 (ZR iR)) (fun i j cZ hj hp=> ?_) .o fun k1 oP gE gF=> ?_)
    ·obtain⟨y,hy⟩:=Zl (xs:=b) (i:=0+i) .o;refine⟨y,hy,mb y (ZR hy),?_⟩
     try dsimp only
     rw[hy];rfl
    ·obtain⟨yj,lD⟩:=Zl (xs:=b) (i:=0+j) .o;obtain⟨yi,lE⟩:=Zl (xs:=b) (i:=0+i) .o
     try dsimp only at hp |-
     rw[lD]at hp;rw[lE];exact Ai C.o hp (Jm C.o C.sb (ZN lE) (ZN lD) .o)
    have low:1<=k1->∀y,b[k1-1]? =some y->r x3 y=false:=fun hk y hy=>by
     have:=gE (k1-1) .o
     try dsimp only at this
     rw[ZeY,hy]at this;exact C.o.gw _ _ this
    dsimp -zeta only
    extract_lets -underBinder k3 zX jp o3 z3
    refine vB (j:=jp) (fun m o=>JH r a b o n m/\2<=m/\m<=nb-1/\∀y,b[m-1]? =some y->r x3 y=false) ?_ (fun kq hj=> ?_) (fun kq=> ?_)
    ·rintro m o ⟨J3,p1,p2,p3⟩;clear low gE gF oP;dsimp -zeta only[jp];clear z3 o3 jp
     clear_value zX k3
     refine ZaE (Zt iR ?_);have J4:=J3.kW C q1 iR (fun _=>p3);exact ZH (fun hz=>ZaP ⟨eJ,.inl ⟨_,rfl,J4.done C (.inl hz)⟩⟩) (fun hz=>ZG (fun _=>ZaP ⟨eJ,.inr ⟨_,_,_,_,_,_,rfl,J4,.o,p1,.o⟩⟩) (fun _=>ZaP ⟨eJ,_,_,_,_,_,_,rfl,J4,.o,p1,.o⟩))
    ·dsimp only[o3,z3]
     clear_value jp
     have J3:=J2.Lh C (m:=k1) oP (fun i zk rm y x hy hx=>by
      rw[iR]at hx;cases hx;have:=gF i zk rm
      try dsimp only at this
      rw[ZeY,hy]at this;exact this)
     exact ZH (fun hz=>ZaP ⟨eJ,.inl ⟨_,rfl,J3.first C hz h0⟩⟩) (fun jE=>ZH (fun hz=>ZaP ⟨eJ,.inl ⟨_,rfl,J3.done C (.inr hz)⟩⟩) (fun hz=>hj _ _ ⟨J3,.o,oP,low .o⟩))
    ·obtain rfl:k1=nb-1:=ZfK oP (Nat.sub_eq_zero_iff_le.mp (Nat.eq_zero_of_not_pos kq));exact⟨J2,.o,Zak _,low .o⟩
   ·dsimp only[o3,x3]
    clear_value jp
    have J1:=J.Li C (m:=at_) kn (fun i zk rm x y hx hy=>by
     rw[dQ]at hy;cases hy;have:=gF i zk rm
     try dsimp only at this
     rw[ZeY,hx,ZfU]at this;exact C.o.gw _ _ this)
    exact ZH (fun hz=>ZaP ⟨eJ,.inl ⟨_,rfl,J1.done C (.inl hz)⟩⟩) (fun hz=>hj _ _ ⟨J1,Nat.pos_of_ne_zero hz,kn,low (Nat.pos_of_ne_zero hz)⟩)
   ·obtain rfl:at_=na:=ZfK kn (Nat.sub_eq_zero_iff_le.mp (Nat.eq_zero_of_not_pos kq));exact⟨J,i1,Zak _,low i1⟩
  ·rintro c av ⟨jt,na,nb,out,g,ac,bc,rfl,J,i1,i2,i4⟩;rw[Zbx (ZaM _)]at i4;have la:=J'.la;have lb:=J'.lb;omega
  rintro c av ⟨jt,⟨res,ec,gd⟩ |⟨na2,nb2,out,g,ac,bc,rfl,J2,k1,k2,k3⟩⟩
  ·rw[ec];exact ZaP ⟨jt,res,rfl,gd⟩
  dsimp only;exact ZaE (Jh (ZaP ⟨jt,_,_,_,_,rfl,J2,k1,k2,.o⟩))
end
def SI (r:Keyed->Keyed->Bool)(xs:Array Keyed)(lo hi:Nat):Prop:=∀i j x y,lo<=i->i<=j->j<hi->xs[i]? =some x->xs[j]? =some y->r y x=false
def NI (r:Keyed->Keyed->Bool)(xs:Array Keyed)(lo hi:Nat):Prop:=∀i j x y,lo<=i->i<=j->j<hi->xs[i]? =some x->xs[j]? =some y->r x y=false
def EQ (r:Keyed->Keyed->Bool)(xs:Array Keyed)(lo hi:Nat):Prop:=∀i j x y,lo<=i->i<hi->lo<=j->j<hi->xs[i]? =some x->xs[j]? =some y->r x y=false
section
variable {r:Keyed->Keyed->Bool}{xs:Array Keyed}{lo hi:Nat}
theorem SI.one (o:Ord r):SI r xs lo (lo+1):=fun i j x y h1 h2 h3 hx hy=>by obtain rfl:i=j:=.o;rw[hx]at hy;cases hy;exact o.lj _
theorem NI.one (o:Ord r):NI r xs lo (lo+1):=fun i j x y h1 h2 h3 hx hy=>by obtain rfl:i=j:=.o;rw[hx]at hy;cases hy;exact o.lj _
theorem EQ.one (o:Ord r):EQ r xs lo (lo+1):=fun i j x y h1 h2 h3 h4 hx hy=>by obtain rfl:i=j:=.o;rw[hx]at hy;cases hy;exact o.lj _
theorem SI.snoc (o:Ord r)(h:SI r xs lo hi){p q:Keyed}(hl:lo<hi)(hp:xs[hi-1]? =some p)(hq:xs[hi]? =some q)(hr:r q p=false):SI r xs lo (hi+1):=fun i j x y h1 h2 h3 hx hy=>by
 by_cases hj:j<hi
 ·exact h i j x y h1 h2 hj hx hy
 ·obtain rfl:j=hi:=.o;rw[hq]at hy;cases hy;by_cases aY:i=j
  ·subst aY;rw[hq]at hx;cases hx;exact o.lj _
  ·exact o.dP x p q (h i (j-1) x p h1 .o .o hx hp) hr
theorem NI.snoc (o:Ord r)(h:NI r xs lo hi){p q:Keyed}(hl:lo<hi)(hp:xs[hi-1]? =some p)(hq:xs[hi]? =some q)(hr:r p q=false):NI r xs lo (hi+1):=fun i j x y h1 h2 h3 hx hy=>by
 by_cases hj:j<hi
 ·exact h i j x y h1 h2 hj hx hy
 ·obtain rfl:j=hi:=.o;rw[hq]at hy;cases hy;by_cases aY:i=j
  ·subst aY;rw[hq]at hx;cases hx;exact o.lj _
  ·exact o.dP q p x hr (h i (j-1) x p h1 .o .o hx hp)
theorem EQ.snoc (o:Ord r)(h:EQ r xs lo hi){p q:Keyed}(hl:lo<hi)(hp:xs[hi-1]? =some p)(hq:xs[hi]? =some q)(hr:r p q=false)(eV:r q p=false):EQ r xs lo (hi+1):=fun i j x y h1 h2 h3 h4 hx hy=>by
 have one:∀i x,lo<=i->i<hi->xs[i]? =some x->r x q=false/\r q x=false:=fun i x h1 h2 hx=>
  ⟨o.dP q p x hr (h i (hi-1) x p h1 h2 .o .o hx hp),o.dP x p q (h (hi-1) i p x .o .o h1 h2 hp hx) eV⟩
 by_cases hj:j<hi
 ·by_cases aY:i<hi
  ·exact h i j x y h1 aY h3 hj hx hy
  ·obtain rfl:i=hi:=.o;rw[hq]at hx;cases hx;exact(one j y h3 hj hy).2
 ·obtain rfl:j=hi:=.o;rw[hq]at hy;cases hy;by_cases aY:i<j
  ·exact(one i x h1 aY hx).1
  ·obtain rfl:i=j:=.o;rw[hq]at hx;cases hx;exact o.lj _
abbrev dg (xs:Array Keyed)(i j:Nat):Array Keyed:=mirror xs i j ((j-i)/2)
theorem WK (hh:hi<=xs.size)(k:Nat):(dg xs lo hi)[k]? =if lo<=k/\k<hi then xs[lo+hi-1-k]? else xs[k]? :=getElem?_mirror_all hh k
theorem SI.dg (h:SI r xs lo hi)(hh:hi<=xs.size):NI r (dg xs lo hi) lo hi:=fun i j x y h1 h2 h3 hx hy=>by rw[WK hh,ZaQ ⟨.o,.o⟩]at hx hy;exact h _ _ y x .o .o .o hy hx
theorem NI.dg (h:NI r xs lo hi)(hh:hi<=xs.size):SI r (dg xs lo hi) lo hi:=fun i j x y h1 h2 h3 hx hy=>by rw[WK hh,ZaQ ⟨.o,.o⟩]at hx hy;exact h _ _ y x .o .o .o hy hx
theorem NI.Dh {m:Nat}(h:NI r xs lo hi)(e:EQ r xs m hi)(hm:lo<=m)(hh:hi<=xs.size):NI r (PyProof.Rows.dc.dg xs m hi) lo hi:=fun i j x y h1 h2 h3 hx hy=>by
 rw[WK hh]at hx hy;by_cases hj:m<=j
 ·rw[ZaQ ⟨hj,h3⟩]at hy;by_cases aY:m<=i
  ·rw[ZaQ ⟨aY,.o⟩]at hx;exact e _ _ x y .o .o .o .o hx hy
  ·rw[Zaz .o]at hx;exact h i _ x y h1 .o .o hx hy
 ·rw[Zaz .o]at hx hy;exact h i j x y h1 h2 h3 hx hy
theorem GY {m:Nat}(hh:hi<=xs.size)(hm:m<hi){p:Keyed}(hp:(dg xs m hi)[hi-1]? =some p):xs[m]? =some p:=by rw[WK hh,ZaQ ⟨.o,.o⟩,show m+hi-1-(hi-1)=m by omega]at hp;exact hp
theorem AL (hh:hi<=xs.size){k:Nat}(h:k<lo∨hi<=k):(dg xs lo hi)[k]? =xs[k]? :=by rw[WK hh,Zaz .o]
end
structure CB (a₀:Array Keyed)(κ:SortKind)(lo:Nat)(st af:SortSt):Prop where
 kind:kindOf af=κ
 pend:pendingOf af=pendingOf st
 fail:failedOf af=failedOf st
 perm:(arrOf af).Perm a₀
 pre:∀k,k<lo->(arrOf af)[k]? =(arrOf st)[k]?
theorem CB.size {a₀:Array Keyed}{κ:SortKind}{lo:Nat}{st af:SortSt}(h:CB a₀ κ lo st af):(arrOf af).size=a₀.size:=h.perm.size_eq
theorem CB.mem {a₀:Array Keyed}{κ:SortKind}{lo:Nat}{st af:SortSt}(h:CB a₀ κ lo st af){i:Nat}{x:Keyed}(hx:(arrOf af)[i]? =some x):x∈a₀.toList:=(ZbD.mp h.perm).mem_iff.mp (ZR hx)
theorem CB.rev {a₀:Array Keyed}{κ:SortKind}{lo m hi:Nat}{st af:SortSt}(h:CB a₀ κ lo st af)(hm:lo<=m)(hh:hi<=a₀.size):CB a₀ κ lo st (setArr af (dg (arrOf af) m hi)):=
 ⟨h.kind,h.pend,h.fail,(mirror_perm _ _ _ _).trans h.perm,fun k hk=>by show(dg (arrOf af) m hi)[k]? =_;rw[AL (by rw[h.size];exact hh) (.inl .o)];exact h.pre k hk⟩
section
variable {prog:Program}{w:World}{A:Around}{E:Value->Shared->Prop}{s:Shared}{κ:SortKind}{a₀:Array Keyed}{r:Keyed->Keyed->Bool}
theorem Y3 {st af:SortSt}{lo i j:Nat}{x y:Keyed}{Q:Option Bool->SortSt->Prop}(hc:jm prog w A E s κ a₀ r)(B:CB a₀ κ lo st af)(hx:(arrOf af)[i]? =some x)(hy:(arrOf af)[j]? =some y)(h:Q (some (r x y)) af):wpS (model prog w) A E s (ltAt' i j) Q af:=by rw[ltAt'_eq];exact ZaE (Ze4 (ZaE (Zt hx (ZaE (Zt hy (hc _ _ _ _ (B.mem hx) (B.mem hy) B.kind h))))))
theorem Ji {st:SortSt}{i j:Nat}{Q:Unit->SortSt->Prop}(h:Q () (setArr st (dg (arrOf st) i j))):wpS (model prog w) A E s (reverseSlice' i j) Q st:=by rw[reverseSlice'_eq];exact Zer h
theorem EQ.yr {xs:Array Keyed}{lo hi:Nat}(o:Ord r)(h:hi=lo+1):EQ r xs lo hi:=by subst h;exact EQ.one o
theorem Ud {st:SortSt}{lo eP:Nat}{Q:Option Nat->SortSt->Prop}(o:Ord r)(hc:jm prog w A E s κ a₀ r)(B0:CB a₀ κ lo st st)(h1:1<=eP)(hz:lo+eP<=a₀.size)
  (h:∀n af,CB a₀ κ lo st af->1<=n->n<=eP->SI r (arrOf af) lo (lo+n)->Q (some n) af):wpS (model prog w) A E s (countRun' lo eP) Q st:=by
 rw[countRun'_eq]
 try dsimp -zeta only
 have z0:=B0.size;refine ZaE (Zex (ZcF (I:=fun y c af=>af=st/\c=(none,y)/\SI r (arrOf st) lo (lo+y))
  (Q:=fun c af=>af=st/\∃n,c=(none,n)/\1<=n/\n<=eP/\SI r (arrOf st) lo (lo+n)/\(n=eP∨∃p q,(arrOf st)[lo+n-1]? =some p/\(arrOf st)[lo+n]? =some q/\r q p=true)) ?_ ?_ ⟨rfl,rfl,SI.one o⟩) ?_)
 ·rintro y c af oR dQ ⟨rfl,rfl,S⟩;dsimp only;obtain⟨p,hp⟩:=Zl (xs:=arrOf af) (i:=lo+y-1) .o;obtain⟨q,hq⟩:=Zl (xs:=arrOf af) (i:=lo+y) .o;refine ZaE (Y3 hc B0 hq hp ?_);cases hr:r q p with
  |true=>exact ZaP ⟨rfl,y,rfl,oR,.o,S,.inr ⟨p,q,hp,hq,hr⟩⟩
  |false=>exact ZaP ⟨rfl,rfl,S.snoc (hi:=lo+y) o .o hp hq hr⟩
 ·rintro c af ⟨rfl,rfl,S⟩;have e9:max 1 eP=eP:=Zbx h1;rw[e9]at S;exact⟨rfl,eP,by rw[e9],h1,Zak _,S,.inl rfl⟩
 rintro c af ⟨rfl,n,rfl,n1,n2,S,hn⟩;refine ZH (fun fY=>ZaP (h n af B0 n1 n2 S)) (fun fY=> ?_);rcases hn with hn |⟨p,q,hp,hq,hr⟩
 ·exact absurd hn fY
 replace n2:n<eP:=Nat.lt_of_le_of_ne n2 fY;dsimp -zeta only
 extract_lets -underBinder jp
 refine FK (j:=jp) (fun stx=>CB a₀ κ lo af stx/\NI r (arrOf stx) lo (lo+(n+1))) ?_ (fun yX hj=> ?_) (fun yX=> ?_)
 ·rintro aA ⟨B1,N1⟩;dsimp -zeta only[jp];clear jp S hp hq hr;refine ZaE (ZfT (Zdt ⟨rfl,?_⟩));refine ZaE (Zex (ZcF (I:=fun y c stx=>CB a₀ κ lo af stx/\∃df,c=(none,y,df)/\NI r (arrOf stx) lo (lo+y)/\df+1<=y/\EQ r (arrOf stx) (lo+y-(df+1)) (lo+y))
   (Q:=fun c stx=>CB a₀ κ lo af stx/\∃m df,c=(none,m,df)/\n+1<=m/\m<=eP/\NI r (arrOf stx) lo (lo+m)/\df+1<=m/\EQ r (arrOf stx) (lo+m-(df+1)) (lo+m)) ?_ ?_ ⟨B1,0,rfl,N1,.o,EQ.yr o .o⟩) ?_)
  ·rintro y c av oR dQ ⟨B2,df,rfl,N2,g1,e2⟩;dsimp only;have z2:=B2.size;obtain⟨p2,fQ⟩:=Zl (xs:=arrOf av) (i:=lo+y-1) .o;obtain⟨q2,cP⟩:=Zl (xs:=arrOf av) (i:=lo+y) .o;refine ZaE (Y3 hc B2 cP fQ ?_);cases eV:r q2 p2 with
   |true=>
    dsimp only;rw[ZaQ rfl];by_cases ae:df>0
    ·rw[ZaQ ae];refine ZaE (Ji ?_);have B3:=B2.rev (m:=lo+y-(df+1)) (hi:=lo+y) .o .o;have N3:NI r (dg (arrOf av) (lo+y-(df+1)) (lo+y)) lo (lo+y):=N2.Dh e2 .o .o;obtain⟨p3,qY⟩:=Zl (xs:=dg (arrOf av) (lo+y-(df+1)) (lo+y)) (i:=lo+y-1) (by rw[mirror_size];omega);have Ob:=GY .o .o qY;have NZ:(dg (arrOf av) (lo+y-(df+1)) (lo+y))[lo+y]? =some q2:=by rw[AL .o (.inr (Zak _))];exact cP
     have h3:r p3 q2=false:=o.dP q2 p2 p3 (o.gw _ _ eV) (e2 _ _ p3 p2 (Zak _) .o .o .o Ob fQ);exact ZaP ⟨B3,0,rfl,N3.snoc (hi:=lo+y) o .o qY NZ h3,.o,EQ.yr o .o⟩
    ·rw[Zaz ae];exact ZaP ⟨B2,0,rfl,N2.snoc (hi:=lo+y) o .o fQ cP (o.gw _ _ eV),.o,EQ.yr o .o⟩
   |false=>
    dsimp only;rw[Zaz Zag];refine ZaE (Y3 hc B2 fQ cP ?_);cases DJ:r p2 q2 with
    |true=>exact ZaP ⟨B2,y,df,rfl,.o,.o,N2,g1,e2⟩
    |false=>refine ZaP ⟨B2,df+1,rfl,N2.snoc (hi:=lo+y) o .o fQ cP DJ,.o,?_⟩;have:=e2.snoc (hi:=lo+y) o .o fQ cP DJ eV;rw[show lo+(y+1)-(df+1+1)=lo+y-(df+1) by omega];exact this
  ·rintro c av ⟨B2,df,rfl,N2,g1,e2⟩;have e9:max (n+1) eP=eP:=Zbx .o;rw[e9]at N2 g1 e2;exact⟨B2,eP,df,by rw[e9],.o,.o,N2,g1,e2⟩
  rintro c bU ⟨B3,m,df,rfl,m1,m2,N3,g3,e3⟩;have z3:=B3.size
  extract_lets -underBinder r1 s1 t1 u1
  dsimp -zeta only[r1,s1,t1,u1]
  extract_lets -underBinder jp
  refine FK (j:=jp) (fun stx=>CB a₀ κ lo af stx/\NI r (arrOf stx) lo (lo+m)) ?_ (fun ae hj=> ?_) (fun ae=> ⟨B3,N3⟩)
  ·rintro eG ⟨B4,N4⟩;clear B3 N3 e3 z3;dsimp -zeta only[jp];clear jp;refine ZaE (Ji ?_);have B9:=B4.rev (m:=lo) (hi:=lo+m) (Zak _) .o;have S9:SI r (arrOf (setArr eG (dg (arrOf eG) lo (lo+m)))) lo (lo+m):=NI.dg N4 (by rw[B4.size];omega);generalize setArr eG (dg (arrOf eG) lo (lo+m))=nW at B9 S9;have z9:=B9.size;refine ZaE (ZcF (I:=fun y c stx=>stx=nW/\c=(none,y)/\SI r (arrOf nW) lo (lo+y)) ?_ ?_ ⟨rfl,rfl,S9⟩)
   ·rintro y c stx oR dQ ⟨rfl,rfl,S⟩;dsimp only;obtain⟨p9,DR⟩:=Zl (xs:=arrOf stx) (i:=lo+y-1) .o;obtain⟨q9,DN⟩:=Zl (xs:=arrOf stx) (i:=lo+y) .o;refine ZaE (Y3 hc B9 DN DR ?_);cases NW:r q9 p9 with
    |true=>exact ZaP (ZaP (h y stx B9 .o .o S))
    |false=>exact ZaP ⟨rfl,rfl,S.snoc (hi:=lo+y) o .o DR DN NW⟩
   ·rintro c stx ⟨rfl,rfl,S⟩;rw[Zbx .o]at S;have e9:max m eP=eP:=Zbx .o;dsimp only;rw[e9];exact ZaP (h eP stx B9 .o .o S)
  ·clear_value jp
   exact ZaE (Ji (hj _ ⟨B3.rev (m:=lo+m-(df+1)) (hi:=lo+m) .o .o,N3.Dh e3 .o .o⟩))
 ·clear_value jp
  obtain⟨f,hf⟩:=Zl (xs:=arrOf af) (i:=lo) .o;refine ZaE (Y3 hc B0 hf hp ?_);refine Aw (fun DH=>ZaP (h n af B0 n1 (ZdQ n2) S)) (fun DH=>ZaE (Ji (hj _ ⟨B0.rev (m:=lo) (hi:=lo+n) (Zak _) .o,?_⟩)));have N1:NI r (dg (arrOf af) lo (lo+n)) lo (lo+n):=S.dg .o;obtain⟨p1,oT⟩:=Zl (xs:=dg (arrOf af) lo (lo+n)) (i:=lo+n-1) (by rw[mirror_size];omega);have DS:=GY .o .o oT;rw[hf]at DS;cases DS;have fO:(dg (arrOf af) lo (lo+n))[lo+n]? =some q:=by rw[AL .o (.inr (Zak _))];exact hq
  exact N1.snoc (hi:=lo+n) o .o oT fO (o.dP q p f (o.gw _ _ hr) DH)
 ·obtain rfl:n=1:=.o;exact⟨B0,(NI.one o).snoc (hi:=lo+1) o .o hp hq (o.gw _ _ hr)⟩
theorem Rx {x y z:Keyed}(o:Ord r)(h:r z x=true)(h2:r y x=false):r z y=true:=by
 cases e:r z y with
 |true=>rfl
 |false=>have:=o.dP x y z h2 e;rw[h]at this;cases this
theorem Xi {st:SortSt}{i j:Nat}{Q:Unit->SortSt->Prop}(h:Q () (setArr st (bubble (arrOf st) i (i-j)))):wpS (model prog w) A E s (moveDown' i j) Q st:=by rw[moveDown'_eq];exact Zer h
theorem SI.put {xs:Array Keyed}{lo k l:Nat}{q:Keyed}(o:Ord r)(S:SI r xs lo (lo+k))(hq:xs[lo+k]? =some q)(hl:l<=k)(h1:∀i x,i<l->xs[lo+i]? =some x->r q x=false)(h2:∀i x,l<=i->i<k->xs[lo+i]? =some x->r q x=true):SI r (bubble xs (lo+k) (lo+k-(lo+l))) lo (lo+(k+1)):=by
 have hs:lo+k<xs.size:=(Zbm.mp hq).1;intro i j x y g1 g2 g3 hx hy;rw[getElem?_bubble hs _ .o]at hx hy;rw[show lo+k-(lo+k-(lo+l))=lo+l by omega]at hx hy;by_cases ei:i=lo+l
 ·rw[ZaQ ei,hq]at hx;cases hx;by_cases ej:j=lo+l
  ·rw[ZaQ ej,hq]at hy;cases hy;exact o.lj _
  ·rw[Zaz ej,ZaQ .o]at hy;exact o.gw _ _ (h2 (j-1-lo) y .o .o (by rw[show lo+(j-1-lo)=j-1 by omega];exact hy))
 ·rw[Zaz ei]at hx;by_cases ej:j=lo+l
  ·rw[ZaQ ej,hq]at hy;cases hy;rw[Zaz .o]at hx;exact h1 (i-lo) x .o (by rw[show lo+(i-lo)=i by omega];exact hx)
  ·rw[Zaz ej]at hy;by_cases gi:lo+l<i
   ·rw[ZaQ .o]at hx hy;exact S (i-1) (j-1) x y .o .o .o hx hy
   ·rw[Zaz .o]at hx;by_cases gj:lo+l<j
    ·rw[ZaQ .o]at hy;exact S i (j-1) x y .o .o .o hx hy
    ·rw[Zaz .o]at hy;exact S i j x y .o .o .o hx hy
theorem We {st eI:SortSt}{lo n ok:Nat}{Q:Bool->SortSt->Prop}(o:Ord r)(hc:jm prog w A E s κ a₀ r)(B0:CB a₀ κ lo eI st)(h1:1<=ok)(hn:ok<=n)(hz:lo+n<=a₀.size)(S0:SI r (arrOf st) lo (lo+ok))
  (h:∀af,CB a₀ κ lo eI af->SI r (arrOf af) lo (lo+n)->Q true af):wpS (model prog w) A E s (binarySort' lo n ok) Q st:=by
 rw[binarySort'_eq];dsimp only;rw[Nat.max_eq_left h1];refine ZaE (ZcF (I:=fun k c af=>c=(none,())/\CB a₀ κ lo eI af/\SI r (arrOf af) lo (lo+k)) ?_ ?_ ⟨rfl,B0,S0⟩)
 ·rintro k c aA lU Eb ⟨rfl,B1,S1⟩
  try dsimp only
  have z1:=B1.size;obtain⟨q,hq⟩:=Zl (xs:=arrOf aA) (i:=lo+k) .o;refine ZaE (Zex (ZcF (I:=fun y c af=>af=aA/\∃l u,c=(none,l,u)/\l<=u/\u<=k/\(∀i x,i<l->(arrOf aA)[lo+i]? =some x->r q x=false)/\(∀i x,u<=i->i<k->(arrOf aA)[lo+i]? =some x->r q x=true)/\u-l<=k-y)
   (Q:=fun c af=>af=aA/\∃l u,c=(none,l,u)/\l<=k/\(∀i x,i<l->(arrOf aA)[lo+i]? =some x->r q x=false)/\(∀i x,l<=i->i<k->(arrOf aA)[lo+i]? =some x->r q x=true)) ?_ ?_ ⟨rfl,0,k,rfl,.o,.o,fun i x hi=>absurd hi .o,fun i x g1 g2=>absurd g2 .o,.o⟩) ?_)
  ·rintro y c af _ hy ⟨rfl,l,u,rfl,g1,g2,g3,g4,g5⟩;dsimp only;refine ZG (fun gf=> ?_) (fun gf=> ?_)
   ·exact ZaP ⟨rfl,l,u,rfl,.o,g3,fun i x g6=>g4 i x .o⟩
   ·have hm:(l+u)/2<u:=.o;have kh:l<=(l+u)/2:=.o;generalize (l+u)/2=m at hm kh;obtain⟨p,hp⟩:=Zl (xs:=arrOf af) (i:=lo+m) .o;refine ZaE (Y3 hc B1 hq hp ?_);cases hr:r q p with
    |true=>refine ZaP ⟨rfl,l,m,rfl,kh,.o,g3,fun i x g6 g7 hx=> ?_,.o⟩;exact Rx o hr (S1 (lo+m) (lo+i) p x .o .o .o hp hx)
    |false=>refine ZaP ⟨rfl,m+1,u,rfl,.o,g2,fun i x g6 hx=> ?_,g4,.o⟩;exact o.dP x p q (S1 (lo+i) (lo+m) x p .o .o .o hx hp) hr
  ·rintro c af ⟨rfl,l,u,rfl,g1,g2,g3,g4,g5⟩;rw[Zbx (ZaM _)]at g5;exact⟨rfl,l,u,rfl,.o,g3,fun i x g6=>g4 i x .o⟩
  rintro c af ⟨rfl,l,u,rfl,g1,g3,g4⟩;dsimp only;refine ZaE (Xi (ZaP ⟨rfl,⟨B1.kind,B1.pend,B1.fail,(bubble_perm _ _ _).trans B1.perm,fun i hi=> ?_⟩,S1.put o hq g1 g3 g4⟩));show(bubble (arrOf af) (lo+k) (lo+k-(lo+l)))[i]? =_;rw[getElem?_bubble .o _ .o,Zaz .o,Zaz .o];exact B1.pre i hi
 ·rintro c aA ⟨rfl,B1,S1⟩;rw[Zbx hn]at S1;exact ZaP (h aA B1 S1)
end
def seg (L:List Keyed)(s n:Nat):List Keyed:=(L.drop s).take n
theorem YL {L:List Keyed}{s n i:Nat}(h:i<n):(seg L s n)[i]? =L[s+i]? :=by unfold seg;rw[ZcZ h,ZdA]
theorem Gq {L:List Keyed}{s n:Nat}(h:s+n<=L.length):(seg L s n).length=n:=by unfold seg;rw[ZaR,Zcz];omega
theorem SI.pw {r:Keyed->Keyed->Bool}{xs:Array Keyed}{lo n:Nat}(h:SI r xs lo (lo+n)):Pw r (seg xs.toList lo n):=by
 unfold Pw;rw[ZcS];intro i j hi hj cZ;have hn:j<n:=by unfold seg at hj;rw[ZaR]at hj;omega
 have e1:(seg xs.toList lo n)[i]? =some (seg xs.toList lo n)[i]:=Zaw hi;have e2:(seg xs.toList lo n)[j]? =some (seg xs.toList lo n)[j]:=Zaw hj;rw[YL .o,ZaT]at e1;rw[YL hn,ZaT]at e2;exact h (lo+i) (lo+j) _ _ .o .o .o e1 e2
def Runs (r:Keyed->Keyed->Bool)(L:List Keyed):List (Nat×Nat×Nat)->Nat->Nat->Prop
 | [],p,q=>p=q
 |x::rest,p,q=>x.1=p/\1<=x.2.1/\Pw r (seg L x.1 x.2.1)/\Runs r L rest (p+x.2.1) q
section
variable {r:Keyed->Keyed->Bool}{L L':List Keyed}
theorem Runs.le:∀{ps:List (Nat×Nat×Nat)}{p q:Nat},Runs r L ps p q->p+ps.length<=q
 | [],_,_,h=>by cases h;exact Zak _
 |x::ps,p,q,h=>by have:=Runs.le h.2.2.2;have:=h.2.1;rw[Za8];omega
theorem Runs.app:∀{l1 l2:List (Nat×Nat×Nat)}{p q:Nat},Runs r L (l1++l2) p q↔∃m,Runs r L l1 p m/\Runs r L l2 m q
 | [],l2,p,q=> ⟨fun h=> ⟨p,rfl,h⟩,fun⟨m,h1,h2⟩=>by cases h1;exact h2⟩
 |x::l1,l2,p,q=>by
  constructor
  ·rintro⟨h1,h2,h3,h4⟩;obtain⟨m,g1,g2⟩:=Runs.app.mp h4;exact⟨m,⟨h1,h2,h3,g1⟩,g2⟩
  ·rintro⟨m,⟨h1,h2,h3,g1⟩,g2⟩;exact⟨h1,h2,h3,Runs.app.mpr ⟨m,g1,g2⟩⟩
theorem Runs.congr:∀{ps:List (Nat×Nat×Nat)}{p q:Nat},Runs r L ps p q->(∀s n,p<=s->s+n<=q->seg L s n=seg L' s n)->Runs r L' ps p q
 | [],_,_,h,_=>h
 |x::ps,p,q,⟨h1,h2,h3,h4⟩,e=>by have:=Runs.le h4;refine⟨h1,h2,?_,Runs.congr h4 fun s n g1 g2=>e s n .o g2⟩;rw[<-e x.1 x.2.1 .o .o];exact h3
theorem Gr {m s n:Nat}(h:L.take m=L'.take m)(hs:s+n<=m):seg L s n=seg L' s n:=by
 have key:∀M:List Keyed,seg M s n=seg (M.take m) s n:=fun M=>by unfold seg;rw[List.drop_take,Zha,Zd9 .o]
 rw[key L,key L',h]
theorem Wz {m s n:Nat}(h:L.drop m=L'.drop m)(hs:m<=s):seg L s n=seg L' s n:=by
 have key:∀M:List Keyed,seg M s n=((M.drop m).drop (s-m)).take n:=fun M=>by unfold seg;rw[Zes,show m+(s-m)=s by omega]
 rw[key L,key L',h]
theorem Xu {A B M:List Keyed}{k n:Nat}(o:Ord r)(sA:Pw r A)(sB:Pw r B)(hM:M.Perm (A.drop k++B.take n))(sM:Pw r M)(h1:∀x∈A.take k,∀y∈B,r y x=false)(h2:∀z∈A,∀w∈B.drop n,r w z=false):Pw r (A.take k++(M++B.drop n)):=by
 have pa:Pw r (A.take k):=Zcp (ZdI _ _) sA;have pb:Pw r (B.drop n):=Zcp (ZdJ _ _) sB;have K9:Pw r (A.take k++A.drop k):=by rw[Zby];exact sA
 have K8:Pw r (B.take n++B.drop n):=by rw[Zby];exact sB
 refine Zbo.mpr ⟨pa,Zbo.mpr ⟨sM,pb,fun z hz w hw=> ?_⟩,fun x hx z hz=> ?_⟩
 ·rcases ZaO.mp (hM.mem_iff.mp hz) with hz |hz
  ·exact h2 z (ZcH hz) w hw
  ·exact(Zbo.mp K8).2.2 z hz w hw
 ·rcases ZaO.mp hz with hz |hz
  ·rcases ZaO.mp (hM.mem_iff.mp hz) with hz |hz
   ·exact(Zbo.mp K9).2.2 x hx z hz
   ·exact h1 x hx z (ZdE hz)
  ·exact h1 x hx z (ZcH hz)
theorem Gj (off:Nat):∀(M:List Keyed) (j:Nat) (xs:Array Keyed),off+j+M.length<=xs.size->((M.zipIdx j).foldl (fun a x=>a.setIfInBounds (off+x.snd) x.fst) xs).toList=xs.toList.take (off+j)++(M++xs.toList.drop (off+j+M.length))
 | [],j,xs,_=>by show xs.toList=_;rw[Zdn,ZcN,ZdV,Zby]
 |m::M,j,xs,h=>by
  rw[Za8]at h;rw[Zgx,Zdw,Gj off M (j+1) _ (by rw[Zgb];omega),ZfP];have hl:off+j<xs.toList.length:=by rw[Zau];omega
  rw[List.drop_set_of_lt .o,<-Zej,Za2,List.take_set_of_le (Zak _),Zet hl];rw[ZaY,Za8,show off+j+1+M.length=off+j+(M.length+1) by omega];rfl
end
section
variable {s t k n m z y b:Nat}
theorem qa (h:¬n-k=0):s+(k+(n-k-1))=s+(n-1):=.o
theorem qb (h:k<=n)(h1:1<=n):s+(n-1)=s+k+(n-k)-1:=.o
theorem qc (e:t=s+n)(h:k<=n):s+k+(n-k+m)=t+m:=.o
theorem qd (e:t=s+n)(h:k<=n):t-(s+k)=n-k:=.o
theorem qe (h:k<=n)(g:m<=b):min k n+(n-k+m+(b-m))=n+b:=.o
theorem qf (h:k<=n)(h1:1<=n)(h2:1<=m)(e:t=s+n)(f:z=y)(g:t+m<=y):s+k+(n-k)-1<z:=.o
theorem qg (e:t=s+n)(h:k<=n)(g:m<=b)(f:t+b<=y)(f':z=y):s+k+0+(n-k+m)<=z:=.o
theorem qh (h2:1<=m)(f:z=y)(g:t+m<=y):t<z:=.o
theorem qi (e:t=s+n)(f:z=y)(g:t+m<=y)(h:k<n):s+k<z:=.o
theorem qj (f:z=y)(g:t+m<=y)(h:k<m):t+k<z:=.o
end
section
variable {prog:Program}{w:World}{A:Around}{E:Value->Shared->Prop}{s:Shared}{κ:SortKind}{a₀:Array Keyed}{r:Keyed->Keyed->Bool}
theorem TY {st af:SortSt}{Q:PUnit->SortSt->Prop}(h:Q ⟨⟩ af):wpS (model prog w) A E s (set af:StateT SortSt Sem PUnit) Q st:=by unfold wpS;exact gc ⟨rfl,h⟩
theorem TX {α:Type}{m:StateT SortSt Sem α}{Q:α->SortSt->Prop}{st:SortSt}(P:SortSt->Prop)(hp:P st)(h:∀eI,P eI->wpS (model prog w) A E s m Q eI):wpS (model prog w) A E s m Q st:=h st hp
theorem ZaL {st:SortSt}{i:Nat}{Q:Bool->SortSt->Prop}(o:Ord r)(hc:jm prog w A E s κ a₀ r)(hk:kindOf st=κ)(hP:(arrOf st).Perm a₀)(hF:failedOf st=none){pre post:List (Nat×Nat×Nat)}{sa na pw sb nb ud:Nat}
  (hp:(pendingOf st).toList=pre++(sa,na,pw)::(sb,nb,ud)::post) (hi:pre.length=i) (kR:sb=sa+na) (n1:1<=na) (n2:1<=nb) (hz:sb+nb<=a₀.size) (SA:Pw r (seg (arrOf st).toList sa na)) (SB:Pw r (seg (arrOf st).toList sb nb))
  (h:∀af,kindOf af=κ->(arrOf af).Perm a₀->failedOf af=none->(pendingOf af).toList=pre++(sa,na+nb,pw)::post->(arrOf af).toList.take sa=(arrOf st).toList.take sa->(arrOf af).toList.drop (sb+nb)=(arrOf st).toList.drop (sb+nb)->Pw r (seg (arrOf af).toList sa (na+nb))->Q true af):
  wpS (model prog w) A E s (mergeAt' i) Q st:=by
 have hsz:(arrOf st).size=a₀.size:=hP.size_eq;have e1:(pendingOf st)[i]? =some (sa,na,pw):=by rw[<-ZaT,hp,<-hi];simp
 have e2:(pendingOf st)[i+1]? =some (sb,nb,ud):=by rw[<-ZaT,hp,<-hi,Zcx .o,show pre.length+1-pre.length=1 by omega];rfl
 have DQ:(((pendingOf st).setIfInBounds i (sa,na+nb,pw)).eraseIdxIfInBounds (i+1)).toList=pre++(sa,na+nb,pw)::post:=by rw[Array.toList_eraseIdxIfInBounds,ZfP,hp,<-hi,List.set_append_right _ _ (Zak _),Nat.sub_self,List.set_cons_zero,List.eraseIdx_append_of_length_le .o,show pre.length+1-pre.length=1 by omega];rfl
 show wpS (model prog w) A E s (_ >>=_) _ _;obtain⟨kd,xs,pd,ga,fl⟩:=st;refine ZaE (Ze4 ?_);replace e1:pd[i]? =some (sa,na,pw):=e1;replace e2:pd[i+1]? =some (sb,nb,ud):=e2;dsimp only;rw[e1,e2];dsimp only;refine ZaE (TY ?_);refine TX (fun eI=>kindOf eI=κ/\arrOf eI=xs/\(pendingOf eI).toList=pre++(sa,na+nb,pw)::post/\failedOf eI=none) ⟨hk,rfl,DQ,hF⟩ ?_;rintro eI ⟨g1,g2,g3,g4⟩;clear DQ e1 e2;replace hP:xs.Perm a₀:=hP;replace hsz:xs.size=a₀.size:=hsz;replace SA:Pw r (seg xs.toList sa na):=SA;replace SB:Pw r (seg xs.toList sb nb):=SB;have mm:∀{j:Nat}{x:Keyed},xs[j]? =some x->x∈a₀.toList:=fun hx=> (ZbD.mp hP).mem_iff.mp (ZR hx);have lA:(seg xs.toList sa na).length=na:=Gq (by rw[Zau];omega);have lB:(seg xs.toList sb nb).length=nb:=Gq (by rw[Zau];omega);have Aa:∀{j:Nat}{x:Keyed},j<na->xs[sa+j]? =some x->(seg xs.toList sa na)[j]? =some x:=fun hj hx=>by rw[YL hj,ZaT];exact hx
 have z4:∀{j:Nat}{x:Keyed},j<nb->xs[sb+j]? =some x->(seg xs.toList sb nb)[j]? =some x:=fun hj hx=>by rw[YL hj,ZaT];exact hx
 have vw:∀{j:Nat}{x:Keyed},(seg xs.toList sa na)[j]? =some x->j<na/\xs[sa+j]? =some x:=fun {j x} hx=>by
  have hj:j<na:=by have:=(Zaa.mp hx).1;omega
  exact⟨hj,by rw[YL hj,ZaT]at hx;exact hx⟩
 have zZ:∀{j:Nat}{x:Keyed},(seg xs.toList sb nb)[j]? =some x->j<nb/\xs[sb+j]? =some x:=fun {j x} hx=>by
  have hj:j<nb:=by have:=(Zaa.mp hx).1;omega
  exact⟨hj,by rw[YL hj,ZaT]at hx;exact hx⟩
 have fin:∀(k n:Nat) (M:List Keyed) (af:SortSt),k<=na->n<=nb->kindOf af=κ->failedOf af=none->(pendingOf af).toList=pre++(sa,na+nb,pw)::post->M.Perm ((seg xs.toList sa na).drop k++(seg xs.toList sb nb).take n)->Pw r M->
   (∀x∈(seg xs.toList sa na).take k,∀y∈seg xs.toList sb nb,r y x=false)->(∀z∈seg xs.toList sa na,∀w∈(seg xs.toList sb nb).drop n,r w z=false)->
   (arrOf af).toList=xs.toList.take (sa+k)++(M++xs.toList.drop (sa+k+M.length))->Q true af:=fun k n M af zd fY f1 f2 f3 f4 f5 f6 f7 f8=>by
  have lM:M.length=(na-k)+n:=by rw[f4.length_eq,Zaj,Zcz,ZaR,lA,lB,Zd9 fY]
  have hL:xs.toList.length=a₀.size:=by rw[Zau];exact hsz
  have eA:xs.toList.take (sa+k)=xs.toList.take sa++(seg xs.toList sa na).take k:=by rw[List.take_add];unfold seg;rw[Zha,Zd9 zd]
  have eB:xs.toList.drop (sa+k+M.length)=(seg xs.toList sb nb).drop n++xs.toList.drop (sb+nb):=by
   rw[lM,show sa+k+(na-k+n)=sb+n from qc kR zd,<-Zes];have:xs.toList.drop sb=seg xs.toList sb nb++xs.toList.drop (sb+nb):=by unfold seg;rw[<-Zes,Zby]
   rw[this,List.drop_append_of_le_length (by rw[lB];exact fY)]
  have Qg:xs.toList=xs.toList.take sa++((seg xs.toList sa na++seg xs.toList sb nb)++xs.toList.drop (sb+nb)):=by
   have a1:xs.toList.drop sa=seg xs.toList sa na++xs.toList.drop sb:=by unfold seg;rw[kR,<-Zes,Zby]
   have a2:xs.toList.drop sb=seg xs.toList sb nb++xs.toList.drop (sb+nb):=by unfold seg;rw[<-Zes,Zby]
   rw[ZaY,<-a2,<-a1,Zby]
  have eN:(arrOf af).toList=xs.toList.take sa++(((seg xs.toList sa na).take k++(M++(seg xs.toList sb nb).drop n))++xs.toList.drop (sb+nb)):=by rw[f8,eA,eB];simp only[ZaY]
  have lX:(xs.toList.take sa).length=sa:=by rw[ZaR];omega
  have lY:((seg xs.toList sa na).take k++(M++(seg xs.toList sb nb).drop n)).length=na+nb:=by rw[Zaj,Zaj,ZaR,Zcz,lA,lB,lM];exact qe zd fY
  have pY:((seg xs.toList sa na).take k++(M++(seg xs.toList sb nb).drop n)).Perm (seg xs.toList sa na++seg xs.toList sb nb):=by refine List.Perm.trans (Zdy _ (Ze9 _ f4)) ?_;rw[ZaY,Zby,<-ZaY,Zby]
  refine h af f1 ?_ f2 f3 ?_ ?_ ?_
  ·refine ZbD.mpr (List.Perm.trans ?_ (ZbD.mp hP));rw[eN];refine List.Perm.trans (Zdy _ (Ze9 _ pY)) ?_;rw[<-Qg]
  ·rw[eN,List.take_left' lX]
  ·rw[eN,<-ZaY,List.drop_left' (by rw[Zaj,lX,lY];omega)]
  ·have:seg (arrOf af).toList sa (na+nb)=(seg xs.toList sa na).take k++(M++(seg xs.toList sb nb).drop n):=by rw[eN];show List.take (na+nb) (List.drop sa (xs.toList.take sa++(((seg xs.toList sa na).take k++(M++(seg xs.toList sb nb).drop n))++xs.toList.drop (sb+nb))))=_;rw[List.drop_left' lX,List.take_left' lY]
   rw[this];exact Xu o SA SB f4 f5 f6 f7
 obtain⟨y0,lF⟩:=Zl (xs:=xs) (i:=sb) (qh n2 hsz hz);refine ZaE (Zt lF ?_);have Po:∀y∈seg xs.toList sb nb,r y y0=false:=fun y hy=>by obtain⟨j,hj⟩:=Zdc hy;exact Jm o SB (z4 (j:=0) .o lF) hj (ZaM _)
 refine ZaE (Yb hc g1 (fun i=>match xs[sa+i]? with |some x=> !r y0 x |none=>false) (fun i hi=> ?_) (mm lF) (fun i j cZ hj hp=> ?_) .o fun k kn gE gF=> ?_)
 ·obtain⟨x,hx⟩:=Zl (xs:=xs) (i:=sa+i) (qi kR hsz hz .o);refine⟨x,hx,mm hx,?_⟩
  try dsimp only
  rw[hx];rfl
 ·obtain⟨xj,lI⟩:=Zl (xs:=xs) (i:=sa+j) (qi kR hsz hz .o);obtain⟨xi,lJ⟩:=Zl (xs:=xs) (i:=sa+i) (qi kR hsz hz .o)
  try dsimp only at hp |-
  rw[lI]at hp;rw[lJ];rw[ZcR]at hp |-;exact o.dP _ _ _ (Jm o SA (Aa .o lJ) (Aa .o lI) cZ) hp
 dsimp only;have low:∀x∈(seg xs.toList sa na).take k,∀y∈seg xs.toList sb nb,r y x=false:=fun x hx y hy=>by
  obtain⟨j,hj⟩:=Zdc hx;have Ed:j<k:=by have:=(Zaa.mp hj).1;rw[ZaR]at this;omega
  rw[ZcZ Ed]at hj;obtain⟨rh,m9⟩:=vw hj;have:=gE j Ed
  try dsimp only at this
  rw[m9,ZcR]at this;exact o.dP x y0 y this (Po y hy)
 refine ZG (fun jE=> ?_) (fun jE=> ?_)
 ·have ek:k=na:=by have:=Zd8.mp jE;omega
  subst ek;refine ZaP (fin k 0 [] eI (Zak _) (ZaM _) g1 g4 g3 (by rw[ZcV .o];exact .refl _) .nil low (fun z hz w hw=> ?_) ?_)
  ·exact low z (by rw[Zds .o];exact hz) w (ZcH hw)
  ·rw[g2,Zdn,ZcN,ZdV,Zby]
 have Ny:¬(na-k=0):=fun z=>jE (Zd8.mpr z);obtain⟨x0,jF⟩:=Zl (xs:=xs) (i:=sa+k+(na-k)-1) (qf kn n1 n2 kR hsz hz);refine ZaE (Zt jF ?_);have Dz:xs[sa+(na-1)]? =some x0:=by rw[<-jF];congr 1;exact qb kn n1
 have Pp:∀x∈seg xs.toList sa na,r x0 x=false:=fun x hx=>by obtain⟨j,hj⟩:=Zdc hx;exact Jm o SA hj (Aa (j:=na-1) .o Dz) (by have:=(vw hj).1;omega)
 refine ZaE (Yb hc g1 (fun i=>match xs[sb+i]? with |some y=>r y x0 |none=>false) (fun i hi=> ?_) (mm jF) (fun i j cZ hj hp=> ?_) .o fun n nn MD ME=> ?_)
 ·obtain⟨y,hy⟩:=Zl (xs:=xs) (i:=sb+i) (qj hsz hz .o);refine⟨y,hy,mm hy,?_⟩
  try dsimp only
  rw[hy];rfl
 ·obtain⟨yj,lD⟩:=Zl (xs:=xs) (i:=sb+j) (qj hsz hz .o);obtain⟨yi,lE⟩:=Zl (xs:=xs) (i:=sb+i) (qj hsz hz .o)
  try dsimp only at hp |-
  rw[lD]at hp;rw[lE];exact Ai o hp (Jm o SB (z4 .o lE) (z4 .o lD) cZ)
 dsimp only;have high:∀z∈seg xs.toList sa na,∀w∈(seg xs.toList sb nb).drop n,r w z=false:=fun z hz w hw=>by
  obtain⟨j,hj⟩:=Zdc hw;rw[ZdA]at hj;obtain⟨rh,m9⟩:=zZ hj;have:=ME (n+j) .o rh
  try dsimp only at this
  rw[m9]at this;exact o.dP z x0 w (Pp z hz) this
 refine ZG (fun iO=> ?_) (fun iO=> ?_)
 ·have en:n=0:=Zd8.mp iO;subst en;refine ZaP (fin na 0 [] eI (Zak _) (ZaM _) g1 g4 g3 (by rw[ZcV .o];exact .refl _) .nil (fun x hx y hy=> ?_) high ?_)
  ·exact high x (ZdE hx) y (by rw[Zf1];exact hy)
  ·rw[g2,Zdn,ZcN,ZdV,Zby]
 have aaW:¬(n=0):=fun z=>iO (Zd8.mpr z);have xA:(xs.extract (sa+k) sb).toList=(seg xs.toList sa na).drop k:=by rw[JU];unfold seg;rw[List.drop_take,Zes,show sb-(sa+k)=na-k from qd kR kn]
 have xB:(xs.extract sb (sb+n)).toList=(seg xs.toList sb nb).take n:=by rw[JU,show sb+n-sb=n by omega];unfold seg;rw[Zha,Zd9 nn]
 have Kh:(xs.extract (sa+k) sb).size=na-k:=by rw[<-Zau,xA,Zcz,lA]
 have aaR:(xs.extract sb (sb+n)).size=n:=by rw[<-Zau,xB,ZaR,lB];omega
 have C:ff r (xs.extract (sa+k) sb) (xs.extract sb (sb+n)):=⟨o,by rw[xA];exact Zcp (ZdJ _ _) SA,by rw[xB];exact Zcp (ZdI _ _) SB⟩;have mA:∀x∈(xs.extract (sa+k) sb).toList,x∈a₀.toList:=fun x hx=>by rw[xA]at hx;obtain⟨j,hj⟩:=Zdc (ZcH hx);exact mm (vw hj).2
 have mB:∀x∈(xs.extract sb (sb+n)).toList,x∈a₀.toList:=fun x hx=>by rw[xB]at hx;obtain⟨j,hj⟩:=Zdc (ZdE hx);exact mm (zZ hj).2
 have m0:∀y,(xs.extract sb (sb+n))[0]? =some y->∀x∈(xs.extract (sa+k) sb).toList,r x y=false:=fun y hy x hx=>by
  have oR:=ZN hy;rw[xB,ZcZ .o,YL .o,ZdV,ZaT,lF]at oR;cases oR;rw[xA]at hx;obtain⟨j,hj⟩:=Zdc hx;rw[ZdA]at hj;obtain⟨rh,m9⟩:=vw hj;have:=gF (k+j) .o rh
  try dsimp only at this
  rw[m9,ZfU]at this;exact o.gw _ _ this
 have ml:∀x,(xs.extract (sa+k) sb)[(xs.extract (sa+k) sb).size-1]? =some x->∀y∈(xs.extract sb (sb+n)).toList,r x y=false:=fun x hx y hy=>by
  have uF:=ZN hx;rw[Kh,xA,ZdA,YL .o,ZaT,show sa+(k+(na-k-1))=sa+(na-1) from qa Ny,Dz]at uF;cases uF;rw[xB]at hy;obtain⟨j,hj⟩:=Zdc hy;have Ec:j<n:=by have:=(Zaa.mp hj).1;rw[ZaR]at this;omega
  rw[ZcZ Ec]at hj;obtain⟨rh,m9⟩:=zZ hj;have:=MD j Ec
  try dsimp only at this
  rw[m9]at this;exact o.gw _ _ this
 have done:∀(res:Array Keyed) (aA:SortSt),SG eI aA->Good r (xs.extract (sa+k) sb) (xs.extract sb (sb+n)) res->Q true (setArr aA (List.foldl (fun a x=>a.setIfInBounds (sa+k+x.snd) x.fst) (arrOf aA) res.toList.zipIdx)):=fun res aA sg gd=>by
  have p1:=gd.1;rw[xA,xB]at p1;have lR:res.toList.length=na-k+n:=by rw[p1.length_eq,Zaj,Zcz,ZaR,lA,lB];omega
  refine fin k n res.toList _ kn nn (by show kindOf aA=κ;rw[sg.1];exact g1) (by show failedOf aA=none;rw[sg.2.2.2];exact g4) (by show(pendingOf aA).toList=_;rw[sg.2.2.1];exact g3) p1 gd.2 low high ?_;show(List.foldl (fun a x=>a.setIfInBounds (sa+k+x.snd) x.fst) (arrOf aA) res.toList.zipIdx).toList=_;rw[sg.2.1,g2];exact Gj (sa+k) res.toList 0 xs (by rw[lR];exact qg kR kn nn hz hsz)
 refine ZG (fun hle=> ?_) (fun hle=> ?_)
 ·refine ZaE (ZaJ hc g1 C mA mB .o .o m0 ml fun res aA sg gd=> ?_);refine ZaE (Zer (ZaE (Ze4 ?_)));have ef:(failedOf (setArr aA (List.foldl (fun a x=>a.setIfInBounds (sa+k+x.snd) x.fst) (arrOf aA) res.toList.zipIdx))).isNone=true:=by show(failedOf aA).isNone=true;rw[sg.2.2.2,g4];rfl
  rw[ef];exact ZaP (done res aA sg gd)
 ·refine ZaE (ZaK hc g1 C mA mB .o .o m0 ml fun res aA sg gd=> ?_);refine ZaE (Zer (ZaE (Ze4 ?_)));have ef:(failedOf (setArr aA (List.foldl (fun a x=>a.setIfInBounds (sa+k+x.snd) x.fst) (arrOf aA) res.toList.zipIdx))).isNone=true:=by show(failedOf aA).isNone=true;rw[sg.2.2.2,g4];rfl
  rw[ef];exact ZaP (done res aA sg gd)
structure RS (a₀:Array Keyed)(κ:SortKind)(r:Keyed->Keyed->Bool)(st:SortSt)(lo:Nat):Prop where
 kind:kindOf st=κ
 perm:(arrOf st).Perm a₀
 fail:failedOf st=none
 runs:Runs r (arrOf st).toList (pendingOf st).toList 0 lo
 le:lo<=a₀.size
theorem Q0 {α:Type}{l:List α}{i:Nat}(h:i+1<l.length):∃pre a b post,l=pre++a::b::post/\pre.length=i:=by refine⟨l.take i,l[i],l[i+1],l.drop (i+2),?_,by rw[ZaR];omega⟩;rw[<-Zdu h,<-Zdu .o,Zby]
theorem RS.merge {st:SortSt}{lo i:Nat}{Q:Bool->SortSt->Prop}(o:Ord r)(hc:jm prog w A E s κ a₀ r)(R:RS a₀ κ r st lo)(hi:i+1< (pendingOf st).size)
  (h:∀af,RS a₀ κ r af lo->(pendingOf af).size+1=(pendingOf st).size->(arrOf af).toList.drop lo=(arrOf st).toList.drop lo->Q true af):wpS (model prog w) A E s (mergeAt' i) Q st:=by
 obtain⟨pre,⟨sa,na,pw⟩,⟨sb,nb,ud⟩,post,hp,hl⟩:=Q0 (l:=(pendingOf st).toList) (i:=i) (by rw[Zau];exact hi);have hr:=R.runs;rw[hp]at hr;obtain⟨m,h1,h2⟩:=Runs.app.mp hr;obtain⟨a1,a2,a3,h3⟩:=h2;obtain⟨b1,b2,b3,h4⟩:=h3;dsimp only at a1 a2 a3 b1 b2 b3 h4;subst a1;have l4:=h4.le;have l1:=h1.le;have le:=R.le;refine ZaL o hc R.kind R.perm R.fail hp hl b1 a2 b2 .o a3 b3 fun af g1 g2 g3 g4 g5 g6 g7=> ?_;refine h af ⟨g1,g2,g3,?_,le⟩ ?_ ?_
 ·rw[g4];refine Runs.app.mpr ⟨sa,h1.congr fun s n q1 q2=>Gr g5.symm q2,rfl,(show 1<=na+nb by omega),g7,?_⟩;show Runs r (arrOf af).toList post (sa+(na+nb)) lo;rw[<-Zej];exact h4.congr fun s n q1 q2=>Wz (m:=sb+nb) g6.symm .o
 ·rw[<-Zau,<-Zau,g4,hp];simp only[Zaj,Za8];omega
 ·have key:∀M:List Keyed,M.drop lo=(M.drop (sb+nb)).drop (lo-(sb+nb)):=fun M=>by
   rw[Zes]
   congr 1
   omega
  rw[key,key (arrOf st).toList,g6]
theorem RS.push {st:SortSt}{lo n:Nat}(R:RS a₀ κ r st lo)(n1:1<=n)(hz:lo+n<=a₀.size)(S:Pw r (seg (arrOf st).toList lo n)):RS a₀ κ r (setPending st ((pendingOf st).push (lo,n,0))) (lo+n):=by refine⟨R.kind,R.perm,R.fail,?_,hz⟩;show Runs r (arrOf st).toList ((pendingOf st).push (lo,n,0)).toList 0 (lo+n);rw[ZbH];exact Runs.app.mpr ⟨lo,R.runs,rfl,n1,S,rfl⟩
theorem Ha {L:List Keyed}{pw:Nat} :∀{ps:List (Nat×Nat×Nat)}{i p q:Nat},Runs r L ps p q->Runs r L (ps.modify i fun x=> (x.fst,x.2.fst,pw)) p q
 | [],i,p,q,h=>by rw[List.modify_nil];exact h
 |x::ps,0,p,q,h=>by rw[List.modify_zero_cons];exact h
 |x::ps,i+1,p,q,⟨h1,h2,h3,h4⟩=>by rw[List.modify_succ_cons];exact⟨h1,h2,h3,Ha h4⟩
theorem RS.pow {st:SortSt}{lo i pw:Nat}(R:RS a₀ κ r st lo):RS a₀ κ r (setPending st ((pendingOf st).modify i fun x=> (x.fst,x.2.fst,pw))) lo:=by refine⟨R.kind,R.perm,R.fail,?_,R.le⟩;show Runs r (arrOf st).toList ((pendingOf st).modify i fun x=> (x.fst,x.2.fst,pw)).toList 0 lo;rw[Array.toList_modify];exact Ha R.runs
theorem Vq {xs ys:Array Keyed}{lo:Nat}(h:∀k,k<lo->xs[k]? =ys[k]?):xs.toList.take lo=ys.toList.take lo:=by
 refine Zfi fun k=> ?_;by_cases hk:k<lo
 ·rw[ZcZ hk,ZcZ hk,ZaT,ZaT];exact h k hk
 ·rw[ZeD (by rw[ZaR];omega),ZeD (by rw[ZaR];omega)]
theorem CB.rs {st af:SortSt}{lo:Nat}(R:RS a₀ κ r st lo)(B:CB a₀ κ lo st af):RS a₀ κ r af lo:=by refine⟨B.kind,B.perm,B.fail.trans R.fail,?_,R.le⟩;rw[B.pend];exact R.runs.congr fun s n q1 q2=>Gr (Vq fun k hk=> (B.pre k hk).symm) q2
theorem Uc {st:SortSt}{Q:Unit->SortSt->Prop}(o:Ord r)(hc:jm prog w A E s κ a₀ r)(h2:2<=a₀.size)(k0:kindOf st=κ)(p0:(arrOf st).Perm a₀)(f0:failedOf st=none)(e0:pendingOf st= #[])
  (h:∀af,(arrOf af).Perm a₀->failedOf af=none->Pw r (arrOf af).toList->Q () af):wpS (model prog w) A E s sortRuns' Q st:=by
 rw[sortRuns'_eq];dsimp only;refine ZaE (Ze4 ?_);have z0:(arrOf st).size=a₀.size:=p0.size_eq;rw[z0];generalize minRun' a₀.size a₀.size 0=mr;refine ZaE (Zex (ZcF (I:=fun x c aA=> ∃lo,c=(none,lo)/\RS a₀ κ r aA lo/\x<=lo) (Q:=fun c aA=>c=(none,a₀.size)/\RS a₀ κ r aA a₀.size) ?step ?fin ⟨0,rfl,⟨k0,p0,f0,by rw[e0];exact rfl,ZaM _⟩,Zak _⟩) ?post)
 case fin=>rintro c aA ⟨lo,rfl,R,hx⟩;rw[Zbx (ZaM _)]at hx;have:=R.le;obtain rfl:lo=a₀.size:=.o;exact⟨rfl,R⟩
 case step=>
  rintro x c aA _ hx ⟨lo,rfl,R1,yF⟩;dsimp only;by_cases gf:lo>=a₀.size
  ·rw[ZaQ gf];have:=R1.le;obtain rfl:lo=a₀.size:=.o;exact ZaP ⟨rfl,R1⟩
  rw[Zaz gf];refine ZaE (Ud o hc (st:=aA) ⟨R1.kind,rfl,rfl,R1.perm,fun _ _=>rfl⟩ .o .o fun found av B2 f1 f2 S=> ?_);dsimp only;by_cases aw:found<mr
  ·rw[ZaQ aw];refine ZaE (ZfT (Zdt ⟨rfl,?_⟩));have i5:found<=min (a₀.size-lo) mr:=.o;have OI:min (a₀.size-lo) mr<=a₀.size-lo:=.o;generalize min (a₀.size-lo) mr=n at i5 OI;refine ZaE (We o hc B2 f1 i5 .o S fun bU B3 S3=> ?_);rw[Zaz .d];have R2:=CB.rs R1 B3;have S2:=S3.pw;have n1:1<=n:=.o;clear S3 B3 B2 S;clear av;revert R2 S2;generalize bU=av;intro R2 S2;refine ZaE (Ze4 ?_);cases hb:(pendingOf av).back? with
   |none=>
    try dsimp only
    exact ZaE (Zer (ZaP ⟨_,rfl,R2.push n1 .o S2,.o⟩))
   |some z=>
    obtain⟨s1,m1,p1⟩:=z
    try dsimp only
    refine ZaE (Zex (ZcF (I:=fun _ c af=>c=(none,())/\RS a₀ κ r af lo/\(arrOf af).toList.drop lo=(arrOf av).toList.drop lo) (Q:=fun c af=>c=(none,())/\RS a₀ κ r af lo/\(arrOf af).toList.drop lo=(arrOf av).toList.drop lo) ?_ (fun c af hh=>hh) ⟨rfl,R2,rfl⟩) ?_)
    ·rintro y c af _ _ ⟨rfl,R,hd⟩;refine ZaE (Ze4 ?_);by_cases hs:(pendingOf af).size>1
     ·rw[ZaQ hs];cases hq:(pendingOf af)[(pendingOf af).size-2]? with
      |none=>exact ZaP ⟨rfl,R,hd⟩
      |some z=>
       obtain⟨z1,z2,LR⟩:=z;dsimp only;split
       ·exact ZaP ⟨rfl,R,hd⟩
       ·refine ZaE (R.merge o hc .o fun dq r6 _ zr=> ?_);rw[Zaz .d];exact ZaP ⟨rfl,r6,zr.trans hd⟩
     ·rw[Zaz hs];exact ZaP ⟨rfl,R,hd⟩
    rintro c af ⟨rfl,R,hd⟩;dsimp only;refine ZaE (Zer (ZaE (Zer (ZaP ⟨_,rfl,R.pow.push n1 .o ?_,.o⟩))));show Pw r (seg (arrOf af).toList lo _);rw[Wz (L':=(arrOf av).toList) hd (Zak _)];exact S2
  ·rw[Zaz aw];have R2:=CB.rs R1 B2;have S2:=S.pw;have n1:=f1;clear S B2;clear R1;refine ZaE (Ze4 ?_);cases hb:(pendingOf av).back? with
   |none=>
    try dsimp only
    exact ZaE (Zer (ZaP ⟨_,rfl,R2.push n1 .o S2,.o⟩))
   |some z=>
    obtain⟨s1,m1,p1⟩:=z
    try dsimp only
    refine ZaE (Zex (ZcF (I:=fun _ c af=>c=(none,())/\RS a₀ κ r af lo/\(arrOf af).toList.drop lo=(arrOf av).toList.drop lo) (Q:=fun c af=>c=(none,())/\RS a₀ κ r af lo/\(arrOf af).toList.drop lo=(arrOf av).toList.drop lo) ?_ (fun c af hh=>hh) ⟨rfl,R2,rfl⟩) ?_)
    ·rintro y c af _ _ ⟨rfl,R,hd⟩;refine ZaE (Ze4 ?_);by_cases hs:(pendingOf af).size>1
     ·rw[ZaQ hs];cases hq:(pendingOf af)[(pendingOf af).size-2]? with
      |none=>exact ZaP ⟨rfl,R,hd⟩
      |some z=>
       obtain⟨z1,z2,LR⟩:=z;dsimp only;split
       ·exact ZaP ⟨rfl,R,hd⟩
       ·refine ZaE (R.merge o hc .o fun dq r6 _ zr=> ?_);rw[Zaz .d];exact ZaP ⟨rfl,r6,zr.trans hd⟩
     ·rw[Zaz hs];exact ZaP ⟨rfl,R,hd⟩
    rintro c af ⟨rfl,R,hd⟩;dsimp only;refine ZaE (Zer (ZaE (Zer (ZaP ⟨_,rfl,R.pow.push n1 .o ?_,.o⟩))));show Pw r (seg (arrOf af).toList lo _);rw[Wz (L':=(arrOf av).toList) hd (Zak _)];exact S2
 case post=>
  rintro c aA ⟨rfl,R1⟩;dsimp only;refine ZaE (Zex (ZcF (I:=fun x c af=>c=(none,())/\RS a₀ κ r af a₀.size/\(pendingOf af).size+x<=a₀.size) (Q:=fun c af=>c=(none,())/\RS a₀ κ r af a₀.size/\(pendingOf af).size<=1) ?_ ?_ ⟨rfl,R1,by have:=R1.runs.le;rw[Zau]at this;omega⟩) ?_)
  ·rintro x c af _ _ ⟨rfl,R,hx⟩;refine ZaE (Ze4 ?_);by_cases hs:(pendingOf af).size<=1
   ·rw[ZaQ hs];exact ZaP ⟨rfl,R,hs⟩
   rw[Zaz hs];have idx:∀c:Prop,∀_:Decidable c,(if c then (pendingOf af).size-2-1 else (pendingOf af).size-2)+1< (pendingOf af).size:=fun c _=>by split<;>omega
   refine ZaE (R.merge o hc (idx _ _) fun dq r6 z'' _=> ?_);rw[Zaz .d];exact ZaP ⟨rfl,r6,.o⟩
  ·rintro c af ⟨rfl,R,hx⟩;rw[Zbx (ZaM _)]at hx;exact⟨rfl,R,.o⟩
  rintro c af ⟨rfl,R,hs⟩;refine ZaP (h af R.perm R.fail ?_);have hr:=R.runs;have hl:(pendingOf af).toList.length<=1:=by rw[Zau];exact hs
  match hp:(pendingOf af).toList,hl with
  | [],_=>rw[hp]at hr;have:0=a₀.size:=hr;omega
  | [x],_=>
   rw[hp]at hr;obtain⟨q1,q2,q3,q4⟩:=hr;have q4':0+x.2.1=a₀.size:=q4;rw[q1]at q3;have:seg (arrOf af).toList 0 x.2.1=(arrOf af).toList:=by unfold seg;rw[Zf1,Zds (by rw[Zau,R.perm.size_eq];omega)]
   rw[this]at q3;exact q3
  |_::_::_,h=>simp at h
end
end PyProof.Rows.dc
namespace PyProof.Rows.dc
open PySem PySem.W
section
variable {prog:Program}{w:World}{A:Around}{E:Value->Shared->Prop}{s:Shared}{κ:SortKind}{r:Keyed->Keyed->Bool}
def sI (prog:Program)(w:World)(A:Around)(E:Value->Shared->Prop)(κ:SortKind)(r:Keyed->Keyed->Bool)(a:Addr)(h:Heap)(vs:List Value):Prop:=
 ∀s6:Shared,(∀b o,b≠a->h.get? b=some o->s6.heap.get? b=some o)->(2<=vs.length->∀Q:SortKind->Shared->Prop,Q κ s6->wpAny (model prog w) A (keyKind' vs.toArray) Q E s6)/\jm prog w A E s6 κ (pairsOf vs) r
theorem J9 (o:Ord r){a:Addr}{vs:List Value}{n:Nat}{P:PySem.Fin->Shared->Prop}(ho:s.heap.get? a=some (seqObj "list" vs.toArray n))(hc:sI prog w A E κ r a s.heap vs)(hz:vs.length<=200000)
  (h:∀xs:Array Keyed,xs.Perm (pairsOf vs)->Pw r xs.toList->P (.done (.ret .none)) {s with heap:=sortedHeap s.heap a vs (xs.map (·.2))}):
  wpAny (model prog w) A (Builtin.«list.sort» ⟨[.ref a],[]⟩) P E s:=by
 rw[list_sort_plain];have ha:a<s.heap.objs.size:=ZaC ho;have qS:vs.toArray.size<=sizeLine:=by rw[Zap,ZaX];omega
 refine eg (listItems_at ho rfl ?_);refine eg (listUpdate_at ho rfl ?_ qS);obtain⟨e1,DW⟩:∃e1,(s.heap.update a (Obj.mapSeq fun _=> #[])).get? a=some (seqObj "list" #[] e1):=⟨_,get?_update_seq ho (fun _=> #[])⟩;refine eg (seqEpoch_at DW rfl ?_);refine eg (Zg7 ?_ (by simpa using qS));refine eg (ZfD ?_);refine ZbA ?_;have uN:(((s.heap.update a (Obj.mapSeq fun _=> #[])).push (seqObj "tuple" vs.toArray 0)).push (seqObj "list" #[] 0)).get? a=some (seqObj "list" #[] e1):=by rw[Heap.get?_push_ne _ _ _ (by rw[size_push',Zgz];exact Za1 (Zc8 ha)),Heap.get?_push_ne _ _ _ (by rw[Zgz];exact Za1 ha)];exact DW
 show wpAny (model prog w) A _ P E {s with heap:=((s.heap.update a (Obj.mapSeq fun _=> #[])).push (seqObj "tuple" vs.toArray 0)).push (seqObj "list" #[] 0)};dsimp only;have keep:∀b o,b≠a->s.heap.get? b=some o->((((s.heap.update a (Obj.mapSeq fun _=> #[])).push (seqObj "tuple" vs.toArray 0)).push (seqObj "list" #[] 0))).get? b=some o:=fun b ob hb e=>
  Zad _ (Zad _ (by rw[ZeR _ _ _ _ hb];exact e))
 obtain⟨hk,zu⟩:=hc {s with heap:=((s.heap.update a (Obj.mapSeq fun _=> #[])).push (seqObj "tuple" vs.toArray 0)).push (seqObj "list" #[] 0)} keep;have hsz:vs.toArray.size=vs.length:=by simp
 by_cases h2:vs.toArray.size<2
 ·rw[ZaQ h2,ZaQ h2];refine eg (gc ?_);rw[StateT.run_pure];refine eg (gc ?_);dsimp only;refine eg (seqEpoch_at uN rfl ?_);refine eg (listUpdate_at uN rfl ?_ (hsz2:=by rw[Array.size_map];show(pairsOf vs).size<=_;rw[ZgT,ZaX];omega));simp only[Zea,Zax,ZbI];refine gc (h (pairsOf vs) (Array.Perm.refl _) ?_);have hl:(pairsOf vs).toList.length<2:=by rw[Zau,ZgT];omega
  match (pairsOf vs).toList,hl with
  | [],_=>exact .nil
  | [x],_=>exact ZdF _ _
  |_::_::_,h=>exact absurd h (by simp)
 ·rw[Zaz h2,Zaz h2];refine eg (hk .o _ ?_);refine eg (ZcD (Uc (κ:=κ) (r:=r) (a₀:=pairsOf vs) (st:=SortSt.mk' κ (vs.toArray.zip vs.toArray) #[] 7 none)
   (Q:=fun _ af=> (arrOf af).Perm (pairsOf vs)/\failedOf af=none/\Pw r (arrOf af).toList) o zu (by rw[ZgT];omega) rfl (Array.Perm.refl _) rfl rfl fun af a1 a2 a3=> ⟨a1,a2,a3⟩) ?_ fun _ _ e=>e)
  rintro⟨⟨⟩,af⟩ s' ⟨rfl,hp,hf,hs⟩;dsimp only;refine eg (seqEpoch_at uN rfl ?_);refine eg (listUpdate_at uN rfl ?_ (hsz2:=by refine Zbi (Nat.le_of_eq ((Array.size_map ..).trans (hp.size_eq.trans (ZgT _)))) ?_;rw[ZaX];omega));rw[hf];simp only[Zea,Zax,ZbI];exact gc (h _ hp hs)
theorem He (o:Ord r){l:Addr}{vs:List Value}{Q:Value->Shared->Prop}(hl:s.heap.IsList l vs.toArray)(hc:∀h' a,(∀b ob,s.heap.get? b=some ob->h'.get? b=some ob)->(∀b ob,s.heap.get? b=some ob->b≠a)->sI prog w A.in1.in1 (fun _ _=>False) κ r a h' vs)(hz:vs.length<=200000)
  (h:∀xs:Array Keyed,xs.Perm (pairsOf vs)->Pw r xs.toList->Q (.ref (s.heap.objs.size+1)) {s with heap:=sortedAll s.heap vs (xs.map (·.2))}):
  wpAny (model prog w) A (call (.builtin "sorted") [.ref l]) Q E s:=by
 have qS:vs.length<=sizeLine:=by rw[ZaX];omega
 refine Zf2 kind_sorted plain_sorted entry_sorted (args_sorted1 _) ?_;unfold Builtin.«sorted»;refine eg (m:=checkCount "sorted" 1 1 _) (gc ?_);refine eg (collect_list hl ?_ qS);refine eg (ZfD ?_ qS);have hsz:((s.heap.push (seqObj "list" #[] 0)).update s.heap.objs.size (Obj.mapSeq (· ++vs.toArray))).objs.size=s.heap.objs.size+1:=by rw[Zgz,size_push']
 have lQ:(((s.heap.push (seqObj "list" #[] 0)).update s.heap.objs.size (Obj.mapSeq (· ++vs.toArray))).push (seqObj "list" vs.toArray 0)).get? (s.heap.objs.size+1)=some (seqObj "list" vs.toArray 0):=by rw[<-hsz];exact Zar _ rfl
 show wpAny _ _ _ _ _ {s with heap:=((s.heap.push (seqObj "list" #[] 0)).update s.heap.objs.size (Obj.mapSeq (· ++vs.toArray))).push (seqObj "list" vs.toArray 0)};rw[hsz];have asks:=hc (((s.heap.push (seqObj "list" #[] 0)).update s.heap.objs.size (Obj.mapSeq (· ++vs.toArray))).push (seqObj "list" vs.toArray 0)) (s.heap.objs.size+1)
  (fun b ob e=>Zad _ (by rw[ZeR _ _ _ _ (Za1 (ZaC e))];exact Zad _ e)) (fun b ob e=>Za1 (Zc8 (ZaC e)))
 have Ab:sI prog w A.in1.in1 E κ r (s.heap.objs.size+1) (((s.heap.push (seqObj "list" #[] 0)).update s.heap.objs.size (Obj.mapSeq (· ++vs.toArray))).push (seqObj "list" vs.toArray 0)) vs:=fun s6 h6=>by obtain⟨q1,q2⟩:=asks s6 h6;refine⟨fun g Q hq=>ZcD (q1 g Q hq) (fun _ _ x=>x) fun _ _ x=>x.elim,fun x y st Q m1 m2 hk hq=> ?_⟩;exact ZcD (q2 x y st Q m1 m2 hk hq) (fun _ _ x=>x) fun _ _ x=>x.elim
 refine eg (ZbA (Zbn slot_list_sort ⟨_,lQ,rfl⟩ entry_list_sort (J9 o lQ Ab hz fun xs a1 a2=> ⟨_,rfl,?_⟩) (args_list_sort _)));exact gc ⟨_,rfl,h xs a1 a2⟩
end
noncomputable def ar:List Int->List Int->Bool
 | [],[]=>false
 | [],_::_=>true
 |_::_,[]=>false
 |a::l,b::m=>if a=b then ar l m else decide (a<b)
theorem Z3:∀x y,ar x y=true->ar y x=false
 | [],[],h=>by cases h
 | [],_::_,_=>rfl
 |_::_,[],h=>by cases h
 |a::l,b::m,h=>by
  unfold ar at h |-;by_cases e:a=b
  ·rw[ZaQ e]at h;rw[ZaQ e.symm];exact Z3 l m h
  ·rw[Zaz e]at h;rw[Zaz (Zd3 e)];have:=Zbt h;exact ZaF .o
theorem YB:∀x y z,ar y x=false->ar z y=false->ar z x=false
 | [],[],[],_,_=>rfl
 | [],[],_::_,_,_=>rfl
 | [],_::_,[],_,h=>by cases h
 | [],_::_,_::_,_,_=>rfl
 |_::_,[],_,h,_=>by cases h
 |_::_,_::_,[],_,h=>by cases h
 |a::l,b::m,c::n,h1,h2=>by
  unfold ar at h1 h2 |-;by_cases e1:b=a
  ·rw[ZaQ e1]at h1;by_cases e2:c=b
   ·rw[ZaQ e2]at h2;rw[ZaQ (e2.trans e1)];exact YB l m n h1 h2
   ·rw[Zaz e2]at h2;have:=Zey h2;rw[Zaz .o];exact ZaF .o
  ·rw[Zaz e1]at h1;have q1:=Zey h1;by_cases e2:c=b
   ·rw[Zaz .o];exact ZaF .o
   ·rw[Zaz e2]at h2;have q2:=Zey h2;rw[Zaz .o];exact ZaF .o
theorem Y4:∀x y,ar x y=false->ar y x=false->x=y
 | [],[],_,_=>rfl
 | [],_::_,h,_=>by cases h
 |_::_,[],_,h=>by cases h
 |a::l,b::m,h1,h2=>by
  unfold ar at h1 h2;by_cases e:a=b
  ·rw[ZaQ e]at h1;rw[ZaQ e.symm]at h2;rw[e,Y4 l m h1 h2]
  ·rw[Zaz e]at h1;rw[Zaz (Zd3 e)]at h2;have q1:=Zey h1;have q2:=Zey h2;omega
theorem AN (key:Value->List Int):Ord fun x y:Keyed=>ar (key x.1) (key y.1):=⟨fun _ _=>Z3 _ _,fun _ _ _=>YB _ _ _⟩
section
variable {prog:Program}{w:World}{A:Around}{s:Shared}{b:Bool}{Q:Bool->Shared->Prop}
theorem Sy {c:Bool}{x y:Int}{t u:Tok}(h:Q (decide (x<y)) s):wpAny (model prog w) A (oneLt' c (.int x t) (.int y u)) Q (fun _ _=>False) s:=by
 cases c with
 |true=>exact oneLt_int h
 |false=>exact kat_one _ _ (lt_int (Q:=PySem.W.BoolBack Q) h)
theorem Jz {fin:Bool} :∀{us vs:List Value}{xs ys:List Int}{i:Nat},IntsAre us xs->IntsAre vs ys->fin=decide (xs.length<ys.length)->Q (ar xs ys) s->KatLex prog w A b fin Q (us.zip vs) i s
 |_,_,_,_,i,.nil,.nil,hf,h=>by subst hf;exact h
 |_,_,_,_,i,.nil,.cons _ _ _,hf,h=>by subst hf;exact h
 |_,_,_,_,i,.cons _ _ _,.nil,hf,h=>by subst hf;exact h
 |_,_,_,_,i,.cons x t ix,.cons y u iy,hf,h=>by
  rw[Zcr];refine kat_cons (ZdR (A:=A) (s:=s) x t y u _ _ _ _ ?_);unfold ar at h;by_cases e:x=y
  ·rw[ZaQ e]at h;rw[Zd8.mpr e];exact kat_yes (Jz ix iy (by rw[hf];exact Zfv.mpr (by simp only[Za8];omega)) h)
  ·rw[Zaz e]at h;rw[Zee.mpr e];exact kat_no (Sy h)
end
end PyProof.Rows.dc
namespace L2
open PySem PySem.Spec PyProof.Rows PyProof.Rows.dc
def bw (H:Hp)(v:V)(k:List Int):Prop:=∃t:Addr,v=.ref t/\H t=some (.tup (k.map V.int))
theorem bw.same {H H':Hp}{v:V}{k:List Int}(h:bw H v k)(s:ag H H'):bw H' v k:=by obtain⟨t,e,h1⟩:=h;exact⟨t,e,s _ _ h1⟩
noncomputable def bo (h:Heap):Value->List Int
 | .ref t=>match h.get? t with
  |some o=>match o.data with
   | .seq aa _=>aa.toList.map numOf
   |_=> []
  |none=> []
 |_=> []
theorem ZK {h:Heap}{t:Addr}{o:Obj}{aa:Array Value}{n:Nat}{k:List Int}(e:h.get? t=some o)(d:o.data=.seq aa n)(i:IntsAre aa.toList k):bo h (.ref t)=k:=by
 unfold bo;dsimp only;rw[e];dsimp only;rw[d];dsimp only;clear d e;generalize aa.toList=us at i
 induction i with
 |nil=>rfl
 |cons x t _ ih=>rw[Zba,ih];rfl
def toV:Value->V
 | .ref t=> .ref t
 |_=> .ah
def gP (h:Heap)(u:Value)(k:List Int):Prop:=∃(t:Addr) (o:Obj) (aa:Array Value) (n:Nat),u=.ref t/\h.get? t=some o/\o.cls=.type "tuple" /\o.data=.seq aa n/\IntsAre aa.toList k
theorem gP.keep {h h':Heap}{u:Value}{k:List Int}{a:Addr}(x:gP h u k)(kp:∀b o,b≠a->h.get? b=some o->h'.get? b=some o)(na:∀b o,h.get? b=some o->b≠a):gP h' u k:=by obtain⟨t,o,aa,n,e,g,c,d,i⟩:=x;exact⟨t,o,aa,n,e,kp t o (na t o g) g,c,d,i⟩
theorem JE {h:Heap} :∀{us:List Value}{ks:List (List Int)},Paired (gP h) us ks->(∀k∈ks,k≠[])->∃fs,PySem.W.KatTups h us fs/\fs.length=us.length/\∀f∈fs,∃n t,f=.int n t
 |_,_,.nil,_=> ⟨[],.nil,rfl,fun f hf=>by cases hf⟩
 |_,_,.cons (a:=u) (b:=k) ⟨t,o,aa,n,e,g,c,d,i⟩ r,hk=>by
  obtain⟨fs,h1,h2,h3⟩:=JE r fun k aG=>hk k (Zae _ aG);subst e;cases k with
  |nil=>exact absurd rfl (hk _ Zaf)
  |cons x xs=>
   have:∃tk us,aa.toList=.int x tk::us:=by
    cases hh:aa.toList with
    |nil=>rw[hh]at i;cases i
    |cons a b=>rw[hh]at i;cases i with |cons x t r=>exact⟨_,_,rfl⟩
   obtain⟨tk,us,eq⟩:=this;refine⟨.int x tk::fs,.cons g c d (by rw[<-ZaT,eq];rfl) h1,by rw[Za8,Za8,h2],fun f hf=> ?_⟩;rcases Zav.mp hf with rfl |hf
   ·exact⟨_,_,rfl⟩
   ·exact h3 f hf
theorem ZS {α β:Type}{R:α->β->Prop} :∀{xs:List α}{ys:List β}{x:α},Paired R xs ys->x∈xs->∃y∈ys,R x y
 |_,_,_,.cons h r,m=>by
  rcases Zav.mp m with rfl |m
  ·exact⟨_,Zaf,h⟩
  ·obtain⟨y,hy,q⟩:=ZS r m;exact⟨y,Zae _ hy,q⟩
theorem Yv {α β:Type}{R:α->β->Prop}{f:α->β} :∀{xs:List α}{ys:List β},Paired R xs ys->(∀x y,R x y->f x=y)->xs.map f=ys
 |_,_,.nil,_=>rfl
 |_,_,.cons h r,e=>by rw[Zba,e _ _ h,Yv r e]
theorem Z0 {vs:List Value}{p:Keyed}(h:p∈(pairsOf vs).toList):p.1∈vs/\p.2=p.1:=by
 unfold pairsOf at h;rw[Zfw,ZeS]at h;have:∀(l:List Value),p∈l.zip l->p.1∈l/\p.2=p.1:=fun l=>by
  induction l with
  |nil=>intro h;cases h
  |cons a l ih=>
   intro h;rw[Zcr]at h;rcases Zav.mp h with rfl |h
   ·exact⟨Zaf,rfl⟩
   ·exact⟨Zae _ (ih h).1,(ih h).2⟩
 exact this vs h
section
variable {X:Cx}
theorem ZaG:fB X (.builtin "sorted") (fun xs H Q=> ∃(p:Addr) (vs:List V) (ks:List (List Int)),xs=[.ref p]/\ai X.K H p vs/\Paired (bw H) vs ks/\(∀k∈ks,k≠[])/\vs.length<=200000/\
  ∀(q:Addr) (cC:List V) (cg:List (List Int)),H q=none->cg.Perm ks->cg.Pairwise (fun a b=>ar b a=false)->Paired (bw H) cC cg->Q (.ref q) (upd H q (.lst cC))):=by
 intro pins s σ H xs us Q I r h;obtain⟨p,vs,ks,rfl,hp,pr,bf,hz,q⟩:=h;obtain⟨u,rfl,ru⟩:=ZgE r;cases ru;obtain⟨aa,rv,pl,_⟩:=I.list hp;have hl:=rv.length;have key:∀{vs:List V}{ks:List (List Int)}{aa:List Value},Paired (bw H) vs ks->Vals vs aa->Paired (fun u k=>gP s.heap u k/\bw H (toV u) k) aa ks:=by
  intro vs ks aa pr
  induction pr generalizing aa with
  |nil=>intro rv;cases rv;exact .nil
  |cons hh _ ih=>
   intro rv;cases rv with
   |cons r1 r2=>refine .cons ?_ (ih r2);obtain⟨t,rfl,ht⟩:=hh;cases r1;obtain⟨items,ri,⟨o,go,oc,n,od⟩,_⟩:=I.tuple (ab.of ht);exact⟨⟨t,o,_,n,rfl,go,oc,od,by simpa using ZL ri⟩,t,rfl,ht⟩
 have tp:=key pr rv;have tu:Paired (gP s.heap) aa ks:=Paired.ba tp fun _ _ h=>h.1;have ek:aa.map (bo s.heap)=ks:=Yv tu fun u k ⟨t,o,it,n,e,g,_,d,i⟩=>by rw[e];exact ZK g d i
 refine He (κ:=tuples' true) (r:=fun x y=>ar (bo s.heap x.1) (bo s.heap y.1)) (AN _) pl.isList (fun h' a kp na s6 h6=> ?_) .o fun xs lG gG=> ?_
 ·have pL:Paired (gP s6.heap) aa ks:=Paired.ba tu fun u k x=>x.keep (a:=a) (fun b o hb e=>h6 b o hb (kp b o e)) na;refine⟨fun h2 Q' hq=> ?_,fun x y st Q' mx my hk hq=> ?_⟩
  ·obtain⟨fs,kt,kl,kf⟩:=JE pL bf;refine ZgA (T:=.type "int") kt .o (fun v hv=> ?_) (by rfl) hq;obtain⟨n,t,rfl⟩:=kf v hv;exact PySem.W.Looks.of_pure rfl
  ·rw[lt'_eq];refine ZaE (Ze4 ?_);rw[hk];obtain⟨qC,_⟩:=Z0 mx;obtain⟨qB,_⟩:=Z0 my;obtain⟨kx,_,tx,ox,ix,nx,ex,gx,cx,dx,jx⟩:=ZS tu qC;obtain⟨ky,_,ty,oy,iy,ny,ey,gy,cy,dy,jy⟩:=ZS tu qB;have e1:bo s.heap x.1=kx:=by rw[ex];exact ZK gx dx jx
   have e2:bo s.heap y.1=ky:=by rw[ey];exact ZK gy dy jy
   dsimp only at hq;rw[e1,e2]at hq;rw[ex,ey];refine ZaE (ZfT (ZdU (Zhb (h6 _ _ (na _ _ gx) (kp _ _ gx)) dx (h6 _ _ (na _ _ gy) (kp _ _ gy)) dy (Jz jx jy ?_ ⟨rfl,?_⟩))))
   ·have l1:=jx.length;have l2:=jy.length;rw[Zau]at l1 l2;rw[l1,l2]
   ·exact ZaP hq
 ·have cF:∀pq∈xs.toList,pq.1∈aa/\pq.2=pq.1:=fun pq iW=>Z0 ((ZbD.mp lG).mem_iff.mp iW);have eo:(xs.map (·.2)).toList=xs.toList.map (·.1):=by rw[ZgB];exact List.map_congr_left fun pq iW=> (cF pq iW).2
  have po:(xs.toList.map (·.1)).Perm aa:=by
   refine List.Perm.trans ((ZbD.mp lG).map _) ?_;unfold pairsOf;rw[Zfw,ZeS];have:∀l:List Value,(l.zip l).map (·.1)=l:=fun l=>by
    induction l with
    |nil=>rfl
    |cons a l ih=>rw[Zcr,Zba,ih]
   rw[this]
  generalize DT:xs.map (·.2)=out at eo;have rel:∀u∈out.toList,∃k,bw H (toV u) k/\bo s.heap u=k/\RelV (toV u) u:=fun u hu=>by rw[eo]at hu;obtain⟨k,_,⟨t,o,it,n,e,g,_,d,i⟩,hT⟩:=ZS tp (po.mem_iff.mp hu);subst e;exact⟨k,hT,ZK g d i,rfl⟩
  have vals:∀l:List Value,(∀u∈l,∃k,bw H (toV u) k/\bo s.heap u=k/\RelV (toV u) u)->Vals (l.map toV) l/\Paired (bw H) (l.map toV) (l.map (bo s.heap)):=fun l=>by
   induction l with
   |nil=>intro _;exact⟨.nil,.nil⟩
   |cons u l ih=>intro hl;obtain⟨i1,i2⟩:=ih fun v hv=>hl v (Zae _ hv);obtain⟨k,a1,a2,a3⟩:=hl u Zaf;exact⟨.cons a3 i1,.cons (by rw[a2];exact a1) i2⟩
  obtain⟨v1,v2⟩:=vals out.toList rel;obtain⟨e,he⟩:=sortedAll_at s.heap aa out;have lo:out.toList.length=aa.length:=by rw[eo];exact po.length_eq
  have hlen:(out.toList.map toV).length<=sizeLine:=by rw[Zal,lo,ZaX];omega
  refine⟨.ref (s.heap.objs.size+1),_,I.laid (t':=s.toks) (a:=s.heap.objs.size+1) (o:=.lst (out.toList.map toV)) (fun b o=>sortedAll_old) (Zei _) ⟨hlen,out.toList,e,v1,by simpa using he⟩,rfl,q _ _ (out.toList.map (bo s.heap)) (I.aq.fresh (Zei _)) ?_ ?_ v2⟩
  ·rw[<-ek,eo];exact po.map _
  ·rw[eo,ZcG,Zb0];exact gG
end
abbrev I4:=Int×Int×Int×Int
noncomputable def bq (q:I4):List Int:=[q.1,q.2.1,q.2.2.1,q.2.2.2]
theorem Tz {a b:I4}(h:bq a=bq b):a=b:=by obtain⟨a1,a2,a3,a4⟩:=a;obtain⟨b1,b2,b3,b4⟩:=b;simp only[bq,ZcO,ZfW]at h;obtain⟨h1,h2,h3,h4⟩:=h;subst h1 h2 h3 h4;rfl
def nJ (H:Hp)(v:V)(q:I4):Prop:=∃t t':Addr,v=.ref t/\H t=some (.tup [.ref t',.int q.2.2.1,.int q.2.2.2])/\H t'=some (.tup [.int q.1,.int q.2.1])
def kH (h:Heap)(u:Value)(k:I4):Prop:=∃(t:Addr) (o:Obj) (n:Nat) (t':Addr) (o':Obj) (n':Nat) (k1 k2 k3 k4:Tok),u=.ref t/\h.get? t=some o/\o.cls=.type "tuple" /\o.data=.seq #[.ref t',.int k.2.2.1 k3,.int k.2.2.2 k4] n/\
 h.get? t'=some o'/\o'.cls=.type "tuple" /\o'.data=.seq #[.int k.1 k1,.int k.2.1 k2] n'
theorem kH.keep {h h':Heap}{u:Value}{k:I4}{a:Addr}(x:kH h u k)(kp:∀b o,b≠a->h.get? b=some o->h'.get? b=some o)(na:∀b o,h.get? b=some o->b≠a):kH h' u k:=by obtain⟨t,o,n,t',o',n',k1,k2,k3,k4,e,g,c,d,g',c',d'⟩:=x;exact⟨t,o,n,t',o',n',k1,k2,k3,k4,e,kp t o (na t o g) g,c,d,kp t' o' (na t' o' g') g',c',d'⟩
noncomputable def j7 (h:Heap):Value->List Int
 | .ref t=>match h.get? t with
  |some o=>match o.data with
   | .seq aa _=>bo h (aa.toList.getD 0 .none)++(aa.toList.drop 1).map numOf
   |_=> []
  |none=> []
 |_=> []
theorem Wr {h:Heap}{u:Value}{k:I4}(x:kH h u k):j7 h u=bq k:=by obtain⟨t,o,n,t',o',n',k1,k2,k3,k4,rfl,g,c,d,g',c',d'⟩:=x;have e:=ZK g' d' (k:=[k.1,k.2.1]) (.cons _ _ (.cons _ _ .nil));unfold j7;dsimp only;rw[g];dsimp only;rw[d];dsimp only;show bo h (.ref t')++_=_;rw[e];rfl
theorem Us {h:Heap} :∀{us:List Value}{ks:List I4},Paired (kH h) us ks->∃fs,PySem.W.KatTups h us fs/\fs.length=us.length/\∀f∈fs,∃t o,f=.ref t/\h.get? t=some o/\o.cls=.type "tuple"
 |_,_,.nil=> ⟨[],.nil,rfl,fun f hf=>by cases hf⟩
 |_,_,.cons (a:=u) (b:=k) q r=>by
  obtain⟨t,o,n,t',o',n',k1,k2,k3,k4,e,g,c,d,g',c',d'⟩:=q;obtain⟨fs,h1,h2,h3⟩:=Us r;subst e;refine⟨.ref t'::fs,.cons g c d rfl h1,by rw[Za8,Za8,h2],fun f hf=> ?_⟩;rcases Zav.mp hf with rfl |hf
  ·exact⟨_,_,rfl,g',c'⟩
  ·exact h3 f hf
theorem GS (a b a' b':Int)(l m:List Int):ar (a::b::l) (a'::b'::m)=if [a,b]=[a',b'] then ar l m else HT.lexLt [a,b] [a',b']:=by
 by_cases e1:a=a'
 ·subst e1;by_cases e2:b=b'
  ·subst e2;simp[ar]
  ·simp[ar,e2,HT.lexLt]
 ·simp[ar,e1,HT.lexLt]
theorem Ti {A:Around}{s:Shared}{t t':Addr}{o o':Obj}{n n':Nat}{a b a' b':Int}{k1 k2 k3 k4:Tok}(hu:A.units<cLine)(g:s.heap.get? t=some o)(c:o.cls=.type "tuple")(d:o.data=.seq #[.int a k1,.int b k2] n)
  (g':s.heap.get? t'=some o') (c':o'.cls=.type "tuple") (d':o'.data=.seq #[.int a' k3,.int b' k4] n'):SeqAt.EqAt A s (.ref t) (.ref t') (decide ([a,b]=[a',b'])):=by
 by_cases h:t=t'
 ·subst h;rw[g]at g';cases g';rw[d]at d';have e:a=a'/\b=b':=by injection d' with e1 e2;simp at e1;exact⟨e1.1.1,e1.2.1⟩
  rw[e.1,e.2];have:=SeqAt.EqAt.same (A:=A) (s:=s) (.ref t);simpa using this
 ·refine SeqAt.EqAt.of_refs h ?_;have z:=SeqAt.RcAt.tuples (A:=A) (s:=s) (l:=t) (b:=t') (items:= #[.int a k1,.int b k2]) (items2:= #[.int a' k3,.int b' k4]) (e:=fun j=>if j=0 then a==a' else b==b') ⟨o,g,c,n,d⟩ ⟨o',g',c',n',d'⟩ hu (fun j h1 h2=>by
   have fq:j<2:=h1
   match j,fq with
   |0,_=>exact ZdR _ _ _ _
   |1,_=>exact ZdR _ _ _ _)
  have e:((List.range (min (#[Value.int a k1,Value.int b k2]:Array Value).size (#[Value.int a' k3,Value.int b' k4]:Array Value).size)).all (fun j=>if j=0 then a==a' else b==b')&&(#[Value.int a k1,Value.int b k2]:Array Value).size==(#[Value.int a' k3,Value.int b' k4]:Array Value).size)=decide ([a,b]=[a',b']):=by show((List.range 2).all (fun j=>if j=0 then a==a' else b==b')&&2==2)=_;rw[Zcb];simp[ZbF]
  rw[e]at z;exact z
section
variable {X:Cx}
theorem ZaH (hu:X.A.units+2<cLine):fB X (.builtin "sorted") (fun xs H Q=> ∃(p:Addr) (vs:List V) (ks:List I4),xs=[.ref p]/\ai X.K H p vs/\Paired (nJ H) vs ks/\vs.length<=1000/\
  ∀(q:Addr) (cC:List V) (cg:List I4),H q=none->cg.Perm ks->(cg.map bq).Pairwise (fun a b=>ar b a=false)->Paired (nJ H) cC cg->Q (.ref q) (upd H q (.lst cC))):=by
 intro pins s σ H xs us Q I r h;obtain⟨p,vs,ks,rfl,hp,pr,hz,q⟩:=h;obtain⟨u,rfl,ru⟩:=ZgE r;cases ru;obtain⟨aa,rv,pl,_⟩:=I.list hp;have hl:=rv.length;have key:∀{vs:List V}{ks:List I4}{aa:List Value},Paired (nJ H) vs ks->Vals vs aa->Paired (fun u k=>kH s.heap u k/\nJ H (toV u) k) aa ks:=by
  intro vs ks aa pr
  induction pr generalizing aa with
  |nil=>intro rv;cases rv;exact .nil
  |cons hh _ ih=>
   intro rv;cases rv with
   |cons r1 r2=>
    refine .cons ?_ (ih r2);obtain⟨t,t',rfl,ht,lL⟩:=hh;cases r1;obtain⟨i1,ri,⟨o,go,oc,n,od⟩,_⟩:=I.tuple (ab.of ht);obtain⟨i2,Lj,⟨o',go',Mx,n',Mw⟩,_⟩:=I.tuple (ab.of lL);refine⟨?_,t,t',rfl,ht,lL⟩;cases ri with
    |cons a1 a2=>
     cases a2 with
     |cons a3 a4=>
      cases a4 with
      |cons a5 a6=>
       cases a6;cases Lj with
       |cons b1 b2=>
        cases b2 with
        |cons b3 b4=>cases b4;cases a1;obtain⟨k3,rfl⟩:=a3;obtain⟨k4,rfl⟩:=a5;obtain⟨k1,rfl⟩:=b1;obtain⟨k2,rfl⟩:=b3;exact⟨t,o,n,t',o',n',k1,k2,k3,k4,rfl,go,oc,od,go',Mx,Mw⟩
 have tp:=key pr rv;have tu:Paired (kH s.heap) aa ks:=Paired.ba tp fun _ _ h=>h.1;refine He (κ:=tuples' false) (r:=fun x y=>ar (j7 s.heap x.1) (j7 s.heap y.1)) (AN _) pl.isList (fun h' a kp na s6 h6=> ?_) .o fun xs lG gG=> ?_
 ·have pL:Paired (kH s6.heap) aa ks:=Paired.ba tu fun u k x=>x.keep (a:=a) (fun b o hb e=>h6 b o hb (kp b o e)) na;refine⟨fun h2 Q' hq=> ?_,fun x y st Q' mx my hk hq=> ?_⟩
  ·obtain⟨fs,kt,kl,kf⟩:=Us pL;refine ZgA (T:=.type "tuple") kt .o (fun v hv=> ?_) (by rfl) hq;obtain⟨t,o,rfl,g,c⟩:=kf v hv;rw[<-c];exact(PySem.W.Looks.ld g).andThen .now
  ·rw[lt'_eq];refine ZaE (Ze4 ?_);rw[hk];obtain⟨qC,_⟩:=Z0 mx;obtain⟨qB,_⟩:=Z0 my;obtain⟨kx,_,nx⟩:=ZS tu qC;obtain⟨ky,_,ny⟩:=ZS tu qB;dsimp only at hq;rw[Wr nx,Wr ny]at hq;obtain⟨tx,ox,n1,Il,ox',MP,c1,c2,c3,c4,ex,gx,cx,dx,EI,E9,E5⟩:=nx.keep (h':=s6.heap) (a:=a) (fun b o hb e=>h6 b o hb (kp b o e)) na;obtain⟨ty,oy,n2,Ik,oy',MO,d1,d2,d3,d4,ey,gy,cy,dy,EH,E8,E4⟩:=ny.keep (h':=s6.heap) (a:=a) (fun b o hb e=>h6 b o hb (kp b o e)) na;rw[ex,ey];refine ZaE (ZfT (ZdU (Zhb gx dx gy dy ?_)));show PySem.W.KatLex _ _ _ false (decide (3<3)) _ ((Value.ref Il,Value.ref Ik)::([Value.int kx.2.2.1 c3,Value.int kx.2.2.2 c4].zip [Value.int ky.2.2.1 d3,Value.int ky.2.2.2 d4])) 0 _;refine PySem.W.kat_cons (Ti (A:=X.A.in1.in1) hu EI E9 E5 EH E8 E4 _ _ _ _ ?_);have zg:ar (bq kx) (bq ky)=if [kx.1,kx.2.1]=[ky.1,ky.2.1] then ar [kx.2.2.1,kx.2.2.2] [ky.2.2.1,ky.2.2.2] else HT.lexLt [kx.1,kx.2.1] [ky.1,ky.2.1]:=GS ..
   rw[zg]at hq;by_cases e:[kx.1,kx.2.1]=[ky.1,ky.2.1]
   ·rw[ZaQ e]at hq;rw[Zaq e];exact PySem.W.kat_yes (Jz (xs:=[kx.2.2.1,kx.2.2.2]) (ys:=[ky.2.2.1,ky.2.2.2]) (.cons _ _ (.cons _ _ .nil)) (.cons _ _ (.cons _ _ .nil)) rfl ⟨rfl,ZaP hq⟩)
   ·rw[Zaz e]at hq;rw[ZaF e];exact PySem.W.kat_no (PySem.W.kat_one _ _ (HT.Dl ⟨_,EI,E9,MP,E5⟩ ⟨_,EH,E8,MO,E4⟩ (ns:=[kx.1,kx.2.1]) (ms:=[ky.1,ky.2.1]) (.cons _ _ (.cons _ _ .nil)) (.cons _ _ (.cons _ _ .nil)) hu ⟨rfl,ZaP hq⟩))
 ·have cF:∀pq∈xs.toList,pq.1∈aa/\pq.2=pq.1:=fun pq iW=>Z0 ((ZbD.mp lG).mem_iff.mp iW);have eo:(xs.map (·.2)).toList=xs.toList.map (·.1):=by rw[ZgB];exact List.map_congr_left fun pq iW=> (cF pq iW).2
  have po:(xs.toList.map (·.1)).Perm aa:=by
   refine List.Perm.trans ((ZbD.mp lG).map _) ?_;unfold pairsOf;rw[Zfw,ZeS];have:∀l:List Value,(l.zip l).map (·.1)=l:=fun l=>by
    induction l with
    |nil=>rfl
    |cons a l ih=>rw[Zcr,Zba,ih]
   rw[this]
  generalize DT:xs.map (·.2)=out at eo
  let kk:Value->I4:=fun u=>match j7 s.heap u with
   | [a,b,c,d]=> (a,b,c,d)
   |_=> (0,0,0,0)
  have Ea:∀u k,kH s.heap u k->kk u=k:=fun u k x=>by
   show(match j7 s.heap u with
    | [a,b,c,d]=> (a,b,c,d)
    |_=> (0,0,0,0))=k
   rw[Wr x];rfl
  have ek:aa.map kk=ks:=Yv tu Ea;have rel:∀u∈out.toList,nJ H (toV u) (kk u)/\bq (kk u)=j7 s.heap u/\RelV (toV u) u:=fun u hu=>by rw[eo]at hu;obtain⟨k,_,hT,hS⟩:=ZS tp (po.mem_iff.mp hu);have e:=Ea u k hT;rw[e];refine⟨hS,(Wr hT).symm,?_⟩;obtain⟨t,t',e2,_⟩:=hS;obtain⟨t2,_,_,_,_,_,_,_,_,_,e3,_⟩:=hT;subst e3;rfl
  have vals:∀l:List Value,(∀u∈l,nJ H (toV u) (kk u)/\bq (kk u)=j7 s.heap u/\RelV (toV u) u)->Vals (l.map toV) l/\Paired (nJ H) (l.map toV) (l.map kk)/\(l.map kk).map bq=l.map (j7 s.heap):=fun l=>by
   induction l with
   |nil=>intro _;exact⟨.nil,.nil,rfl⟩
   |cons u l ih=>intro hl;obtain⟨i1,i2,i3⟩:=ih fun v hv=>hl v (Zae _ hv);obtain⟨a1,a2,a3⟩:=hl u Zaf;exact⟨.cons a3 i1,.cons a1 i2,by rw[Zba,Zba,Zba,i3,a2]⟩
  obtain⟨v1,v2,v3⟩:=vals out.toList rel;obtain⟨e,he⟩:=sortedAll_at s.heap aa out;have lo:out.toList.length=aa.length:=by rw[eo];exact po.length_eq
  have hlen:(out.toList.map toV).length<=sizeLine:=by rw[Zal,lo,ZaX];omega
  refine⟨.ref (s.heap.objs.size+1),_,I.laid (t':=s.toks) (a:=s.heap.objs.size+1) (o:=.lst (out.toList.map toV)) (fun b o=>sortedAll_old) (Zei _) ⟨hlen,out.toList,e,v1,by simpa using he⟩,rfl,q _ _ (out.toList.map kk) (I.aq.fresh (Zei _)) ?_ ?_ v2⟩
  ·rw[<-ek,eo];exact po.map _
  ·rw[v3,eo,ZcG,Zb0];exact gG
end
end L2
namespace PyProof.Rows.dc
open PySem
def jc (lt:Value->Value->Bool):Value->List Value->Value
 |b,[]=>b
 |b,v::r=>jc lt (if lt v b=true then v else b) r
section
variable {prog:Program}{w:World}{A:Around}{R:Result->Shared->Prop}{lt:Value->Value->Bool}{vs:List Value}{h0:Heap}{kw:List (Str×Value)}
def Kp (h0 h:Heap):Prop:=∀b o,h0.get? b=some o->h.get? b=some o
theorem VY (hh:A.in1.handled=none){I l S:Addr}(jH:l≠I)(fR:S≠I)(u7:S≠l)(zI:h0.get? I=none)(zS:h0.get? S=none)
  (zt:∀(s':Shared) u v (Q:Value->Shared->Prop) (E:Value->Shared->Prop),Kp h0 s'.heap->u∈vs->v∈vs->Q (.bool (lt u v)) s'->wpAny (model prog w) A.in1 (richCompare .Lt u v) Q E s'):
  ∀(k j:Nat) (s:Shared) (vb:Value) (c:Nat),vs.length-j=k->j<=vs.length->s.heap.IsListIter I l j->s.heap.IsList l vs.toArray->vb∈vs->Kp h0 s.heap->
  s.heap.get? S=some {cls:=.type "list",dict:=none,data:=.seq #[vb,vb] c,slots:= #[]}->
  (∀h' tk,Kp h0 h'->R (.ok (.ret (jc lt vb (vs.drop j)))) {s with heap:=h',toks:=tk})->
  codeAny (model prog w) A (.builtin "min.loop" ⟨[.ref I,.none,.ref S],kw⟩) R s:=by
 have iX:(toString "min" ++toString ".loop" :String)= "min.loop" :=.d;have W:=ZfG (prog:=prog) (w:=w) (A:=A.in1) hh I l jH vs.toArray;have hsz:vs.toArray.size=vs.length:=Zap ..;have ne:∀b o,h0.get? b=some o->b∉[I]/\b≠S:=fun b o e=> ⟨fun m=> (by rw[Zas.mp m,zI]at e;cases e),fun m=> (by rw[m,zS]at e;cases e)⟩;intro k
 induction k with
 |zero=>intro j s vb c hk hj hit y8 hb zc hS hR;have zj:j=vs.toArray.size:=.o;refine Zc4 F.entry_min_loop ?_;rw[Zcw Zfx _];show wpAny _ A.in1 (seqItems? (.ref S) >>=_) _ _ s;refine eg (Zbr hS rfl ?_);show wpAny _ A.in1 (tryCatch (pyNext (.ref I)) _ >>=_) _ _ s;refine eg (Zdm (W.done s _ _ (zj▸⟨hit,y8⟩) fun h' tk aG=> ?_));have cT:=aG S _ (by simpa using fR) hS;show wpAny _ A.in1 (updateSeq S (fun _=> #[]) >>=_) _ _ _;refine eg ?_;refine ZeE cT rfl (eg (ZdZ (gc ?_)));have e:vs.drop j=[]:=ZcV .o;rw[e]at hR;exact hR _ tk fun b o q=> (Zbw _ _ (Zd3 (ne b o q).2)).trans (aG b o (ne b o q).1 (zc b o q))
 |succ k ih=>
  intro j s vb c hk hj hit y8 hb zc hS hR;have aw:j<vs.length:=.o;refine Zc4 F.entry_min_loop ?_;rw[Zcw Zfx _];show wpAny _ A.in1 (seqItems? (.ref S) >>=_) _ _ s;refine eg (Zbr hS rfl ?_);show wpAny _ A.in1 (tryCatch (pyNext (.ref I)) _ >>=_) _ _ s;refine eg (Zdm (W.item j s _ _ .o ⟨hit,y8⟩ fun v h' tk hP fm aG=> ?_));have hv:vs[j]? =some v:=by simpa using hP
  have DA:v∈vs:=ZaD hv;have cT:=aG S _ (by simpa using fR) hS;have qJ:Kp h0 h':=fun b o q=>aG b o (ne b o q).1 (zc b o q);have ed:vs.drop j=v::vs.drop (j+1):=by have e2:vs[j]=v:=(Zaa.mp hv).2;rw[Zdu aw,e2]
  rw[ed]at hR;show wpAny _ A.in1 (tryCatch (holding [v,v] (richCompare .Lt v vb >>=_)) _ >>=_) _ _ _;refine eg (Zdm (ZbA (eg (zt _ v vb _ _ qJ DA hb ?_))));refine eg (ZbA (Zc6 ?_));refine eg (ZdZ (gc ?_));cases cG:lt v vb with
  |true=>
   simp only[ZdC];refine eg ?_;refine ZeE cT rfl (eg (ZdZ ?_));rw[iX];have fr:=W.frame (j+1) _ (h'.update S (Obj.mapSeq fun _=> #[v,v])) fm fun b rq o e=> (Zbw _ _ (fun h:S=b=>by
    simp only[Zav,ZcB,ZdT]at rq;rcases rq with q |q
    ·exact fR (h.trans q)
    ·exact u7 (h.trans q))).trans e
   refine gc ⟨Zdp Zfx _,ih (j+1) _ v _ .o aw fr.1 fr.2 DA (fun b o q=> (Zbw _ _ (Zd3 (ne b o q).2)).trans (qJ b o q)) (Zc2 _ cT rfl) fun da pO bW=> ?_⟩;have z:=hR da pO bW;unfold jc at z;rw[ZaQ cG]at z;exact z
  |false=>simp only[Zax,ZbI];refine eg (ZdZ ?_);rw[iX];refine gc ⟨Zdp Zfx _,ih (j+1) _ vb c .o aw fm.1 fm.2 hb qJ cT fun da pO bW=> ?_⟩;have z:=hR da pO bW;unfold jc at z;rw[Zaz (by rw[cG];exact Zag)]at z;exact z
theorem JY (a v:Value):argsOk "min" ⟨[a],[(Str.ofString "default",v)]⟩:=by unfold argsOk;kernel_rfl
theorem Vx {E:Value->Shared->Prop}{s:Shared}{Q:Value->Shared->Prop}{l:Addr}(hh:A.in1.handled=none)(mY:s.heap.IsList l vs.toArray)
  (zt:∀(s':Shared) u v (Q:Value->Shared->Prop) (E:Value->Shared->Prop),Kp s.heap s'.heap->u∈vs->v∈vs->Q (.bool (lt u v)) s'->wpAny (model prog w) A.in1 (richCompare .Lt u v) Q E s')
  (h1:∀h' tk,vs=[]->Kp s.heap h'->Q .none {s with heap:=h',toks:=tk}) (h2:∀v r h' tk,vs=v::r->Kp s.heap h'->Q (jc lt v r) {s with heap:=h',toks:=tk}):
  wpAny (model prog w) A (call (.builtin "min") [.ref l] [(Str.ofString "default",.none)]) Q E s:=by
 have iX:(toString "min" ++toString ".loop" :String)= "min.loop" :=.d;obtain⟨ol,oU,_⟩:=id mY;have uS:l<s.heap.objs.size:=ZaC oU;refine kmk_tree PySem.F.kind_min PySem.F.plain_min PySem.F.entry_min (JY _ _) ?_;show wpAny _ A.in1 (Builtin.Builtins.bindParams "min" ["key", "default"] 0 ⟨[],[(Str.ofString "default",.none)]⟩ >>=_) _ _ s;refine eg (ZeO (show Builtin.Builtins.bindParams "min" ["key", "default"] 0 ⟨[],[(Str.ofString "default",.none)]⟩=pure [none,some .none] from rfl) ?_);refine eg (gc ?_);refine eg (Zd4 mY ?_);refine eg (ZfD ?_ (ZaM _));rw[iX];have hS:(s.heap.push {cls:=.type "list_iterator",data:=.fields #[.ref l,.int 0 0]}).objs.size=s.heap.objs.size+1:=size_push' ..;have jH:l≠s.heap.objs.size:=Za1 uS;have fR:(s.heap.push {cls:=.type "list_iterator",data:=.fields #[.ref l,.int 0 0]}).objs.size≠s.heap.objs.size:=by rw[hS];exact Zdq (ZeL _)
 have u7:(s.heap.push {cls:=.type "list_iterator",data:=.fields #[.ref l,.int 0 0]}).objs.size≠l:=by rw[hS];exact Zdq (Zc8 uS)
 have zI:s.heap.get? s.heap.objs.size=none:=Zfz (Zak _);have zS:s.heap.get? (s.heap.push {cls:=.type "list_iterator",data:=.fields #[.ref l,.int 0 0]}).objs.size=none:=Zfz (by rw[hS];exact Zei _);refine gc ⟨Zdp Zcv _,?_⟩;have yC:Kp s.heap ((s.heap.push {cls:=.type "list_iterator",data:=.fields #[.ref l,.int 0 0]}).push (seqObj "list" #[] 0)):=fun b o e=>Zad _ (Zad _ e);have gI:((s.heap.push {cls:=.type "list_iterator",data:=.fields #[.ref l,.int 0 0]}).push (seqObj "list" #[] 0)).get? s.heap.objs.size=some {cls:=.type "list_iterator",data:=.fields #[.ref l,.int 0 0]} :=
  Zad _ (Zar _ rfl)
 have gS:((s.heap.push {cls:=.type "list_iterator",data:=.fields #[.ref l,.int 0 0]}).push (seqObj "list" #[] 0)).get? (s.heap.push {cls:=.type "list_iterator",data:=.fields #[.ref l,.int 0 0]}).objs.size=some (seqObj "list" #[] 0):=Zar _ rfl;have lH:((s.heap.push {cls:=.type "list_iterator",data:=.fields #[.ref l,.int 0 0]}).push (seqObj "list" #[] 0)).IsList l vs.toArray:=mY.at fun o e=>yC _ _ e;have W:=ZfG (prog:=prog) (w:=w) (A:=A.in1) hh s.heap.objs.size l jH vs.toArray;have hsz:vs.toArray.size=vs.length:=Zap ..;have ne:∀b o,s.heap.get? b=some o->b∉[s.heap.objs.size]/\b≠(s.heap.push {cls:=.type "list_iterator",data:=.fields #[.ref l,.int 0 0]}).objs.size:=fun b o e=> ⟨fun m=> (by rw[Zas.mp m,zI]at e;cases e),fun m=> (by rw[m,zS]at e;cases e)⟩;refine Zc4 Zev ?_;rw[Zcw Zcv _];show wpAny _ A.in1 (seqItems? (.ref _) >>=_) _ _ _;refine eg (Zbr gS rfl ?_);show wpAny _ A.in1 (tryCatch (pyNext (.ref s.heap.objs.size)) _ >>=_) _ _ _;cases iS:vs with
 |nil=>refine eg (Zdm (W.done _ _ _ ⟨⟨_,gI,rfl,by rw[hsz,iS];rfl⟩,lH⟩ fun h' tk aG=> ?_));refine eg (Zdt ?_);exact gc (h1 h' tk iS fun b o q=>aG b o (ne b o q).1 (yC b o q))
 |cons v0 r0=>
  refine eg (Zdm (W.item 0 _ _ _ (by rw[hsz,iS];exact ZfX _) ⟨⟨_,gI,rfl,rfl⟩,lH⟩ fun v h' iB hP fm aG=> ?_));have hv:v0=v:=by rw[iS]at hP;simpa using hP
  subst hv;have EJ:=aG _ _ (by simpa using fR) gS;have qJ:Kp s.heap h':=fun b o q=>aG b o (ne b o q).1 (yC b o q);show wpAny _ A.in1 (updateSeq (s.heap.push {cls:=.type "list_iterator",data:=.fields #[.ref l,.int 0 0]}).objs.size (fun _=> #[v0,v0]) >>=_) _ _ _;refine eg ?_;refine ZeE EJ rfl ?_;rw[iX];have fr:=W.frame (0+1) _ (h'.update (s.heap.push {cls:=.type "list_iterator",data:=.fields #[.ref l,.int 0 0]}).objs.size (Obj.mapSeq fun _=> #[v0,v0])) fm fun b rq o e=> (Zbw _ _ (fun h=>by
    simp only[Zav,ZcB,ZdT]at rq;rcases rq with q |q
    ·exact fR (h.trans q)
    ·exact u7 (h.trans q))).trans e
  refine gc ⟨Zdp Zcv _,VY (lt:=lt) (vs:=vs) (h0:=s.heap) hh jH fR u7 zI zS zt _ 1 _ v0 _ rfl (by rw[iS];exact Nat.succ_le_succ (ZaM _)) fr.1 fr.2 (by rw[iS];exact Zaf) (fun b o q=> (Zbw _ _ (Zd3 (ne b o q).2)).trans (qJ b o q)) (Zc2 _ EJ rfl) fun da pO bW=> ?_⟩;have z:=h2 v0 r0 da pO iS bW;rw[iS];exact z
end
theorem Wa {lt:Value->Value->Bool} :∀{r:List Value}{b:Value},jc lt b r∈b::r
 | [],b=>Zaf
 |v::r,b=>by
  unfold jc;rcases Zav.mp (Wa (lt:=lt) (r:=r) (b:=if lt v b=true then v else b)) with h |h
  ·rw[h];by_cases e:lt v b=true
   ·rw[ZaQ e];exact Zae _ Zaf
   ·rw[Zaz e];exact Zaf
  ·exact Zae _ (Zae _ h)
theorem W1 (key:Value->List Int):∀{r:List Value}{b:Value},∀v∈b::r,ar (key v) (key (jc (fun a b=>ar (key a) (key b)) b r))=false
 | [],b,v,hv=>by
  rw[Zas.mp hv];cases h:ar (key b) (key (jc (fun a b=>ar (key a) (key b)) b [])) with
  |false=>rfl
  |true=>have:=Z3 _ _ h;exact absurd (h.symm.trans this) .d
 |w::r,b,v,hv=>by
  have ih:=fun v hv=>W1 key (r:=r) (b:=if ar (key w) (key b)=true then w else b) v hv;show ar (key v) (key (jc (fun a b=>ar (key a) (key b)) (if ar (key w) (key b)=true then w else b) r))=false;have hd:=ih _ Zaf;by_cases e:ar (key w) (key b)=true
  ·rw[ZaQ e]at hd ih |-;rcases Zav.mp hv with rfl |hv
   ·exact YB _ _ _ hd (Z3 _ _ e)
   ·exact ih v hv
  ·rw[Zaz e]at hd ih |-;rcases Zav.mp hv with rfl |hv
   ·exact hd
   ·rcases Zav.mp hv with rfl |hv
    ·exact YB _ _ _ hd (by simpa using e)
    ·exact ih v (Zae _ hv)
end PyProof.Rows.dc
namespace L2
open PySem PySem.Spec PyProof.Rows PyProof.Rows.dc
theorem Jg:∀a b:List Int,HT.lexLt a b=ar a b
 | [],[]=>rfl
 | [],_::_=>rfl
 |_::_,[]=>rfl
 |x::a,y::b=>by unfold ar;rw[HT.yz,Jg a b]
section
variable {X:Cx}
def IM (K:ZhK)(te:TE):TE:=fun σ H Q=>te σ H fun v H1=> ∃(a:Addr) (vs:List V) (ks:List (List Int)),v=.ref a/\ai K H1 a vs/\Paired (bw H1) vs ks/\(vs=[]->Q .ah H1)/\
 ∀v k,v∈vs->k∈ks->bw H1 v k->(∀k'∈ks,ar k' k=false)->Q v H1
theorem T8 {x:Str}{te:TE}{p px kp j6 pos:Pos}(hc:X.calm=true)(hu:X.A.units+1<cLine)(hg:Gl X "min")(hm:X.mg "min" =none)(he:PE X (.Name x px) te)
  (aO:(backToKw pos (keywordEach [⟨some "default",.Constant .none 0 kp,j6⟩] X.env)).filterMap (·.1)=[Str.ofString "default"]:=by rfl):
  PE X (.Call (.Name "min" p) [.Name x px] [⟨some "default",.Constant .none 0 kp,j6⟩] pos) (IM X.K te):=by
 intro pins s σ H Q I h;refine Zdd (Z8 I hg hm PyProof.Rows.Boot.«min» ?_ .d .d);have pa:PA X [.Name x px] (kO te jT):=Za he Zb;have pk:PK X [⟨some "default",.Constant .none 0 kp,j6⟩] (kO (tC .ah) jT):=Gi YN FO;refine Zgc (au (pa pos pins s σ H (fun us H1=>match us with
  | [v]=> ∃(a:Addr) (vs:List V) (ks:List (List Int)),v=.ref a/\ai X.K H1 a vs/\Paired (bw H1) vs ks/\(vs=[]->Q .ah H1)/\∀v k,v∈vs->k∈ks->bw H1 v k->(∀k'∈ks,ar k' k=false)->Q v H1
  |_=>False) I h) fun us s1 ⟨vV,H1,I1,r1,q1⟩=> ?_)
 match vV,q1 with
 | [v],q1=>
  obtain⟨a,vs,ks,rfl,hq,pr,q1,q2⟩:=q1;refine au (pk pos pins s1 σ H1 (fun zs H2=>zs=[.ah]/\H2=H1) I1 ⟨rfl,rfl⟩) fun ws s2 ae=> ?_;obtain⟨zs,H2,I2,rz,e1,e2⟩:=ae;subst e1 e2;obtain⟨u,rfl,ru⟩:=ZgE r1;obtain⟨z,rfl,xX⟩:=ZgE rz;cases ru;have ez:z=.none:=xX;subst ez;rw[aO];show wpAny _ _ (call (.builtin "min") [.ref a] [(Str.ofString "default",.none)]) _ _ _;obtain⟨aa,rv,pl,_⟩:=I2.list hq;have key:∀{vs:List V}{ks:List (List Int)}{aa:List Value},Paired (bw H2) vs ks->Vals vs aa->∀u∈aa,∃v∈vs,∃k∈ks,RelV v u/\bw H2 v k/\gP s2.heap u k:=by
   intro vs ks aa pr
   induction pr generalizing aa with
   |nil=>intro rv;cases rv;intro u hu;cases hu
   |cons hh _ ih=>
    intro rv;cases rv with
    |cons r1 r2=>
     intro u hu;rcases Zav.mp hu with rfl |hu
     ·obtain⟨t,e,ht⟩:=id hh;obtain⟨items,ri,⟨o,go,oc,n,od⟩,_⟩:=I2.tuple (ab.of ht);refine⟨_,Zaf,_,Zaf,r1,hh,?_⟩;subst e;cases r1;exact⟨t,o,_,n,rfl,go,oc,od,by simpa using ZL ri⟩
     ·obtain⟨v,hv,k,hk,w⟩:=ih r2 u hu;exact⟨v,Zae _ hv,k,Zae _ hk,w⟩
  have Nh:∀{vs:List V}{ks:List (List Int)}{aa:List Value},Paired (bw H2) vs ks->Vals vs aa->∀k∈ks,∃u∈aa,bo s2.heap u=k:=by
   intro vs ks aa pr
   induction pr generalizing aa with
   |nil=>intro rv k hk;cases hk
   |cons hh _ ih=>
    intro rv;cases rv with
    |cons r1 r2=>
     intro k hk;rcases Zav.mp hk with rfl |hk
     ·obtain⟨t,e,ht⟩:=id hh;obtain⟨items,ri,⟨o,go,oc,n,od⟩,_⟩:=I2.tuple (ab.of ht);refine⟨_,Zaf,?_⟩;subst e;cases r1;exact ZK go od (by simpa using ZL ri)
     ·obtain⟨u,hu,e⟩:=ih r2 k hk;exact⟨u,Zae _ hu,e⟩
  refine Vx (lt:=fun u v=>ar (bo s2.heap u) (bo s2.heap v)) (I2.ok.hd hc) pl.isList (fun s' u v Q' E' kp fX NG cE=> ?_) (fun h' tk e kp=> ?_) (fun v0 r h' tk e kp=> ?_)
  ·obtain⟨_,_,ku,_,_,_,tu,ou,iu,nu,rfl,gu,cu,du,ju⟩:=key pr rv u fX;obtain⟨_,_,kv,_,_,_,tv,ov,iv,nv,rfl,gv,cv,dv,jv⟩:=key pr rv v NG;have e1:bo s2.heap (.ref tu)=ku:=ZK gu du ju;have e2:bo s2.heap (.ref tv)=kv:=ZK gv dv jv
   try dsimp only at cE
   rw[e1,e2,<-Jg]at cE;exact HT.Dl ⟨_,kp _ _ gu,cu,nu,du⟩ ⟨_,kp _ _ gv,cv,nv,dv⟩ ju jv hu cE
  ·subst e;cases rv;exact⟨.ah,H2,I2.kept kp,rfl,q1 rfl⟩
  ·have hm:=Wa (lt:=fun u v=>ar (bo s2.heap u) (bo s2.heap v)) (r:=r) (b:=v0);have hle:=W1 (bo s2.heap) (r:=r) (b:=v0);generalize jc (fun u v=>ar (bo s2.heap u) (bo s2.heap v)) v0 r=m at hm hle;rw[<-e]at hm hle;obtain⟨v,hv,k,hk,Lg,yI,tu,ou,iu,nu,e3,gu,cu,du,ju⟩:=key pr rv m hm;have e1:bo s2.heap m=k:=by rw[e3];exact ZK gu du ju
   refine⟨v,H2,I2.kept kp,Lg,q2 v k hv hk yI fun k' aG=> ?_⟩;obtain⟨u',dj,e4⟩:=Nh pr rv k' aG;have:=hle u' dj;rw[e1,e4]at this;exact this
end
end L2
namespace L2
open PySem PySem.Spec PyProof.Rows
def pA (K:ZhK)(l1 l2:Addr):It:=
 ⟨fun i H=> ∃xs ys x y,ai K H l1 xs/\ai K H l2 ys/\xs[i]? =some x/\ys[i]? =some y,
  fun i H v H'=> ∃(T:Addr) (x y:V),v=.ref T/\H T=none/\H'=upd H T (.par [x,y])/\∀xs ys,ai K H l1 xs->ai K H l2 ys->xs[i]? =some x/\ys[i]? =some y,
  fun i H=> ∃xs ys,ai K H l1 xs/\ai K H l2 ys/\min xs.length ys.length=i⟩
theorem Xg {P:Program}{w:World}{K:ZhK}{elts:List Expr}{kk:Nat}{pos:Pos}(z TI TO i1 i2 l1 l2:Addr)(D:ZipApart z TI TO i1 i2 l1 l2):
  Turn P w K (.Tuple elts kk pos) (pA K l1 l2) [z,TI,TO,i1,i2] z (fun i h=>IsZip h z TI TO .none/\IsPair h TI (.ref i1) (.ref i2)/\(∃a b,IsPair h TO a b)/\h.IsListIter i1 l1 i/\h.IsListIter i2 l2 i) where
 mem:=by simp
 obj:=fun i h st b hb=>by obtain⟨a1,a2,⟨u,v,a3⟩,⟨o4,h4,_,d4⟩,⟨o5,h5,_,d5⟩⟩:=st;exact uv (P:=fun b=> ∃o,h.get? b=some o/\∀v,o.data≠.cell v) ⟨_,a1,fun v z=>by cases z⟩ ⟨_,a2,fun v z=>by cases z⟩ ⟨_,a3,fun v z=>by cases z⟩ ⟨_,h4,fun v z=>by rw[d4]at z;cases z⟩ ⟨_,h5,fun v z=>by rw[d5]at z;cases z⟩ b hb
 keep:=fun i h h' st k=>by obtain⟨a1,a2,⟨u,v,a3⟩,a4,a5⟩:=st;exact⟨k z (by simp) _ a1,k TI (by simp) _ a2,⟨u,v,k TO (by simp) _ a3⟩,a4.at fun o q=>k i1 (by simp) o q,a5.at fun o q=>k i2 (by simp) o q⟩
 item:=by
  intro X hP hw hK hc i pins s σ H E I hf st hg;subst hP hw hK;obtain⟨xs,ys,x,y,fO,cP,hx,hy⟩:=hg;obtain⟨dG,jw,dN,iO⟩:=I.list fO;obtain⟨eU,fG,cO,oQ⟩:=I.list cP;obtain⟨u,hu,ru⟩:=jw.get hx;obtain⟨v,hv,rv⟩:=fG.get hy;have nh:i<min dG.toArray.size eU.toArray.size:=by have e1:=(Zaa.mp hu).1;have e2:=(Zaa.mp hv).1;simp only[Zap];omega
  have W:=WalksT.zip2 (prog:=X.prog) (w:=X.w) (A:=X.A) (I.ok.hd hc) z TI TO i1 i2 l1 l2 D dG.toArray eU.toArray;obtain⟨a1,a2,a3,a4,a5⟩:=st;refine W.item i s _ _ nh ⟨a1,a2,a3,a4,a5,dN.isList,cO.isList⟩ fun T vals h' tk hP cR nB iY hk=> ⟨_,rfl,W.go elts kk pos i T _ _ _ iY fun da dq bW=> ?_⟩;obtain⟨x2,y2,kg,dQ,rfl⟩:=hP;have lK:dG[i]? =some x2:=by simpa using kg
  have Dx:eU[i]? =some y2:=by simpa using dQ
  rw[hu]at lK;rw[hv]at Dx;cases lK;cases Dx;have both:∀b o,b∉[z,TI,TO,i1,i2]->s.heap.get? b=some o->da.get? b=some o:=fun b o hb q=>bW b o (Y2 hb) (hk b o (Y2 hb) q);have rD:da.IsTuple T #[u,v]:=nB.at fun o q=>bW T o (W.apart _ _ _ iY) q;refine⟨.ref T,upd H T (.par [x,y]),JA (s:=s) (h':=da) (tk:=tk) I hf both cR rD ru rv,rfl,⟨T,x,y,rfl,I.aq.fresh cR,rfl,fun as bs ha hb=>by rw[I.qD ha fO,I.qD hb cP];exact⟨hx,hy⟩⟩,⟨dq.1,dq.2.1,dq.2.2.1,dq.2.2.2.1,dq.2.2.2.2.1⟩,Hq hf cR ?_⟩;obtain⟨u',v',Af⟩:=a3;obtain⟨o4,h4,_,d4⟩:=a4;obtain⟨o5,h5,_,d5⟩:=a5;exact uv (P:=fun b=> ∃o,s.heap.get? b=some o/\∀v,o.data≠.cell v) ⟨_,a1,fun v z=>by cases z⟩ ⟨_,a2,fun v z=>by cases z⟩ ⟨_,Af,fun v z=>by cases z⟩ ⟨_,h4,fun v z=>by rw[d4]at z;cases z⟩ ⟨_,h5,fun v z=>by rw[d5]at z;cases z⟩
 done:=by
  intro X hP hw hK hc i pins s σ H E I hf st hg;subst hP hw hK;obtain⟨xs,ys,fO,cP,hx⟩:=hg;obtain⟨dG,jw,dN,iO⟩:=I.list fO;obtain⟨eU,fG,cO,oQ⟩:=I.list cP;have e1:=jw.length;have e2:=fG.length;have W:=WalksT.zip2 (prog:=X.prog) (w:=X.w) (A:=X.A) (I.ok.hd hc) z TI TO i1 i2 l1 l2 D dG.toArray eU.toArray;have hn:i=min dG.toArray.size eU.toArray.size:=by simp only[Zap];omega
  obtain⟨a1,a2,a3,a4,a5⟩:=st;rw[hn]at a4 a5;exact W.done s _ _ ⟨a1,a2,a3,a4,a5,dN.isList,cO.isList⟩ fun h' tk hk=> ⟨rfl,Ws (s:=s) (h':=h') (tk:=tk) I hf fun b o hb q=>hk b o (Y2 hb) q⟩
 self:=fun A i s Q E st h=>ZeM st.1 h
section
variable {X:Cx}{elts:List Expr}{kk:Nat}{tp:Pos}
def Nq (K:ZhK)(ta:TA):TI:=fun σ H R=>ta σ H fun vs H1=> ∃l1 l2,vs=[.ref l1,.ref l2]/\(∃xs ys,ai K H1 l1 xs/\ai K H1 l2 ys)/\R (pA K l1 l2) H1
theorem Gg {a b:Expr}{ta:TA}{p pos:Pos}(hg:Gl X "zip")(hm:X.mg "zip" =none)(ha:PA X [a,b] ta)(hs:starEach [a,b] X.env=[(false,eval a X.env),(false,eval b X.env)]:=by rfl)(dH:starEach [b] X.env=[(false,eval b X.env)]:=by rfl):
  PI X (.Tuple elts kk tp) (.Call (.Name "zip" p) [a,b] [] pos) (Nq X.K ta):=by
 intro pins s σ H R I h;refine Call_ (Z8 I hg hm PyProof.Rows.Boot.«zip» (Zcs (au (ha pos pins s σ H _ I h) fun us s1 ae=> ?_) (by rw[hs,dH]) (by rw[dH];rfl)));obtain⟨vs,H1,I1,r1,q1⟩:=ae;obtain⟨l1,l2,e,⟨xs,ys,fO,cP⟩,q⟩:=q1;subst e;obtain⟨u,v,rfl,ru,rv⟩:=vals2 r1;cases ru;cases rv;obtain⟨dG,jw,dN,iO⟩:=I1.list fO;obtain⟨eU,fG,cO,oQ⟩:=I1.list cP;have t1:l1<s1.heap.objs.size:=by obtain⟨o,ho,_⟩:=dN.isList;exact ZaC ho
 have t2:l2<s1.heap.objs.size:=by obtain⟨o,ho,_⟩:=cO.isList;exact ZaC ho
 have D:=Uo s1.heap.objs.size l1 l2 t1 t2;refine call_zip_2 dN.isList cO.isList fun h' b1 b2 b3 b4 b5 b6 hk=>ZeM b1 ?_;have I2:Inv X pins σ H1 {s1 with heap:=h'} :=I1.kept (t':=s1.toks) hk;refine⟨s1.heap.objs.size+4,[s1.heap.objs.size+4,s1.heap.objs.size+2,s1.heap.objs.size+3,s1.heap.objs.size,s1.heap.objs.size+1],_,_,H1,rfl,I2,
  Xg _ _ _ _ _ l1 l2 D,⟨b1,b2,⟨_,_,b3⟩,b4,b5⟩,fun b hb=> ?_,q⟩
 have i6:s1.heap.objs.size<=b:=by simp only[Zav,ZcB,ZdT]at hb;rcases hb with z |z |z |z |z<;>rw[z]<;>first |exact Zak _ |exact Zep _ _
 exact I1.jb i6 (I1.aq.fresh i6)
end
theorem Xz {K:ZhK}{l1 l2:Addr}{xs zs:List V}{g:TG}{tt:TT}{ti:TC}{ys:List V}{σ:St}{H:Hp}{Q:List V->St->Hp->Prop}(Pv:Nat->List V->St->Hp->Prop)(h0:Pv 0 ys σ H)
  (hl:∀i ys σ H,i<=min xs.length zs.length->Pv i ys σ H->ai K H l1 xs/\ai K H l2 zs)
  (hs:∀i x y T ys σ H,xs[i]? =some x->zs[i]? =some y->H T=none->Pv i ys σ H->g (.ref T) σ (upd H T (.par [x,y])) fun aQ H2=>tt aQ H2 fun b H3=>if b=true then ti ys aQ H3 (Pv (i+1)) else Pv (i+1) ys aQ H3)
  (hd:∀ys σ H,Pv (min xs.length zs.length) ys σ H->Q ys σ H):gU g tt ti (pA K l1 l2) ys σ H Q:=by
 refine⟨fun i m ys σ H=>m=min xs.length zs.length-i/\i<=min xs.length zs.length/\Pv i ys σ H,⟨min xs.length zs.length,by simp,ZaM _,h0⟩,?_⟩;rintro i m ys σ H ⟨rfl,hi,p⟩;obtain⟨q1,q2⟩:=hl i ys σ H hi p;by_cases aw:i<min xs.length zs.length
 ·have h1:i<xs.length:=.o;have h2:i<zs.length:=.o;refine .inr ⟨⟨xs,zs,xs[i],zs[i],q1,q2,by simp[h1],by simp[h2]⟩,Pv (i+1),fun aF ak H' p'=> ⟨min xs.length zs.length-(i+1),.o,rfl,aw,p'⟩,fun x H' y=> ?_⟩;obtain⟨T,a,b,e1,e2,e3,e4⟩:=y;subst e1 e3;obtain⟨f1,f2⟩:=e4 xs zs q1 q2;exact hs i a b T ys σ H f1 f2 e2 p
 ·have e:i=min xs.length zs.length:=.o;subst e;exact .inl ⟨⟨xs,zs,q1,q2,rfl⟩,hd ys σ H p⟩
end L2
namespace L2
open PySem PySem.Spec PyProof.Rows SeqAt
section
variable {X:Cx}
theorem SE:aV X (compareOp .IsNot) (fun x y H Q=> ∃a b:Bool,x=.bl a/\y=.bl b/\Q (.bl (!(a==b))) H):=by intro pins s σ H x y u v Q I rx ry h;obtain⟨a,b,rfl,rfl,q⟩:=h;cases rx;cases ry;refine wpAny_isNot_plain rfl ⟨.bl _,H,I,?_,q⟩;show Value.bool (!(Value.bool a==Value.bool b))=Value.bool (!(a==b));cases a<;>cases b<;>rfl
def cf:V->Bool
 | .ah=>true
 | .int _=>true
 |_=>false
theorem RM {A:Around}{s:Shared}{x y:V}{u v:Value}(hx:cf x=true)(hy:cf y=true)(ru:RelV x u)(rv:RelV y v):EqAt A s u v (decide (x=y)):=by
 cases x with
 |ah=>
  cases ru;cases y with
  |ah=>cases rv;exact EqAt.same _
  |int j=>obtain⟨t,rfl⟩:=rv;exact EqAt.none_int j t
  |_=>cases hy
 |int i=>
  obtain⟨t,rfl⟩:=ru;cases y with
  |ah=>cases rv;exact EqAt.int_none i t
  |int j=>obtain⟨t',rfl⟩:=rv;rw[AS];exact EqAt.int_int i t j t'
  |_=>cases hy
 |_=>cases hx
theorem FU {A:Around}{s:Shared}{xs ys:List V}{us vs:List Value}(hx:xs.all cf=true)(hy:ys.all cf=true)(r1:Vals xs us)(r2:Vals ys vs):
  ∀j (h1:j<us.toArray.size) (h2:j<vs.toArray.size),EqAt A s us.toArray[j] vs.toArray[j] (decide (xs.getD j .ah=ys.getD j .ah)):=fun j h1 h2=>by
 have l1:=r1.length;have l2:=r2.length;have k1:j<xs.length:=by simp at h1;omega
 have k2:j<ys.length:=by simp at h2;omega
 obtain⟨u,hu,ru⟩:=r1.get (Zaw k1);obtain⟨v,hv,rv⟩:=r2.get (Zaw k2);have e1:us.toArray[j]=u:=by simpa using (Zaa.mp hu).2
 have e2:vs.toArray[j]=v:=by simpa using (Zaa.mp hv).2
 rw[e1,e2,ZbC,ZbC,Zaw k1,Zaw k2];exact RM (Zbd.mp hx _ (Zeo k1)) (Zbd.mp hy _ (Zeo k2)) ru rv
theorem Fl {xs ys:List V}{us vs:List Value}(r1:Vals xs us)(r2:Vals ys vs):((List.range (min us.toArray.size vs.toArray.size)).all (fun j=>decide (xs.getD j .ah=ys.getD j .ah))&&us.toArray.size==vs.toArray.size)=decide (xs=ys):=by
 have l1:=r1.length;have l2:=r2.length;rw[Zcb,Za5,Zbd,Zbg,Zd8,Zap,Zap];constructor
 ·rintro⟨h,hl⟩;refine ZeN .o fun i h1 h2=> ?_;have:=h i (by rw[Za6];omega);simpa[h1,h2] using this
 ·rintro rfl;exact⟨fun j _=>by simp,.o⟩
inductive Lk (K:ZhK) (r:Bool) (x:V) (y:V) (H:Hp) (Q:VK):Prop
 |mk (a b:Addr) (xs ys:List V) (_:x=.ref a) (_:y=.ref b) (_:H a=some (.tup xs)) (_:H b=some (.tup ys)) (_:xs.all cf=true) (_:ys.all cf=true) (_:Q (.bl (xor r (decide (xs=ys)))) H)
theorem Gb (hu:X.A.units<cLine):aV X (compareOp .NotEq) (Lk X.K true):=by intro pins s σ H x y u v Q I rx ry h;obtain⟨a,b,xs,ys,rfl,rfl,ha,hb,hx,hy,q⟩:=h;cases rx;cases ry;obtain⟨us,r1,p1,_⟩:=I.tuple (ab.of ha);obtain⟨vs,r2,p2,_⟩:=I.tuple (ab.of hb);refine RcNeAt.tuples p1 p2 hu (FU hx hy r1 r2) _ _ _ _ ?_;rw[Fl r1 r2];exact⟨.bl _,H,I,rfl,by rw[Bool.true_xor]at q;exact q⟩
theorem Ju (ns:List Int):(ns.map V.int).all cf=true:=by rw[List.all_map,Zbd];exact fun _ _=>rfl
end
end L2
namespace U
open PySem L2 PyProof.Rows
def fe (K:ZhK)(H:Hp)(a:Addr)(ns:List Int):Prop:=(∃o,H a=some (.bM o (.lst (ns.map V.int))))∨∃(o:Obj) (aa:Array Value) (n:Nat),K.lookup a=some o/\o.cls=.type "list" /\o.dict=none/\o.data=.seq aa n/\aa.size<=sizeLine/\Vals (ns.map V.int) aa.toList
theorem fe.sq {K:ZhK}{H:Hp}{a:Addr}{ns:List Int}(h:fe K H a ns):ai K H a (ns.map V.int):=by
 rcases h with ⟨o,h⟩ |h
 ·exact .inl (.inr ⟨o,h⟩)
 ·exact .inr h
theorem fe.same {K:ZhK}{H H':Hp}{a:Addr}{ns:List Int}(h:fe K H a ns)(s:ag H H'):fe K H' a ns:=by
 rcases h with ⟨o,h⟩ |h
 ·exact .inl ⟨o,s _ _ h⟩
 ·exact .inr h
theorem fe.x {K:ZhK}{H H':Hp}{a p:Addr}{ns:List Int}{o:HO}(h:fe K H a ns)(s:bD p H H')(hp:H p=some o)(hn:∀ob u,o≠.bM ob u):fe K H' a ns:=by
 rcases h with ⟨ob,h⟩ |h
 ·exact .inl ⟨ob,s _ _ h fun z=>by rw[z,hp]at h;cases h;exact hn _ _ rfl⟩
 ·exact .inr h
end U
namespace U
open PySem L2 PyProof.Rows PySem.Spec
def pE (mg:Str->Option Value)(h:Heap):Prop:=∃bm ob,mg "__builtins__" =some (.ref bm)/\bm≠builtinsNs/\h.get? bm=some ob/\ob.cls=.type "module" /\ob.dict=some builtinsNs/\ob.data=.plain
theorem X9 {P:Program}{w:World}{K:ZhK}{mg mb:Str->Option Value}{k:Nat}{fa a:Addr}{Pts:List Addr}{fd:FuncData}{x:Str}{sp:Sp}{aR:Shared}{vs:List Value}{ns:List Int}
  (KX:K.In aR.heap) (yW:aR.heap.Ns mainGlobals mg) (hb:aR.heap.Ns builtinsNs mb) (O0:∀x:Str,x≠ "__name__" ->mb x=bootBuiltins x) (Oy:aR.heap.NoLimit) (hg:aR.gens= #[])
  (ha:aR.heap.get? a=some {cls:=.type "list",data:=.seq vs.toArray}) (hi:IntsAre vs ns) (hl:ns.length<=sizeLine) (hr:bP k callerA)
  (cR:∀Pt∈Pts,aR.heap.get? Pt=some (PySem.W.tabObj #[])) (Pm:∀Pt∈Pts,∃c,PySem.W.CodeHd aR.heap c Pt) (Pj:∀Pt∈Pts,K.lookup Pt=none) (OY:pE mg aR.heap)
  (F:∀base:Heap,K.In base->base.Ns mainGlobals mg->pE mg base->ay P w K mg base az k fa fd [x] sp) (OZ:∀(s:Shared) (u:Value),BindsTo s fd ⟨[u],[]⟩ [(x,u)])
  (lO:∀H:Hp,fe K H a ns->(∀Pt∈Pts,H Pt=some (.gT #[]))->sp [.ref a] H (fun v _=>v=.bl true) fun _ _ _=>False):
  codeAny (model P w) callerA (.call (.ref fa) ⟨[.ref a],[]⟩) (fun r s'=>r=.ok (.ret (.bool true))/\OldK aR.heap s'.heap/\s'.os=aR.os/\AllBare s'.gens) aR:=by
 have rv:=Uq hi;have M3:=hi.length;have rE:∀{Pt:Addr},Pt∈Pts->aR.heap.get? Pt=some {cls:=.none,data:=.fields #[]} :=fun h=>cR _ h;have Ey:a∉Pts:=fun z=>by have h:=rE z;rw[ha]at h;cases h
 have core:∀H:Hp,(∀b,b∉Pts->H b=none∨∃o xs,H b=some (.bM o (.lst xs)))->fe K H a ns->(∀Pt∈Pts,H Pt=some (.gT #[]))->bY P w H aR.heap->(∀b,H b≠none->b=a∨b∈Pts)->(H a≠none->K.lookup a=none)->
   codeAny (model P w) callerA (.call (.ref fa) ⟨[.ref a],[]⟩) (fun r s'=>r=.ok (.ret (.bool true))/\OldK aR.heap s'.heap/\s'.os=aR.os/\AllBare s'.gens) aR:=by
  intro H hO hS hP aq hA hK;have zY:∀{b:Addr}{o:Obj},aR.heap.get? b=some o->H b=none->(jJ aR.heap H).get? b=some o:=fun e n=>Tv e n;have oG:∀{b:Addr}{o:Obj},aR.heap.get? b=some o->(∀vs n,o.data≠.seq vs n)->(∀ps,o.data≠.fields ps)->H b=none:=fun {b o} e d1 d2=>by
   cases q:H b with
   |none=>rfl
   |some u=>
    rcases hA b (by rw[q];simp) with e' |e'
    ·subst e';rw[ha]at e;cases e;exact absurd rfl (d1 _ _)
    ·rw[rE e']at e;cases e;exact absurd rfl (d2 _)
  have um:∀{b:Addr}{m:Str->Option Value},aR.heap.Ns b m->(jJ aR.heap H).Ns b m:=fun {b m} ⟨o,es,ep,e,d,r⟩=> ⟨o,es,ep,zY e (oG e (fun _ _ z=>by rw[d]at z;cases z) fun _ z=>by rw[d]at z;cases z),d,r⟩;have EC:K.In (jJ aR.heap H):=fun b o e=>zY (KX b o e) (by
   cases q:H b with
   |none=>rfl
   |some u=>
    rcases hA b (by rw[q];simp) with e' |e'
    ·subst e';rw[hK (by rw[q];simp)]at e;cases e
    ·rw[Pj _ e']at e;cases e)
  have hM:Mod K mg (jJ aR.heap H):=⟨EC,um yW,⟨mb,um hb,O0⟩,let ⟨mc,h1,h2⟩:=Oy;⟨mc,um h1,h2⟩⟩;have OX:pE mg (jJ aR.heap H):=let ⟨bm,ob,b1,b2,b3,b4,b5,b6⟩:=OY;⟨bm,ob,b1,b2,zY b3 (oG b3 (fun _ _ z=>by rw[b6]at z;cases z) fun _ z=>by rw[b6]at z;cases z),b4,b5,b6⟩;have e0:vN P w K mg (jJ aR.heap H) callerA [] aR H:=⟨rfl,hM,fun b o e=>Sw e,Nat.le_of_eq (XT _ _),trivial,fun b hb=>absurd (show b∈([]:List Addr) from hb) (by simp),aq,.of_eq hg⟩;refine ZeT ((F _ EC (um yW) OX).run callerA [] aR H ⟨[.ref a],[]⟩ [.ref a] [.ref a] _ _ hr e0 (OZ aR (.ref a)) (.cons rfl .nil) (lO H hS hP)) fun r s' h=> ?_;cases r with
  |error e=>exact False.elim h
  |ok fl=>
   cases fl with
   |next=>exact False.elim h
   |brk=>exact False.elim h
   |cont=>exact False.elim h
   |ret u=>
    obtain⟨v,H',os,bare,un,DU,r',q⟩:=h;have q':v=.bl true:=q;subst q';obtain rfl:u=Value.bool true:=r';have old:∀b o,aR.heap.get? b=some o->asItWas aR.heap s'.heap b o:=fun b o e=>by
     cases q:H b with
     |none=>exact .inl (un.keep b o e q (by intro z;exact absurd (show b∈([]:List Addr) from z) (by simp)) (by simp))
     |some u=>
      by_cases rA:b∈Pts
      ·obtain⟨more,z⟩:=un.iC b _ (hP b rA);have e2:s'.heap.get? b=some {cls:=.none,data:=.fields (#[]++more)} :=DU b _ z;rw[rE rA]at e;cases e;obtain⟨c,hC⟩:=Pm b rA;exact .inr (.inl ⟨(hC.tab (cR b rA)).isCodeTable,rfl, #[],more,rfl,e2⟩)
      ·rcases hO b rA with z |⟨ob,xs,z⟩
       ·rw[q]at z;cases z
       ·have z2:=un.i9 b ob _ z;obtain⟨e1,_⟩:=aq b _ z;obtain⟨e2,_⟩:=DU b _ z2;rw[e]at e1;cases e1;exact .inl e2
    exact⟨rfl,⟨old,fun b o e=>un.there b o e (by simp)⟩,os,bare⟩
 cases hk:K.lookup a with
 |some o=>
  have e:=KX a o hk;rw[ha]at e;cases e;refine core (fun b=>if b∈Pts then some (.gT #[]) else none) (fun b n=> .inl (Zaz n)) (.inr ⟨_,vs.toArray,_,hk,rfl,rfl,rfl,by rw[Zap,M3];exact hl,by simpa using rv⟩) (fun Pt h=>ZaQ h) (fun b u z=> ?_) (fun b z=> ?_) fun z=>absurd (Zaz Ey) z
  ·by_cases hb:b∈Pts
   ·have z':=(ZaQ hb).symm.trans z;cases z';exact rE hb
   ·have z':=(Zaz hb).symm.trans z;cases z'
  ·by_cases hb:b∈Pts
   ·exact .inr hb
   ·exact absurd (Zaz hb) z
 |none=>
  refine core (fun b=>if b∈Pts then some (.gT #[]) else if b=a then some (.bM {cls:=.type "list",data:=.seq vs.toArray} (.lst (ns.map V.int))) else none) (fun b n=> ?_) (.inl ⟨{cls:=.type "list",data:=.seq vs.toArray},(Zaz Ey).trans (ZaQ rfl)⟩) (fun Pt h=>ZaQ h) (fun b u z=> ?_) (fun b z=> ?_) fun _=>hk
  ·by_cases hb:b=a
   ·exact .inr ⟨_,_,(Zaz n).trans (ZaQ hb)⟩
   ·exact .inl ((Zaz n).trans (Zaz hb))
  ·by_cases hP:b∈Pts
   ·have z':=(ZaQ hP).symm.trans z;cases z';exact rE hP
   ·by_cases hb:b=a
    ·have z':=((Zaz hP).trans (ZaQ hb)).symm.trans z;cases z';subst hb;exact⟨ha,by rw[Zal];exact hl,vs,_,rv,ha⟩
    ·have z':=((Zaz hP).trans (Zaz hb)).symm.trans z;cases z'
  ·by_cases hP:b∈Pts
   ·exact .inr hP
   ·by_cases hb:b=a
    ·exact .inl hb
    ·exact absurd ((Zaz hP).trans (Zaz hb)) z
theorem Ib {l:PySem.W.OpenLaw}{n k:Nat}{q:Program}{loose:List Str}{XP:(Str->Option Value)->Heap->Prop}{YP:World->Heap->Prop}{d:DefRec}{K:Params->ZhK}{sp:ZhK->Sp}{x:Str}{Pts:List Addr}
    (hn:l.most=some n) (uP:n<=sizeLine) (zq:d.params.defaults=[]) (hr:bP k callerA)
    (hY:∀(w:World) (h:Heap),YP w h->(K w.params).In h) (O5:∀(w:World) (h:Heap),YP w h->∀Pt∈Pts,h.get? Pt=some (PySem.W.tabObj #[]))
    (hC:∀(w:World) (h:Heap),(K w.params).In h->∀Pt∈Pts,∃c,PySem.W.CodeHd h c Pt) (Pk:∀w:World,∀Pt∈Pts,(K w.params).lookup Pt=none)
    (F:∀(w:World) (mg:Str->Option Value) (fa:Addr) (h:Heap),(K w.params).In h->h.Ns mainGlobals mg->mg d.name=some (.ref fa)->
      ∃fd:FuncData,(∀(s:Shared) (u:Value),BindsTo s fd ⟨[u],[]⟩ [(x,u)])/\
       ∀base:Heap,(K w.params).In base->base.Ns mainGlobals mg->pE mg base->ay l.prog w (K w.params) mg base az k fa fd [x] (sp (K w.params)))
    (lO:∀(K:ZhK) (H:Hp) (a:Addr) (ns:List Int),ns.length<=n->fe K H a ns->(∀Pt∈Pts,H Pt=some (.gT #[]))->sp K [.ref a] H (fun v _=>v=.bl true) fun _ _ _=>False):
    PySem.W.WalkO q loose XP YP l.row.toRowW d [] (fun f vs=>PySem.call f vs):=by
  refine HW.Q9 hn zq fun w cM aR mg mb fa o pm cd doc a vs ns G Y ho hd hJ hmg yT hints hlen hg=> ?_;have KX:=hY w _ Y;obtain⟨fd,hb,hF⟩:=F w mg fa _ KX G.T.g hmg;exact X9 KX G.T.g G.T.b G.T.builtins G.T.nolimit hg yT hints (Zbi hlen uP) hr (O5 w _ Y) (hC w _ KX) (Pk w) G.T.bmain hF hb (fun H hS hP=>lO (K w.params) H a ns hlen hS hP)
def aJ (K:ZhK)(x:Str)(st:Stmt):Prop:=∃f fd,PySem.W.nsIn K mainGlobals x=some (some (.ref f))/\aH K x x st f fd
theorem aS {K:ZhK}{x:Str}{st:Stmt}{f:Addr}{oc:Value}{od an:Option Addr}{iJ:Array (Option Value)}{kV doc pm ao ct:Value}(e1:PySem.W.nsIn K mainGlobals x=some (some (.ref f)))
  (e2:K.lookup f=some ⟨oc,od,.func (PySem.W.fnOf x x (jf st) (dX st) (ax st) .none kV doc pm an ao ct),iJ⟩) (e3:PySem.W.codeIn K ao x=true) (e4:PySem.W.keepIn K (.ref f)=true):aJ K x st:=⟨f,_,e1,Ri e2 e3 e4⟩
section
variable {P:Program}{w:World}{K:ZhK}{mg:Str->Option Value}{base:Heap}
abbrev nR (x:Str)(st:Stmt)(ps:List Str):Prop:=∀(kV doc pm:Value) (an:Option Addr) (ao ct:Value) (us:List Value),us.length=ps.length->bindArgs (PySem.W.fnOf x x (jf st) (dX st) (ax st) .none kV doc pm an ao ct) ⟨us,[]⟩=pure (ps.zip us)
theorem aJ.to {h:Heap}{x:Str}{st:Stmt}{ps:List Str}{k:Nat}{sp:Sp}(d:aJ K x st)(KX:K.In h)(G:h.Ns mainGlobals mg)(hb:nR x st ps)(ok:∀f fd,aH K x x st f fd->ay P w K mg base az k f fd ps sp):Def P w K mg base k x ps sp:=by obtain⟨f,fd,e,F⟩:=d;exact⟨f,fd,ok f fd F,ZdX KX G e,F.kp,F.binds hb⟩
def uo (K:ZhK)(x:Str):Bool:=match PySem.W.nsIn K mainGlobals x with |some none=>true |_=>false
theorem XF {h:Heap}{x:Str}(KX:K.In h)(G:h.Ns mainGlobals mg)(e:uo K x=true):mg x=none:=by
 unfold uo at e;split at e
 ·rename_i q;exact PySem.W.mg_none_of KX G q
 ·cases e
abbrev HV (x a:Str)(st:Stmt):Prop:=∀(kV doc pm:Value) (an:Option Addr) (ao ct u:Value),bindArgs (PySem.W.fnOf x x (jf st) (dX st) (ax st) .none kV doc pm an ao ct) ⟨[u],[]⟩=pure [(a,u)]
theorem Z4 {us:List Value}{n:Nat}(h:us.length=n+1):∃u vs,us=u::vs/\vs.length=n:=by
 cases us with
 |nil=>cases h
 |cons u vs=>exact⟨u,vs,rfl,by simpa using h⟩
theorem b0 {x:Str}{st:Stmt}(h:∀(kV doc pm:Value) (an:Option Addr) (ao ct:Value),bindArgs (PySem.W.fnOf x x (jf st) (dX st) (ax st) .none kV doc pm an ao ct) ⟨[],[]⟩=pure []):nR x st []:=fun kV doc pm an ao ct us hl=>by have e:=Zb8 hl;subst e;exact h kV doc pm an ao ct
theorem b1 {x a:Str}{st:Stmt}(h:HV x a st):nR x st [a]:=fun kV doc pm an ao ct us hl=>by obtain⟨u,vW,e0,h0⟩:=Z4 hl;have e:=Zb8 h0;subst e;subst e0;exact h kV doc pm an ao ct u
theorem b2 {x a b:Str}{st:Stmt}(h:∀(kV doc pm:Value) (an:Option Addr) (ao ct u v:Value),bindArgs (PySem.W.fnOf x x (jf st) (dX st) (ax st) .none kV doc pm an ao ct) ⟨[u,v],[]⟩=pure [(a,u),(b,v)]):nR x st [a,b]:=fun kV doc pm an ao ct us hl=>by obtain⟨u,vW,e0,h0⟩:=Z4 hl;obtain⟨v,BA,e1,h1⟩:=Z4 h0;have e:=Zb8 h1;subst e;subst e1;subst e0;exact h kV doc pm an ao ct u v
theorem b3 {x a b c:Str}{st:Stmt}(h:∀(kV doc pm:Value) (an:Option Addr) (ao ct u v w:Value),bindArgs (PySem.W.fnOf x x (jf st) (dX st) (ax st) .none kV doc pm an ao ct) ⟨[u,v,w],[]⟩=pure [(a,u),(b,v),(c,w)]):nR x st [a,b,c]:=fun kV doc pm an ao ct us hl=>by obtain⟨u,vW,e0,h0⟩:=Z4 hl;obtain⟨v,BA,e1,h1⟩:=Z4 h0;obtain⟨w,Ig,e2,h2⟩:=Z4 h1;have e:=Zb8 h2;subst e;subst e2;subst e1;subst e0;exact h kV doc pm an ao ct u v w
theorem b4 {x a b c d:Str}{st:Stmt}(h:∀(kV doc pm:Value) (an:Option Addr) (ao ct u v w z:Value),bindArgs (PySem.W.fnOf x x (jf st) (dX st) (ax st) .none kV doc pm an ao ct) ⟨[u,v,w,z],[]⟩=pure [(a,u),(b,v),(c,w),(d,z)]):nR x st [a,b,c,d]:=fun kV doc pm an ao ct us hl=>by obtain⟨u,vW,e0,h0⟩:=Z4 hl;obtain⟨v,BA,e1,h1⟩:=Z4 h0;obtain⟨w,Ig,e2,h2⟩:=Z4 h1;obtain⟨z,us3,e3,h3⟩:=Z4 h2;have e:=Zb8 h3;subst e;subst e3;subst e2;subst e1;subst e0;exact h kV doc pm an ao ct u v w z
theorem Sq {h:Heap}{fa:Addr}{st:Stmt}{k:Nat}{sp:Sp}(d:aJ K "law" st)(KX:K.In h)(G:h.Ns mainGlobals mg)(hmg:mg "law" =some (.ref fa))(hb:HV "law" "_law_script" st)
  (ok:∀(base:Heap) f fd,aH K "law" "law" st f fd->ay P w K mg base az k f fd ["_law_script"] sp):
  ∃fd:FuncData,(∀(s:Shared) (u:Value),BindsTo s fd ⟨[u],[]⟩ [("_law_script",u)])/\∀base:Heap,K.In base->base.Ns mainGlobals mg->pE mg base->ay P w K mg base az k fa fd ["_law_script"] sp:=by
 obtain⟨f,fd,e,F⟩:=d;have e0:=hmg.symm.trans (ZdX KX G e);cases e0;obtain⟨oc,od,kV,doc,pm,an,ao,ct,iJ,rfl,lk,hJ⟩:=id F.ex;exact⟨_,fun s u=> .of_eq (hb _ _ _ _ _ _ u),fun base _ _ _=>ok base _ _ F⟩
end
end U
namespace HS
open PySem PySem.SetTable
abbrev ip (l:List Nat):Prop:=l.Pairwise (· < ·)
theorem AA {xs:Array Nat}(hr:ip xs.toList){i k:Nat}(hi:i<xs.size)(hk:k<xs.size)(h:i<k):xs[i]<xs[k]:=by have:=ZcS.mp hr i k (by simpa using hi) (by simpa using hk) h;simpa using this
theorem FR {xs:Array Nat}(hr:ip xs.toList){i k:Nat}(hi:i<xs.size)(hk:k<xs.size)(h:i<=k):xs[i]<=xs[k]:=by
 rcases Nat.lt_or_eq_of_le h with h |h
 ·exact ZdQ (AA hr hi hk h)
 ·subst h;exact Zak _
theorem Ua {xs:Array Nat}{j:Nat}(hr:ip xs.toList):∀(fuel lo hi:Nat),hi<=xs.size->lo<=hi->hi-lo<=fuel->(∀i (h:i<xs.size),i<lo->xs[i]<j)->(∀i (h:i<xs.size),hi<=i->j<=xs[i])->
  below.go xs j fuel lo hi<=xs.size/\(∀i (h:i<xs.size),i<below.go xs j fuel lo hi->xs[i]<j)/\(∀i (h:i<xs.size),below.go xs j fuel lo hi<=i->j<=xs[i])
 |0,lo,hi,h1,h2,h3,h4,h5=>by have e:lo=hi:=.o;subst e;exact⟨h1,h4,h5⟩
 |fuel+1,lo,hi,h1,h2,h3,h4,h5=>by
  unfold below.go;by_cases aw:lo<hi
  ·rw[ZaQ aw];dsimp only;have hm:(lo+hi)/2<xs.size:=.o;have e:xs.getD ((lo+hi)/2) j=xs[(lo+hi)/2]:=by unfold Array.getD;rw[dif_pos hm];rfl
   rw[e];by_cases hc:xs[(lo+hi)/2]<j
   ·rw[ZaQ hc];refine Ua hr fuel _ hi h1 .o .o (fun i h aY=> ?_) h5;exact Ze3 (FR hr h hm .o) hc
   ·rw[Zaz hc];refine Ua hr fuel lo _ .o .o .o h4 (fun i h aY=> ?_);exact Zbi (Nat.le_of_not_lt hc) (FR hr hm h aY)
  ·rw[Zaz aw];have e:lo=hi:=.o;subst e;exact⟨h1,h4,h5⟩
theorem Yq {xs:Array Nat}{j:Nat}(hr:ip xs.toList):below xs j<=xs.size/\(∀i (h:i<xs.size),i<below xs j->xs[i]<j)/\(∀i (h:i<xs.size),below xs j<=i->j<=xs[i]):=
 Ua hr _ _ _ (Zak _) (ZaM _) .o (fun i h z=>absurd z (Zeb _)) (fun i h z=>.o)
theorem Y1 {xs:Array Nat}{i j:Nat}(hr:ip xs.toList)(h:xs[i]? =some j):below xs j=i:=by
 obtain⟨hi,e⟩:=Zbm.mp h;obtain⟨h1,h2,h3⟩:=Yq (j:=j) hr;rcases Zgd (below xs j) i with q |q |q
 ·have a:=h3 (below xs j) .o (Zak _);have b:=AA hr .o hi q;omega
 ·exact q
 ·have:=h2 i hi q;omega
theorem Uv {t:SetTable}{i j:Nat}(hr:ip t.place.toList)(h:t.place[i]? =some j):t.slot j=.live i:=by unfold slot;rw[Y1 hr h];dsimp only;rw[h,ZaQ (by simp)]
theorem ZbV {t:SetTable}{j:Nat}(hd:t.dummies= #[])(h:j∉t.place.toList):t.slot j=.empty:=by
 unfold slot;dsimp only;have h1:¬(t.place[below t.place j]? ==some j)=true:=by intro z;have z':=eq_of_beq z;obtain⟨hi,e⟩:=Zbm.mp z';exact h (by rw[<-e];simp)
 have h2:¬has t.dummies j=true:=by rw[hd];unfold has;simp
 rw[Zaz h1,Zaz h2]
theorem Ry {xs:Array Nat}{j:Nat}(h:j∈xs.toList):∃i:Nat,xs[i]? =some j:=by obtain⟨i,hi,e⟩:=ZcC h;exact⟨i,by rw[<-ZaT,Zaw hi,e]⟩
theorem R3 {xs:Array Nat}{i j:Nat}(h:xs[i]? =some j):j∈xs.toList:=by rw[<-ZaT]at h;exact ZaD h
theorem Uz {t:SetTable}{j:Nat} :(t.put j).1.place.toList=t.place.toList.take (below t.place j)++j::t.place.toList.drop (below t.place j):=by unfold put;exact toList_insertAt _ _ _
theorem Vg {t:SetTable}{j:Nat}(hr:ip t.place.toList)(h:j∉t.place.toList):ip (t.put j).1.place.toList:=by
 rw[Uz];obtain⟨h1,h2,h3⟩:=Yq (j:=j) hr;generalize below t.place j=p at *
 have a:∀x∈t.place.toList.take p,x<j:=fun x hx=>by obtain⟨i,hi,e⟩:=ZcC hx;rw[ZaR]at hi;rw[Zga]at e;rw[<-e];have:=h2 i (by simp at hi;omega) .o;simpa using this
 have b:∀x∈t.place.toList.drop p,j<x:=fun x hx=>by
  obtain⟨i,hi,e⟩:=ZcC hx;rw[Zcz]at hi;rw[List.getElem_drop]at e;have:=h3 (p+i) (by simp at hi;omega) .o;have e':t.place[p+i]'(by simp at hi;omega)=x:=by simpa using e
  rw[e']at this;rcases Nat.lt_or_eq_of_le this with q |q
  ·exact q
  ·exact absurd (ZcH hx) (by rw[<-q];exact h)
 refine Zbo.mpr ?_;refine⟨hr.sublist (ZdI ..),ZbG.mpr ⟨b,hr.sublist (ZdJ ..)⟩,fun x hx y hy=> ?_⟩;rcases Zav.mp hy with rfl |hy
 ·exact a x hx
 ·exact Nat.lt_trans (a x hx) (b y hy)
abbrev tb (m:Nat):SetTable:= {mask:=m,place:= #[],dummies:= #[],finger:=0,led:=false,moves:=0,plain:=false}
def dZ (m:Nat)(p:Probe):Probe:=(tb m).advance p
theorem RY (t:SetTable)(p:Probe):t.advance p=dZ t.mask p:=rfl
def it (m:Nat)(p:Probe):Nat->Probe
 |0=>p
 |k+1=>dZ m (it m p k)
theorem Ys (m:Nat)(p:Probe):∀k,it m p (k+1)=it m (dZ m p) k
 |0=>rfl
 |k+1=>by show dZ m (it m p (k+1))=dZ m (it m (dZ m p) k);rw[Ys m p k]
theorem WV (m:Nat)(p:Probe)(a:Nat):∀b,it m p (a+b)=it m (it m p a) b
 |0=>rfl
 |b+1=>by show dZ m (it m p (a+b))=dZ m (it m (it m p a) b);rw[WV m p a b]
theorem U3 (m:Nat)(p:Probe):(dZ m p).dummy=p.dummy:=by unfold dZ advance;split<;>rfl
theorem GO (m:Nat)(p:Probe):∀k,(it m p k).dummy=p.dummy
 |0=>rfl
 |k+1=> (U3 m _).trans (GO m p k)
theorem GB {t:SetTable}{hashAt:Nat->Int}{h:Int}(hr:ip t.place.toList)(hd:t.dummies= #[]):∀(n fuel:Nat) (p:Probe),p.dummy=none->n<fuel->(∀k<n,(it t.mask p k).j∈t.place.toList)->(it t.mask p n).j∉t.place.toList->
  (probe.go t hashAt h fuel p=some (.empty (it t.mask p n).j none)/\∀k<n,∀i:Nat,t.place[i]? =some (it t.mask p k).j->hashAt i≠h)∨
  ∃k i:Nat,k<n/\t.place[i]? =some (it t.mask p k).j/\hashAt i=h/\probe.go t hashAt h fuel p=some (.candidate (it t.mask p k).j i (it t.mask p (k+1)))/\∀k'<k,∀i:Nat,t.place[i]? =some (it t.mask p k').j->hashAt i≠h
 |0,0,p,_,h1,_,_=>absurd h1 (Zdg _)
 |n+1,0,p,_,h1,_,_=>absurd h1 (Zeb _)
 |0,fuel+1,p,hp,h1,h2,h3=>by refine .inl ⟨?_,fun k hk=>absurd hk (Zeb _)⟩;unfold probe.go;have e:t.slot p.j=.empty:=ZbV hd h3;rw[e];dsimp only;rw[hp];rfl
 |n+1,fuel+1,p,hp,h1,h2,h3=>by
  obtain⟨i,hi⟩:=Ry (h2 0 (ZfX _));have e:t.slot p.j=.live i:=Uv hr hi;unfold probe.go;rw[e];dsimp only;rw[RY];by_cases hh:hashAt i=h
  ·rw[ZaQ (by simp[hh])];exact .inr ⟨0,i,ZfX _,hi,hh,rfl,fun k' aG=>absurd aG (Zeb _)⟩
  ·rw[Zaz (by simp[hh])];have uniq:∀i':Nat,t.place[i']? =some (it t.mask p 0).j->hashAt i'≠h:=fun i' aY=>by have q1:=Y1 hr aY;have q2:=Y1 hr hi;have:i'=i:=q1.symm.trans q2;subst this;exact hh
   rcases GB (hashAt:=hashAt) (h:=h) hr hd n fuel (dZ t.mask p) (by rw[U3];exact hp) .o (fun k hk=>by rw[<-Ys];exact h2 (k+1) .o) (by rw[<-Ys];exact h3) with ⟨g1,g2⟩ |⟨k,i2,g1,g2,g3,g4,g5⟩
   ·rw[<-Ys]at g1;refine .inl ⟨g1,fun k hk=> ?_⟩;cases k with
    |zero=>exact uniq
    |succ k=>rw[Ys];exact g2 k .o
   ·rw[<-Ys]at g2 g4;rw[<-Ys]at g4;refine .inr ⟨k+1,i2,.o,g2,g3,g4,fun k' aG=> ?_⟩;cases k' with
    |zero=>exact uniq
    |succ k'=>rw[Ys];exact g5 k' .o
abbrev fr (m i pt:Nat):Probe:= {j:=i,more:=runEnd m i-i,i,perturb:=pt,dummy:=none}
abbrev st (m:Nat)(h:Int):Probe:=fr m (bits h%(m+1)) (bits h)
def lp (m:Nat)(x:Nat×Nat):Nat×Nat:=leap m x.1 x.2
def cw (m:Nat)(x:Nat×Nat):Nat->Nat×Nat
 |0=>x
 |k+1=>lp m (cw m x k)
theorem WM (m:Nat)(x:Nat×Nat):∀k,cw m x (k+1)=cw m (lp m x) k
 |0=>rfl
 |k+1=>by show lp m (cw m x (k+1))=lp m (cw m (lp m x) k);rw[WM m x k]
theorem F6 (m:Nat)(x:Nat×Nat)(a:Nat):∀b,cw m x (a+b)=cw m (cw m x a) b
 |0=>rfl
 |b+1=>by show lp m (cw m x (a+b))=lp m (cw m (cw m x a) b);rw[F6 m x a b]
theorem SN (m i:Nat):runEnd m i-i<=9:=by unfold runEnd;split<;>omega
theorem WU (m i pt:Nat):∀k,k<=runEnd m i-i->it m (fr m i pt) k= {j:=i+k,more:=runEnd m i-i-k,i:=i,perturb:=pt,dummy:=none}
 |0,_=>rfl
 |k+1,h=>by show dZ m (it m (fr m i pt) k)=_;rw[WU m i pt k .o];unfold dZ advance;dsimp only;rw[ZaQ .o];have e:runEnd m i-i-k-1=runEnd m i-i-(k+1):=.o;rw[e,Zej]
theorem AD (m i pt:Nat):it m (fr m i pt) (runEnd m i-i+1)=fr m (lp m (i,pt)).1 (lp m (i,pt)).2:=by show dZ m (it m (fr m i pt) (runEnd m i-i))=_;rw[WU m i pt _ (Zak _)];unfold dZ advance;dsimp only;rw[Zaz .o];rfl
theorem GP (m:Nat):∀(k:Nat) (x:Nat×Nat),∃d,d<=10*k/\it m (fr m x.1 x.2) d=fr m (cw m x k).1 (cw m x k).2
 |0,x=> ⟨0,.o,rfl⟩
 |k+1,x=>by obtain⟨d,h1,h2⟩:=GP m k (lp m x);refine⟨runEnd m x.1-x.1+1+d,by have:=SN m x.1;omega,?_⟩;rw[WV,AD m x.1 x.2];rw[WM];exact h2
theorem Fx (m:Nat)(x:Nat×Nat):∀k,(cw m x k).2=x.2/32^k
 |0=>by simp[cw]
 |k+1=>by show(cw m x k).2/32=_;rw[Fx m x k,Nat.div_div_eq_div_mul,Nat.pow_succ]
theorem Rw (m:Nat)(x:Nat×Nat)(h:x.1<m+1):∀k,(cw m x k).1<m+1
 |0=>h
 |k+1=>Zge _ (ZfX _)
def nx (m i:Nat):Nat:=(i*5+1)%(m+1)
def dD (m:Nat):Nat->Nat
 |0=>0
 |k+1=>nx m (dD m k)
def uk (m:Nat):Nat->Nat->List Nat
 |0,_=> []
 |k+1,i=>i::uk m k (nx m i)
theorem FV (m:Nat):∀(k n:Nat) (f:Nat),f∈uk m k (dD m n)->∃u,n<=u/\u<n+k/\dD m u=f
 |0,n,f,h=>by cases h
 |k+1,n,f,h=>by
  rcases Zav.mp h with rfl |h
  ·exact⟨n,Zak _,.o,rfl⟩
  ·obtain⟨u,h1,h2,h3⟩:=FV m k (n+1) f h;exact⟨u,.o,.o,h3⟩
def ir (m:Nat):Prop:=m=7∨m=31∨m=127∨m=511
def rQ (m:Nat):Bool:=(List.range (m+1)).all fun f=> (uk m (m+1) 0).contains f
theorem QW:rQ 7=true/\dD 7 8=0:=by decide+kernel
theorem QY:rQ 31=true/\dD 31 32=0:=by decide+kernel
theorem QZ:rQ 127=true/\dD 127 128=0:=by decide+kernel
theorem QX:rQ 511=true/\dD 511 512=0:=by decide+kernel
theorem F1 {m:Nat}(hm:ir m):rQ m=true/\dD m (m+1)=0:=by
 rcases hm with rfl |rfl |rfl |rfl
 ·exact QW
 ·exact QY
 ·exact QZ
 ·exact QX
theorem FD {m f:Nat}(hm:ir m)(hf:f<m+1):∃u,u<m+1/\dD m u=f:=by have:=Zbd.mp (F1 hm).1 f (Za6.mpr hf);obtain⟨u,_,h2,h3⟩:=FV m (m+1) 0 f (show f∈uk m (m+1) 0 by simpa using this);exact⟨u,.o,h3⟩
theorem yy (m:Nat):∀(k s:Nat),cw m (dD m s,0) k=(dD m (s+k),0)
 |0,s=>rfl
 |k+1,s=>by show lp m (cw m (dD m s,0) k)=_;rw[yy m k s];unfold lp leap;simp[dD,nx]
theorem GW {m a:Nat}(hm:ir m):∀k,dD m (m+1+k)=dD m k
 |0=> (F1 hm).2
 |k+1=>by show nx m (dD m (m+1+k))=nx m (dD m k);rw[GW (a:=a) hm k]
theorem full {m a f:Nat}(hm:ir m)(ha:a<m+1)(hf:f<m+1):∃k,k<m+1/\(cw m (a,0) k).1=f:=by
 obtain⟨s,hs,rfl⟩:=FD hm ha;obtain⟨u,hu,rfl⟩:=FD hm hf;by_cases h:s<=u
 ·exact⟨u-s,.o,by rw[yy];show dD m (s+(u-s))=_;congr 1;omega⟩
 ·refine⟨m+1+u-s,.o,?_⟩;rw[yy];show dD m (s+(m+1+u-s))=_;rw[show s+(m+1+u-s)=m+1+u by omega,GW (a:=0) hm]
theorem FX (h:Int):bits h<2^64:=by unfold bits;have h1:0<=h%(2^64:Int):=Zec _ .d;have h2:h%(2^64:Int)<2^64:=ZdB _ .d;omega
theorem UU {m i pt f:Nat}(hm:ir m)(hi:i<m+1)(hp:pt<2^64)(hf:f<m+1):∃k,k<m+14/\(cw m (i,pt) k).1=f:=by
 have e:(cw m (i,pt) 13).2=0:=by rw[Fx];exact Nat.div_eq_of_lt (Za7 hp .d)
 have l:=Rw m (i,pt) hi 13;obtain⟨k,h1,h2⟩:=full hm l hf;refine⟨13+k,.o,?_⟩;rw[F6];have e2:cw m (i,pt) 13=((cw m (i,pt) 13).1,0):=by rw[<-e]
 rw[e2];exact h2
theorem cover {m f:Nat}(hm:ir m)(h:Int)(hf:f<m+1):∃n,n<10*turns m/\(it m (st m h) n).j=f:=by obtain⟨k,h1,h2⟩:=UU hm (Zge _ (ZfX _)) (FX h) hf (i:=bits h%(m+1));obtain⟨d,h3,h4⟩:=GP m k (bits h%(m+1),bits h);refine⟨d,by unfold turns;omega,?_⟩;show(it m (fr m (bits h%(m+1)) (bits h)) d).j=f;rw[h4];exact h2
def nQ (m:Nat)(dz:Nat->Prop)(p:Probe)(j:Nat):Prop:=∃n,(it m p n).j=j/\∀k<n,dz (it m p k).j
theorem nQ.mono {m:Nat}{dz C1:Nat->Prop}{p:Probe}{j:Nat}(h:nQ m dz p j)(w:∀x,dz x->C1 x):nQ m C1 p j:=
 let ⟨n,a,b⟩:=h;⟨n,a,fun k hk=>w _ (b k hk)⟩
theorem X3 {m f:Nat}{dz:Nat->Prop}(hm:ir m)(h:Int)(hf:f<m+1)(ho:¬dz f):∃n,n<10*turns m/\(∀k<n,dz (it m (st m h) k).j)/\¬dz (it m (st m h) n).j:=by
 obtain⟨n,h1,h2⟩:=cover hm h hf;have key:∀n,n<10*turns m->¬dz (it m (st m h) n).j->∃n,n<10*turns m/\(∀k<n,dz (it m (st m h) k).j)/\¬dz (it m (st m h) n).j:=by
  intro n
  induction n using Nat.strongRecOn with
  |_ n ih=>
   intro g1 g2;by_cases z:∀k<n,dz (it m (st m h) k).j
   ·exact⟨n,g1,z,g2⟩
   ·have:∃k,k<n/\¬dz (it m (st m h) k).j:=ZcT fun c=>z fun k hk=>ZcT fun o=>c ⟨k,hk,o⟩;obtain⟨k,hk,o⟩:=this;exact ih k hk .o o
 exact key n h1 (by rw[h2];exact ho)
theorem UO {m:Nat}{owner:Array (Option Nat)} :∀(fuel k:Nat) (i pt:Nat),k<fuel->((owner.getD (cw m (i,pt) k).1 (some 0)).isNone=true)->
  ∃j,layClean.free m owner fuel i pt=some j/\(owner.getD j (some 0)).isNone=true/\nQ m (fun x=> (owner.getD x (some 0)).isNone=false) (fr m i pt) j
 |0,k,i,pt,h,_=>absurd h (Zeb _)
 |fuel+1,k,i,pt,h,ho=>by
  unfold layClean.free;cases hq:(List.range (runEnd m i+1-i)).find? fun k=> (owner.getD (i+k) (some 0)).isNone with
  |some d=>
   dsimp only;have h1:=List.find?_some hq;have cF:=Zf3 hq;rw[Za6]at cF;refine⟨i+d,rfl,h1,d,?_,fun k hk=> ?_⟩
   ·rw[WU m i pt d (by unfold runEnd at *;split at cF<;>split<;>omega)]
   ·rw[WU m i pt k (by unfold runEnd at *;split at cF<;>split<;>omega)];obtain⟨as,bs,e,aO⟩:=(List.find?_eq_some_iff_append.mp hq).2;have Eb:k∈as:=by
     have hp:(List.range (runEnd m i+1-i)).Pairwise (· < ·):=Zfa;have D8:k∈List.range (runEnd m i+1-i):=Za6.mpr .o;rw[e]at hp D8;rcases ZaO.mp D8 with q |q
     ·exact q
     ·rcases Zav.mp q with q |q
      ·omega
      ·have:=(ZbG.mp (Zbo.mp hp).2.1).1 k q;omega
    have:=aO k Eb;simpa using this
  |none=>
   dsimp only;have aO:=List.find?_eq_none.mp hq;have oV:∀d,d<=runEnd m i-i->(owner.getD (i+d) (some 0)).isNone=false:=fun d hd=>by have:=aO d (Za6.mpr (by unfold runEnd at *;split at hd<;>split<;>omega));exact Zf9.mpr this
   cases k with
   |zero=>have:=oV 0 (ZaM _);rw[show(cw m (i,pt) 0).1=i+0 from rfl,this]at ho;cases ho
   |succ k=>
    rw[WM]at ho;obtain⟨j,g1,g2,n,g3,g4⟩:=UO (m:=m) (owner:=owner) fuel k (lp m (i,pt)).1 (lp m (i,pt)).2 .o ho;refine⟨j,g1,g2,runEnd m i-i+1+n,?_,fun d hd=> ?_⟩
    ·rw[WV,AD];exact g3
    ·by_cases hd2:d<=runEnd m i-i
     ·rw[WU m i pt d hd2];exact oV d hd2
     ·obtain⟨c,rfl⟩:∃c,d=runEnd m i-i+1+c:=⟨d-(runEnd m i-i+1),.o⟩;rw[WV,AD];exact g4 c .o
theorem Tt {m:Nat}{p:Probe}(h:p.j+p.more<=m):(dZ m p).j+(dZ m p).more<=m:=by
 unfold dZ advance;split
 ·dsimp only;omega
 ·dsimp only[leap,runEnd];have:=Zge (p.i*5+1+p.perturb/32) (show 0<m+1 by omega);split<;>omega
theorem GC {m:Nat}{p:Probe}(h:p.j+p.more<=m):∀k,(it m p k).j+(it m p k).more<=m
 |0=>h
 |k+1=>Tt (GC h k)
theorem Fg {m:Nat}(h:Int)(k:Nat):(it m (st m h) k).j<m+1:=by
 have:=GC (m:=m) (p:=st m h) (by have:=Zge (bits h) (show 0<m+1 by omega);dsimp only[fr,runEnd];split<;>omega) k
 omega
structure T0 (t:SetTable)(es:Array (Int×Value)):Prop where
 sz:t.place.size=es.size
 jz:ip t.place.toList
 vn:t.dummies= #[]
 le:∀j∈t.place.toList,j<t.mask+1
 ld:∀z∈t.place.toList.zip es.toList,nQ t.mask (·∈t.place.toList) (st t.mask z.2.1) z.1
def jh (m n:Nat):Prop:=(m=7/\n<=4)∨(m=31/\n<=18)∨(m=127/\n<=76)∨(m=511/\n<=306)
theorem jh.uu {m n:Nat}(h:jh m n):ir m:=by
 rcases h with ⟨h,_⟩ |⟨h,_⟩ |⟨h,_⟩ |⟨h,_⟩
 ·exact .inl h
 ·exact .inr (.inl h)
 ·exact .inr (.inr (.inl h))
 ·exact .inr (.inr (.inr h))
theorem jh.lt {m n:Nat}(h:jh m n):n+1<m:=by rcases h with ⟨h,_⟩ |⟨h,_⟩ |⟨h,_⟩ |⟨h,_⟩<;>omega
theorem jh.small {m n:Nat}(h:jh m n):n<=306:=by rcases h with ⟨h,_⟩ |⟨h,_⟩ |⟨h,_⟩ |⟨h,_⟩<;>omega
theorem Uy {l:List Nat}(h:ip l):l.Nodup:=ZcU (fun h=>Za1 h) h
theorem T0.free {t:SetTable}{es:Array (Int×Value)}(T:T0 t es)(h:es.size<t.mask+1):∃f,f<t.mask+1/\f∉t.place.toList:=by refine ZcT fun c=> ?_;have all:∀f,f<t.mask+1->f∈t.place.toList:=fun f hf=>ZcT fun n=>c ⟨f,hf,n⟩;have p:(t.place.toList).Perm (List.range (t.mask+1)):=(Zca (Uy T.jz) Zdr).mpr fun f=> ⟨fun hf=>Za6.mpr (T.le f hf),fun hf=>all f (Za6.mp hf)⟩;have:=p.length_eq;rw[ZcA,Zau,T.sz]at this;omega
theorem T0.fits {t:SetTable}{es:Array (Int×Value)}(T:T0 t es)(h:es.size<=t.mask):t.fits es.size=true:=by unfold SetTable.fits SetTable.fill;rw[T.vn,T.sz];simp[h]
theorem T3 {α β:Type}{a:List α}{b:List β}(p:Nat)(x:α)(y:β)(h:a.length=b.length):(a.take p++x::a.drop p).zip (b.take p++y::b.drop p)=(a.zip b).take p++(x,y)::(a.zip b).drop p:=by rw[List.zip_append (by rw[ZaR,ZaR,h]),Zcr];simp only[List.zip,List.take_zipWith,List.drop_zipWith]
theorem T0.put {t:SetTable}{es:Array (Int×Value)}(T:T0 t es){h:Int}{x:Value}{n:Nat}(h1:∀k<n,(it t.mask (st t.mask h) k).j∈t.place.toList)(h2:(it t.mask (st t.mask h) n).j∉t.place.toList)(pl:Bool):
  T0 {(t.put (it t.mask (st t.mask h) n).j).1 with plain:=pl} (insertAt es (t.put (it t.mask (st t.mask h) n).j).2 (h,x)):=by
 have lt:=Fg (m:=t.mask) h n;generalize hf:(it t.mask (st t.mask h) n).j=f at *
 have dN:=Uz (t:=t) (j:=f);have e2:(t.put f).2=below t.place f:=rfl;have em:(t.put f).1.mask=t.mask:=rfl;have dz:∀y,y∈t.place.toList->y∈(t.put f).1.place.toList:=fun y hy=>by
  rw[dN];rw[<-Zby (below t.place f) t.place.toList]at hy;rcases ZaO.mp hy with q |q
  ·exact Za3 _ q
  ·exact ZaA _ (Zae _ q)
 have lz:t.place.toList.length=es.toList.length:=by rw[Zau,Zau,T.sz]
 refine⟨?_,Vg T.jz h2,?_,fun j hj=> ?_,fun z hz=> ?_⟩
 ·have a:(t.put f).1.place.size=t.place.size+1:=by rw[<-Zau,dN,Zaj,Za8,ZaR,Zcz,Zau];have:=(Yq (j:=f) T.jz).1;omega
  have b:(insertAt es (t.put f).2 (h,x)).size=es.size+1:=by rw[<-Zau,(insertAt_perm es _ (h,x)).length_eq,Zau,Array.size_push]
  show(t.put f).1.place.size=_;rw[a,b,T.sz]
 ·show(if has t.dummies f then _ else t.dummies)= #[];rw[T.vn];simp[has]
 ·show j<t.mask+1;have ng:j∈(t.put f).1.place.toList:=hj;rw[dN]at ng;rcases ZaO.mp ng with q |q
  ·exact T.le j (ZdE q)
  ·rcases Zav.mp q with q |q
   ·rw[q];exact lt
   ·exact T.le j (ZcH q)
 ·have kc:z∈(t.put f).1.place.toList.zip (insertAt es (t.put f).2 (h,x)).toList:=hz;rw[dN,toList_insertAt,e2,T3 _ _ _ lz]at kc;have old:∀z∈t.place.toList.zip es.toList,nQ t.mask (·∈(t.put f).1.place.toList) (st t.mask z.2.1) z.1:=fun z hz=> (T.ld z hz).mono dz;rcases ZaO.mp kc with q |q
  ·exact old z (ZdE q)
  ·rcases Zav.mp q with q |q
   ·rw[q];exact⟨n,hf,fun k hk=>dz _ (h1 k hk)⟩
   ·exact old z (ZcH q)
structure jR (m:Nat)(hs:List Int)(owner:Array (Option Nat)):Prop where
 sz:owner.size=m+1
 lt:∀(j k:Nat),owner[j]? =some (some k)->k<hs.length
 at_:∀(k:Nat) (h:Int),hs[k]? =some h->∃j:Nat,owner[j]? =some (some k)/\nQ m (fun x=> ∃k,owner[x]? =some (some k)) (st m h) j
 inj:∀(j j' k:Nat),owner[j]? =some (some k)->owner[j']? =some (some k)->j=j'
def live (m:Nat)(owner:Array (Option Nat)):List (Nat×Nat):=(List.range (m+1)).filterMap fun j=> (owner.getD j none).map (j, ·)
theorem getD_none {owner:Array (Option Nat)}{j k:Nat} :owner.getD j none=some k↔owner[j]? =some (some k):=by
 rw[ZfL];cases owner[j]? with
 |none=>simp
 |some o=>cases o<;>simp
theorem Z2 {m:Nat}{owner:Array (Option Nat)}(hs:owner.size=m+1){x:Nat×Nat} :x∈live m owner↔owner[x.1]? =some (some x.2):=by
 unfold live;rw[Zcq];constructor
 ·rintro⟨j,hj,e⟩;obtain⟨k,hk,rfl⟩:=Zbf.mp e;exact getD_none.mp hk
 ·intro h;obtain⟨hl,_⟩:=Zbm.mp h;exact⟨x.1,Za6.mpr .o,by rw[getD_none.mpr h];rfl⟩
theorem WN (m:Nat)(owner:Array (Option Nat)):ip ((live m owner).map (·.1)):=by refine Zb0.mpr ?_;unfold live;refine Zek.mpr (ZcU ?_ (Zfa (n:=m+1)));intro a b hV x hx y hy;obtain⟨_,_,rfl⟩:=Zbf.mp hx;obtain⟨_,_,rfl⟩:=Zbf.mp hy;exact hV
theorem UJ {m:Nat}{hs:List Int}{owner:Array (Option Nat)}(L:jR m hs owner):((live m owner).map (·.2)).Perm (List.range hs.length):=by
 refine(Zca ?_ Zdr).mpr fun k=> ?_
 ·refine ZaU.mpr (Zb0.mpr ?_);refine Zgf ?_ (Zb0.mp (WN m owner));intro a b ha hb hV e;have h1:=(Z2 L.sz).mp ha;have h2:=(Z2 L.sz).mp hb;rw[e]at h1;have:=L.inj _ _ _ h1 h2;omega
 ·rw[Za6];constructor
  ·intro h;obtain⟨x,hx,rfl⟩:=ZaN.mp h;exact L.lt _ _ ((Z2 L.sz).mp hx)
  ·intro h;obtain⟨j,hj,_⟩:=L.at_ k _ (Zaw h);exact ZaN.mpr ⟨(j,k),(Z2 L.sz).mpr hj,rfl⟩
theorem GV {m:Nat}{hs:List Int}{owner:Array (Option Nat)}(L:jR m hs owner):(live m owner).length=hs.length:=by have:=(UJ L).length_eq;rw[Zal,ZcA]at this;exact this
theorem jR.free {m:Nat}{hs:List Int}{owner:Array (Option Nat)}(L:jR m hs owner)(h:hs.length<m+1):∃f,f<m+1/\owner[f]? =some none:=by
 refine ZcT fun c=> ?_;have all:∀f,f<m+1->∃k,owner[f]? =some (some k):=fun f hf=>by
  have Ej:f<owner.size:=by rw[L.sz];exact hf
  cases e:owner[f] with
  |none=>exact absurd ⟨f,hf,by rw[ZbM Ej,e]⟩ c
  |some k=>exact⟨k,by rw[ZbM Ej,e]⟩
 have p:((live m owner).map (·.1)).Perm (List.range (m+1)):=(Zca (Uy (WN m owner)) Zdr).mpr fun f=>by
  rw[Za6,ZaN];constructor
  ·rintro⟨x,hx,rfl⟩;obtain⟨hl,_⟩:=Zbm.mp ((Z2 L.sz).mp hx);rw[L.sz]at hl;exact hl
  ·intro hf;obtain⟨k,hk⟩:=all f hf;exact⟨(f,k),(Z2 L.sz).mpr hk,rfl⟩
 have:=p.length_eq;rw[Zal,GV L,ZcA]at this;omega
theorem getD_some {owner:Array (Option Nat)}{j:Nat} :(owner.getD j (some 0)).isNone=true↔owner[j]? =some none:=by
 rw[ZfL];cases owner[j]? with
 |none=>simp
 |some o=>cases o<;>simp
theorem jR.step {m:Nat}{hs:List Int}{owner:Array (Option Nat)}(hm:ir m)(L:jR m hs owner)(hl:hs.length<m+1)(h:Int):
  ∃j,layClean.free m owner (turns m) (bits h%(m+1)) (bits h)=some j/\jR m (hs++[h]) (owner.setIfInBounds j (some hs.length)):=by
 obtain⟨f,hf,hn⟩:=L.free hl;obtain⟨k,hk,e⟩:=UU hm (Zge (bits h) (show 0<m+1 by omega)) (FX h) hf;obtain⟨j,g1,g2,g3⟩:=UO (m:=m) (owner:=owner) (turns m) k (bits h%(m+1)) (bits h) (by unfold turns;omega) (by rw[e];exact getD_some.mpr hn);have EL:=getD_some.mp g2;obtain⟨jl,_⟩:=Zbm.mp EL;have vv:(owner.setIfInBounds j (some hs.length))[j]? =some (some hs.length):=by simp[jl]
 have nH:∀{i:Nat},i≠j->(owner.setIfInBounds j (some hs.length))[i]? =owner[i]? :=fun {i} hi=>by rw[Array.getElem?_setIfInBounds];rw[Zaz (Zd3 hi)]
 have YS:∀{i k:Nat},owner[i]? =some (some k)->i≠j:=fun {i k} hi z=>by rw[z,EL]at hi;cases hi
 have dz:∀x:Nat,(∃k:Nat,owner[x]? =some (some k))->∃k:Nat,(owner.setIfInBounds j (some hs.length))[x]? =some (some k):=fun x hx=>by obtain⟨k,hk⟩:=hx;exact⟨k,by rw[nH (YS hk)];exact hk⟩
 refine⟨j,g1,⟨by rw[Zgb];exact L.sz,fun i k hi=> ?_,fun k h' aG=> ?_,fun i i' k hi aY=> ?_⟩⟩
 ·rw[Zaj];by_cases cZ:i=j
  ·rw[cZ,vv]at hi;cases hi;simp
  ·rw[nH cZ]at hi;have:=L.lt _ _ hi;simp;omega
 ·by_cases D9:k<hs.length
  ·rw[ZcQ D9]at aG;obtain⟨i,hi,ld⟩:=L.at_ k h' aG;exact⟨i,by rw[nH (YS hi)];exact hi,ld.mono dz⟩
  ·rw[Zcx .o]at aG;have ek:k=hs.length:=by have:=(Zaa.mp aG).1;simp at this;omega
   subst ek;simp at aG;subst aG;obtain⟨n,en,aO⟩:=g3;refine⟨j,vv,n,en,fun d hd=> ?_⟩;have hx:=aO d hd;have aw:(it m (fr m (bits h%(m+1)) (bits h)) d).j<owner.size:=by rw[L.sz];exact Fg h d
   show ∃k:Nat,(owner.setIfInBounds j (some hs.length))[(it m (fr m (bits h%(m+1)) (bits h)) d).j]? =some (some k);generalize (it m (fr m (bits h%(m+1)) (bits h)) d).j=x at *
   have e:=ZbM aw;cases e2:owner[x] with
   |none=>rw[e2]at e;rw[getD_some.mpr e]at hx;cases hx
   |some k=>rw[e2]at e;exact dz x ⟨k,e⟩
 ·by_cases cZ:i=j
  ·by_cases rj:i'=j
   ·rw[cZ,rj]
   ·rw[cZ,vv]at hi;rw[nH rj]at aY;cases hi;exact absurd (L.lt _ _ aY) (Zdg _)
  ·by_cases rj:i'=j
   ·rw[rj,vv]at aY;rw[nH cZ]at hi;cases aY;exact absurd (L.lt _ _ hi) (Zdg _)
   ·rw[nH cZ]at hi;rw[nH rj]at aY;exact L.inj _ _ _ hi aY
noncomputable def qG (m:Nat)(acc:Option (Array (Option Nat)×Nat))(h:Int):Option (Array (Option Nat)×Nat):=do
 let (owner,k) <-acc
 let j <-layClean.free m owner (turns m) (bits h%(m+1)) (bits h)
 pure (owner.setIfInBounds j (some k),k+1)
theorem Zbl (m:Nat)(hs:Array Int):layClean m hs=(hs.toList.foldl (qG m) (some (Array.replicate (m+1) none,0))).map (·.1):=by unfold layClean;rw[<-Array.foldl_toList];rfl
theorem UP {m:Nat}(hm:ir m):∀(rest hs:List Int) (owner:Array (Option Nat)),jR m hs owner->hs.length+rest.length<=m+1->
  ∃CW,rest.foldl (qG m) (some (owner,hs.length))=some (CW,(hs++rest).length)/\jR m (hs++rest) CW
 | [],hs,owner,L,_=> ⟨owner,by rw[ZbE];rfl,by rw[ZbE];exact L⟩
 |h::rest,hs,owner,L,hl=>by
  rw[Za8]at hl;obtain⟨j,g1,g2⟩:=L.step hm .o h;obtain⟨o',g3,g4⟩:=UP hm rest (hs++[h]) _ g2 (by rw[Zaj,Zdx];omega);refine⟨o',?_,by rw[<-List.append_cons]at g4;exact g4⟩;rw[Zdw];have e:qG m (some (owner,hs.length)) h=some (owner.setIfInBounds j (some hs.length),(hs++[h]).length):=by unfold qG;simp[g1]
  rw[e,g3,<-List.append_cons]
theorem JB {es:Array (Int×Value)} :∀{L:List (Nat×Nat)},(∀x∈L,x.2<es.size)->(L.map (·.2)).filterMap (fun k=>es[k]?)=L.map fun x=> (es[x.2]?).getD (0,.none)
 | [],_=>rfl
 |x::L,h=>by have hx:=h x Zaf;rw[Zba,Zc0,Zba,ZbM hx];dsimp only;rw[JB fun y hy=>h y (Zae _ hy)];rfl
theorem Xo {m:Nat}(hm:ir m)(es:Array (Int×Value))(hl:es.size<=m+1)(fi mo:Nat)(le pl:Bool):
  ∃t order,laid m fi mo le pl (es.map (·.1))=some (t,order)/\t.mask=m/\T0 t (order.filterMap (es[·]?))/\(order.filterMap (es[·]?)).toList.Perm es.toList:=by
 have L0:jR m [] (Array.replicate (m+1) none):=by
  refine⟨Array.size_replicate ..,fun j k h=> ?_,fun k h hk=>by simp at hk,fun j j' k h=> ?_⟩<;>
  ·rw[Array.getElem?_replicate]at h;split at h<;>cases h
 obtain⟨owner,e1,L⟩:=UP hm (es.map (·.1)).toList [] _ L0 (by simp;exact hl);rw[Zdn]at e1 L;have hsz:((es.map (·.1)).toList).length=es.size:=by simp
 have e2:layClean m (es.map (·.1))=some owner:=by rw[Zbl];have kE:List.foldl (qG m) (some (Array.replicate (m+1) none,0)) (es.map (·.1)).toList=_:=e1;rw[kE];rfl
 have aw:∀x∈live m owner,x.2<es.size:=fun x hx=>by have:=L.lt _ _ ((Z2 L.sz).mp hx);rw[hsz]at this;exact this
 have Qa:(((live m owner).map (·.2)).toArray.filterMap (es[·]?)).toList=(live m owner).map fun x=> (es[x.2]?).getD (0,.none):=by rw[Array.toList_filterMap];exact JB aw
 have perm:(((live m owner).map (·.2)).toArray.filterMap (es[·]?)).toList.Perm es.toList:=by rw[Array.toList_filterMap];have p:=(UJ L).filterMap (fun i=>es[i]?);rw[hsz,filterMap_getElem?_range]at p;exact p
 refine⟨{mask:=m,place:=((live m owner).map (·.1)).toArray,dummies:= #[],finger:=fi,led:=le,moves:=mo,plain:=pl},((live m owner).map (·.2)).toArray,?_,rfl,?_,perm⟩
 ·unfold laid;rw[e2];rfl
 ·refine⟨?_,WN m owner,rfl,fun j hj=> ?_,fun z hz=> ?_⟩
  ·have:=perm.length_eq;rw[Zau,Zau]at this;rw[this];show((live m owner).map (·.1)).toArray.size=_;rw[Zap,Zal,GV L,hsz]
  ·obtain⟨x,hx,rfl⟩:=ZaN.mp (show j∈(live m owner).map (·.1) from hj);obtain⟨hq,_⟩:=Zbm.mp ((Z2 L.sz).mp hx);rw[L.sz]at hq;exact hq
  ·have kc:z∈((live m owner).map (·.1)).zip (((live m owner).map (·.2)).toArray.filterMap (es[·]?)).toList:=hz;rw[Qa,List.zip_map',ZaN]at kc;obtain⟨x,hx,rfl⟩:=kc;have gG:=(Z2 L.sz).mp hx;have yF:=aw x hx;have eh:(es.map (·.1)).toList[x.2]? =some (es[x.2].1):=by simp[yF]
   obtain⟨j,g1,g2⟩:=L.at_ _ _ eh;have ej:=L.inj _ _ _ g1 gG;subst ej;dsimp only;rw[ZbM yF,Zem];refine g2.mono fun y hy=> ?_;obtain⟨k,hk⟩:=hy;exact ZaN.mpr ⟨(y,k),(Z2 L.sz).mpr hk,rfl⟩
theorem grow {m n:Nat}(h:jh m n)(hn:n+1<=306):((n+1)*5>=m*3/\jh (sizeAbove (grown (n+1))-1) (n+1)/\sizeAbove (grown (n+1))<=512)∨(¬(n+1)*5>=m*3/\jh m (n+1)):=by
 rcases h with ⟨rfl,h⟩ |⟨rfl,h⟩ |⟨rfl,h⟩ |⟨rfl,h⟩
 ·by_cases q:n=4
  ·subst q;exact .inl ⟨.d,.inr (.inl ⟨.d,.d⟩),.d⟩
  ·exact .inr ⟨.o,.inl ⟨rfl,.o⟩⟩
 ·by_cases q:n=18
  ·subst q;exact .inl ⟨.d,.inr (.inr (.inl ⟨.d,.d⟩)),.d⟩
  ·exact .inr ⟨.o,.inr (.inl ⟨rfl,.o⟩)⟩
 ·by_cases q:n=76
  ·subst q;exact .inl ⟨.d,.inr (.inr (.inr ⟨.d,.d⟩)),.d⟩
  ·exact .inr ⟨.o,.inr (.inr (.inl ⟨rfl,.o⟩))⟩
 ·exact .inr ⟨.o,.inr (.inr (.inr ⟨rfl,.o⟩))⟩
section
variable {prog:Program}{w:World}{K:Type} [DecidableEq K]
structure HK (knd:HeapKind prog w K):Prop where
 Q7:∀{A:Around}{E:Value->Shared->Prop}{s:Shared}{k:K}{a:Addr}{Q:Bool->Shared->Prop},knd.is s.heap k a->(∀b,Q b s)->wpAny (model prog w) A (hashByValue 8 (.ref a)) Q E s
 notCls:∀{A:Around}{E:Value->Shared->Prop}{s:Shared}{k:K}{a:Addr}{Q:Bool->Shared->Prop},knd.is s.heap k a->Q false s->wpAny (model prog w) A (ofAClassStatement 8 (.ref a)) Q E s
 Du:∀{h h':Heap}{k:K}{a d:Addr}{o:Obj}{es ep t},knd.is h k a->h.get? d=some o->o.data=.set es ep t->Heap.SameBut d h h'->knd.is h' k a
variable {knd:HeapKind prog w K}{A:Around}{E:Value->Shared->Prop}{s:Shared}
def iz (knd:HeapKind prog w K)(h:Heap)(k:K)(e:Int×Value):Prop:=∃a,e.2=.ref a/\knd.is h k a/\e.1=knd.hash k
theorem TZ (hk:HK knd){k:K}{x:Addr}(hx:knd.is s.heap k x):∀{ys:List Value}{Q:Bool->Shared->Prop},(∀y∈ys,∃k' b,y=.ref b/\knd.is s.heap k' b)->Q false s->wpAny (model prog w) A (searchCouldBeSeen (.ref x) ys) Q E s:=by
 intro ys Q hy hq;unfold searchCouldBeSeen;refine eg ?_;refine ZcI _ (fun rest r s'=>r.1=none/\s'=s/\∀y∈rest,∃k' b,y=.ref b/\knd.is s.heap k' b) _ ?_ ?_ _ _ ⟨rfl,rfl,hy⟩
 ·rintro v rest r s' ⟨hr,rfl,aO⟩;obtain⟨k',b,rfl,hb⟩:=aO v Zaf;have Es:∀y∈rest,∃k' b,y=Value.ref b/\knd.is s'.heap k' b:=fun y hy=>aO y (Zae _ hy);dsimp only;split
  ·exact gc ⟨rfl,rfl,Es⟩
  ·refine eg (knd.quiet hx ?_);simp only[Zb1,Zax,ZbI];refine eg (knd.quiet hb ?_);simp only[Zb1,Zax,ZbI];refine eg (hk.notCls hx ?_);simp only[Zax,ZbI];refine eg (hk.notCls hb ?_);simp only[Zax,ZbI];exact gc ⟨rfl,rfl,Es⟩
 ·rintro⟨r1,r2⟩ s' ⟨hr,rfl,_⟩;simp only at hr;subst hr;exact gc hq
theorem R4 {t:SetTable}{es:Array (Int×Value)}(T:T0 t es){i:Nat}{e:Int×Value}(h:es[i]? =some e):∃j,t.place[i]? =some j/\(j,e)∈t.place.toList.zip es.toList:=by
 obtain⟨hi,_⟩:=Zbm.mp h;have hp:i<t.place.size:=by rw[T.sz];exact hi
 refine⟨t.place[i],ZbM hp,ZaD (i:=i) ?_⟩;rw[Zf4];exact⟨by rw[ZaT];exact ZbM hp,by rw[ZaT];exact h⟩
theorem RE {t:SetTable}{es:Array (Int×Value)}(T:T0 t es){i j:Nat}(h:t.place[i]? =some j):∃e,es[i]? =some e:=by obtain⟨hi,_⟩:=Zbm.mp h;exact⟨es[i]'(by rw[<-T.sz];exact hi),ZbM _⟩
theorem Zb6 {t:SetTable}{es:Array (Int×Value)}(T:T0 t es){hashAt:Nat->Int}{h:Int}{p:Probe}{met:Option Met}{n:Nat}(hp:p.dummy=none)(hn:n<10*turns t.mask)(h1:∀k<n,(it t.mask p k).j∈t.place.toList)(h2:(it t.mask p n).j∉t.place.toList)
  (uL:t.probe hashAt h p=met) (hH:∀i:Nat,hashAt i=(es[i]?.map (·.1)).getD 0):
  (met=some (.empty (it t.mask p n).j none)/\∀k<n,∀(i:Nat) (e:Int×Value),t.place[i]? =some (it t.mask p k).j->es[i]? =some e->e.1≠h)∨
  ∃(k i:Nat) (e:Int×Value),k<n/\t.place[i]? =some (it t.mask p k).j/\es[i]? =some e/\e.1=h/\met=some (.candidate (it t.mask p k).j i (it t.mask p (k+1)))/\∀k'<k,∀(i:Nat) (e:Int×Value),t.place[i]? =some (it t.mask p k').j->es[i]? =some e->e.1≠h:=by
 have conv:∀{i:Nat}{e:Int×Value},es[i]? =some e->hashAt i=e.1:=fun {i e} he=>by rw[hH,he];rfl
 rcases GB (hashAt:=hashAt) (h:=h) T.jz T.vn n (10*turns t.mask) p hp hn h1 h2 with ⟨g1,g2⟩ |⟨k,i,g1,g2,g3,g4,g5⟩
 ·exact .inl ⟨uL.symm.trans g1,fun k hk i e hi he=>by rw[<-conv he];exact g2 k hk i hi⟩
 ·obtain⟨e,he⟩:=RE T g2;exact .inr ⟨k,i,e,g1,g2,he,by rw[<-conv he];exact g3,uL.symm.trans g4,fun k' aG i e hi he=>by rw[<-conv he];exact g5 k' aG i hi⟩
theorem Up (hk:HK knd){S x:Addr}{k:K}{o:Obj}{es:Array (Int×Value)}{ep:Nat}{t:SetTable}{n:Nat}{Q:SetFound->Shared->Prop}
  (hroom:knd.room A) (hx:knd.is s.heap k x) (ho:s.heap.get? S=some o) (hd:o.data=.set es ep t) (T:T0 t es) (hm:t.mask%2=1) (hf:es.size<=t.mask)
  (oY:∀e∈es.toList,∃k',iz knd s.heap k' e)
  (hn:n<10*turns t.mask) (h1:∀i<n,(it t.mask (st t.mask (knd.hash k)) i).j∈t.place.toList) (h2:(it t.mask (st t.mask (knd.hash k)) n).j∉t.place.toList)
  (zy:(∃e∈es.toList,iz knd s.heap k e)->Q (.there none) s) (EE:(¬∃e∈es.toList,iz knd s.heap k e)->Q (.free (it t.mask (st t.mask (knd.hash k)) n).j false) s):
  ∀(d fuel m0:Nat) (sZ:Option Probe),m0+d=n->d<fuel->sZ.getD (t.probeStart (knd.hash k))=it t.mask (st t.mask (knd.hash k)) m0->
   (∀i'<m0,∀(i:Nat) (e:Int×Value),t.place[i]? =some (it t.mask (st t.mask (knd.hash k)) i').j->es[i]? =some e->¬iz knd s.heap k e)->
   wpAny (model prog w) A (setSearchFrom S (.ref x) (knd.hash k) true fuel sZ) Q E s
 |d,0,m0,sZ,_,Eg,_,_=>absurd Eg (Zeb _)
 |d,fuel+1,m0,sZ,El,Eg,yM,hold=>by
  have lV:=T.fits hf;unfold setSearchFrom;refine eg (Zc9 ho hd lV ?_);dsimp only;have hg:t.gaveWay=false:=by unfold SetTable.gaveWay;rw[hm];rfl
  rw[hg];simp only[Zax,ZbI];rw[yM];generalize uL:t.probe _ (knd.hash k) _=met;have OR:(it t.mask (st t.mask (knd.hash k)) m0).dummy=none:=GO _ _ _;have lh:∀i,it t.mask (it t.mask (st t.mask (knd.hash k)) m0) i=it t.mask (st t.mask (knd.hash k)) (m0+i):=fun i=> (WV _ _ _ _).symm;rcases Zb6 (es:=es) T OR (n:=d) .o (fun i hi=>by rw[lh];exact h1 _ .o) (by rw[lh,El];exact h2) uL (fun i=>rfl) with ⟨rfl,g2⟩ |⟨c,i,e,g1,g2,g3,g4,rfl,g5⟩
  ·dsimp only;rw[lh,El];refine gc (EE ?_);rintro⟨e,he,el⟩;obtain⟨i,hi,rfl⟩:=ZcC he;have aY:es[i]? =some es.toList[i]:=by rw[<-ZaT];exact Zaw hi
   obtain⟨j,hj,hz⟩:=R4 T aY;obtain⟨a,ea,m6,eh⟩:=id el;obtain⟨nn,fY,oV⟩:=T.ld _ hz;dsimp only at fY oV;rw[eh]at fY oV;have aw:nn<n:=by
    rcases Zgd nn n with q |q |q
    ·exact q
    ·rw[q]at fY;exact absurd (by rw[fY];exact R3 hj) h2
    ·exact absurd (oV n q) h2
   by_cases Ou:nn<m0
   ·exact hold nn Ou i _ (by rw[fY];exact hj) aY el
   ·obtain⟨c,rfl⟩:∃c,nn=m0+c:=⟨nn-m0,.o⟩;exact g2 c .o i _ (by rw[lh,fY];exact hj) aY eh
  ·have zp:e∈es.toList:=by rw[<-ZaT]at g3;exact ZaD g3
   obtain⟨k2,b,eb,mZ,EY⟩:=oY e zp;rw[lh]at g2;have NS:∀y∈List.map (fun x=>x.snd) (Array.filter (fun x=>x.fst==knd.hash k) es).toList,∃k' b,y=Value.ref b/\knd.is s.heap k' b:=fun y hy=>by
    obtain⟨z,hz,rfl⟩:=ZaN.mp hy;have kc:z∈es.toList:=by rw[Array.toList_filter]at hz;exact(ZaZ.mp hz).1
    obtain⟨k3,b3,e3,h3,_⟩:=oY z kc;exact⟨k3,b3,e3,h3⟩
   have DF:t.slot (it t.mask (it t.mask (st t.mask (knd.hash k)) m0) c).j=.live i:=Uv T.jz (by rw[lh];exact g2);have DI:¬k2=k->wpAny (model prog w) A (setSearchFrom S (.ref x) (knd.hash k) true fuel (some (it t.mask (it t.mask (st t.mask (knd.hash k)) m0) (c+1)))) Q E s:=fun bf=>by
    refine Up hk hroom hx ho hd T hm hf oY hn h1 h2 zy EE (d-c-1) fuel (m0+c+1) _ .o .o (by rw[lh];rfl) fun i' aY i2 e2 fQ uX zN=> ?_;by_cases q1:i'<m0
    ·exact hold i' q1 i2 e2 fQ uX zN
    ·by_cases q2:i'<m0+c
     ·obtain⟨c',rfl⟩:∃c',i'=m0+c':=⟨i'-m0,.o⟩;obtain⟨_,_,_,P9⟩:=zN;exact g5 c' .o i2 e2 (by rw[lh];exact fQ) uX P9
     ·have e0:i'=m0+c:=.o;subst e0;have ei:i2=i:=(Y1 T.jz fQ).symm.trans (Y1 T.jz g2);subst ei;rw[g3]at uX;cases uX;obtain⟨b',E2,zf,_⟩:=zN;rw[eb]at E2;cases E2;exact bf (knd.inj mZ zf)
   dsimp only;cases hl:t.led with
   |false=>
    simp only[Zd0,ZdC];refine eg (TZ hk hx NS ?_);simp only[Zax,ZbI];rw[g3];dsimp only;refine eg (ZbA ?_);rw[eb];refine knd.eqBool hroom mZ hx ?_;refine eg (Zc9 ho hd lV ?_);by_cases hq:k2=k
    ·rw[Zaq hq];simp only[Zgs,ZdC];refine gc (zy ⟨e,zp,b,eb,by rw[<-hq];exact mZ,by rw[<-hq];exact EY⟩)
    ·rw[ZaF hq];simp only[ZeI,Zax,ZbI];have yN:t.sameMemory t.moves t.mask=some true:=by unfold SetTable.sameMemory;simp
     rw[yN];dsimp only;rw[ZaQ rfl,DF];dsimp only;rw[g3];dsimp only;rw[eb];refine eg (wpAny_isSame_ref_self ?_);refine eg (gc ?_);rw[ZaQ rfl];dsimp only;exact DI hq
   |true=>
    simp only[Zb1,Zax,ZbI];rw[g3];dsimp only;refine eg (ZbA ?_);rw[eb];refine knd.eqBool hroom mZ hx ?_;refine eg (Zc9 ho hd lV ?_);by_cases hq:k2=k
    ·rw[Zaq hq];simp only[Zgs,ZdC];refine gc (zy ⟨e,zp,b,eb,by rw[<-hq];exact mZ,by rw[<-hq];exact EY⟩)
    ·rw[ZaF hq];simp only[ZeI,Zax,ZbI];have yN:t.sameMemory t.moves t.mask=some true:=by unfold SetTable.sameMemory;simp
     rw[yN];dsimp only;rw[ZaQ rfl,DF];dsimp only;rw[g3];dsimp only;rw[eb];refine eg (wpAny_isSame_ref_self ?_);refine eg (gc ?_);rw[ZaQ rfl];dsimp only;exact DI hq
end
section
variable {prog:Program}{w:World}{K:Type} [DecidableEq K] {knd:HeapKind prog w K}{A:Around}{E:Value->Shared->Prop}{s:Shared}
structure aab (knd:HeapKind prog w K)(h:Heap)(S:Addr)(ks:List K)(o:Obj)(es:Array (Int×Value))(ep:Nat)(t:SetTable):Prop where
 ho:h.get? S=some o
 ex:o.ExactSet
 hd:o.data=.set es ep t
 T:T0 t es
 room:jh t.mask es.size
 el:∀e∈es.toList,∃k∈ks,iz knd h k e
 all:∀k∈ks,∃e∈es.toList,iz knd h k e
 sz:es.size=ks.length
theorem Y5 (hk:HK knd){h h':Heap}{S:Addr}{o:Obj}{es ep t}(ho:h.get? S=some o)(hd:o.data=.set es ep t)(hs:Heap.SameBut S h h'){k:K}{e:Int×Value}(x:iz knd h k e):iz knd h' k e:=by obtain⟨a,e1,e2,e3⟩:=x;exact⟨a,e1,hk.Du e2 ho hd hs,e3⟩
theorem Gk {h:Heap}{S:Addr}{o:Obj}{es:Array (Int×Value)}{ep:Nat}{t:SetTable}(ho:h.get? S=some o)(hd:o.data=.set es ep t)(dI:Array (Int×Value))(t':SetTable):(h.update S (Obj.putSet dI t')).get? S=some {o with data:=.set dI (ep+1) t'} :=by have:=Zc2 (Obj.putSet dI t') ho (by rw[putSet_of dI t' hd];rfl);rw[putSet_of dI t' hd]at this;exact this
end
end HS
namespace HS
open PySem PySem.SetTable PySem.Spec
theorem Tu (n:Nat){v:Value}(h:carriedByValue v=true):∃b,hashByValue n v=pure b:=by cases n<;>cases v<;>first |exact⟨_,rfl⟩ |(simp[carriedByValue]at h)
theorem Hm (n:Nat){v:Value}(h:carriedByValue v=true):ofAClassStatement n v=pure false:=by cases n<;>cases v<;>first |rfl |(simp[carriedByValue]at h) |(unfold ofAClassStatement;rfl)
section
variable {prog:Program}{w:World}{K:Type} [DecidableEq K] {knd:KeyKind prog w K}{A:Around}{E:Value->Shared->Prop}{s:Shared}
theorem ZbK {ks:List K}{a:Addr}{Q:Bool->Shared->Prop}(hk:IsTupleKey knd s.heap ks a)(h:∀b,Q b s):wpAny (model prog w) A (hashByValue 8 (.ref a)) Q E s:=by
 have hT:=hk.typeIs;obtain⟨o,items,n,ho,_,hd,hi⟩:=hk;unfold hashByValue;refine eg (ZdL hT ZdK.lookup ?_);refine(show wpAny _ _ (seqItems? (.ref a) >>=_) _ _ s from eg (Zbr ho hd ?_));refine eg ?_;show wpAny _ _ (forIn items _ _) _ _ s;rw[<-Zde];refine ZcI _ (fun rest r s'=>r.1=none/\s'=s/\∀v∈rest,carriedByValue v=true) _ ?_ ?_ _ _ ⟨rfl,rfl,hi.byValue⟩
 ·rintro v rest r s' ⟨hr,rfl,aO⟩;obtain⟨b,e⟩:=Tu 7 (aO v Zaf);rw[e];refine eg (gc ?_);cases b with
  |true=>simp only[Zb1,Zax,ZbI];exact gc ⟨rfl,rfl,fun u dj=>aO u (Zae _ dj)⟩
  |false=>simp only[Zd0,ZdC];exact gc (gc (h false))
 ·rintro⟨r1,r2⟩ s' ⟨hr,rfl,_⟩;simp only at hr;subst hr;exact gc (h true)
theorem Zan {ks:List K}{a:Addr}{Q:Bool->Shared->Prop}(hk:IsTupleKey knd s.heap ks a)(h:Q false s):wpAny (model prog w) A (ofAClassStatement 8 (.ref a)) Q E s:=by
 have hT:=hk.typeIs;obtain⟨o,items,n,ho,_,hd,hi⟩:=hk;unfold ofAClassStatement;refine eg (Zfn hT ?_);dsimp only;rw[ZaQ .d];refine eg (gc ?_);simp only[Zb1,Zax,ZbI];refine eg (Zbr ho hd ?_);dsimp only;refine eg ?_;rw[<-Zde];refine ZcI _ (fun rest r s'=>r.1=none/\s'=s/\∀v∈rest,carriedByValue v=true) _ ?_ ?_ _ _ ⟨rfl,rfl,hi.byValue⟩
 ·rintro v rest r s' ⟨hr,rfl,aO⟩;rw[Hm 7 (aO v Zaf)];refine eg (gc ?_);simp only[Zax,ZbI];exact gc ⟨rfl,rfl,fun u dj=>aO u (Zae _ dj)⟩
 ·rintro⟨r1,r2⟩ s' ⟨hr,rfl,_⟩;simp only at hr;subst hr;exact gc h
theorem Tx (knd:KeyKind prog w K):HK (tupleKind knd):=by
 refine⟨fun hk h=>ZbK hk h,fun hk h=>Zan hk h,?_⟩;intro h h' k a d o es ep t x ho hd hs;obtain⟨o',items,n,cQ,hc,dA,hi⟩:=x;have bf:a≠d:=by rintro rfl;obtain rfl:o'=o:=Zbh (cQ.symm.trans ho);rw[hd]at dA;exact nomatch dA
 exact⟨o',items,n,(hs.2 a bf).trans cQ,hc,dA,hi⟩
end
section
variable {K:Type} [DecidableEq K]
noncomputable def met (val:Nat->K):Nat->List K
 |0=> []
 |n+1=>if val n∈met val n then met val n else met val n++[val n]
theorem Jv (val:Nat->K)(n:Nat):met val (n+1)=if val n∈met val n then met val n else met val n++[val n]:=rfl
theorem AK (val:Nat->K):∀n,(met val n).length<=n
 |0=>Zak _
 |n+1=>by
  rw[Jv];have:=AK val n;split
  ·omega
  ·rw[Zaj,Zdx];omega
theorem F7 (val:Nat->K):∀n k,k∈met val n↔k∈(List.range n).map val
 |0,k=>by simp[met]
 |n+1,k=>by
  rw[ZbF,ZaV,ZaO,<-F7 val n k,Jv];split
  ·rename_i h;simp only[Zba,Zfo,Zas];exact⟨.inl,fun z=>z.elim id fun e=>by rw[e];exact h⟩
  ·simp
theorem Di (val:Nat->K):∀n,((met val n).length=n↔((List.range n).map val).Nodup)
 |0=>by simp[met]
 |n+1=>by
  have ih:=Di val n;have le:=AK val n;have mm:=F7 val n (val n);rw[ZbF,ZaV];have nd:((List.range n).map val++List.map val [n]).Nodup↔((List.range n).map val).Nodup/\¬val n∈(List.range n).map val:=by
   rw[Zdj];constructor
   ·rintro⟨h1,_,h3⟩;exact⟨h1,fun m=>h3 _ m (val n) (by simp) rfl⟩
   ·rintro⟨h1,h2⟩;refine⟨h1,by simp,fun a ha b hb q=>h2 ?_⟩;have cG:b=val n:=by simpa using hb
    rw[<-cG,<-q];exact ha
  rw[nd,<-ih,<-mm,Jv];split
  ·rename_i h;constructor
   ·intro z;omega
   ·rintro⟨_,z⟩;exact absurd h z
  ·rename_i h;rw[Zaj,Zdx];constructor
   ·intro z;exact⟨.o,h⟩
   ·rintro⟨z,_⟩;omega
variable {prog:Program}{w:World}{kk:KeyKind prog w K}{A:Around}{E:Value->Shared->Prop}{s:Shared}{R:Result->Shared->Prop}{I:Addr}{fp wr:List Addr}{G:Array GenState->Array GenState->Prop}{n:Nat}{P:Nat->Value->Prop}{St:Nat->Shared->Prop}
def nP (h:Heap)(b:Addr):Prop:=∃o,h.get? b=some o/\o.cls≠.type "tuple"
theorem WT {h h':Heap}{ws:List Addr}{ks:List K}{a:Addr}(hw:∀b∈ws,nP h b)(fZ:∀b o,b∉ws->h.get? b=some o->h'.get? b=some o)(x:IsTupleKey kk h ks a):IsTupleKey kk h' ks a:=by
 obtain⟨o',items,n,cQ,hc,dA,hi⟩:=x;have bf:a∉ws:=fun m=>by obtain⟨o,ho,hn⟩:=hw a m;rw[cQ]at ho;cases ho;exact hn hc
 exact⟨o',items,n,fZ _ _ bf cQ,hc,dA,hi⟩
end
section
variable {K:Type} [DecidableEq K] {prog:Program}{w:World}{kk:KeyKind prog w K}{A:Around}{E:Value->Shared->Prop}{s:Shared}
noncomputable abbrev g8 (led:Bool):Obj:= {cls:=.type "set",dict:=none,data:=.set #[] 0 (.fresh 0 0 led)}
end
end HS
namespace L2
open PySem PySem.Spec PyProof.Rows
def qE (ks:List (List Int)):Nat:=(HS.met (fun i=>ks.getD i []) ks.length).length
theorem Sr (ks:List (List Int)):qE ks=ks.length↔ks.Nodup:=by
 unfold qE;rw[HS.Di];have e:(List.range ks.length).map (fun i=>ks.getD i [])=ks:=by refine ZeN (by simp) fun i h1 h2=> ?_;rw[Zgw,List.getElem_range,ZbC,Zaw h2,Zem]
 rw[e]
theorem items_int {prog:Program}{w:World} :∀{ks:List Int}{us:List Value},Vals (ks.map V.int) us->ItemsAre (intKind prog w) ks us
 | [],_,.nil=> .nil
 |k::ks,_,.cons r rs=>by obtain⟨t,rfl⟩:=r;exact .cons (intKind_is _ _ _ _) (items_int rs)
section
variable {X:Cx}
theorem mG {pins:List (Addr×Obj)}{σ:St}{H:Hp}{s:Shared}{v:V}{u:Value}{k:List Int}(I:Inv X pins σ H s)(h:bw H v k)(r:RelV v u):∃a,u=.ref a/\IsTupleKey (intKind X.prog X.w) s.heap k a:=by obtain⟨t,rfl,ht⟩:=h;cases r;obtain⟨us,rv,⟨o,ho,hc,n,hd⟩,_⟩:=I.tuple (ab.of ht);exact⟨t,rfl,o,us.toArray,n,ho,hc,hd,by simpa using items_int rv⟩
end
end L2
namespace L2
open PySem PySem.Spec PyProof.Rows SeqAt
section
variable {X:Cx}
theorem G1 (hc:X.calm=true:=by rfl):fB X (.builtin "sum") (fun xs H Q=> ∃(p:Addr) (ns:List Int),xs=[.ref p]/\ai X.K H p (ns.map V.int)/\Q (.int ns.sum) H):=by
 intro pins s σ H xs us Q I r h;obtain⟨p,ns,rfl,hp,q⟩:=h;obtain⟨u,rfl,ru⟩:=ZgE r;cases ru;obtain⟨aa,rv,pl,_⟩:=I.list hp;have hi:=ZL rv;obtain⟨xs,hx⟩:=hi.allInts.items;have D5:s.heap.IsList p (intItems xs):=hx▸pl.isList;refine sum_intListG (I.ok.hd hc) D5 fun h' tk t' hk=> ?_;have e1:ns=xs.toList.map (·.1):=by rw[<-nums_intItems,<-hx];exact(show numsOf aa.toArray.toList=ns from hi.numsOf).symm
 have e2:preSum (numAt xs) xs.size=ns.sum:=by rw[preSum_eq,Zds (by simp),e1]
 rw[e2];exact⟨.int ns.sum,H,I.kept hk,⟨_,rfl⟩,q⟩
end
end L2
namespace L2
open PySem PySem.Spec PyProof.Rows
def sh (K:ZhK)(t:Addr):It:=
 ⟨fun i H=> ∃xs x,ai K H t xs/\xs[i]? =some x,fun i H x H'=> ∃(T:Addr) (y:V),x=.ref T/\H T=none/\H'=upd H T (.par [.int (i:Int),y])/\∀xs,ai K H t xs->xs[i]? =some y,fun i H=> ∃xs,ai K H t xs/\xs.length=i⟩
theorem ZbT {P:Program}{w:World}{K:ZhK}{elts:List Expr}{kk:Nat}{pos:Pos}(t e j:Addr)(kr:e≠j)(qP:t≠e)(qO:t≠j):
  Turn P w K (.Tuple elts kk pos) (sh K t) [e,j] e (fun i h=> (∃old,IsEnum h e j i old)/\h.IsListIter j t i) where
 mem:=by simp
 obj:=fun i h st b hb=>by
  obtain⟨⟨old,he⟩,o,ho,hc,hd⟩:=st;rcases Zav.mp hb with rfl |hb
  ·exact⟨_,he,fun v z=>by cases z⟩
  ·rw[Zas.mp hb];exact⟨o,ho,fun v z=>by rw[hd]at z;cases z⟩
 keep:=fun i h h' st k=> ⟨let ⟨old,he⟩:=st.1;⟨old,k e (by simp) _ he⟩,st.2.at fun o q=>k j (by simp) o q⟩
 item:=by
  intro X hP hw hK hc i pins s σ H E I hf st hg;subst hP hw hK;obtain⟨xs,x,hq,hx⟩:=hg;obtain⟨aa,rv,p,hz⟩:=I.list hq;obtain⟨u,hu,ru⟩:=rv.get hx;have hl:=rv.length;have nh:i<aa.toArray.size:=by have:=(Zaa.mp hu).1;simpa using this
  have W:=Zff (prog:=X.prog) (w:=X.w) (A:=X.A) (Draws.list (A:=X.A.in1) (show X.A.in1.handled=none from I.ok.hd hc) j t qO aa.toArray) e kr (by simp[kr,qP.symm]) (by simp);have hT:s.heap.IsList t aa.toArray:=p.isList;refine W.item i s _ _ nh ⟨st.1,st.2,hT⟩ fun T vals h' tk hP cR nB iY hk=> ⟨_,rfl,W.go elts kk pos i T _ _ _ iY fun da dq bW=> ?_⟩;obtain⟨pN,x2,kg,rfl⟩:=hP;have lK:aa[i]? =some x2:=by simpa using kg
  rw[hu]at lK;cases lK;have rC:T∉[e,j]:=W.apart _ _ _ iY;refine⟨.ref T,upd H T (.par [.int (i:Int),x]),JA (s:=s) (h':=da) (tk:=tk) I hf (fun b o hb q=>bW b o hb (hk b o hb q)) cR (nB.at fun o q=>bW T o rC q) ⟨pN,rfl⟩ ru,rfl,⟨T,x,rfl,I.aq.fresh cR,rfl,fun ys hy=>by rw[I.qD hy hq];exact hx⟩,⟨dq.1,dq.2.1⟩,fun b hb=> ?_⟩;rw[Zi (fun z=>rC (by rw[<-z];exact hb))];exact(hf b hb).1
 done:=by
  intro X hP hw hK hc i pins s σ H E I hf st hg;subst hP hw hK;obtain⟨xs,hq,hx⟩:=hg;obtain⟨aa,rv,p,hz⟩:=I.list hq;have hl:=rv.length;have W:=Zff (prog:=X.prog) (w:=X.w) (A:=X.A) (Draws.list (A:=X.A.in1) (show X.A.in1.handled=none from I.ok.hd hc) j t qO aa.toArray) e kr (by simp[kr,qP.symm]) (by simp);have hn:i=aa.toArray.size:=by rw[Zap];omega
  have hT:s.heap.IsList t aa.toArray:=p.isList;rw[hn]at st;exact W.done s _ _ ⟨st.1,st.2,hT⟩ fun h' tk hk=> ⟨rfl,Ws (s:=s) (h':=h') (tk:=tk) I hf hk⟩
 self:=fun A i s Q E st h=>let ⟨old,he⟩:=st.1;Zfg he h
section
variable {X:Cx}{elts:List Expr}{kk:Nat}{tp:Pos}
def Nw (K:ZhK)(ta:TA):TI:=fun σ H R=>ta σ H fun vs H1=> ∃t,vs=[.ref t]/\(∃xs,ai K H1 t xs)/\R (sh K t) H1
theorem VO {a:Expr}{ta:TA}{p pos:Pos}(hg:Gl X "enumerate")(hm:X.mg "enumerate" =none)(ha:PA X [a] ta)(hs:starEach [a] X.env=[(false,eval a X.env)]:=by rfl):PI X (.Tuple elts kk tp) (.Call (.Name "enumerate" p) [a] [] pos) (Nw X.K ta):=by
 intro pins s σ H R I h;refine Call_ (Z8 I hg hm boot_enumerate (Zcs (au (ha pos pins s σ H _ I h) fun us s1 ae=> ?_) hs rfl));obtain⟨vs,H1,I1,r1,q1⟩:=ae;obtain⟨t,e,⟨xs,hq⟩,q⟩:=q1;subst e;obtain⟨u,rfl,ru⟩:=ZgE r1;cases ru;obtain⟨aa,rv,pl,hz⟩:=I1.list hq;have hT:s1.heap.IsList t aa.toArray:=pl.isList;have ht:t<s1.heap.objs.size:=by obtain⟨o,ho,_⟩:=hT;exact ZaC ho
 refine call_enumerate_list hT fun h' he hj oQ hk=>Zfg he ?_;have I2:Inv X pins σ H1 {s1 with heap:=h'} :=I1.kept (t':=s1.toks) hk;refine⟨s1.heap.objs.size+1,[s1.heap.objs.size+1,s1.heap.objs.size],_,_,H1,rfl,I2,ZbT t _ _ (Zft _) (Za1 (Zc8 ht)) (Za1 ht),⟨⟨_,he⟩,hj⟩,fun b hb=> ?_,q⟩;have i6:s1.heap.objs.size<=b:=by
  rcases Zav.mp hb with z |z
  ·rw[z];exact Zei _
  ·rw[Zas.mp z];exact Zak _
 exact I1.jb i6 (I1.aq.fresh i6)
end
theorem XR {K:ZhK}{a:Addr}{xs:List V}{g:TG}{tb:TS}{D:Ends}{σ:St}{H:Hp}(Pv:Nat->St->Hp->Prop)(h0:Pv 0 σ H)(hl:∀i σ H,i<=xs.length->Pv i σ H->ai K H a xs)
  (hs:∀i x T σ H,xs[i]? =some x->H T=none->Pv i σ H->g (.ref T) σ (upd H T (.par [.int (i:Int),x])) fun aQ H2=>tb {D with nx:=Pv (i+1),ct:=Pv (i+1),bk:=D.nx} aQ H2) (hd:∀σ H,Pv xs.length σ H->D.nx σ H):
  ∃W:Nat->Nat->St->Hp->Prop,(∃m,W 0 m σ H)/\∀i m σ H,W i m σ H->
   ((sh K a).stop i H/\D.nx σ H)∨((sh K a).go i H/\∃N:St->Hp->Prop,(∀ak H',N ak H'->∃m',m'<m/\W (i+1) m' ak H')/\∀x H',(sh K a).mE i H x H'->g x σ H' fun aQ H2=>tb {D with nx:=N,ct:=N,bk:=D.nx} aQ H2):=by
 refine⟨fun i m σ H=>m=xs.length-i/\i<=xs.length/\Pv i σ H,⟨xs.length,by simp,ZaM _,h0⟩,?_⟩;rintro i m σ H ⟨rfl,hi,p⟩;have q:=hl i σ H hi p;by_cases aw:i<xs.length
 ·refine .inr ⟨⟨xs,xs[i],q,by simp[aw]⟩,Pv (i+1),fun ak H' p'=> ⟨xs.length-(i+1),.o,rfl,aw,p'⟩,fun x H' y=> ?_⟩;obtain⟨T,z,e1,e2,e3,e4⟩:=y;subst e1 e3;exact hs i z T σ H (e4 xs q) e2 p
 ·have e:i=xs.length:=.o;subst e;exact .inl ⟨⟨xs,q,rfl⟩,hd σ H p⟩
section
variable {X:Cx}
inductive Ll (K:ZhK) (v:V) (vs:List V) (H:Hp) (Q:VK):Prop
 |mk (a:Addr) (xs:List V) (x:V) (_:v=.ref a) (_:vs=[x]) (_:ab K H a xs) (_:fT x=true) (_:xs.all fT=true) (_:Q (.int ((xs.countP fun y=>dW y x:Nat):Int)) H)
theorem Xx:Hz X "tuple.count" (Ll X.K):=by intro pins s σ H v vs u us Q I rv Lf h;obtain⟨a,xs,x,rfl,rfl,hq,fx,fs,q⟩:=h;cases rv;obtain⟨ux,rfl,rx⟩:=ZgE Lf;obtain⟨aa,r,pl,hz⟩:=I.tuple hq;obtain⟨o,ho,hc,n,hd⟩:=id pl;obtain⟨cls,dd,dt,sl⟩:=o;replace hc:cls=.type "tuple" :=hc;replace hd:dt=.seq aa.toArray n:=hd;subst hc hd;refine ZeG F.slot_tuple_count ⟨_,ho,rfl⟩ F.entry_tuple_count (F.args_tuple_count_2 _ _) (SeqAt.tuple_countAt a aa.toArray n dd sl ux (eZ x)) ⟨ho,fun y hy=>YA rx fx r fs y (by simpa using hy),?_⟩;exact⟨.int _,H,I.tok _,⟨_,by rw[show aa.toArray.toList=aa by simp,UV r fs]⟩,q⟩
end
section
variable {prog:Program}{w:World}{A:Around}{E:Value->Shared->Prop}{s:Shared}{it d:Addr}{i n ep:Nat}{ok ov:Value}{od:Obj}{es:Array DictEntry}
theorem V1 {en:DictEntry}{Q:Option Value->Shared->Prop}(gi:IsItemIter s.heap it d i n ep ok ov)(go:s.heap.get? d=some od)(gd:od.data=.dict es ep)(gn:es.size=n)(gx:es[i]? =some en)
    (q:∀h',IsItemIterOut h' it d (i+1) n ep en.key en.val s.heap.objs.size->h'.get? s.heap.objs.size=some {cls:=.type "tuple",data:=.seq #[en.key,en.val]}->h'.objs.size=s.heap.objs.size+1->
      (∀b o,b≠it->s.heap.get? b=some o->h'.get? b=some o)->Q (some (.ref s.heap.objs.size)) {s with heap:=h'}):wpAny (model prog w) A (pyNext (.ref it)) Q E s:=by
  obtain⟨hp,g,dr,tk,os⟩:=s;have ty:Shared.TypeIs ⟨hp,g,dr,tk,os⟩ (.ref it) "dict_itemiterator" :=⟨_,gi,rfl⟩;unfold pyNext;refine eg (ZdU (ZbL (name:=Str.ofString "__next__") ty ZcP (Zbn ZcP ty Zfq ?_ (Zfj _))));refine eg (gc (eg (eg ?_)))
  first |refine eg (Zdz ty (gc ?_)) |refine eg (Zd1 ty (gc ?_))
  refine eg (Zhc gi rfl ?_);have own:Builtin.Dict_items.ownsTuple "dict_itemiterator" =true:=.d;simp only[own,ZdC];show wpAny _ _ (if (Value.ref d==Value.none)=true then _ else _) _ _ _;rw[Zaz (show ¬((Value.ref d==Value.none)=true) from Zag)];refine eg (gc (eg (Zgg go gd ?_)));rw[Zaz (by rw[gn];simp)];refine eg (gc (eg (ZgV go gd ?_)));rw[Zaz (by simp)];refine gc ?_;simp only[show ¬((i:Int)<0) from by omega,ZbI,Zbu,gx];refine eg ?_
  first |refine eg (Zdz ty (gc ?_)) |refine eg (Zd1 ty (gc ?_))
  refine eg (Zfb ty ?_);show wpAny _ _ (setField (.ref it) 3 (rawInt ((i:Int)+1)) >>=_) _ _ ⟨hp,g,dr,tk,os⟩;refine eg (ZcW gi (by simp) fun h1 g1 c1=> ?_);have c1:Heap.SameBut it hp h1:=c1;have g1:IsItemIter h1 it d (i+1) n ep ok ov:=by have e:((i+1:Nat):Int)=(i:Int)+1:=.o;unfold IsItemIter;rw[e];simpa[rawInt] using g1
  have BC:Shared.TypeIs ⟨h1,g,dr,tk,os⟩ (.ref it) "dict_itemiterator" :=⟨_,g1,rfl⟩;refine eg (ZbA (eg (Zfb BC (eg (Zfb BC ?_)))));show wpAny _ _ (Builtin.Dict_items.pairFromOwner (.ref it) 6 en.key en.val) _ _ ⟨h1,g,dr,tk,os⟩;unfold Builtin.Dict_items.pairFromOwner;refine eg (Zg7 ?_);have z1:h1.objs.size=hp.objs.size:=c1.1;have lt:it<hp.objs.size:=ZaC gi;have g2:IsItemIter (h1.push {cls:=.type "tuple",data:=.seq #[en.key,en.val]}) it d (i+1) n ep ok ov:=Zad _ g1;have t2:(h1.push {cls:=.type "tuple",data:=.seq #[en.key,en.val]}).get? hp.objs.size=some {cls:=.type "tuple",data:=.seq #[en.key,en.val]} :=by rw[<-z1];exact Zar _ rfl
  have z2:(h1.push {cls:=.type "tuple",data:=.seq #[en.key,en.val]}).objs.size=hp.objs.size+1:=by rw[Zc5,z1]
  have k2:∀b o,b≠it->hp.get? b=some o->(h1.push {cls:=.type "tuple",data:=.seq #[en.key,en.val]}).get? b=some o:=fun b o hb e=>Zad _ (c1.extBut b o hb e);show wpAny _ _ (Builtin.Dict_items.ownedTupleIsFree (.ref it) >>=_) _ _ ⟨h1.push {cls:=.type "tuple",data:=.seq #[en.key,en.val]},g,dr,tk,os⟩;rw[z1];generalize h1.push {cls:=.type "tuple",data:=.seq #[en.key,en.val]} =h2 at g2 t2 z2 k2;refine eg ?_;unfold Builtin.Dict_items.ownedTupleIsFree;refine eg (Zcy g2 rfl (x:=.none) rfl (gc ?_));simp only[ZdC];refine eg (Zcy g2 rfl (x:=ok) rfl (eg (Zcy g2 rfl (x:=ov) rfl ?_)));refine eg (ZcW g2 (by simp) fun h3 g3 c3=> ?_);have c3:Heap.SameBut it h2 h3:=c3;have g3:IsItemIter h3 it d (i+1) n ep en.key ov:=g3;refine eg (ZcW g3 (by simp) fun h4 g4 c4=> ?_);have c4:Heap.SameBut it h3 h4:=c4;have g4:IsItemIter h4 it d (i+1) n ep en.key en.val:=g4;refine eg (ZcW g4 (by simp) fun h5 g5 c5=> ?_);have c5:Heap.SameBut it h4 h5:=c5;have g5:IsItemIterOut h5 it d (i+1) n ep en.key en.val hp.objs.size:=g5;refine eg (ZcW g5 (by simp) fun h6 g6 c6=> ?_);have c6:Heap.SameBut it h5 h6:=c6;have g6:IsItemIterOut h6 it d (i+1) n ep en.key en.val hp.objs.size:=g6;have c:=c3.trans (c4.trans (c5.trans c6));exact eg (ZdZ (gc (gc ⟨_,rfl,gc (q h6 g6 (c.extBut _ _ (Zdq lt) t2) (c.1.trans z2) fun b o hb e=>c.extBut b o hb (k2 b o hb e))⟩)))
theorem XD {Q:Option Value->Shared->Prop}(hh:A.handled=none)(gi:IsItemIter s.heap it d i n ep ok ov)(go:s.heap.get? d=some od)(gd:od.data=.dict es ep)(gn:es.size=n)(ge:n<=i)
  (q:∀h',Heap.ExtBut it s.heap h'->Q none {s with heap:=h'}):wpAny (model prog w) A (pyNext (.ref it)) Q E s:=by
 have ty:s.TypeIs (.ref it) "dict_itemiterator" :=⟨_,gi,rfl⟩;unfold pyNext;refine eg (ZdU (ZbL (name:=Str.ofString "__next__") ty ZcP (Zbn ZcP ty Zfq ?_ (Zfj _))));refine eg (gc (eg (eg ?_)))
 first |refine eg (Zdz ty (gc ?_)) |refine eg (Zd1 ty (gc ?_))
 refine eg (Zhc gi rfl ?_);have own:Builtin.Dict_items.ownsTuple "dict_itemiterator" =true:=.d;simp only[own,ZdC];show wpAny _ _ (if (Value.ref d==Value.none)=true then _ else _) _ _ s;rw[Zaz (show ¬((Value.ref d==Value.none)=true) from Zag)];refine eg (gc (eg (Zgg go gd ?_)));rw[Zaz (by rw[gn];simp)];refine eg (gc (eg (ZgV go gd ?_)));rw[Zaz (by simp)];refine gc ?_;simp only[show ¬((i:Int)<0) from by omega,ZbI,Zbu,Zfc (show es.size<=i by omega)];refine eg ?_
 first |refine eg (Zdz ty (gc ?_)) |refine eg (Zd1 ty (gc ?_))
 show wpAny _ _ (setField (.ref it) 2 .none >>=_) _ _ s;refine eg (ZdY gi rfl (by simp) ?_);show wpAny _ _ (newExc (.type "StopIteration") [] >>=_) _ _ _;refine eg ?_;simp only[newExc,newTuple];refine eg (Zbs ?_ (by size_fits));refine eg (m:=firstArgMember _ _) (ZeO (a:=Value.none) (by first |rfl |(simp only[firstArgMember];rfl)) ?_);refine Zbs ?_ (by size_fits);simp only[raiseNew];refine eg (Zgp ?_);rw[show A.in1.handled=none from hh];refine eg (gc (Zhf ?_));exact eg (ZdP (T:= "StopIteration") (b:=true) ⟨_,Zar _ rfl,rfl⟩ Zg8 (gc (q _ (((Zct ..).extBut.push _).push _))))
end
section
variable {X:Cx}{pins:List (Addr×Obj)}{σ:St}{H:Hp}{s:Shared}{d:Addr}{kvs:List (List Key×V)}{o:Obj}
theorem Inv.freeze (I:Inv X pins σ H s)(e:H d=some (.dT kvs))(g:s.heap.get? d=some o):Inv X pins σ (upd H d (.bM o (.dT kvs))) s:=by
 have ne:∀b u,H b=some u->(∀k,u≠.dT k)->b≠d:=fun b u q n z=>by rw[z,e]at q;cases q;exact n _ rfl
 have nn:∀b,H b=none->b≠d:=fun b q z=>by rw[z,e]at q;cases q
 have J:=I.call (g':=s.gens) (d':=s.drawn) (t':=s.toks) (h':=s.heap) (ch:=[]) (H':=upd H d (.bM o (.dT kvs)))
  ⟨fun b o q _ _ _=>q,fun b o q _ _ _=> ⟨o.slots,q⟩,fun b o q n _=>by rw[Zi (nn b n)];exact n,fun b o q _=> ⟨o,q⟩,fun b xs q=>by rw[Zi (ne b _ q fun k z=>by cases z)];exact q,
   fun b o u q=>by rw[Zi (ne b _ q fun k z=>by cases z)];exact q,fun b ps q=> ⟨#[],by rw[Zi (ne b _ q fun k z=>by cases z),q];simp⟩⟩ (fun b u q=> ?_) I.bare (fun b hb=>absurd hb (by simp))
 ·exact J
 ·have st:∀{b u},bG X.prog X.w H s.heap b u->bG X.prog X.w (upd H d (.bM o (.dT kvs))) s.heap b u:=fun x=>x.cq (fun _ _ _ q=>q) (fun b q=>by rw[Zi (ne b _ q fun k z=>by cases z)];exact q) fun b xs q=>by rw[Zi (ne b _ q fun k z=>by cases z)];exact q
  by_cases hb:b=d
  ·subst hb;rw[Zd]at q;cases q;exact⟨g,st (I.aq b _ e)⟩
  ·rw[Zi hb]at q;exact st (I.aq b u q)
end
theorem Tg:entryFor table "dict_itemiterator.__iter__" =some Builtin.«dict_keyiterator.__iter__» :=Zhd (id':= "dict_keyiterator.__iter__") (by kernel_rfl) (by decide+kernel) (by decide+kernel) (by kernel_rfl)
theorem Sn {prog:Program}{w:World}{A:Around}{E:Value->Shared->Prop}{s:Shared}{it d:Addr}{i n ep:Nat}{ok ov:Value}{Q:Value->Shared->Prop}(g:IsItemIter s.heap it d i n ep ok ov)(h:Q (.ref it) s):wpAny (model prog w) A (pyIter (.ref it)) Q E s:=by have ty:s.TypeIs (.ref it) "dict_itemiterator" :=⟨_,g,rfl⟩;refine Zfk ty Zfy (Zbn Zfy ty Tg ?_ (F.args_dict_itemiterator_iter_1 _));show wpAny _ _ (ret (.ref it)) _ _ s;exact gc ⟨_,rfl, "dict_itemiterator",_,ty,ZcP.lookup,h⟩
def A9 (o:Obj)(d:Addr)(kvs:List (List Key×V)):It:=
 ⟨fun i H=>H d=some (.bM o (.dT kvs))/\i<kvs.length,
  fun i H v H'=> ∃(T a:Addr) (k:List Key) (y:V),v=.ref T/\H T=none/\kvs[i]? =some (k,y)/\H a=some (.tup (k.map kV))/\H'=upd H T (.par [.ref a,y]),
  fun i H=>H d=some (.bM o (.dT kvs))/\kvs.length<=i⟩
theorem ZbS {P:Program}{w:World}{K:ZhK}{elts:List Expr}{kk:Nat}{pos:Pos}{o:Obj}{es:Array DictEntry}{ep:Nat}(it d:Addr)(kvs:List (List Key×V))(gd:o.data=.dict es ep)(gn:es.size=kvs.length)(nd:it≠d):
  Turn P w K (.Tuple elts kk pos) (A9 o d kvs) [it] it (fun i h=> ∃ok ov,IsItemIter h it d i kvs.length ep ok ov) where
 mem:=by simp
 obj:=fun i h ⟨ok,ov,st⟩ b hb=>by
  have e:b=it:=by simpa using hb
  subst e;exact⟨_,st,fun v z=>by cases z⟩
 keep:=fun i h h' ⟨ok,ov,st⟩ k=> ⟨ok,ov,k it (by simp) _ st⟩
 item:=by
  intro X hP hw hK hc i pins s σ H E I hf st hg;subst hP hw hK;obtain⟨ok,ov,st⟩:=st;obtain⟨hd,hi⟩:=hg;obtain⟨gh,z,sm,xs,pr,o',dI,vk,g1,g2,g3,g4,g5⟩:=(show bG X.prog X.w H s.heap d (.bM o (.dT kvs)) from I.aq d _ hd);rw[gh]at g1;cases g1;rw[gd]at g3;cases g3;have jI:=Zaw hi;have hx:i<xs.length:=by rw[<-Za0 pr];exact hi
  have OP:es[i]? =some (entryOfKey (tupleKind (fk X.prog X.w)) xs[i]):=by rw[<-ZaT,g4,Zbk,Zaw hx];rfl
  obtain⟨q',cE,p1,p2,p3⟩:=ZV pr jI;rw[Zaw hx]at cE;cases cE;refine V1 st gh gd gn OP fun h' b1 b2 b3 b4=> ⟨_,rfl,?_⟩;refine wpAny_letOwnedTupleGo_items b1 fun da c1 c2=> ?_;have u4:H s.heap.objs.size=none:=I.aq.fresh (Zak _);have Dk:=ZaC st;have both:∀b u,b≠it->s.heap.get? b=some u->da.get? b=some u:=fun b u hb q=> (c2.2 b hb).trans (b4 b u hb q);have neT:∀b u,s.heap.get? b=some u->b≠s.heap.objs.size:=fun b u q=>Za1 (ZaC q);have iL:∀b u,H b=some u->b≠s.heap.objs.size:=fun b u q=>Zh q u4;have jr:∀b u,H b=some u->b≠it:=fun b u q z=>by have:=(hf it (by simp)).1;rw[z,this]at q;cases q
  have tT:da.get? s.heap.objs.size=some {cls:=.type "tuple",data:=.seq #[Value.ref (xs[i]).2.1,(xs[i]).2.2]} :=(c2.2 _ (Zdq Dk)).trans b2;refine⟨.ref s.heap.objs.size,upd H s.heap.objs.size (.par [.ref (xs[i]).2.1,(kvs[i]).2]),?_,rfl,⟨_,(xs[i]).2.1,(kvs[i]).1,(kvs[i]).2,rfl,u4,jI,p2,rfl⟩,⟨_,_,c1⟩,fun b hb=> ?_⟩
  ·refine(show Inv X pins σ _ {s with heap:=da} from ?_);refine I.call (g':=s.gens) (d':=s.drawn) (t':=s.toks) (h':=da) (ch:=[it]) ⟨fun b u q _ _ hx=>both b u (by simpa using hx) q,fun b u q _ _ hx=> ⟨u.slots,both b u (by simpa using hx) q⟩,fun b u q n hx=>by rw[Zi (neT b u q)];exact n,fun b u q hx=> ⟨u,both b u (by simpa using hx) q⟩,
    fun b ys q=>by rw[Zi (iL b _ q)];exact q,fun b u v q=>by rw[Zi (iL b _ q)];exact q,fun b ps q=> ⟨#[],by rw[Zi (iL b _ q),q];simp⟩⟩ (fun b u q=> ?_) I.bare fun b hb=> ?_
   ·by_cases hb:b=s.heap.objs.size
    ·subst hb;rw[Zd]at q;cases q;exact⟨bT,[.ref (xs[i]).2.1,(xs[i]).2.2],.cons rfl (.cons p3 .nil),⟨_,tT,rfl,0,rfl⟩⟩
    ·rw[Zi hb]at q;refine(I.aq b u q).cq (fun c ob bL q'=>both c ob ?_ q') (fun c q'=>by rw[Zi (iL c _ q')];exact q') fun c ys q'=>by rw[Zi (iL c _ q')];exact q'
     rcases bL with z' |z'
     ·rw[z'];exact jr b u q
     ·exact jr c _ z'
   ·have e:b=it:=by simpa using hb
    subst e;obtain⟨f0,f1,f2,f3,f4,f5⟩:=hf b (by simp);exact⟨f3,f1,f4,f5⟩
  ·have e:b=it:=by simpa using hb
   subst e;rw[Zi (Za1 Dk)];exact(hf b (by simp)).1
 done:=by
  intro X hP hw hK hc i pins s σ H E I hf st hg;subst hP hw hK;obtain⟨ok,ov,st⟩:=st;obtain⟨hd,hi⟩:=hg;have gh:=(show bG X.prog X.w H s.heap d (.bM o (.dT kvs)) from I.aq d _ hd).1;refine XD (I.ok.hd hc) st gh gd gn hi fun h' k=> ⟨rfl,?_⟩;have jr:∀b u,H b=some u->b≠it:=fun b u q z=>by have:=(hf it (by simp)).1;rw[z,this]at q;cases q
  refine I.call (g':=s.gens) (d':=s.drawn) (t':=s.toks) (h':=h') (ch:=[it]) ⟨fun b u q _ _ hx=>k b u (by simpa using hx) q,fun b u q _ _ hx=> ⟨u.slots,k b u (by simpa using hx) q⟩,fun b u q n hx=>n,fun b u q hx=> ⟨u,k b u (by simpa using hx) q⟩,fun b ys q=>q,fun b u v q=>q,fun b ps q=> ⟨#[],by rw[q];simp⟩⟩ (fun b u q=> ?_) I.bare fun b hb=> ?_
  ·refine(I.aq b u q).cq (fun c ob bL q'=>k c ob ?_ q') (fun _ q'=>q') fun _ _ q'=>q';rcases bL with z' |z'
   ·rw[z'];exact jr b u q
   ·exact jr c _ z'
  ·have e:b=it:=by simpa using hb
   subst e;obtain⟨f0,f1,f2,f3,f4,f5⟩:=hf b (by simp);exact⟨f3,f1,f4,f5⟩
 self:=fun A i s Q E ⟨ok,ov,st⟩ h=>Sn st h
section
variable {X:Cx}{elts:List Expr}{kk:Nat}{tp:Pos}
theorem X8 {A:Around}{E:Value->Shared->Prop}{s:Shared}{d:Addr}{Q:Value->Shared->Prop}(ty:s.TypeIs (.ref d) "dict")(sm:(d==sysModules)=false)(q:Q (.ref s.heap.objs.size) {s with heap:=s.heap.push {cls:=.type "dict_items",data:=.fields #[.ref d]} }):wpAny (model X.prog X.w) A (call (.builtin "dict.items") [.ref d]) Q E s:=by refine Zbn F.slot_dict_items ty F.entry_dict_items ?_ (F.args_dict_items_1 _);unfold Builtin.«dict.items» Builtin.Dict.noArgs;refine eg (eg (wpAny_notOrdered_dict ty ?_));show wpAny _ _ (pure d) _ _ s;refine gc ?_;show wpAny _ _ (Builtin.Dict.showsAll d >>=_) _ _ s;unfold Builtin.Dict.showsAll;rw[Zaz (by rw[sm];exact Zag)];exact eg (gc (eg (Zbs (gc ⟨_,rfl,q⟩))))
theorem Xk {A:Around}{E:Value->Shared->Prop}{s:Shared}{v d:Addr}{o:Obj}{es:Array DictEntry}{ep:Nat}{Q:Value->Shared->Prop}(gv:s.heap.IsItemsView v d)(g:s.heap.get? d=some o)(gd:o.data=.dict es ep)(hs:es.size<=sizeLine)
  (q:Q (.ref s.heap.objs.size) {s with heap:=s.heap.push {cls:=.type "dict_itemiterator",data:=.fields #[.none,.bool false,.ref d,.int 0 0,.int es.size 0,.int ep 0,.none,.none]} }):wpAny (model X.prog X.w) A (pyIter (.ref v)) Q E s:=by
 obtain⟨ov,Oc,hcv,OQ⟩:=id gv;refine Zfk gv.typeIs F.slot_dict_items_iter (Zbn F.slot_dict_items_iter gv.typeIs F.entry_dict_items_iter ?_ (F.args_dict_items_iter_1 _));unfold Builtin.«dict_items.__iter__»;refine eg (gc (eg ?_));unfold Builtin.Dict_items.dictOf;refine eg (Zcy Oc OQ (x:=.ref d) rfl (gc (eg ?_)));unfold Builtin.Dict_items.newIterator;refine eg (Zgg g gd (eg (ZgV g gd ?_)));have own:Builtin.Dict_items.ownsTuple "dict_itemiterator" =true:=.d;simp only[own,ZdC];refine Zbs (gc ⟨_,rfl, "dict_itemiterator",_,⟨_,Zar _ rfl,rfl⟩,ZcP.lookup,?_⟩)
  (by simp only[sizeOk,Builtin.Dict_items.ownedTupleFields,Zap,Zaj,Za8,ZcN,ZaX];omega)
 simpa[rawInt,Builtin.Dict_items.ownedTupleFields] using q
def Nv (to:TE):TI:=fun σ H R=>to σ H fun x H1=> ∃(d:Addr) (kvs:List (List Key×V)),x=.ref d/\H1 d=some (.dT kvs)/\∀o,R (A9 o d kvs) (upd H1 d (.bM o (.dT kvs)))
theorem VP {o:Expr}{to:TE}{apos dY:Pos}(ho:PE X o to)(zw:attributeBase o "items" X.env (eval o X.env)=eval o X.env:=by rfl)(yZ:(apos.endLine==dY.line)=true:=by rfl):
  PI X (.Tuple elts kk tp) (.Call (.Attribute o "items" apos) [] [] dY) (Nv to):=by
 intro pins s σ H R I h;refine wpAny_Call_method0_late zw yZ (au (ho pins s σ H _ I h) fun v s1 ae=> ?_);obtain⟨x,H1,I1,r1,d,kvs,ex,hd,q⟩:=ae;subst ex;cases r1;obtain⟨z,sm,xs,pr,od,es,ep,g1,g2,g3,g4,g5⟩:=(show bG X.prog X.w H1 s1.heap d (.dT kvs) from I1.aq d _ hd);have ty:s1.TypeIs (.ref d) "dict" :=⟨_,g1,g2.1⟩;refine⟨"dict", "dict.items",PySem.F.plainAttrs_dict,PySem.F.slot_dict_items,PySem.F.type_dict_items,ty,fun a e=>by cases e;exact⟨_,g1,g2.2.1⟩,Ze8 rfl (PySem.evalArgs_none ?_)⟩;refine X8 ty sm ?_;have gn:es.size=kvs.length:=by rw[Za0 pr,<-Zau,g4,Zal]
 have I2:Inv X pins σ H1 {s1 with heap:=s1.heap.push {cls:=.type "dict_items",data:=.fields #[.ref d]} } :=I1.kept (t':=s1.toks) fun b o q=>Zad _ q;have gv:(s1.heap.push {cls:=.type "dict_items",data:=.fields #[.ref d]}).IsItemsView s1.heap.objs.size d:=⟨_,Zar _ rfl,rfl,rfl⟩;have ve:(s1.heap.push {cls:=.type "dict_items",data:=.fields #[.ref d]}).get? d=some od:=Zad _ g1;generalize s1.heap.push {cls:=.type "dict_items",data:=.fields #[.ref d]} =h2 at I2 gv ve;refine Xk (s:= {s1 with heap:=h2}) gv ve g3 .o ?_;have I3:Inv X pins σ H1 {s1 with heap:=h2.push {cls:=.type "dict_itemiterator",data:=.fields #[.none,.bool false,.ref d,.int 0 0,.int es.size 0,.int ep 0,.none,.none]} } :=I2.kept (t':=s1.toks) fun b o q=>Zad _ q;have Pz:(h2.push {cls:=.type "dict_itemiterator",data:=.fields #[.none,.bool false,.ref d,.int 0 0,.int es.size 0,.int ep 0,.none,.none]}).get? d=some od:=Zad _ ve;have nd:h2.objs.size≠d:=Zdq (ZaC ve);refine⟨h2.objs.size,[h2.objs.size],_,_,_,rfl,I3.freeze hd Pz,ZbS h2.objs.size d kvs g3 gn nd,⟨.none,.none,?_⟩,fun b hb=> ?_,q od⟩
 ·show(h2.push _).get? h2.objs.size=_;rw[gn];exact Zar _ rfl
 ·have e:b=h2.objs.size:=by simpa using hb
  subst e;have nn:H1 h2.objs.size=none:=I2.aq.fresh (Zak _);exact I2.jb (Zak _) (by rw[Zi nd];exact nn)
end
theorem Zcg {o:Obj}{d:Addr}{kvs:List (List Key×V)}{g:TG}{tt:TT}{ti:TC}{ys:List V}{σ:St}{H:Hp}{Q:List V->St->Hp->Prop}(Pv:Nat->List V->St->Hp->Prop)(h0:Pv 0 ys σ H)
  (hl:∀i ys σ H,Pv i ys σ H->H d=some (.bM o (.dT kvs)))
  (hs:∀i k y (T a:Addr) ys σ H,kvs[i]? =some (k,y)->H T=none->H a=some (.tup (k.map kV))->Pv i ys σ H->g (.ref T) σ (upd H T (.par [.ref a,y])) fun aQ H2=>tt aQ H2 fun b H3=>if b=true then ti ys aQ H3 (Pv (i+1)) else Pv (i+1) ys aQ H3)
  (hd:∀ys σ H,Pv kvs.length ys σ H->Q ys σ H):gU g tt ti (A9 o d kvs) ys σ H Q:=by
 refine⟨fun i m ys σ H=>m=kvs.length-i/\i<=kvs.length/\Pv i ys σ H,⟨kvs.length,by simp,ZaM _,h0⟩,?_⟩;rintro i m ys σ H ⟨rfl,hi,p⟩;have e:=hl i ys σ H p;by_cases aw:i<kvs.length
 ·refine .inr ⟨⟨e,aw⟩,Pv (i+1),fun aF ak H' p'=> ⟨kvs.length-(i+1),.o,rfl,aw,p'⟩,fun x H' y=> ?_⟩;obtain⟨T,a,k,v,e1,e2,e3,e4,e5⟩:=y;subst e1 e5;exact hs i k v T a ys σ H e3 e2 e4 p
 ·have e':i=kvs.length:=.o;subst e';exact .inl ⟨⟨e,Zak _⟩,hd ys σ H p⟩
end L2
namespace L2
open PySem PySem.Spec PyProof.Rows SeqAt
def cj (A:Around)(s:Shared)(y x:Value)(b:Bool):Prop:=
 ∀(prog:Program) (w:World) (E:Value->Shared->Prop) (Q:Value->Shared->Prop),Q (.bool b) s->wpAny (model prog w) A (richCompare .Lt y x) Q E s
inductive fU (A:Around) (s:Shared):List Value->List Value->Bool->Prop where
 |nn:fU A s [] [] false
 |nc {y:Value}{ys:List Value} :fU A s [] (y::ys) true
 |cn {x:Value}{xs:List Value} :fU A s (x::xs) [] false
 |eq {x y:Value}{xs ys:List Value}{r:Bool} :EqAt A s x y true->fU A s xs ys r->fU A s (x::xs) (y::ys) r
 |lt {x y:Value}{xs ys:List Value}{r:Bool} :EqAt A s x y false->cj A s x y r->fU A s (x::xs) (y::ys) r
section
open PySem.AutoSeq1 (wpAny_loadPart')
open PySem.MeetsSeq PySem.MeetsSeq2 PySem.MeetsSeq3 PySem.SeqRoads2
theorem ZbU (l b:Addr)(items items2:Array Value)(n n2:Nat)(dd ic:Option Addr)(sl gA:Array (Option Value))(r:Bool):
  Meets (Builtin.«tuple.__lt__» ⟨[.ref l,.ref b],[]⟩)
   (fun A R s=>s.heap.get? l=some {cls:=.type "tuple",dict:=dd,data:=.seq items n,slots:=sl}/\s.heap.get? b=some {cls:=.type "tuple",dict:=ic,data:=.seq items2 n2,slots:=gA}/\
    fU A.in1 s items.toList items2.toList r/\R (.ok (.ret (.bool r))) s):=
 .of_wp fun prog w A R s h=>by
  obtain⟨hp,g,d,tk,os⟩:=s;obtain⟨hl,hb,hc,h⟩:=h;have f2:=Zf7
  wp_walk using wpAny_loadPart' hl,PySem.wpAny_loadPart' hb,ZcI _ (fun rest b s'=>b.1=none/\s'=⟨hp,g,d,tk,os⟩/\∃(vs ws:List Value),rest=vs.zip ws/\
   fU A.in1 ⟨hp,g,d,tk,os⟩ vs ws r/\vs.length+items2.size=ws.length+items.size) _
  case turn=>
   rintro⟨y,x⟩ rest b s' ⟨cG,rfl,vs,ws,hz,bL,hlen⟩;cases bL with
   |nn=>cases hz
   |nc=>cases hz
   |cn=>cases hz
   |eq he hr=>
    rw[Zcr]at hz;injection hz with qM uJ;injection qM with hy hx;subst hy hx;simp only[Za8]at hlen;refine eg (he prog w _ _ ?_)
    wp_walk
    exact⟨rfl,rfl,_,_,uJ,hr,.o⟩
   |lt he hr=>
    rw[Zcr]at hz;injection hz with qM uJ;injection qM with hy hx;subst hy hx;refine eg (he prog w _ _ ?_);have yQ:=hr prog w
    wp_walk using yQ
    exact⟨_,rfl,h⟩
  case fin=>
   rintro⟨b1,b2⟩ s' ⟨cG,rfl,vs,ws,hz,bL,hlen⟩;simp only at cG;subst cG;have hv:r=decide (items.size<items2.size):=by
    cases bL with
    |nn=>simp only[ZcN]at hlen;exact(ZaF .o).symm
    |nc=>simp only[ZcN,Za8]at hlen;exact(Zaq .o).symm
    |cn=>simp only[ZcN,Za8]at hlen;exact(ZaF .o).symm
    |eq=>rw[Zcr]at hz;cases hz
    |lt=>rw[Zcr]at hz;cases hz
   rw[hv]at h
   wp_walk
   exact⟨_,rfl,by simpa[Builtin.Tuple.tupleCompareSizes] using h⟩
  case h=>exact⟨rfl,rfl,items.toList,items2.toList,rfl,hc,by simp;omega⟩
end
section
variable {A:Around}{s:Shared}
theorem cj.tuples {l b:Addr}{items items2:Array Value}{r:Bool}(hl:IsTup s.heap l items)(hb:IsTup s.heap b items2)(hu:A.units<cLine)(hc:fU A.in1 s items.toList items2.toList r):cj A s (.ref l) (.ref b) r:=fun prog w E Q h=>by
 obtain⟨⟨cls,dd,data,sl⟩,ho,En,n,hd⟩:=id hl;obtain⟨⟨zT,ic,data2,gA⟩,gH,gk,n2,hd2⟩:=id hb;simp only at En hd gk hd2;subst En hd gk hd2;exact richCompare_meets_room (op:=.Lt) ⟨_,ho,rfl⟩ ⟨_,gH,rfl⟩ PySem.F.slot_tuple_lt PySem.F.entry_tuple_lt (PySem.F.args_tuple_lt_2 _ _) (ZbU l b items items2 n n2 dd ic sl gA r)
  ⟨ho,gH,hc,show Value.bool r≠Value.notImplemented/\Q (.bool r) s from ⟨(fun x=>nomatch x),h⟩⟩ hu
theorem cj.int (a:Int)(t:Tok)(c:Int)(u:Tok):cj A s (.int a t) (.int c u) (decide (a<c)):=fun prog w E Q h=>HT.CF A s a t c u prog w E Q h
theorem fU.ints:∀{us ws:List Value}{ns ms:List Int},IntsAre us ns->IntsAre ws ms->fU A s us ws (HT.lexLt ns ms)
 |_,_,_,_,.nil,.nil=> .nn
 |_,_,_,_,.nil,.cons _ _ _=> .nc
 |_,_,_,_,.cons _ _ _,.nil=> .cn
 |_,_,_,_,.cons a t h1,.cons c u h2=>by
  rw[HT.yz];by_cases e:a=c
  ·rw[ZaQ e];refine .eq ?_ (fU.ints h1 h2);have:=EqAt.int_int (A:=A) (s:=s) a t c u;rw[Zd8.mpr e]at this;exact this
  ·rw[Zaz e];refine .lt ?_ (cj.int a t c u);have:=EqAt.int_int (A:=A) (s:=s) a t c u;rw[Zee.mpr e]at this;exact this
end
end L2
namespace L2
open PySem PySem.Spec PyProof.Rows
theorem Vl (prog:Program)(w:World){i l:Addr}(aa:Array Value)(bf:l≠i):Src prog w i l aa.size (fun k=>aa.getD k .none) (fun k h=>h.IsListIter i l k/\h.IsList l aa) where
 here:=fun k h ⟨⟨o,ho,_⟩,_⟩=> ⟨o,ho⟩
 cq:=fun k h h' ⟨a,b⟩ st=> ⟨a.at fun o q=>st i (.inl rfl) o q,b.at fun o q=>st l (.inr rfl) o q⟩
 item:=fun A k s Q E hk ⟨hi,ht⟩ q=>wpAny_nextOf_list_item hi ht (show aa[k]? =some (aa.getD k .none) by simp[hk]) fun h' a b=>q h' ⟨a,ht.extBut b.extBut bf⟩ b
 stop:=fun A s Q E hh ⟨hi,ht⟩ q=>wpAny_nextOf_list_end hh hi ht (by simp) fun h' e a b=>q h' e a b
abbrev wL:jg:=⟨ai,Heap.IsListIter,Heap.IsList, "list_iterator"⟩
theorem Mv:jQ wL where
 inv:=fun I h=>let ⟨aa,r,p,_⟩:=I.list h;⟨aa,r,p.isList⟩
 inj:=fun I h h'=>I.qD h h'
 src:=fun prog w _ _ aa bf=>Vl prog w aa bf
 ob:=fun⟨o,h,_,d⟩=> ⟨o,h,fun v z=>by rw[d]at z;cases z⟩
 kp:=fun a k=>a.at k
 lt:=fun⟨o,h,_⟩=>ZaC h
 push:=fun o t=>t.at fun _ e=>Zad _ e
 new:=fun h=> ⟨_,h,rfl,rfl⟩
 iter:=fun t q=>Zd4 t q
section
variable {X:Cx}{elts:List Expr}{kk:Nat}{tp:Pos}
abbrev Nn:=yE mI wL
theorem Vc {a b:Expr}{ta:TA}{p pos:Pos}(hg:Gl X "zip")(hm:X.mg "zip" =none)(ha:PA X [a,b] ta)(hs:starEach [a,b] X.env=[(false,eval a X.env),(false,eval b X.env)]:=by rfl)(dH:starEach [b] X.env=[(false,eval b X.env)]:=by rfl):
  PI X (.Tuple elts kk tp) (.Call (.Name "zip" p) [a,b] [] pos) (Nn X.K ta):=Gf yt Mv hg hm ha hs dH
end
abbrev XB {K:ZhK}{l1 l2:Addr} := @UH mI wL K l1 l2
end L2
namespace L2
open PySem PySem.Spec PyProof.Rows PyProof.Rows.dc SeqAt
section
variable {X:Cx}
theorem ZaI {c:String} :fB X (.builtin "isinstance") (fun xs H Q=> ∃(a:Addr) (ys:List V) (b:Bool),xs=[.ref a,.ty c]/\ab X.K H a ys/\PySem.W.kitOne X.K (.type "tuple") (.type c)=some b/\Q (.bl b) H):=by intro pins s σ H xs us Q I r h;obtain⟨a,ys,b,rfl,sq,e,q⟩:=h;obtain⟨u,v,rfl,ru,rv⟩:=vals2 r;cases rv;cases ru;obtain⟨aa,_,⟨o,h1,h2,_⟩,_⟩:=I.tuple sq;exact Zc1 PySem.W.kitx_tuple I.dF ⟨o,h1,h2⟩ e (fun z=>nomatch z) fun tk=> ⟨.bl b,H,I.tok tk,rfl,q⟩
theorem Ya {pins:List (Addr×Obj)}{σ:St}{H:Hp}{s:Shared}{A:Around}{a b:Addr}{xs ys:List V}(I:Inv X pins σ H s)(hu:A.units<cLine)(ha:ab X.K H a xs)(hb:ab X.K H b ys)(hx:xs.all cf=true)(hy:ys.all cf=true):EqAt A s (.ref a) (.ref b) (decide (xs=ys)):=by
 by_cases e:a=b
 ·subst e;rw[I.mF ha hb,Zaq rfl];exact EqAt.same _
 ·obtain⟨us,r1,p1,_⟩:=I.tuple ha;obtain⟨vs,r2,p2,_⟩:=I.tuple hb;have z:=RcAt.tuples (A:=A) (s:=s) p1 p2 hu (FU hx hy r1 r2);rw[Fl r1 r2]at z;exact EqAt.of_refs e z
theorem me {u v:Value}{aa:List Value}{x y:V}(r:Vals [x,y] aa)(ru:∀w,RelV x w->w=u)(rv:∀w,RelV y w->w=v):aa=[u,v]:=by
 cases r with
 |cons r1 r2=>
  cases r2 with
  |cons r3 r4=>cases r4;rw[ru _ r1,rv _ r3]
theorem UT {pins:List (Addr×Obj)}{σ:St}{H:Hp}{s:Shared}{A:Around}{a b c d c' d':Addr}{xs ys bQ aF:List V}(I:Inv X pins σ H s)(hu:A.units+1<cLine)(ha:ab X.K H a [.ref c,.ref d])(hb:ab X.K H b [.ref c',.ref d'])
  (hc:ab X.K H c xs) (hd:ab X.K H d ys) (bL:ab X.K H c' bQ) (dA:ab X.K H d' aF) (h1:xs.all cf=true) (h2:ys.all cf=true) (h3:bQ.all cf=true) (h4:aF.all cf=true):
  EqAt A s (.ref a) (.ref b) (decide (xs=bQ/\ys=aF)):=by
 by_cases e:a=b
 ·subst e;have z:=I.mF ha hb;simp only[ZcO,V.ref.injEq,ZfW]at z;obtain⟨rfl,rfl⟩:=z;rw[I.mF hc bL,I.mF hd dA,Zaq ⟨rfl,rfl⟩];exact EqAt.same _
 ·obtain⟨us,r1,p1,_⟩:=I.tuple ha;obtain⟨vs,r2,p2,_⟩:=I.tuple hb;obtain rfl:=me (u:=.ref c) (v:=.ref d) r1 (fun _ z=>z) (fun _ z=>z);obtain rfl:=me (u:=.ref c') (v:=.ref d') r2 (fun _ z=>z) (fun _ z=>z);have z:=RcAt.tuples (A:=A) (s:=s) (e:=fun j=>if j=0 then decide (xs=bQ) else decide (ys=aF)) p1 p2 (Zda hu) (fun j fq eY=>by
   have hj:j<2:=fq
   match j,hj with
   |0,_=>exact Ya I hu hc bL h1 h3
   |1,_=>exact Ya I hu hd dA h2 h4)
  have e2:((List.range (min [Value.ref c,Value.ref d].toArray.size [Value.ref c',Value.ref d'].toArray.size)).all (fun j=>if j=0 then decide (xs=bQ) else decide (ys=aF))&&[Value.ref c,Value.ref d].toArray.size==[Value.ref c',Value.ref d'].toArray.size)=decide (xs=bQ/\ys=aF):=by show((List.range 2).all (fun j=>if j=0 then decide (xs=bQ) else decide (ys=aF))&&2==2)=_;rw[Zcb];simp[ZbF]
  rw[e2]at z;exact EqAt.of_refs e z
def CH (K:ZhK):R2:=fun x y H Q=> ∃(a b c d c' d':Addr) (xs ys bQ aF:List V),x=.ref a/\y=.ref b/\ab K H a [.ref c,.ref d]/\ab K H b [.ref c',.ref d']/\ab K H c xs/\ab K H d ys/\ab K H c' bQ/\ab K H d' aF/\
 xs.all cf=true/\ys.all cf=true/\bQ.all cf=true/\aF.all cf=true/\Q (.bl (decide (xs=bQ/\ys=aF))) H
theorem FN (hu:X.A.units+1<cLine):aV X (compareOp .Eq) (CH X.K):=by
 intro pins s σ H x y u v Q I rx ry h;obtain⟨a,b,c,d,c',d',xs,ys,bQ,aF,rfl,rfl,ha,hb,hc,hd,bL,dA,h1,h2,h3,h4,q⟩:=h;cases rx;cases ry;obtain⟨us,r1,p1,_⟩:=I.tuple ha;obtain⟨vs,r2,p2,_⟩:=I.tuple hb;obtain rfl:=me (u:=.ref c) (v:=.ref d) r1 (fun _ z=>z) (fun _ z=>z);obtain rfl:=me (u:=.ref c') (v:=.ref d') r2 (fun _ z=>z) (fun _ z=>z);refine eq_tupleAt (e:=fun j=>if j=0 then decide (xs=bQ) else decide (ys=aF)) p1 p2 (Zda hu) (fun j fq eY=> ?_) ?_
 ·have hj:j<2:=fq
  match j,hj with
  |0,_=>exact Ya I hu hc bL h1 h3
  |1,_=>exact Ya I hu hd dA h2 h4
 ·have e2:((List.range (min [Value.ref c,Value.ref d].toArray.size [Value.ref c',Value.ref d'].toArray.size)).all (fun j=>if j=0 then decide (xs=bQ) else decide (ys=aF))&&[Value.ref c,Value.ref d].toArray.size==[Value.ref c',Value.ref d'].toArray.size)=decide (xs=bQ/\ys=aF):=by show((List.range 2).all (fun j=>if j=0 then decide (xs=bQ) else decide (ys=aF))&&2==2)=_;rw[Zcb];simp[ZbF]
  rw[e2];exact⟨.bl _,H,I,rfl,q⟩
def iw (H:Hp)(v:V)(k:List Int):Prop:=∃(t tb tl:Addr) (wd hg:Int) (rs:List Int),v=.ref t/\H t=some (.tup [.ref tb,.ref tl])/\H tb=some (.tup [.int wd,.int hg])/\H tl=some (.tup (rs.map V.int))/\k=wd::hg::rs
theorem iw.same {H H':Hp}{v:V}{k:List Int}(h:iw H v k)(s:ag H H'):iw H' v k:=by obtain⟨t,tb,tl,wd,hg,rs,e,h1,h2,h3,h4⟩:=h;exact⟨t,tb,tl,wd,hg,rs,e,s _ _ h1,s _ _ h2,s _ _ h3,h4⟩
theorem WQ (k:List Int):ar k k=false:=by
 cases h:ar k k with
 |false=>rfl
 |true=>have:=Z3 _ _ h;exact absurd (h.symm.trans this) .d
theorem iw.lt {pins:List (Addr×Obj)}{σ:St}{H:Hp}{s:Shared}{A:Around}{x y:V}{u v:Value}{k k':List Int}(I:Inv X pins σ H s)(hu:A.units+1<cLine)(hx:iw H x k)(hy:iw H y k')(rx:RelV x u)(ry:RelV y v):cj A s u v (ar k k'):=by
 obtain⟨t,tb,tl,wd,hg,rs,rfl,h1,h2,h3,rfl⟩:=hx;obtain⟨t',sS,BD,pJ,dS,qm,rfl,fq,eY,i8,rfl⟩:=hy;cases rx;cases ry;obtain⟨us,r1,p1,_⟩:=I.tuple (ab.of h1);obtain⟨vs,r2,p2,_⟩:=I.tuple (ab.of fq);obtain rfl:=me (u:=.ref tb) (v:=.ref tl) r1 (fun _ z=>z) (fun _ z=>z);obtain rfl:=me (u:=.ref sS) (v:=.ref BD) r2 (fun _ z=>z) (fun _ z=>z);refine cj.tuples p1 p2 (Zda hu) ?_;have q1:=Ya (A:=A.in1) I hu (ab.of h2) (ab.of eY) (Ju [wd,hg]) (Ju [pJ,dS]);have q2:=Ya (A:=A.in1) I hu (ab.of h3) (ab.of i8) (Ju rs) (Ju qm);have e1:decide ([V.int wd,V.int hg]=[V.int pJ,V.int dS])=decide ([wd,hg]=[pJ,dS]):=by simp
 have inj:∀{a b:List Int},a.map V.int=b.map V.int->a=b:=fun {a b} h=> (by have:=ZcE (List.map fun v=>match v with |V.int i=>i |_=>0) h;simpa[Function.comp_def] using this);have e2:decide (rs.map V.int=qm.map V.int)=decide (rs=qm):=by
  by_cases z:rs=qm
  ·rw[Zaq z,Zaq (by rw[z])]
  ·rw[ZaF z,ZaF (fun y=>z (inj y))]
 rw[e2]at q2;rw[e1]at q1;rw[GS];show fU A.in1 s [.ref tb,.ref tl] [.ref sS,.ref BD] _;by_cases z:[wd,hg]=[pJ,dS]
 ·rw[ZaQ z];rw[Zaq z]at q1;refine .eq q1 ?_;by_cases z2:rs=qm
  ·rw[Zaq z2]at q2;rw[z2,WQ];exact .eq q2 .nn
  ·rw[ZaF z2]at q2;obtain⟨dG,i1,j1,_⟩:=I.tuple (ab.of h3);obtain⟨eU,i2,j2,_⟩:=I.tuple (ab.of i8);have c:=fU.ints (A:=A.in1.in1) (s:=s) (ZL i1) (ZL i2);rw[Jg]at c;exact .lt q2 (cj.tuples j1 j2 hu (by simpa using c))
 ·rw[Zaz z];rw[ZaF z]at q1;obtain⟨dG,i1,j1,_⟩:=I.tuple (ab.of h2);obtain⟨eU,i2,j2,_⟩:=I.tuple (ab.of eY);have c:=fU.ints (A:=A.in1.in1) (s:=s) (ZL (ns:=[wd,hg]) i1) (ZL (ns:=[pJ,dS]) i2);exact .lt q1 (cj.tuples j1 j2 hu (by simpa using c))
end
theorem Fu {X:Cx}{pins:List (Addr×Obj)}{σ:St}{H:Hp}{s:Shared}{A:Around}{XE:Value->Shared->Prop}(hd:X.calm=true->A.handled=none)(hf:A.frames=some X.stack)(I:Inv X pins σ H s):Inv {X with A:=A,xe:=XE} pins σ H s:=
 ⟨⟨I.ok.mod,I.ok.kind,I.ok.glob,I.ok.blt,I.ok.above,I.ok.inj,I.ok.has,I.ok.pe,hd,hf,I.ok.pT,I.ok.rK,I.ok.bs,I.ok.md,I.ok.oF,I.ok.o9,I.ok.hX,I.ok.nC⟩,
  I.os,I.bare,I.base,I.loc,I.cell,I.free,I.ja,I.pin,I.aq,I.len⟩
section
variable {X:Cx}{pins:List (Addr×Obj)}{σ:St}{H1:Hp}{f:Addr}{fd:FuncData}{k:Nat}{p1:Str}{sp:Sp}{vs:List V}{ks:List (List Int)}{l it S:Addr}{R:Result->Shared->Prop}
def sf (sp:Sp)(H1:Hp)(vs:List V)(ks:List (List Int)):Prop:=∀(j:Nat) v k',vs[j]? =some v->ks[j]? =some k'->∀H2,ag H1 H2->∀Q':VK,(∀u H3,ag H2 H3->iw H3 u k'->Q' u H3)->sp [v] H2 Q' E0
theorem GQ {s:Shared}{H2:Hp}{j:Nat}{v:V}{u:Value}{kj:List Int}{Q:Value->Shared->Prop}{E:Value->Shared->Prop}(hc:X.calm=true)(F:ay X.prog X.w X.K X.mg X.base az k f fd [p1] sp)(hr:bP k X.A.in1)(hb:Binds X.K fd [p1] [])
  (I:Inv X pins σ H2 s) (fI:bj X pins H2 it) (fS:bj X pins H2 S) (oI:∃o,s.heap.get? it=some o/\∀v,o.data≠.cell v) (oS:∃o,s.heap.get? S=some o/\∀v,o.data≠.cell v) (turn:sf sp H1 vs ks) (sm:ag H1 H2) (hv:vs[j]? =some v) (hk:ks[j]? =some kj) (ru:RelV v u)
  (q:∀(z:Value) (kv:V) (H3:Hp) (s':Shared),Inv X pins σ H3 s'->ag H2 H3->iw H3 kv kj->RelV kv z->bj X pins H3 it->bj X pins H3 S->(∀o,s.heap.get? it=some o->s'.heap.get? it=some o)->(∀o,s.heap.get? S=some o->s'.heap.get? S=some o)->Q z s'):
  wpAny (model X.prog X.w) X.A.in1 (call (.ref f) [u]) Q E s:=by
 have OK:∀b∈[it,S],bj X pins H2 b:=fun b hb=>by
  rcases Zav.mp hb with rfl |hb
  ·exact fI
  ·rw[Zas.mp hb];exact fS
 have I1:=I.pinned (fp:=[it,S]) OK fun b hb=>by
  rcases Zav.mp hb with rfl |hb
  ·exact oI
  ·rw[Zas.mp hb];exact oS
 have I2:Inv {X with A:=X.A.in1,xe:=fun _ _=>False} (pins++iI [it,S] s.heap) σ H2 s:=Fu (fun _=>I.ok.hd hc) I.ok.frames I1;have r:=AB (X:= {X with A:=X.A.in1,xe:=fun _ _=>False}) (vs:=[v]) (us:=[u]) (je:=[]) (ds:=[]) (Q:=fun z H3=>ag H2 H3/\iw H3 z kj) F hr hb .nil yl I2 (.cons ru .nil) (turn j v kj hv hk H2 sm _ fun z H3 s3 k3=> ⟨s3,k3⟩);refine ZcD r (fun z s' ae=> ?_) fun _ _ z=>False.elim z;obtain⟨kv,H3,I3,rz,s3,k3⟩:=ae;have I4:Inv X (pins++iI [it,S] s.heap) σ H3 s':=Fu (X:= {X with A:=X.A.in1,xe:=fun _ _=>False}) (A:=X.A) (XE:=X.xe) (fun h=>I.ok.hd h) I.ok.frames I3;have ki:∀b∈[it,S],∀o,s.heap.get? b=some o->s'.heap.get? b=some o/\H3 b=none:=fun b hb o e=>
  let h:=I4.pin (b,o) (ZaA _ (ZaA _ (ZT hb e)))
  ⟨h.1,h.2.1⟩
 obtain⟨o1,g1,_⟩:=oI;obtain⟨o2,g2,_⟩:=oS;exact q z kv H3 s' I4.gR s3 k3 rz ⟨(ki it (by simp) o1 g1).2,fI.2⟩ ⟨(ki S (by simp) o2 g2).2,fS.2⟩ (fun o e=> (ki it (by simp) o e).1) (fun o e=> (ki S (by simp) o e).1)
theorem Xv (hc:X.calm=true)(F:ay X.prog X.w X.K X.mg X.base az k f fd [p1] sp)(hr:bP k X.A.in1)(hb:Binds X.K fd [p1] [])(jH:l≠it)(fR:S≠it)(hu:X.A.units+2<cLine)(iZ:H1 l=some (.lst vs))(hlen:vs.length=ks.length)(turn:sf sp H1 vs ks)
  (hR:∀(i:Nat) v k' H2 u s',vs[i]? =some v->ks[i]? =some k'->(∀eS∈ks,ar eS k'=false)->ag H1 H2->Inv X pins σ H2 s'->RelV v u->R (.ok (.ret u)) s'):
  ∀(r j i:Nat) (s:Shared) (H2:Hp) (vb ub:Value) (v kv:V) (kb:List Int) (c:Nat),vs.length-(j+1)=r->j+1<=vs.length->Inv X pins σ H2 s->ag H1 H2->bj X pins H2 it->bj X pins H2 S->s.heap.IsListIter it l (j+1)->
   s.heap.get? S=some (seqObj "list" #[vb,ub] c)->vs[i]? =some v->RelV v vb->ks[i]? =some kb->RelV kv ub->iw H2 kv kb->(∀(j':Nat),j'<=j->∀eS,ks[j']? =some eS->ar eS kb=false)->
   codeAny (model X.prog X.w) X.A (.builtin "min.loop" ⟨[.ref it,.ref f,.ref S],[]⟩) R s:=by
 have iX:(toString "min" ++toString ".loop" :String)= "min.loop" :=.d;intro r
 induction r with
 |zero=>
  intro j i s H2 vb ub v kv kb c br hj I sm fI fS hit hS hv rv hk rk ka best;obtain⟨aa,rl,pl,_⟩:=I.list (ai.of (sm _ _ iZ));have hsz:aa.toArray.size=vs.length:=by rw[Zap,<-rl.length]
  have W:=ZfG (prog:=X.prog) (w:=X.w) (A:=X.A.in1) (I.ok.hd hc) it l jH aa.toArray;refine Zc4 Zev ?_;rw[Zcw Zcv _];show wpAny _ X.A.in1 (seqItems? (.ref S) >>=_) _ _ _;refine eg (Zbr hS rfl ?_);show wpAny _ X.A.in1 (tryCatch (pyNext (.ref it)) _ >>=_) _ _ _;refine eg (Zdm (W.done _ _ _ ⟨by rw[hsz,show vs.length=j+1 by omega];exact hit,pl.isList⟩ fun h' iB aG=> ?_));have I1:Inv X pins σ H2 {s with heap:=h',toks:=iB} :=I.turned (it:=it) (fun b o hb e=>aG b o (by simpa using hb) e) fI.1 fI.2.1 fI.2.2.2.1 fI.2.2.2.2.1 fI.2.2.2.2.2;have cT:=aG S _ (by simpa using fR) hS;show wpAny _ X.A.in1 (updateSeq S (fun _=> #[]) >>=_) _ _ _;refine eg ?_;refine ZeE cT rfl (eg (ZdZ (gc ?_)));have I2:=I1.turned (h':=h'.update S (Obj.mapSeq fun _=> #[])) (t':=iB) (it:=S) (fun b o hb e=> (Zbw _ _ (Zd3 hb)).trans e) fS.1 fS.2.1 fS.2.2.2.1 fS.2.2.2.2.1 fS.2.2.2.2.2;refine hR i v kb H2 vb _ hv hk (fun eS bW=> ?_) sm I2 rv;obtain⟨j',ng,e⟩:=ZcC bW;exact best j' .o eS (by rw[<-e];simp)
 |succ r ih=>
  intro j i s H2 vb ub v kv kb c br hj I sm fI fS hit hS hv rv hk rk ka best;obtain⟨aa,rl,pl,_⟩:=I.list (ai.of (sm _ _ iZ));have hsz:aa.toArray.size=vs.length:=by rw[Zap,<-rl.length]
  have W:=ZfG (prog:=X.prog) (w:=X.w) (A:=X.A.in1) (I.ok.hd hc) it l jH aa.toArray;refine Zc4 Zev ?_;rw[Zcw Zcv _];show wpAny _ X.A.in1 (seqItems? (.ref S) >>=_) _ _ _;refine eg (Zbr hS rfl ?_);show wpAny _ X.A.in1 (tryCatch (pyNext (.ref it)) _ >>=_) _ _ _;refine eg (Zdm (W.item (j+1) _ _ _ .o ⟨hit,pl.isList⟩ fun u h' iB hP fm aG=> ?_));have fX:aa[j+1]? =some u:=by simpa using hP
  have aw:j+1<vs.length:=.o;obtain⟨u',dR,ru⟩:=rl.get (i:=j+1) (x:=vs[j+1]) (by simp[aw]);rw[fX]at dR;cases dR;have qN:vs[j+1]? =some vs[j+1]:=by simp[aw]
  obtain⟨kj,lT⟩:∃kj,ks[j+1]? =some kj:=⟨ks[j+1]'(by omega),by simp⟩;have I1:Inv X pins σ H2 {s with heap:=h',toks:=iB} :=I.turned (it:=it) (fun b o hb e=>aG b o (by simpa using hb) e) fI.1 fI.2.1 fI.2.2.2.1 fI.2.2.2.2.1 fI.2.2.2.2.2;have cT:=aG S _ (by simpa using fR) hS;obtain⟨oI,rG,zR,rP⟩:=id fm.1;show wpAny _ X.A.in1 (tryCatch (holding [u] (call (.ref f) [u])) _ >>=_) _ _ _;refine eg (Zdm (ZbA (GQ hc F hr hb I1 fI fS ⟨oI,rG,fun v z=>by rw[rP]at z;cases z⟩ ⟨_,cT,fun v z=>by cases z⟩ turn sm qN lT ru fun z kz H3 s' I3 s3 k3 rz vi gp gI gS=> ?_)));have l3:=gS _ cT;have uV:s'.heap.IsListIter it l (j+1+1):=⟨oI,gI _ rG,zR,rP⟩;show wpAny _ X.A.in1 (tryCatch (holding [u,z] (richCompare .Lt z ub >>=_)) _ >>=_) _ _ _;refine eg (Zdm (ZbA (eg (iw.lt (A:=X.A.in1) I3 hu k3 (ka.same s3) rz rk X.prog X.w _ _ ?_))));refine eg (ZbA (Zc6 ?_));refine eg (ZdZ (gc ?_));cases cG:ar kj kb with
  |true=>
   simp only[ZdC];refine eg ?_;refine ZeE l3 rfl (eg (ZdZ ?_));rw[iX];have I4:=I3.turned (h':=s'.heap.update S (Obj.mapSeq fun _=> #[u,z])) (t':=s'.toks) (it:=S) (fun b o hb e=> (Zbw _ _ (Zd3 hb)).trans e) gp.1 gp.2.1 gp.2.2.2.1 gp.2.2.2.2.1 gp.2.2.2.2.2;refine gc ⟨Zdp Zcv _,ih (j+1) (j+1) _ H3 u z vs[j+1] kz kj _ .o aw I4 (sm.trans s3) vi gp (uV.at fun o e=> (Zbw _ _ fR).trans e) (get?_update_seq l3 fun _=> #[u,z]) qN ru lT rz k3 fun j' ng eS bW=> ?_⟩;by_cases e:j'=j+1
   ·subst e;rw[lT]at bW;cases bW;exact WQ _
   ·exact YB _ _ _ (Z3 _ _ cG) (best j' .o eS bW)
  |false=>
   simp only[Zax,ZbI];refine eg (ZdZ ?_);rw[iX];refine gc ⟨Zdp Zcv _,ih (j+1) i _ H3 vb ub v kv kb c .o aw I3 (sm.trans s3) vi gp uV l3 hv rv hk rk (ka.same s3) fun j' ng eS bW=> ?_⟩;by_cases e:j'=j+1
   ·subst e;rw[lT]at bW;cases bW;exact cG
   ·exact best j' .o eS bW
end
section
variable {X:Cx}{k:Nat}{p1 y:Str}{sp:Sp}{te:TE}{e:Expr}
def IL (te:TE)(sp:Sp):TE:=fun σ H Q=>te σ H fun v H1=> ∃(a:Addr) (vs:List V) (ks:List (List Int)),v=.ref a/\H1 a=some (.lst vs)/\vs≠[]/\vs.length=ks.length/\sf sp H1 vs ks/\
 ∀(i:Nat) v k' H2,vs[i]? =some v->ks[i]? =some k'->(∀eS∈ks,ar eS k'=false)->ag H1 H2->Q v H2
theorem Vy {pins:List (Addr×Obj)}{σ:St}{H1:Hp}{s:Shared}{f:Addr}{fd:FuncData}{vs:List V}{ks:List (List Int)}{l:Addr}{Q:VK}(hc:X.calm=true)(F:ay X.prog X.w X.K X.mg X.base az k f fd [p1] sp)(hr:bP (k+1) X.A)(hb:Binds X.K fd [p1] [])
  (I:Inv X pins σ H1 s) (iZ:H1 l=some (.lst vs)) (bf:vs≠[]) (hlen:vs.length=ks.length) (turn:sf sp H1 vs ks) (q:∀(i:Nat) v k' H2,vs[i]? =some v->ks[i]? =some k'->(∀eS∈ks,ar eS k'=false)->ag H1 H2->Q v H2):
  wpAny (model X.prog X.w) X.A (call (.builtin "min") [.ref l] [(Str.ofString "key",.ref f)]) (EP X pins σ Q) X.xe s:=by
 have iX:(toString "min" ++toString ".loop" :String)= "min.loop" :=.d;obtain⟨aa,rl,pl,_⟩:=I.list (ai.of iZ);have mY:=pl.isList;obtain⟨ol,oU,_⟩:=id mY;have uS:l<s.heap.objs.size:=ZaC oU;have yR:0<vs.length:=List.length_pos_iff.mpr bf;refine kmk_tree PySem.F.kind_min PySem.F.plain_min PySem.F.entry_min (kmk_min_key _ _) ?_;show wpAny _ X.A.in1 (Builtin.Builtins.bindParams "min" ["key", "default"] 0 ⟨[],[(Str.ofString "key",.ref f)]⟩ >>=_) _ _ s;refine eg (ZeO (show Builtin.Builtins.bindParams "min" ["key", "default"] 0 ⟨[],[(Str.ofString "key",.ref f)]⟩=pure [some (.ref f),none] from rfl) ?_);refine eg (gc ?_);refine eg (Zd4 mY ?_);refine eg (ZfD ?_ (ZaM _));rw[iX];have hS:(s.heap.push {cls:=.type "list_iterator",data:=.fields #[.ref l,.int 0 0]}).objs.size=s.heap.objs.size+1:=size_push' ..;generalize O8:(s.heap.push {cls:=.type "list_iterator",data:=.fields #[.ref l,.int 0 0]}).objs.size=S at hS;have jH:l≠s.heap.objs.size:=Za1 uS;have fR:S≠s.heap.objs.size:=by rw[hS];exact Zdq (ZeL _)
 refine gc ⟨Zdp Zcv _,?_⟩;have kp:∀b o,s.heap.get? b=some o->((s.heap.push {cls:=.type "list_iterator",data:=.fields #[.ref l,.int 0 0]}).push (seqObj "list" #[] 0)).get? b=some o:=fun b o e=>Zad _ (Zad _ e);have gI:((s.heap.push {cls:=.type "list_iterator",data:=.fields #[.ref l,.int 0 0]}).push (seqObj "list" #[] 0)).get? s.heap.objs.size=some {cls:=.type "list_iterator",data:=.fields #[.ref l,.int 0 0]} :=
  Zad _ (Zar _ rfl)
 have gS:((s.heap.push {cls:=.type "list_iterator",data:=.fields #[.ref l,.int 0 0]}).push (seqObj "list" #[] 0)).get? S=some (seqObj "list" #[] 0):=by rw[<-O8];exact Zar _ rfl
 have I0:Inv X pins σ H1 {s with heap:=(s.heap.push {cls:=.type "list_iterator",data:=.fields #[.ref l,.int 0 0]}).push (seqObj "list" #[] 0)} :=I.kept (t':=s.toks) kp;have fI:bj X pins H1 s.heap.objs.size:=I.jb (Zak _) (I.aq.fresh (Zak _));have Dq:s.heap.objs.size<=S:=by rw[hS];exact Zei _
 have fS:bj X pins H1 S:=I.jb Dq (I.aq.fresh Dq);have W:=ZfG (prog:=X.prog) (w:=X.w) (A:=X.A.in1) (I.ok.hd hc) s.heap.objs.size l jH aa.toArray;have hsz:aa.toArray.size=vs.length:=by rw[Zap,<-rl.length]
 refine Zc4 Zev ?_;rw[Zcw Zcv _];show wpAny _ X.A.in1 (seqItems? (.ref S) >>=_) _ _ _;refine eg (Zbr gS rfl ?_);show wpAny _ X.A.in1 (tryCatch (pyNext (.ref s.heap.objs.size)) _ >>=_) _ _ _;refine eg (Zdm (W.item 0 _ _ _ .o ⟨⟨_,gI,rfl,rfl⟩,mY.at fun o e=>kp _ _ e⟩ fun u h' iB hP fm aG=> ?_));have fX:aa[0]? =some u:=by simpa using hP
 obtain⟨u',dR,ru⟩:=rl.get (i:=0) (x:=vs[0]) (by simp[yR]);rw[fX]at dR;cases dR;have qN:vs[0]? =some vs[0]:=by simp[yR]
 obtain⟨kj,lT⟩:∃kj,ks[0]? =some kj:=⟨ks[0]'(by omega),by simp⟩;have I1:Inv X pins σ H1 {s with heap:=h',toks:=iB} :=Inv.turned (s:= {s with heap:=(s.heap.push {cls:=.type "list_iterator",data:=.fields #[.ref l,.int 0 0]}).push (seqObj "list" #[] 0)}) I0 (it:=s.heap.objs.size) (fun b o hb e=>aG b o (by simpa using hb) e) fI.1 fI.2.1 fI.2.2.2.1 fI.2.2.2.2.1 fI.2.2.2.2.2;have cT:=aG S _ (by simpa using fR) gS;obtain⟨oI,rG,zR,rP⟩:=id fm.1;show wpAny _ X.A.in1 (tryCatch (holding [u] (call (.ref f) [u])) _ >>=_) _ _ _;refine eg (Zdm (ZbA (GQ hc F hr.in1 hb I1 fI fS ⟨oI,rG,fun v z=>by rw[rP]at z;cases z⟩ ⟨_,cT,fun v z=>by cases z⟩ turn (ag.refl _) qN lT ru fun z kz H3 s' I3 s3 k3 rz vi gp gI gS=> ?_)));have l3:=gS _ cT;have uV:s'.heap.IsListIter s.heap.objs.size l (0+1):=⟨oI,gI _ rG,zR,rP⟩;have I4:=I3.turned (h':=s'.heap.update S (Obj.mapSeq fun _=> #[u,z])) (t':=s'.toks) (it:=S) (fun b o hb e=> (Zbw _ _ (Zd3 hb)).trans e) gp.1 gp.2.1 gp.2.2.2.1 gp.2.2.2.2.1 gp.2.2.2.2.2;show wpAny _ X.A.in1 (updateSeq S (fun _=> #[u,z]) >>=_) _ _ _;refine eg ?_;refine ZeE l3 rfl ?_;rw[iX];have hu:X.A.units+2<cLine:=by have:=hr.un;omega
 refine gc ⟨Zdp Zcv _,Xv (pins:=pins) (σ:=σ) hc F hr.in1 hb jH fR hu iZ hlen turn (fun i v k' H2 w s' hv hk best sm I' rv=> ⟨v,H2,I',rv,q i v k' H2 hv hk best sm⟩) _ 0 0 _ H3 u z vs[0] kz kj _ rfl yR I4 s3 vi gp (uV.at fun o e=> (Zbw _ _ fR).trans e) (get?_update_seq l3 fun _=> #[u,z]) qN ru lT rz k3 fun j' ng eS bW=> ?_⟩;obtain rfl:j'=0:=Nat.le_zero.mp ng;rw[lT]at bW;cases bW;exact WQ _
theorem T9 {p py j6 pos:Pos}(hc:X.calm=true)(hg:Gl X "min")(hm:X.mg "min" =none)(d:Def X.prog X.w X.K X.mg X.base k y [p1] sp)(OG:Gl X y)(hr:bP (k+1) X.A)(he:PE X e te)(eX:(y==("__debug__" :Str))=false:=by decide)
  (NT:starEach [e] X.env=(false,eval e X.env)::starEach [] X.env:=by rfl) (jL:backTo pos (starEach [e] X.env)=(false,eval e X.env)::backTo pos (starEach [] X.env):=by rfl) (hU:(backTo pos (starEach [e] X.env)).any (·.1)=false:=by rfl)
  (aO:(backToKw pos (keywordEach [⟨some "key",.Name y py,j6⟩] X.env)).filterMap (·.1)=[Str.ofString "key"]:=by rfl):
  PE X (.Call (.Name "min" p) [e] [⟨some "key",.Name y py,j6⟩] pos) (IL te sp):=by
 obtain⟨f,fd,F,Oo,hk,hb⟩:=d;intro pins s σ H Q I h;refine Zdd (Z8 I hg hm PyProof.Rows.Boot.«min» ?_ .d .d);have pa:PA X [e] (kO te jT):=Za he Zb NT;have pk:PK X [⟨some "key",.Name y py,j6⟩] (kO (tC (.ref f)) jT):=Gi (Yf (v:=.ref f) OG Oo rfl eX) FO;refine Zgc (au (pa pos pins s σ H (fun us H1=>match us with
  | [v]=> ∃(a:Addr) (vs:List V) (ks:List (List Int)),v=.ref a/\H1 a=some (.lst vs)/\vs≠[]/\vs.length=ks.length/\sf sp H1 vs ks/\∀(i:Nat) v k' H2,vs[i]? =some v->ks[i]? =some k'->(∀eS∈ks,ar eS k'=false)->ag H1 H2->Q v H2
  |_=>False) I h) fun us s1 ⟨vV,H1,I1,r1,q1⟩=> ?_) jL hU
 match vV,q1 with
 | [v],q1=>obtain⟨a,vs,ks,rfl,hq,bf,hlen,turn,q2⟩:=q1;refine au (pk pos pins s1 σ H1 (fun zs H2=>zs=[.ref f]/\H2=H1) I1 ⟨rfl,rfl⟩) fun ws s2 ae=> ?_;obtain⟨zs,H2,I2,rz,e1,e2⟩:=ae;subst e1 e2;obtain⟨u,rfl,ru⟩:=ZgE r1;obtain⟨z,rfl,xX⟩:=ZgE rz;cases ru;cases xX;rw[aO];exact Vy hc F hr hb I2 hq bf hlen turn q2
end
end L2
namespace L2
open PySem PySem.Spec PyProof.Rows
section
variable {X:Cx}
theorem Vm {a b:Expr}{op:Operator}{p:Pos}{es:List Expr}{env:Env} :starEach (.BinOp a op b p::es) env=(false,eval (.BinOp a op b p) env)::starEach es env:=rfl
theorem Tc {a b:Expr}{op:Operator}{p:Pos}{es:List Expr}{te:TE}{t:TA}(h:PE X (.BinOp a op b p) te)(hr:PA X es t):PA X (.BinOp a op b p::es) (kO te t):=Za h hr Vm
end
end L2
namespace HC
open PySem PySem.SetTable PySem.Spec HS L2
structure gz (w:World)(h:Heap)(S:Addr)(o:Obj)(es:Array (Int×Value))(ep:Nat)(t:SetTable):Prop where
 ho:h.get? S=some o
 ex:o.ExactSet
 hd:o.data=.set es ep t
 T:T0 t es
 R:jh t.mask es.size
 pl:t.plain=true
 ld:t.led= !(w.params.followText "set-order")
theorem Gh {α:Type}(nx:Nat->Nat):∀(fuel k:Nat) (left:List α) (out:Array α),left.length<=fuel->(pickOrder.go nx fuel k left out).toList.Perm (out.toList++left)
 |0,k,left,out,h=>by have:left=[]:=Zb8 (Nat.le_zero.mp h);subst this;show out.toList.Perm (out.toList++[]);rw[ZbE]
 |fuel+1,k,left,out,h=>by
  unfold pickOrder.go;cases left with
  |nil=>simp
  |cons y ys=>
   have aw:nx k%(y::ys).length< (y::ys).length:=Zge _ (by simp);rw[Zaw aw];dsimp only;refine(Gh nx fuel (k+1) _ _ (by rw[List.length_eraseIdx_of_lt aw];omega)).trans ?_;rw[ZbH,ZaY];refine Zdy _ ?_;generalize nx k%(y::ys).length=j at aw;generalize (y::ys)=l at aw;clear h
   induction l generalizing j with
   |nil=>simp at aw
   |cons a l ih=>
    cases j with
    |zero=>simp
    |succ j=>simp only[List.getElem_cons_succ,List.eraseIdx_cons_succ];exact(List.Perm.swap _ _ _).trans (List.Perm.cons a (ih j (by simpa using aw)))
theorem V5 {α:Type}(nx:Nat->Nat)(xs:Array α):(pickOrder nx xs).toList.Perm xs.toList:=by have:=Gh nx xs.size 0 xs.toList #[] (by simp);rw[Zdn]at this;exact this
noncomputable def iK (w:World)(S:Addr)(es:Array (Int×Value))(ep:Nat):Array (Int×Value):=if w.params.followText "set-order" =true then pickOrder (w.params.setOrder S ep) es else es
theorem yo (w:World)(S:Addr)(es:Array (Int×Value))(ep:Nat):(iK w S es ep).toList.Perm es.toList:=by
 unfold iK;split
 ·exact V5 _ _
 ·exact .refl _
noncomputable def jV (w:World)(t:SetTable):Nat->Nat
 |0=>0
 |i+1=>if w.params.followText "set-order" =true then 0 else t.place.getD i 0+1
noncomputable abbrev dh (w:World) (S:Addr) (t:SetTable) (n ep i:Nat):Obj:= {cls:=.type "set_iterator",data:=.fields #[rawInt (jV w t i),rawInt i,.ref S,rawInt n,rawInt ep]}
theorem ZO:Slot "set_iterator" "__next__" "set_iterator.__next__" :=
 .of (owner:= "set_iterator") (n:= "__next__") (by rw[ZgW,Zfr];kernel_rfl) (by decide+kernel) (by decide+kernel) (by decide+kernel)
  (by first |exact .inl (by decide+kernel) |exact .inr (by decide+kernel)) (by rw[isSubtype_type];kernel_rfl)
theorem YD:entryFor table "set_iterator.__next__" =some Builtin.«set_iterator.__next__» :=entryFor_of_tree (by kernel_rfl)
theorem YK (a:Value):argsOk "set_iterator.__next__" ⟨[a],[]⟩:=by unfold argsOk;kernel_rfl
theorem Wg:entryFor table "set.__iter__" =some Builtin.«frozenset.__iter__» :=
 Zhd (id':= "frozenset.__iter__") (by kernel_rfl) rfl (by decide+kernel) (by kernel_rfl)
section
variable {prog:Program}{w:World}{A:Around}{E:Value->Shared->Prop}{s:Shared}{S it:Addr}{o:Obj}{es:Array (Int×Value)}{ep:Nat}{t:SetTable}
theorem gz.fits (X:gz w s.heap S o es ep t):t.fits es.size=true:=X.T.fits (by have:=X.R.lt;omega)
theorem Hc (hb:w.params.followText "set-order" =true)(t:SetTable):∀i,jV w t i=0
 |0=>rfl
 |i+1=>ZaQ hb
theorem Hd (hb:¬w.params.followText "set-order" =true)(t:SetTable)(i:Nat):jV w t (i+1)=t.place.getD i 0+1:=Zaz hb
theorem ZaW {i:Nat}(hb:¬w.params.followText "set-order" =true)(X:gz w s.heap S o es ep t)(hi:i<=es.size):below t.place (jV w t i)=i:=by
 have hz:=X.T.sz;cases i with
 |zero=>
  show below t.place 0=0;obtain⟨b1,b2,b3⟩:=Yq (xs:=t.place) (j:=0) X.T.jz;rcases ZfV (below t.place 0) with z |z
  ·exact z
  ·have:=b2 0 .o z;omega
 |succ i=>
  rw[Hd hb];have aY:i<t.place.size:=.o;have e:t.place.getD i 0=t.place[i]:=by simp[aY]
  rw[e];obtain⟨b1,b2,b3⟩:=Yq (xs:=t.place) (j:=t.place[i]+1) X.T.jz;have k1:i<below t.place (t.place[i]+1):=by
   rcases Nat.lt_or_ge i (below t.place (t.place[i]+1)) with z |z
   ·exact z
   ·have:=b3 i aY z;omega
  have k2:below t.place (t.place[i]+1)<=i+1:=by
   rcases Nat.lt_or_ge (i+1) (below t.place (t.place[i]+1)) with z |z
   ·have EG:i+1<t.place.size:=.o;have h1:=b2 (i+1) EG z;have h2:=AA X.T.jz aY EG (ZeL i);omega
   ·exact z
  omega
theorem ZbN {i:Nat}{Q:Option (Value×Nat)->Shared->Prop}(X:gz w s.heap S o es ep t)(hi:i<=es.size)
  (h1:∀e,(iK w S es ep)[i]? =some e->Q (some (e.2,jV w t (i+1))) s) (h2:(iK w S es ep)[i]? =none->Q none s):
  wpAny (model prog w) A (setNext S (jV w t i) i ep) Q E s:=by
 unfold setNext setsByText;refine eg (Zc9 X.ho X.hd X.fits ?_);dsimp only;refine eg (eg (ZdO (gc ?_)));show wpAny _ _ (if w.params.followText "set-order" =true then _ else _) _ _ _;unfold iK at h1 h2;by_cases hb:w.params.followText "set-order" =true
 ·rw[ZaQ hb]at h1 h2 |-;rw[Hc hb];rw[Hc hb]at h1;simp only[Zea,Zax,ZbI];unfold setWalk setsByText;refine eg (eg (Zc9 X.ho X.hd X.fits ?_));dsimp only;refine eg (eg (ZdO (gc ?_)));show wpAny _ _ (if w.params.followText "set-order" =true then _ else _) _ _ _;rw[ZaQ hb];refine eg (ZdO (gc ?_));refine gc ?_;show Q (((pickOrder (w.params.setOrder S ep) es)[i]?).map fun e=> (e.2,0)) s;cases hx:(pickOrder (w.params.setOrder S ep) es)[i]? with
  |none=>exact h2 hx
  |some e=>exact h1 e hx
 ·rw[Zaz hb]at h1 h2 |-;have za:t.led=true:=by rw[X.ld];simpa using hb
  refine ZfM (fun hc=>absurd hc ?_) (fun _=> ?_)
  ·show ¬((!t.plain&&decide (es.size>1))=true);rw[X.pl];simp
  refine eg ?_;show wpAny _ _ (if (!t.led&& !es.isEmpty)=true then _ else _) _ _ _;rw[za];simp only[Zb1,Zfl,Zax,ZbI];refine gc ?_;refine gc ?_;rw[ZaW hb X hi];rw[Hd hb]at h1;have hz:=X.T.sz;cases hx:es[i]? with
  |none=>exact h2 hx
  |some e=>
   have aw:i<es.size:=(Zbm.mp hx).1;have hp:t.place[i]? =some (t.place.getD i 0):=by simp[hz,aw]
   rw[hp];exact h1 e hx
theorem XY {Q:Value->Shared->Prop}(X:gz w s.heap S o es ep t)(h:Q (.ref s.heap.objs.size) {s with heap:=s.heap.push (dh w S t es.size ep 0)}):wpAny (model prog w) A (pyIter (.ref S)) Q E s:=by
 have hT:s.TypeIs (.ref S) "set" :=⟨o,X.ho,X.ex.1⟩;refine Zfk hT F.slot_set_iter (Zbn F.slot_set_iter hT Wg ?_ (F.args_set_iter_1 _));unfold Builtin.«frozenset.__iter__» Builtin.Frozenset.slot0 slotArgs;simp only[ZgC,Zb1,Zax, ↓reduceIte,bind_assoc,ZcN,Zea];unfold Builtin.Frozenset.addrOf Builtin.Frozenset.sizeOf;refine eg (gc ?_)
 try dsimp only
 refine eg (gc ?_);refine eg (eg (wpAny_setEntries_of X.ho X.hd X.fits (gc ?_)));unfold setDrawn setsByText;refine eg (eg (Zc9 X.ho X.hd X.fits ?_));dsimp only;refine eg (eg (ZdO (gc ?_)));refine gc ?_;refine ZfM (fun hc=>absurd hc ?_) (fun _=> ?_)
 ·show ¬((!(w.params.followText "set-order")&&(!t.plain&&decide (es.size>1)))=true);rw[X.pl];simp
 refine eg (gc ?_);unfold setEpoch;refine eg (eg (Zc9 X.ho X.hd X.fits (gc ?_)));exact eg (Zbs (gc ⟨_,rfl, "set_iterator",_,⟨_,Zar _ rfl,rfl⟩,ZO.lookup,h⟩))
def vI (w:World)(S it:Addr)(o:Obj)(es:Array (Int×Value))(ep:Nat)(t:SetTable)(i:Nat)(s:Shared):Prop:=gz w s.heap S o es ep t/\s.heap.get? it=some (dh w S t es.size ep i)
theorem gz.keep {h h':Heap}(X:gz w h S o es ep t)(k:∀o,h.get? S=some o->h'.get? S=some o):gz w h' S o es ep t:=⟨k _ X.ho,X.ex,X.hd,X.T,X.R,X.pl,X.ld⟩
theorem yn (w:World)(S:Addr)(es:Array (Int×Value))(ep:Nat):(iK w S es ep).size=es.size:=by have:=(yo w S es ep).length_eq;rw[Zau,Zau]at this;exact this
theorem WI {i:Nat}{Q:PySem.Fin->Shared->Prop}(hi:i<=es.size)(h:vI w S it o es ep t i s)(ne:S≠it)
  (h1:∀e h',(iK w S es ep)[i]? =some e->Heap.SameBut it s.heap h'->vI w S it o es ep t (i+1) {s with heap:=h'}->Q (.done (.ret e.2)) {s with heap:=h'})
  (h2:∀h',(iK w S es ep)[i]? =none->Heap.SameBut it s.heap h'->wpAny (model prog w) A (do raiseNew (<-newExc (.type "StopIteration") [])) Q E {s with heap:=h'}):
  wpAny (model prog w) A (Builtin.«set_iterator.__next__» ⟨[.ref it],[]⟩) Q E s:=by
 obtain⟨X,hit⟩:=h;unfold Builtin.«set_iterator.__next__» slotArgs;simp only[ZgC,Zb1,Zax, ↓reduceIte,bind_assoc,ZcN,Zea];refine eg (gc ?_);refine eg (Zhc hit rfl ?_);dsimp only;refine eg (wpAny_setEntries_of X.ho X.hd X.fits ?_);show wpAny _ _ (if (((es.size:Nat):Int) !=((es.size:Nat):Int))=true then _ else _) _ _ _;rw[Zea,Zaz Zag];show wpAny _ _ (setNext S ((jV w t i:Nat):Int).toNat ((i:Nat):Int).toNat ((ep:Nat):Int).toNat >>=_) _ _ _;rw[Zbu,Zbu,Zbu];refine eg (ZbN X hi (fun e he=> ?_) (fun he=> ?_))
 ·dsimp only;refine eg (ZdY hit rfl (by simp) ?_);have g1:(s.heap.update it (Obj.mapFields (·.setIfInBounds 0 (rawInt (jV w t (i+1)))))).get? it=some _:=Zc2 _ hit (ZeC (Zdo rfl _));refine eg (ZdY g1 (Zdo rfl _) (by simp) ?_);have g2:=Zc2 (Obj.mapFields (·.setIfInBounds 1 (rawInt ((i:Int)+1)))) g1 (ZeC (Zdo (Zdo rfl _) _));have sb:=(Zct s.heap it (Obj.mapFields (·.setIfInBounds 0 (rawInt (jV w t (i+1)))))).trans (Zct _ it (Obj.mapFields (·.setIfInBounds 1 (rawInt ((i:Int)+1)))));refine gc (h1 e _ he sb ⟨X.keep fun o' e'=> (sb.2 S ne).trans e',?_⟩);exact g2
 ·dsimp only;refine eg (ZdY hit rfl (by simp) ?_);exact h2 _ he (Zct ..)
end
theorem YJ:Slot "set_iterator" "__iter__" "set_iterator.__iter__" :=
 .of (owner:= "set_iterator") (n:= "__iter__") (by rw[ZgW,Zfr];kernel_rfl) (by decide+kernel) (by decide+kernel) (by decide+kernel)
  (by first |exact .inl (by decide+kernel) |exact .inr (by decide+kernel)) (by rw[isSubtype_type];kernel_rfl)
theorem JV:entryFor table "set_iterator.__iter__" =some Builtin.«dict_keyiterator.__iter__» :=
 Zhd (id':= "dict_keyiterator.__iter__") (by kernel_rfl) rfl (by decide+kernel) (by kernel_rfl)
theorem Wh (a:Value):argsOk "set_iterator.__iter__" ⟨[a],[]⟩:=by unfold argsOk;kernel_rfl
theorem U9:typeLookup (.type "set") "__len__" =pure (some (.builtin "set.__len__")):=by rw[ZgW,Zfr];kernel_rfl
section
variable {prog:Program}{w:World}{A:Around}{E:Value->Shared->Prop}{s:Shared}{S it:Addr}{o:Obj}{es:Array (Int×Value)}{ep:Nat}{t:SetTable}
theorem Zb3 {Q:PySem.Fin->Shared->Prop}(hh:A.handled=none)(q:∀h' e,(∀b o,s.heap.get? b=some o->h'.get? b=some o)->(∃o,h'.get? e=some o/\o.cls=.type "StopIteration")->E (.ref e) {s with heap:=h'}):
  wpAny (model prog w) A (do raiseNew (<-newExc (.type "StopIteration") [])) Q E s:=by
 refine eg ?_;simp only[newExc,newTuple];refine eg (Zbs ?_ (by size_fits));refine eg (m:=firstArgMember _ _) (ZeO (a:=Value.none) (by first |rfl |(simp only[firstArgMember];rfl)) ?_);refine Zbs ?_ (by size_fits);simp only[raiseNew];refine eg (Zgp ?_);rw[hh];refine eg (gc (Zhf ?_));exact q _ _ (fun b o e=>Zad _ (Zad _ e)) ⟨_,Zar _ rfl,rfl⟩
theorem Ic (hh:A.handled=none)(ne:S≠it):WalksS prog w A it [it,S] [it] (fun a b=>b=a) es.size (fun i v=> ∃e,(iK w S es ep)[i]? =some e/\v=e.2) (vI w S it o es ep t) where
 sub:=fun b hb=>by rw[Zas.mp hb];simp
 grefl:=fun _=>rfl
 gtrans:=fun _ _ _ h1 h2=>h2.trans h1
 frame:=fun i s h' tk st _ k=> ⟨st.1.keep fun o e=>k S (by simp) o e,k it (by simp) _ st.2⟩
 item:=fun i s Q E hi st q=>by
  have hT:s.TypeIs (.ref it) "set_iterator" :=⟨_,st.2,rfl⟩;unfold pyNext;refine eg (ZdU (ZbL (name:=Str.ofString "__next__") hT ZO (Zbn ZO hT YD (WI (A:=A.in1) (ZdQ hi) st ne (fun e h' he sb af=> ⟨_,rfl,gc ?_⟩) (fun h' he _=> ?_)) (YK _))))
  ·exact q e.2 _ ⟨e,he,rfl⟩ af ⟨fun b o hb eb=> (sb.2 b (fun z=>hb (by rw[z];exact Zas.mpr rfl))).trans eb,rfl,rfl,rfl,Zak _⟩
  ·rw[Array.getElem?_eq_none_iff,yn]at he;omega
 done:=fun s Q E st q=>by
  have hT:s.TypeIs (.ref it) "set_iterator" :=⟨_,st.2,rfl⟩;unfold pyNext;refine eg (ZdU (ZbL (name:=Str.ofString "__next__") hT ZO (Zbn ZO hT YD (WI (A:=A.in1) (Zak _) st ne (fun e h' he sb af=> ?_) (fun h' he sb=>Zb3 (show A.in1.handled=none from hh) fun h2 e k ⟨oe,ge,ce⟩=> ?_)) (YK _))))
  ·have:=(Zbm.mp he).1;rw[yn]at this;omega
  ·refine eg (ZdP (T:= "StopIteration") (b:=true) ⟨oe,ge,ce⟩ Zg8 (gc (q _ ⟨fun b o hb eb=>k b o ((sb.2 b (fun z=>hb (by rw[z];exact Zas.mpr rfl))).trans eb),rfl,rfl,rfl,Zak _⟩)))
 self:=fun i s Q E st q=>by have hT:s.TypeIs (.ref it) "set_iterator" :=⟨_,st.2,rfl⟩;refine Zfk hT YJ (Zbn YJ hT JV ?_ (Wh _));exact(show wpAny _ _ (ret (.ref it)) _ _ s from gc ⟨_,rfl, "set_iterator",_,hT,ZO.lookup,q⟩)
theorem Q2 {Q:List Value->Shared->Prop}(hh:A.handled=none)(X:gz w s.heap S o es ep t)
  (h:∀h' tk acc,(∀b o,s.heap.get? b=some o->h'.get? b=some o)->s.heap.objs.size<=h'.objs.size->ItemsOf (fun i v=> ∃e,(iK w S es ep)[i]? =some e/\v=e.2) acc es.size->Q acc.toList {s with heap:=h',toks:=tk}):wpAny (model prog w) A (collect (.ref S)) Q E s:=by
 have aw:S<s.heap.objs.size:=ZaC X.ho;unfold collect;refine eg (wpAny_runValue (Zc4 F.entry_proto_collect ?_));rw[Zcw F.plain_proto_collect _];refine(show wpAny _ A.in1 (newList [] >>=fun l=>again (.builtin "list.__iadd__" ⟨[l,.ref S],[]⟩)) _ _ s from eg (Zbs ?_));refine gc ⟨Zdp F.plain_list_iadd _,Zc4 F.entry_list_iadd ?_⟩;rw[Zcw F.plain_list_iadd _];generalize hL:s.heap.objs.size=L;rw[hL]at aw;have gL:(s.heap.push {cls:=.type "list",data:=.seq ([]:List Value).toArray}).get? L=some {cls:=.type "list",dict:=none,data:=.seq #[] 0,slots:= #[]} :=by rw[<-hL];exact Zar _ rfl
 have X1:gz w (s.heap.push {cls:=.type "list",data:=.seq ([]:List Value).toArray}) S o es ep t:=X.keep fun o e=>Zad _ e;have O7:Shared.TypeIs {s with heap:=s.heap.push {cls:=.type "list",data:=.seq ([]:List Value).toArray} } (.ref S) "set" :=⟨o,X1.ho,X.ex.1⟩;show wpAny _ A.in1 (Builtin.List.listExtendWith (.ref L) (.ref S) (.ref L)) _ _ _;unfold Builtin.List.listExtendWith;refine eg (Zfn O7 ?_);have nS:Builtin.List.listSameRef (.ref L) (.ref S)=false:=by show(L==S)=false;rw[Zee];exact Zdq aw
 rw[Zaz (by rw[nS];decide)];refine eg (XY X1 ?_);have hsz:(s.heap.push {cls:=.type "list",data:=.seq ([]:List Value).toArray}).objs.size=L+1:=by rw[Zc5,hL]
 dsimp only;rw[hsz];refine eg (ZbA ?_);unfold Builtin.List.listLengthHint;have zA:Shared.TypeIs {s with heap:=(s.heap.push {cls:=.type "list",data:=.seq ([]:List Value).toArray}).push (dh w S t es.size ep 0)} (.ref S) "set" :=⟨o,Zad _ X1.ho,X.ex.1⟩;refine eg (ZdL zA U9 ?_);dsimp only;rw[show splitId "set.__len__" =some ("set", "__len__") from by decide+kernel];dsimp only;refine eg (ZdP (b:=true) zA sub_set_self ?_);simp only[Zb1,Zax,ZbI];refine ZfM (fun _=> ?_) (fun hc=>absurd (by rfl) hc);refine eg (Zfn zA ?_);refine gc ?_;refine ZfM (fun _=> ?_) (fun hc=>absurd (by rfl) hc);refine eg (Zdt ?_);have EK:((s.heap.push {cls:=.type "list",data:=.seq ([]:List Value).toArray}).push (dh w S t es.size ep 0)).get? L=some {cls:=.type "list",dict:=none,data:=.seq #[] 0,slots:= #[]} :=Zad _ gL;have Px:((s.heap.push {cls:=.type "list",data:=.seq ([]:List Value).toArray}).push (dh w S t es.size ep 0)).get? (L+1)=some (dh w S t es.size ep 0):=by rw[<-hsz];exact Zar _ rfl
 have X2:gz w ((s.heap.push {cls:=.type "list",data:=.seq ([]:List Value).toArray}).push (dh w S t es.size ep 0)) S o es ep t:=X1.keep fun o e=>Zad _ e;unfold Builtin.List.listTouch;refine eg (eg (ZfQ EK rfl ?_ .d));obtain⟨n3,g3⟩:∃n3,(((s.heap.push {cls:=.type "list",data:=.seq ([]:List Value).toArray}).push (dh w S t es.size ep 0)).update L (Obj.mapSeq (·.push .none))).get? L=some (PyProof.Rows.seqObj "list" #[.none] n3):=⟨_,ZfE EK (·.push .none)⟩;refine ZfQ g3 rfl ?_ .d;obtain⟨n4,g4⟩:∃n4,((((s.heap.push {cls:=.type "list",data:=.seq ([]:List Value).toArray}).push (dh w S t es.size ep 0)).update L (Obj.mapSeq (·.push .none))).update L (Obj.mapSeq (·.pop))).get? L=some (PyProof.Rows.seqObj "list" #[] n4):=⟨_,ZfE g3 (·.pop)⟩;have ug:∀b o,b≠L->((s.heap.push {cls:=.type "list",data:=.seq ([]:List Value).toArray}).push (dh w S t es.size ep 0)).get? b=some o->((((s.heap.push {cls:=.type "list",data:=.seq ([]:List Value).toArray}).push (dh w S t es.size ep 0)).update L (Obj.mapSeq (·.push .none))).update L (Obj.mapSeq (·.pop))).get? b=some o:=fun b o hb e=>by rw[ZeR _ _ _ _ hb,ZeR _ _ _ _ hb];exact e
 generalize (((s.heap.push {cls:=.type "list",data:=.seq ([]:List Value).toArray}).push (dh w S t es.size ep 0)).update L (Obj.mapSeq (·.push .none))).update L (Obj.mapSeq (·.pop))=h4 at g4 ug;have eG:vI w S (L+1) o es ep t 0 {s with heap:=h4} :=⟨X2.keep fun o e=>ug S o (Za1 aw) e,ug _ _ (Zft L) Px⟩;have W:=Ic (prog:=prog) (w:=w) (A:=A.in1) (S:=S) (it:=L+1) (o:=o) (es:=es) (ep:=ep) (t:=t) (show A.in1.handled=none from hh) (Za1 (Zc8 aw));have Om:L∉[L+1,S]:=by simp only[Zav,ZcB,ZdT,not_or];exact⟨(Zft L).symm,Zdq aw⟩
 have uO:es.size<=sizeLine:=by have:=X.R.small;rw[ZaX];omega
 refine gc ⟨Zdp F.plain_extend_loop _,codeAny_extend_loopS W uO L Om _ es.size 0 _ _ _ rfl (ZaM _) eG g4 (ItemsOf.nil _) fun s' Ra c' hm cT nA=> ?_⟩;show wpAny _ A (load L >>=_) _ _ s';refine eg (wpAny_load cT ?_);obtain⟨h',g',d',iB,qw⟩:=s';obtain rfl:g'=s.gens:=hm.gens;obtain rfl:d'=s.drawn:=hm.drawn;obtain rfl:qw=s.os:=hm.os;refine gc (h h' iB Ra (fun b ob eb=> ?_) (by rw[hL];exact ZdQ (ZaC cT)) nA);have hb:b<L:=by rw[<-hL];exact ZaC eb
 refine hm.heap b ob ?_ (ug b ob (Za1 hb) (Zad _ (Zad _ eb)));simp only[Zav,ZcB,ZdT,not_or];exact⟨Za1 hb,Za1 (Zc8 hb)⟩
end
end HC
namespace HC
open PySem PySem.SetTable PySem.Spec HS
section
variable {prog:Program}{w:World}{K:Type} [DecidableEq K] {knd:HeapKind prog w K}{A:Around}{E:Value->Shared->Prop}{s:Shared}
structure jS (knd:HeapKind prog w K):Prop where
 hk:HK knd
 Fd:∀{A:Around}{E:Value->Shared->Prop}{s:Shared}{k:K}{a:Addr}{Q:Bool->Shared->Prop},knd.is s.heap k a->Q true s->wpAny (model prog w) A (hashByValue 8 (.ref a)) Q E s
 keep:∀{h h':Heap}{ws:List Addr}{k:K}{a:Addr},(∀b∈ws,nP h b)->(∀b o,b∉ws->h.get? b=some o->h'.get? b=some o)->knd.is h k a->knd.is h' k a
structure A2 (knd:HeapKind prog w K)(h:Heap)(S:Addr)(ks:List K)(o:Obj)(es:Array (Int×Value))(ep:Nat)(t:SetTable):Prop where
 b:aab knd h S ks o es ep t
 pl:t.plain=true
 ld:t.led= !(w.params.followText "set-order")
theorem A2.core {h:Heap}{S:Addr}{ks:List K}{o:Obj}{es:Array (Int×Value)}{ep:Nat}{t:SetTable}(X:A2 knd h S ks o es ep t):gz w h S o es ep t:=⟨X.b.ho,X.b.ex,X.b.hd,X.b.T,X.b.room,X.pl,X.ld⟩
def fA (knd:HeapKind prog w K)(h:Heap)(S:Addr)(ks:List K):Prop:=∃o es ep t,A2 knd h S ks o es ep t
theorem WR {m fi mo:Nat}{le pl:Bool}{hs:Array Int}{t:SetTable}{order:Array Nat}(e:laid m fi mo le pl hs=some (t,order)):t.plain=pl/\t.led=le:=by
 unfold laid at e;cases hl:layClean m hs with
 |none=>rw[hl]at e;cases e
 |some owner=>rw[hl]at e;injection e with e;injection e with e1 e2;rw[<-e1];exact⟨rfl,rfl⟩
theorem Xj {S:Addr}{o:Obj}{es:Array (Int×Value)}{ep:Nat}{t:SetTable}{Q:Unit->Shared->Prop}(ho:s.heap.get? S=some o)(hd:o.data=.set es ep t)(hf:t.fits es.size=true){wanted:Nat}(hm:ir (sizeAbove wanted-1))(hw:sizeAbove wanted<=512)(hl:es.size<=sizeAbove wanted-1)
  (h:∀dI t',t'.mask=sizeAbove wanted-1->T0 t' dI->dI.toList.Perm es.toList->t'.plain=t.plain->t'.led=t.led->Q () {s with heap:=s.heap.update S (Obj.putSet dI t')}):wpAny (model prog w) A (setRelay S wanted) Q E s:=by
 unfold setRelay;refine eg (Zc9 ho hd hf ?_);dsimp only;rw[Zaz (by rw[ZaX];omega)];obtain⟨t',order,e,em,T',pm⟩:=Xo hm es .o t.finger (t.movedTo (sizeAbove wanted-1)) t.led t.plain;have er:t.relaid (es.map (·.1)) wanted=some (t',order):=e;rw[er];refine eg ?_;have hz:(order.filterMap (es[·]?)).size=es.size:=by rw[<-Zau,pm.length_eq,Zau]
 refine(show wpAny _ _ (if ((order.filterMap (es[·]?)).size !=es.size)=true then _ else pure _) _ _ s from ?_);rw[Zaz (by rw[hz];simp)];refine gc ?_;dsimp only;refine wpAny_storeSet_of ho hd (h _ _ em T' pm (WR e).1 (WR e).2) (by rw[hz,ZaX];omega)
theorem F5 (hp:jS knd){S x:Addr}{k:K}{ks:List K}{Q:Bool->Shared->Prop}(hroom:knd.room A)(hx:knd.is s.heap k x)(H:fA knd s.heap S ks)(hn:ks.length+1<=306)
  (h:∀h' b,Heap.SameBut S s.heap h'->fA knd h' S (if k∈ks then ks else ks++[k])->Q b {s with heap:=h'}):
  wpAny (model prog w) A (setAddHashed S (.ref x) (knd.hash k)) Q E s:=by
 obtain⟨o,es,ep,t,HP⟩:=H;have H:=HP.b;have hk:=hp.hk;have lV:=H.T.fits (ZdQ (Zda H.room.lt));unfold setAddHashed setAddHashedIn;refine ZbA (eg (Zc9 H.ho H.hd lV ?_));dsimp only;have hb:byScan (.ref x) es=false:=rfl;rw[hb];simp only[Zax,ZbI];obtain⟨f,hf,OL⟩:=H.T.free (by have:=H.room.lt;omega);obtain⟨n,yX,uP,uO⟩:=X3 (dz:=(·∈t.place.toList)) H.room.uu (knd.hash k) hf OL;have odd:t.mask%2=1:=by rcases H.room.uu with q |q |q |q<;>rw[q]
 unfold setSearch;refine eg ?_;refine Up hk hroom hx H.ho H.hd H.T odd (by have:=H.room.lt;omega) (fun e he=>let ⟨k',_,el⟩:=H.el e he;⟨k',el⟩) yX uP uO (fun NK=> ?_) (fun OJ=> ?_) n 100000 0 none .o ?_ rfl (fun i' aY=>absurd aY (Zeb _))
 ·dsimp only;refine gc ?_;have cF:k∈ks:=by obtain⟨e,he,a,ea,m6,_⟩:=NK;obtain⟨k',aG,a',E3,OE,_⟩:=H.el e he;rw[ea]at E3;cases E3;rw[knd.inj m6 OE];exact aG
  have:=h s.heap false (Heap.SameBut.refl _ _) (by rw[ZaQ cF];exact⟨o,es,ep,t,HP⟩);exact this
 ·dsimp only;have cF:k∉ks:=fun m=>OJ (H.all k m);refine eg (Zc9 H.ho H.hd lV ?_);dsimp only;generalize OO:(it t.mask (st t.mask (knd.hash k)) n).j=f';have Tp:=fun pl=>H.T.put (x:=.ref x) uP uO pl;rw[OO]at Tp;have nE:(insertAt es (t.put f').2 (knd.hash k,.ref x)).size=es.size+1:=by rw[<-Zau,(insertAt_perm es _ _).length_eq,Zau,Array.size_push]
  have zL:∀e,e∈(insertAt es (t.put f').2 (knd.hash k,Value.ref x)).toList↔e∈es.toList∨e=(knd.hash k,Value.ref x):=fun e=>by rw[(insertAt_perm es _ _).mem_iff,ZbH,ZaO,Zas]
  have oY:∀e∈(insertAt es (t.put f').2 (knd.hash k,Value.ref x)).toList,∃k'∈ks++[k],iz knd s.heap k' e:=fun e he=>by
   rcases (zL e).mp he with q |q
   ·obtain⟨k',h1,h2⟩:=H.el e q;exact⟨k',Za3 _ h1,h2⟩
   ·exact⟨k,by simp,x,by rw[q],hx,by rw[q]⟩
  have Et:∀k'∈ks++[k],∃e∈(insertAt es (t.put f').2 (knd.hash k,Value.ref x)).toList,iz knd s.heap k' e:=fun k' aG=>by
   rcases ZaO.mp aG with q |q
   ·obtain⟨e,h1,h2⟩:=H.all k' q;exact⟨e,(zL e).mpr (.inl h1),h2⟩
   ·rw[Zas.mp q];exact⟨_,(zL _).mpr (.inr rfl),x,rfl,hx,rfl⟩
  have D6:(insertAt es (t.put f').2 (knd.hash k,Value.ref x)).size=(ks++[k]).length:=by rw[nE,Zaj,Zdx,H.sz]
  have h':=fun h' b=>h h' b;rw[Zaz cF]at h';generalize aa0:insertAt es (t.put f').2 (knd.hash k,Value.ref x)=rL at *
  have tail:∀t1,(∃pl,pl=true/\t1= {(t.put f').1 with plain:=pl})->wpAny (model prog w) A (storeSet S rL t1 >>=fun _=>if (!false&&t1.tooFull)=true then (setRelay S (grown (es.size+1)) >>=fun _=>pure true) else pure true) Q E s:=by
   rintro t1 ⟨pl,fP,rfl⟩;have T1:=Tp pl;have g1:=Gk H.ho H.hd rL {(t.put f').1 with plain:=pl};have sb:=Zct s.heap S (Obj.putSet rL {(t.put f').1 with plain:=pl});refine eg (wpAny_storeSet_of H.ho H.hd ?_ (by rw[nE,ZaX];have:=H.room.small;omega));have fill:({(t.put f').1 with plain:=pl} :SetTable).tooFull=decide ((es.size+1)*5>=t.mask*3):=by
    unfold SetTable.tooFull SetTable.fill;have a:({(t.put f').1 with plain:=pl} :SetTable).place.size=es.size+1:=by rw[T1.sz,nE]
    have b:=T1.vn;rw[b,a];rfl
   rw[fill];rcases grow H.room (by rw[H.sz];exact hn) with ⟨q1,q2,q3⟩ |⟨q1,q2⟩
   ·rw[Zaq q1];simp only[Zd0,Zgs,ZdC];refine eg (Xj g1 rfl (T1.fits (by rw[nE];exact ZdQ H.room.lt)) q2.uu q3 (by have:=q2.lt;rw[nE];omega) fun vj t2 P5 T2 yk cO M9=>gc (h' _ true (sb.trans (Zct _ S _)) ?_));have bT:vj.size=rL.size:=by rw[<-Zau,yk.length_eq,Zau]
    have Cw:=sb.trans (Zct _ S (Obj.putSet vj t2));refine⟨_,vj,ep+1+1,t2,⟨Gk g1 rfl vj t2,H.ex,rfl,T2,by rw[P5,bT,nE];exact q2,fun e he=>let ⟨k',a,b⟩:=oY e (yk.mem_iff.mp he);⟨k',a,Y5 hk H.ho H.hd Cw b⟩,fun k' aG=>let ⟨e,a,b⟩:=Et k' aG;⟨e,yk.mem_iff.mpr a,Y5 hk H.ho H.hd Cw b⟩,by rw[bT,D6]⟩,cO.trans fP,M9.trans HP.ld⟩
   ·rw[ZaF q1];simp only[Zd0,ZeI,Zax,ZbI];refine gc (h' _ true sb ?_);refine⟨_,rL,ep+1,_,⟨g1,H.ex,rfl,T1,by rw[nE];exact q2,fun e he=>let ⟨k',a,b⟩:=oY e he;⟨k',a,Y5 hk H.ho H.hd sb b⟩,fun k' aG=>let ⟨e,a,b⟩:=Et k' aG;⟨e,a,Y5 hk H.ho H.hd sb b⟩,D6⟩,fP,HP.ld⟩
  have EW:({(t.put f').1 with plain:=true} :SetTable)=(t.put f').1:=by have:(t.put f').1.plain=true:=HP.pl;rw[<-this]
  split
  ·refine eg (hp.Fd hx ?_);have:=tail _ ⟨true,rfl,rfl⟩;rw[EW]at this;exact this
  ·refine eg (gc ?_);have:=tail _ ⟨true,rfl,rfl⟩;rw[EW]at this;exact this
 ·have:10*turns t.mask<=5260:=by unfold turns;rcases H.room.uu with q |q |q |q<;>rw[q]<;>decide
  omega
end
section
variable {K:Type} [DecidableEq K] {prog:Program}{w:World}{knd:HeapKind prog w K}{A:Around}{E:Value->Shared->Prop}{s:Shared}{R:Result->Shared->Prop}{I:Addr}{fp wr:List Addr}{G:Array GenState->Array GenState->Prop}{n:Nat}{P:Nat->Value->Prop}{St:Nat->Shared->Prop}
theorem Uw (hp:jS knd){h h':Heap}{ws:List Addr}{S:Addr}{ks:List K}(hw:∀b∈ws,nP h b)(hS:S∉ws)(fZ:∀b o,b∉ws->h.get? b=some o->h'.get? b=some o)(x:fA knd h S ks):fA knd h' S ks:=by obtain⟨o,es,ep,t,X⟩:=x;have ke:∀{k:K}{e:Int×Value},iz knd h k e->iz knd h' k e:=fun⟨a,e1,e2,e3⟩=> ⟨a,e1,hp.keep hw fZ e2,e3⟩;exact⟨o,es,ep,t,⟨fZ _ _ hS X.b.ho,X.b.ex,X.b.hd,X.b.T,X.b.room,fun e he=>let ⟨k,a,b⟩:=X.b.el e he;⟨k,a,ke b⟩,fun k hk=>let ⟨e,a,b⟩:=X.b.all k hk;⟨e,a,ke b⟩,X.b.sz⟩,X.pl,X.ld⟩
theorem ZbW {h:Heap}{S:Addr}{ks:List K}(x:fA knd h S ks):nP h S:=by obtain⟨o,es,ep,t,X⟩:=x;exact⟨o,X.b.ho,by rw[X.b.ex.1];decide⟩
theorem MZ (hp:jS knd)(hroom:knd.room A.in1)(W:WalksS prog w A.in1 I fp wr G n P St)(S:Addr)(Ex:S∉fp)(val:Nat->K)(hb:n<=305)(hI:∀i s,St i s->∀b∈wr,nP s.heap b):
  ∀(k i:Nat) (s:Shared),n-i=k->i<=n->St i s->fA knd s.heap S (met val i)->(∀i v,P i v->∃a,v=.ref a/\knd.is s.heap (val i) a)->
   (∀s',Moved (S::wr) G s s'->fA knd s'.heap S (met val n)->R (.ok (.ret .none)) s')->
   codeAny (model prog w) A (.builtin "set.update.loop" ⟨[.ref S,.ref I],[]⟩) R s:=by
 have Ew:S∉wr:=fun h=>Ex (W.sub _ h);have lN:∀b∈wr,b∈S::wr:=fun b hb=>Zae _ hb;intro k
 induction k with
 |zero=>intro i s aG hi fm hS vc hR;have zj:i=n:=.o;subst zj;refine Zc4 ZeJ ?_;rw[Zcw ZdH _];show wpAny _ A.in1 (pyNext (.ref I) >>=_) _ _ s;refine eg (W.done s _ _ fm fun s' hm=> ?_);show wpAny _ A.in1 (ret Value.none) _ _ s';exact gc (hR s' (hm.mono lN) (Uw hp (hI _ _ fm) Ew (fun b o hb e=>hm.heap b o hb e) hS))
 |succ k ih=>
  intro i s aG hi fm hS vc hR;have aw:i<n:=.o;refine Zc4 ZeJ ?_;rw[Zcw ZdH _];show wpAny _ A.in1 (pyNext (.ref I) >>=_) _ _ s;refine eg (W.item i s _ _ aw fm fun v s' hP NQ hm=> ?_);have kp:∀b o,b∉wr->s.heap.get? b=some o->s'.heap.get? b=some o:=fun b o hb e=>hm.heap b o hb e;have cT:=Uw hp (hI _ _ fm) Ew kp hS;have EB:∀i v,P i v->∃a,v=.ref a/\knd.is s'.heap (val i) a:=fun i v hv=>let ⟨a,e,x⟩:=vc i v hv;⟨a,e,hp.keep (hI _ _ fm) kp x⟩;obtain⟨a,rfl,m6⟩:=EB i v hP;show wpAny _ A.in1 (holding [Value.ref a] (setAdd S (.ref a)) >>=_) _ _ s';refine eg (ZbA ?_);unfold setAdd;refine ZbA ?_;refine eg (knd.pyHash hroom m6 ?_);refine F5 (s:= {s' with toks:=s'.toks+knd.draws (val i)}) hp hroom m6 cT (by have:=AK val i;omega) fun h' b sb l5=> ?_;have K5:∀b o,b∉[S]->s'.heap.get? b=some o->h'.get? b=some o:=fun b o hb e=>by rw[sb.2 b (fun z=>hb (by rw[z];exact Zas.mpr rfl))];exact e
  have nS:∀b∈[S],nP s'.heap b:=fun b hb=>by rw[Zas.mp hb];exact ZbW cT
  refine gc ⟨Zdp ZdH _,ih (i+1) _ .o aw (W.frame _ s' _ _ NQ (Zep _ _) fun b hb o e=> ?_) (by rw[Jv];exact l5) (fun i v hv=>let ⟨a,e,x⟩:=EB i v hv;⟨a,e,hp.keep nS K5 x⟩) fun mO Ov Pa=> ?_⟩
  ·rw[sb.2 b (fun h:b=S=>Ex (by rw[<-h];exact hb))];exact e
  ·refine hR mO (Moved.trans W.gtrans ((hm.mono lN).then_heap (Zep _ _) fun b o hb e=> ?_) Ov) Pa;rw[sb.2 b (fun h:b=S=>hb (by rw[h];exact Zaf))];exact e
theorem EN {h:Heap}{S:Addr}{led:Bool}(hl:(!(w.params.followText "set-order"))=led)(g:h.get? S=some (g8 led)):fA knd h S []:=by
 refine⟨_, #[],0,_,⟨g,⟨rfl,rfl,rfl⟩,rfl,⟨rfl,.nil,rfl,fun j hj=> ?_,fun z hz=> ?_⟩,.inl ⟨rfl,ZaM _⟩,fun e he=> ?_,fun k hk=> ?_,rfl⟩,rfl,hl.symm⟩
 ·exact absurd hj (by simp[SetTable.fresh])
 ·exact absurd hz (by simp[SetTable.fresh])
 ·exact absurd he (by simp)
 ·exact absurd hk (by simp)
theorem Vj (a:Value){Q₁:Value->Shared->Prop}(h:Q₁ (.ref s.heap.objs.size) {s with heap:=s.heap.push (g8 (!(w.params.followText "set-order")))}):codeAny (model prog w) A (.call (.builtin "set.__new__") ⟨[.type "set",a],[]⟩) (wants Q₁ E) s:=by
 refine ZgQ (show wpAny _ A.in1 (do checkBuiltinCall "set.__new__" ⟨[.type "set",a],[]⟩;again (.builtin "set.__new__" ⟨[.type "set",a],[]⟩)) _ _ s from ?_);refine eg (ZeO (F.newCall_set_1 a) (gc ⟨Zdp F.plain_set_new _,(Zc4 F.entry_set_new ?_)⟩));rw[Zcw F.plain_set_new _];unfold Builtin.«set.__new__» Builtin.Frozenset.newClass;have lN:=sub_set_self;obtain⟨h0,g0,d0,t0,o0⟩:=s;dsimp only
 wp_walk
 refine ZdO (gc ?_);dsimp only;simp only[newObj];exact eg (wpAny_alloc (gc (gc h)))
theorem Q5 {l:Addr}{items:Array Value}{val:Nat->K}{Q:Value->Shared->Prop}
  (hp:jS knd) (hh:A.handled=none) (hu:knd.room A.in1.in1.in1) (hl:s.heap.IsList l items) (hi:∀(i:Nat) (v:Value),items[i]? =some v->∃a,v=.ref a/\knd.is s.heap (val i) a) (hb:items.size<=304)
  (h:∀(h':Heap) (tk:Nat),fA knd h' s.heap.objs.size (met val items.size)->(∀b o,b<s.heap.objs.size->s.heap.get? b=some o->h'.get? b=some o)->Q (.ref s.heap.objs.size) {s with heap:=h',toks:=tk}):
  wpAny (model prog w) A (call (.type "set") [.ref l]) Q E s:=by
 have cS:=F.called_set;obtain⟨c0,tl0,aaT⟩:=cS.mro;have aaU:=cS.made;have aaP:=cS.sub;refine wpAny_call (ZgQ (show wpAny _ _ (callAny (.type "set") _) _ _ _ from ?_));refine gc ⟨Code.quiet_builtin _ (by decide+kernel),Zc4 F.entry_type_call ?_⟩;rw[Around.under_plain (weight_type_call_type "set" [.ref l] []) rfl];have k1:=cS.notType;have k2:=cS.canCreate;have k3:=F.typeCall_set_1 (.ref l)
 repeat (any_goals (first |assumption |wp_step))
 refine ZeT (Vj (.ref l) (E:=E) (Q₁:=fun ob aR=>ob=.ref s.heap.objs.size/\aR= {s with heap:=s.heap.push (g8 (!(w.params.followText "set-order")))}) ⟨rfl,rfl⟩) fun Ld aR zG=> ?_;cases Ld with
 |error e=>exact zG
 |ok PD=>
  cases PD with
  |ret ob=>
   obtain⟨rfl,rfl⟩:=zG;generalize za:(!(w.params.followText "set-order"))=led;have gS:(s.heap.push (g8 led)).get? s.heap.objs.size=some (g8 led):=Zar _ rfl;have tS:Shared.TypeIs {s with heap:=s.heap.push (g8 led)} (.ref s.heap.objs.size) "set" :=⟨_,gS,rfl⟩;have li0:=cS.init.lookup;have bi0:=cS.init.bind (.ref s.heap.objs.size)
   repeat (any_goals (first |assumption |wp_step))
   refine ZeT (codeAny_call_builtin (R:=wants (fun r nV=>r=.none/\∃h' tk,nV= {s with heap:=h',toks:=tk}/\fA knd h' s.heap.objs.size (met val items.size)/\(∀b o,b<s.heap.objs.size->s.heap.get? b=some o->h'.get? b=some o)) E) cS.init.plain F.entry_set_init (check_set_init_1 tS ?_)) fun Lc nV zF=> ?_
   ·obtain⟨⟨lc,ld,lt,ls⟩,oU,lZ,nl,Ek⟩:=hl;simp only at lZ Ek;subst lZ;subst Ek;have Od:=Zad (g8 led) oU;have sl1:=F.sub_list_set;have gA:=F.sub_list_frozenset;have ne0:(Value.type "list" ==Value.type "dict")=false:=.d;have iZ:(s.heap.push (g8 led)).IsList l items:=⟨_,Od,rfl,nl,rfl⟩;unfold Builtin.«set.__init__» noKeywords Builtin.Frozenset.updateFrom;generalize Pc:pyIter=PI
    wp_walk
    subst Pc;refine Zd4 iZ (eg (wpAny_runValue ?_));have Dn:l<s.heap.objs.size:=ZaC oU;have OF:A.in1.in1.in1.handled=none:=by simp[hh]
    have nI:l≠(s.heap.push (g8 led)).objs.size:=by rw[Zc5];exact Za1 (Zc8 Dn)
    have Sf:s.heap.objs.size∉[(s.heap.push (g8 led)).objs.size,l]:=by rw[Zc5];simp only[Zav,Zas,ZcB,ZdT,not_or];exact⟨Za1 (ZeL _),Zdq Dn⟩
    refine MZ (knd:=knd) hp ?hroom ((ZfG OF _ l nI items).toS) s.heap.objs.size Sf val .o ?hI (items.size-0) 0 _ .o (ZaM _) ⟨⟨_,Zar _ rfl,rfl,rfl⟩,(iZ.push _)⟩ ?O9 ?vc ?hR
    case hroom=>exact hu
    case hI=>rintro i s1 ⟨⟨o1,e1,e2,_⟩,_⟩ b hb;rw[Zas.mp hb];exact⟨o1,e1,by rw[e2];decide⟩
    case O9=>exact EN za (Zad _ gS)
    case vc=>intro i v hv;obtain⟨a,e,x⟩:=hi i v hv;refine⟨a,e,hp.keep (ws:=[]) (fun b hb=>absurd hb (by simp)) (fun b o _ eb=>Zad _ (Zad _ eb)) x⟩
    case hR=>rintro⟨h',g',d',iB,qw⟩ hm cT;obtain rfl:g'=s.gens:=hm.gens;obtain rfl:d'=s.drawn:=hm.drawn;obtain rfl:qw=s.os:=hm.os;show wpAny _ _ _ _ _ _;refine gc (show wpAny _ _ (ret Value.none) _ _ _ from gc ⟨rfl,h',iB,rfl,cT,fun b o hb e=> ?_⟩);refine hm.heap b o ?_ (Zad _ (Zad _ e));simp only[Zav,Zas,ZcB,ZdT,not_or];exact⟨Za1 hb,by rw[Zc5];exact Za1 (Zc8 hb)⟩
   ·cases Lc with
    |error e=>exact zF
    |ok PB=>
     cases PB with
     |ret r=>
      obtain⟨rfl,h',tk,rfl,cT,aG⟩:=zF
      repeat (any_goals (first |assumption |wp_step))
      exact h _ _ cT aG
     |_=>exact zF.elim
  |_=>exact zG.elim
end
section
variable {prog:Program}{w:World}{K:Type} [DecidableEq K] {knd:KeyKind prog w K}{A:Around}{E:Value->Shared->Prop}{s:Shared}
theorem CI (n:Nat){ks:List K}{a:Addr}{Q:Bool->Shared->Prop}(hk:IsTupleKey knd s.heap ks a)(h:Q true s):wpAny (model prog w) A (eqIsQuiet (n+1) (.ref a)) Q E s:=by
 have hT:=hk.typeIs;obtain⟨o,items,m,ho,_,hd,hi⟩:=hk;unfold eqIsQuiet;refine eg (ZdL hT ZfN.lookup ?_);show wpAny _ _ (isInstance (.ref a) (.type "tuple") >>=_) _ _ s;refine eg (ZdP hT Zfs ?_);simp only[Zb1,Zax,ZbI];refine eg (Zbr ho hd ?_);refine eg ?_;show wpAny _ _ (forIn items _ _) _ _ s;rw[<-Zde];refine ZcI _ (fun rest r s'=>r.1=none/\s'=s/\∀v∈rest,carriedByValue v=true) _ ?_ ?_ _ _ ⟨rfl,rfl,hi.byValue⟩
 ·rintro v rest r s' ⟨hr,rfl,aO⟩;rw[eqIsQuiet_byValue _ (aO v Zaf)];refine eg (gc ?_);simp only[Zb1,Zax,ZbI];exact gc ⟨rfl,rfl,fun u dj=>aO u (Zae _ dj)⟩
 ·rintro⟨r1,r2⟩ s' ⟨hr,rfl,_⟩;simp only at hr;subst hr;exact gc h
theorem C4 (n:Nat){ks:List K}{a:Addr}{Q:Bool->Shared->Prop}(hk:IsTupleKey knd s.heap ks a)(h:Q false s):wpAny (model prog w) A (ofAClassStatement (n+1) (.ref a)) Q E s:=by
 have hT:=hk.typeIs;obtain⟨o,items,m,ho,_,hd,hi⟩:=hk;unfold ofAClassStatement;refine eg (Zfn hT ?_);dsimp only;rw[ZaQ .d];refine eg (gc ?_);simp only[Zb1,Zax,ZbI];refine eg (Zbr ho hd ?_);dsimp only;refine eg ?_;rw[<-Zde];refine ZcI _ (fun rest r s'=>r.1=none/\s'=s/\∀v∈rest,carriedByValue v=true) _ ?_ ?_ _ _ ⟨rfl,rfl,hi.byValue⟩
 ·rintro v rest r s' ⟨hr,rfl,aO⟩;rw[Hm n (aO v Zaf)];refine eg (gc ?_);simp only[Zax,ZbI];exact gc ⟨rfl,rfl,fun u dj=>aO u (Zae _ dj)⟩
 ·rintro⟨r1,r2⟩ s' ⟨hr,rfl,_⟩;simp only at hr;subst hr;exact gc h
theorem Sj (n:Nat)(i:Int)(t:Tok):hashByValue n (.int i t)=pure true:=by cases n<;>rfl
theorem WW:∀{ks:List Int}{vs:List Value},ItemsAre (intKind prog w) ks vs->∀v∈vs,∃i t,v=.int i t
 |_,_,.nil=>fun v hv=>by cases hv
 |_,_,.cons (k:=k) (v:=u) h r=>fun v hv=>by
  rcases Zav.mp hv with rfl |hv
  ·cases v with
   |int i t=>exact⟨i,t,rfl⟩
   |_=>exact Bool.noConfusion (show false=true from h)
  ·exact WW r v hv
theorem zV (n:Nat){ks:List Int}{a:Addr}{Q:Bool->Shared->Prop}(hk:IsTupleKey (intKind prog w) s.heap ks a)(h:Q true s):wpAny (model prog w) A (hashByValue (n+1) (.ref a)) Q E s:=by
 have hT:=hk.typeIs;obtain⟨o,items,m,ho,_,hd,hi⟩:=hk;unfold hashByValue;refine eg (ZdL hT ZdK.lookup ?_);refine(show wpAny _ _ (seqItems? (.ref a) >>=_) _ _ s from eg (Zbr ho hd ?_));refine eg ?_;show wpAny _ _ (forIn items _ _) _ _ s;rw[<-Zde];refine ZcI _ (fun rest r s'=>r.1=none/\s'=s/\∀v∈rest,∃i t,v=.int i t) _ ?_ ?_ _ _ ⟨rfl,rfl,WW hi⟩
 ·rintro v rest r s' ⟨hr,rfl,aO⟩;obtain⟨i,t,rfl⟩:=aO v Zaf;rw[Sj];refine eg (gc ?_);simp only[Zb1,Zax,ZbI];exact gc ⟨rfl,rfl,fun u dj=>aO u (Zae _ dj)⟩
 ·rintro⟨r1,r2⟩ s' ⟨hr,rfl,_⟩;simp only at hr;subst hr;exact gc h
theorem D7 (prog:Program)(w:World):jS (tupleKind (intKind prog w)):=⟨Tx _,fun hk h=>zV 7 hk h,fun hw fZ x=>WT hw fZ x⟩
end
section
variable {prog:Program}{w:World}{A:Around}{E:Value->Shared->Prop}{s:Shared}
abbrev KI (prog:Program)(w:World):KeyKind prog w Int:=intKind prog w
def dm (prog:Program)(w:World)(h:Heap)(k:List Int×List Int)(a:Addr):Prop:=∃o n b c,h.get? a=some o/\o.cls=.type "tuple" /\o.data=.seq #[.ref b,.ref c] n/\IsTupleKey (KI prog w) h k.1 b/\IsTupleKey (KI prog w) h k.2 c
theorem dm.typeIs {k:List Int×List Int}{a:Addr}(x:dm prog w s.heap k a):s.TypeIs (.ref a) "tuple" :=let ⟨o,_,_,_,ho,hc,_⟩:=x;⟨o,ho,hc⟩
theorem dm.inj {h:Heap}{a:Addr}{x y:List Int×List Int}(hx:dm prog w h x a)(hy:dm prog w h y a):x=y:=by obtain⟨o,n,b,c,ho,_,hd,h1,h2⟩:=hx;obtain⟨o',n',b',c',cQ,_,dA,fq,eY⟩:=hy;obtain rfl:o=o':=Zbh (ho.symm.trans cQ);rw[hd]at dA;injection dA with e _;have e1:[Value.ref b,Value.ref c]=[Value.ref b',Value.ref c']:=ZcE Array.toList e;injection e1 with e1 e2;injection e2 with e2 _;injection e1 with e1;injection e2 with e2;subst e1 e2;exact Zeh (h1.inj fq) (h2.inj eY)
theorem dm.keep {h h':Heap}{ws:List Addr}{k:List Int×List Int}{a:Addr}(hw:∀b∈ws,nP h b)(fZ:∀b o,b∉ws->h.get? b=some o->h'.get? b=some o)(x:dm prog w h k a):dm prog w h' k a:=by
 obtain⟨o,n,b,c,ho,hc,hd,h1,h2⟩:=x;have bf:a∉ws:=fun m=>by obtain⟨o',cQ,hn⟩:=hw a m;rw[ho]at cQ;cases cQ;exact hn hc
 exact⟨o,n,b,c,fZ _ _ bf ho,hc,hd,WT hw fZ h1,WT hw fZ h2⟩
noncomputable def ym (prog:Program)(w:World)(k:List Int×List Int):Int:=reduceHash (Builtin.Tuple.tupleHashOf [tupleKeyHash (KI prog w) k.1,tupleKeyHash (KI prog w) k.2])
theorem XS {k:List Int×List Int}{a:Addr}{Q:Int->Shared->Prop}(hu:A.units+1<cLine)(hk:dm prog w s.heap k a)(h:Q (ym prog w k) {s with toks:=s.toks+(k.1.length+1+(k.2.length+1)+1)}):
  wpAny (model prog w) A (pyHash (.ref a)) Q E s:=by
 have hT:=hk.typeIs;obtain⟨o,n,b,c,ho,_,hd,h1,h2⟩:=hk;unfold pyHash
 first |unfold pyHashByItsType |skip
 first |refine eg (wpAny_cRoomFor_or (.inr (Zda hu)) ?_) |skip
 refine eg (ZdL hT ZdK.lookup ?_);show wpAny _ _ (if (some (Value.builtin "tuple.__hash__")==some Value.none)=true then _ else _) Q E s;rw[Zaz (by rw[beq_builtin_none];exact Zag)];refine eg (ZdL hT ZdK.lookup ?_);show wpAny _ _ (callSpecialIfBoundUnlessNone? (.ref a) "__hash__" _ >>=_) Q E s;refine eg (wpAny_callSpecialIfBoundUnlessNone?_slot hT ZdK (Zbn ZdK hT F.entry_tuple_hash ?_ (F.args_tuple_hash_1 _)));show wpAny _ _ (Builtin.Tuple.tupleItemsOf (.ref a) >>=_) _ _ s;refine eg (ZfY ho hd ?_);refine eg ?_;rw[<-Zde];refine ZcI _
  (fun rest (bs:Array Int) s'=> (rest=[.ref b,.ref c]/\bs= #[]/\s'=s)∨(rest=[.ref c]/\bs= #[tupleKeyHash (KI prog w) k.1]/\s'= {s with toks:=s.toks+(k.1.length+1)})∨(rest=[]/\bs= #[tupleKeyHash (KI prog w) k.1,tupleKeyHash (KI prog w) k.2]/\s'= {s with toks:=s.toks+(k.1.length+1+(k.2.length+1))}))
  _ ?_ ?_ _ _ (.inl ⟨rfl,rfl,rfl⟩)
 ·rintro x rest bs s' (⟨e,rfl,rfl⟩ |⟨e,rfl,rfl⟩ |⟨e,_⟩)
  ·cases e;refine eg (wpAny_pyHash_tuple (knd:=KI prog w) (by exact hu) h1 ?_)
   first
    |exact gc (.inr (.inl ⟨rfl,rfl,rfl⟩))
    |exact eg (gc (gc (.inr (.inl ⟨rfl,rfl,rfl⟩))))
  ·cases e;refine eg (wpAny_pyHash_tuple (knd:=KI prog w) (by exact hu) h2 ?_)
   first
    |exact gc (.inr (.inr ⟨rfl,rfl,by rw[Zej]⟩))
    |exact eg (gc (gc (.inr (.inr ⟨rfl,rfl,by rw[Zej]⟩))))
  ·cases e
 ·rintro bs s' (⟨e,_⟩ |⟨e,_⟩ |⟨_,rfl,rfl⟩)
  ·cases e
  ·cases e
  show wpAny _ _ (retInt (Builtin.Tuple.tupleHashOf [tupleKeyHash (KI prog w) k.1,tupleKeyHash (KI prog w) k.2])) _ _ _;refine wpAny_ret_mkInt ?_;unfold ym reduceHash at h;generalize Builtin.Tuple.tupleHashOf [tupleKeyHash (KI prog w) k.1,tupleKeyHash (KI prog w) k.2]=z at h;show wpAny _ _ (if (decide (-(2:Int)^63<=z)&&decide (z<2^63))=true then _ else _) Q E _;by_cases hr:(decide (-(2:Int)^63<=z)&&decide (z<2^63))=true
  ·rw[ZaQ hr];rw[ZaQ hr]at h;exact gc (by simpa[Zej] using h)
  ·rw[Zaz hr];rw[Zaz hr]at h;exact eg (Zdt (gc (by simpa[Zej] using h)))
theorem ZbB {x y:List Int×List Int}{a b:Addr}{P:Fin->Shared->Prop}(hu:A.units<cLine)(hx:dm prog w s.heap x a)(hy:dm prog w s.heap y b)(h:P (.done (.ret (.bool (decide (x=y))))) s):
  wpAny (model prog w) A (Builtin.«tuple.__eq__» ⟨[.ref a,.ref b],[]⟩) P E s:=by
 have O6:=hy.typeIs;obtain⟨oa,na,a1,a2,Of,_,OS,O4,O3⟩:=hx;obtain⟨ob,nb,b1,b2,yU,_,eX,jL,hU⟩:=hy;show wpAny _ _ (isInstance (.ref b) (.type "tuple") >>=_) _ _ s;refine eg (ZdP O6 Zfs ?_);simp only[Zb1,Zax,ZbI];refine eg (ZfY Of OS ?_);refine eg (ZfY yU eX ?_);refine eg ?_;refine ZcI _
  (fun rest r s'=>r.1=none/\s'=s/\((rest=[(.ref a1,.ref b1),(.ref a2,.ref b2)])∨(rest=[(.ref a2,.ref b2)]/\x.1=y.1)∨(rest=[]/\x=y)))
  _ ?_ ?_ _ _ ⟨rfl,rfl,.inl rfl⟩
 ·rintro⟨u,v⟩ rest r s' ⟨hr,rfl,e |⟨e,e1⟩ |⟨e,_⟩⟩
  ·cases e;refine eg (wpAny_eqBool_tuple (knd:=KI prog w) hu O4 jL ?_);by_cases hk:x.1=y.1
   ·rw[Zaq hk];simp only[Zb1,Zax,ZbI];exact gc ⟨rfl,rfl,.inr (.inl ⟨trivial,hk⟩)⟩
   ·rw[ZaF hk];simp only[Zd0,ZdC];have hf:decide (x=y)=false:=ZaF fun z=>hk (by rw[z]);rw[hf]at h;exact eg (gc (gc (gc h)))
  ·cases e;refine eg (wpAny_eqBool_tuple (knd:=KI prog w) hu O3 hU ?_);by_cases hk:x.2=y.2
   ·rw[Zaq hk];simp only[Zb1,Zax,ZbI];exact gc ⟨rfl,rfl,.inr (.inr ⟨trivial,Zeh e1 hk⟩)⟩
   ·rw[ZaF hk];simp only[Zd0,ZdC];have hf:decide (x=y)=false:=ZaF fun z=>hk (by rw[z]);rw[hf]at h;exact eg (gc (gc (gc h)))
  ·cases e
 ·rintro⟨r1,r2⟩ s' ⟨hr,rfl,e |⟨e,_⟩ |⟨_,e⟩⟩
  ·cases e
  ·cases e
  ·simp only at hr;subst hr;refine gc ?_;rw[Zaq e]at h;exact h
theorem Sg {x y:List Int×List Int}{a b:Addr}{Q:Bool->Shared->Prop}(hu:A.units+1<cLine)(hx:dm prog w s.heap x a)(hy:dm prog w s.heap y b)(h:Q (decide (x=y)) s):
  wpAny (model prog w) A (eqBool (.ref a) (.ref b)) Q E s:=by
 unfold eqBool
 try with_reducible refine ZbA ?_
 show wpAny _ _ (if (Value.ref a==Value.ref b)=true then _ else _) Q E s;by_cases hV:(Value.ref a==Value.ref b)=true
 ·rw[ZaQ hV];have e:a=b:=by have:=eq_of_beq hV;injection this
  subst e;obtain rfl:=hx.inj hy;exact eg (Zdt (gc (by simpa using h)))
 ·rw[Zaz hV];exact eg (wpAny_richCompare_same_room (op:=.Eq) hx.typeIs hy.typeIs ZfN
   (Zbn ZfN hx.typeIs F.entry_tuple_eq (ZbB (by exact hu) hx hy ⟨_,rfl,(fun e=>nomatch e),Zc6 h⟩) (F.args_tuple_eq_2 _ _)) (Zda hu))
theorem Zb4 {k:List Int×List Int}{a:Addr}{Q:Bool->Shared->Prop}(hk:dm prog w s.heap k a)(h:Q true s):wpAny (model prog w) A (eqIsQuiet 8 (.ref a)) Q E s:=by
 have hT:=hk.typeIs;obtain⟨o,n,b,c,ho,_,hd,h1,h2⟩:=hk;unfold eqIsQuiet;refine eg (ZdL hT ZfN.lookup ?_);show wpAny _ _ (isInstance (.ref a) (.type "tuple") >>=_) _ _ s;refine eg (ZdP hT Zfs ?_);simp only[Zb1,Zax,ZbI];refine eg (Zbr ho hd ?_);refine eg ?_;show wpAny _ _ (forIn (#[Value.ref b,Value.ref c]:Array Value) _ _) _ _ s;rw[<-Zde];refine ZcI _ (fun rest r s'=>r.1=none/\s'=s/\∀v∈rest,v=Value.ref b∨v=.ref c) _ ?_ ?_ _ _ ⟨rfl,rfl,fun v hv=>by simpa using hv⟩
 ·rintro v rest r s' ⟨hr,rfl,aO⟩;have key:wpAny (model prog w) A (eqIsQuiet 7 v) (fun b s2=>b=true/\s2=s') E s':=by
   rcases aO v Zaf with rfl |rfl
   ·exact CI 6 h1 ⟨rfl,rfl⟩
   ·exact CI 6 h2 ⟨rfl,rfl⟩
  refine eg (ZcD key (fun b s2 ae=> ?_) fun _ _ z=>z);obtain⟨e1,e2⟩:=ae;subst e1 e2;simp only[Zb1,Zax,ZbI];exact gc ⟨rfl,rfl,fun u dj=>aO u (Zae _ dj)⟩
 ·rintro⟨r1,r2⟩ s' ⟨hr,rfl,_⟩;simp only at hr;subst hr;exact gc h
theorem G0 {k:List Int×List Int}{a:Addr}{Q:Bool->Shared->Prop}(hk:dm prog w s.heap k a)(h:Q true s):wpAny (model prog w) A (hashByValue 8 (.ref a)) Q E s:=by
 have hT:=hk.typeIs;obtain⟨o,n,b,c,ho,_,hd,h1,h2⟩:=hk;unfold hashByValue;refine eg (ZdL hT ZdK.lookup ?_);refine(show wpAny _ _ (seqItems? (.ref a) >>=_) _ _ s from eg (Zbr ho hd ?_));refine eg ?_;show wpAny _ _ (forIn (#[Value.ref b,Value.ref c]:Array Value) _ _) _ _ s;rw[<-Zde];refine ZcI _ (fun rest r s'=>r.1=none/\s'=s/\∀v∈rest,v=Value.ref b∨v=.ref c) _ ?_ ?_ _ _ ⟨rfl,rfl,fun v hv=>by simpa using hv⟩
 ·rintro v rest r s' ⟨hr,rfl,aO⟩;have key:wpAny (model prog w) A (hashByValue 7 v) (fun b s2=>b=true/\s2=s') E s':=by
   rcases aO v Zaf with rfl |rfl
   ·exact zV 6 h1 ⟨rfl,rfl⟩
   ·exact zV 6 h2 ⟨rfl,rfl⟩
  refine eg (ZcD key (fun b s2 ae=> ?_) fun _ _ z=>z);obtain⟨e1,e2⟩:=ae;subst e1 e2;simp only[Zb1,Zax,ZbI];exact gc ⟨rfl,rfl,fun u dj=>aO u (Zae _ dj)⟩
 ·rintro⟨r1,r2⟩ s' ⟨hr,rfl,_⟩;simp only at hr;subst hr;exact gc h
theorem Za9 {k:List Int×List Int}{a:Addr}{Q:Bool->Shared->Prop}(hk:dm prog w s.heap k a)(h:Q false s):wpAny (model prog w) A (ofAClassStatement 8 (.ref a)) Q E s:=by
 have hT:=hk.typeIs;obtain⟨o,n,b,c,ho,_,hd,h1,h2⟩:=hk;unfold ofAClassStatement;refine eg (Zfn hT ?_);dsimp only;rw[ZaQ .d];refine eg (gc ?_);simp only[Zb1,Zax,ZbI];refine eg (Zbr ho hd ?_);dsimp only;refine eg ?_;rw[<-Zde];refine ZcI _ (fun rest r s'=>r.1=none/\s'=s/\∀v∈rest,v=Value.ref b∨v=.ref c) _ ?_ ?_ _ _ ⟨rfl,rfl,fun v hv=>by simpa using hv⟩
 ·rintro v rest r s' ⟨hr,rfl,aO⟩;have key:wpAny (model prog w) A (ofAClassStatement 7 v) (fun b s2=>b=false/\s2=s') E s':=by
   rcases aO v Zaf with rfl |rfl
   ·exact C4 6 h1 ⟨rfl,rfl⟩
   ·exact C4 6 h2 ⟨rfl,rfl⟩
  refine eg (ZcD key (fun b s2 ae=> ?_) fun _ _ z=>z);obtain⟨e1,e2⟩:=ae;subst e1 e2;simp only[Zax,ZbI];exact gc ⟨rfl,rfl,fun u dj=>aO u (Zae _ dj)⟩
 ·rintro⟨r1,r2⟩ s' ⟨hr,rfl,_⟩;simp only at hr;subst hr;exact gc h
theorem dm.Fe {h h':Heap}{k:List Int×List Int}{a d:Addr}{o:Obj}(x:dm prog w h k a)(ho:h.get? d=some o)(hd:∀aa n,o.data≠.seq aa n)(hs:Heap.SameBut d h h'):dm prog w h' k a:=by
 obtain⟨o1,n,b,c,e1,e2,e3,⟨o2,i2,n2,f1,f2,f3,f4⟩,o3,i3,n3,g1,g2,g3,g4⟩:=x;have ne:∀{y:Addr}{oy:Obj}{iy:Array Value}{ny:Nat},h.get? y=some oy->oy.data=.seq iy ny->h'.get? y=some oy:=fun {y oy iy ny} q1 q2=>by refine(hs.2 y ?_).trans q1;rintro rfl;rw[ho]at q1;cases q1;exact hd _ _ q2
 exact⟨o1,n,b,c,ne e1 e3,e2,e3,⟨o2,i2,n2,ne f1 f3,f2,f3,f4⟩,o3,i3,n3,ne g1 g3,g2,g3,g4⟩
noncomputable def LP (prog:Program)(w:World):HeapKind prog w (List Int×List Int) where
 is:=dm prog w
 hash:=ym prog w
 draws:=fun k=>k.1.length+1+(k.2.length+1)+1
 room:=fun A=>A.units+1<cLine
 inj:=fun hx hy=>hx.inj hy
 keeps:=fun x ho hd hs=>x.Fe ho (fun aa n z=>by rw[hd]at z;cases z) hs
 pyHash:=fun hu hk h=>XS hu hk h
 eqBool:=fun hu hx hy h=>Sg hu hx hy h
 quiet:=fun hk h=>Zb4 hk h
theorem OC (prog:Program)(w:World):jS (LP prog w):=⟨⟨fun hk h=>G0 hk (h true),fun hk h=>Za9 hk h,fun x ho hd hs=>x.Fe ho (fun aa n z=>by rw[hd]at z;cases z) hs⟩,fun hk h=>G0 hk h,fun hw fZ x=>x.keep hw fZ⟩
end
noncomputable def restrict {prog:Program}{w:World}{K:Type}[DecidableEq K](knd:HeapKind prog w K)(ok:Addr->Prop):HeapKind prog w K where
 is:=fun h k a=>ok a/\knd.is h k a
 hash:=knd.hash
 draws:=knd.draws
 room:=knd.room
 inj:=fun hx hy=>knd.inj hx.2 hy.2
 keeps:=fun x ho hd hs=> ⟨x.1,knd.keeps x.2 ho hd hs⟩
 pyHash:=fun hu hk h=>knd.pyHash hu hk.2 h
 eqBool:=fun hu hx hy h=>knd.eqBool hu hx.2 hy.2 h
 quiet:=fun hk h=>knd.quiet hk.2 h
theorem OB {prog:Program}{w:World}{K:Type}[DecidableEq K]{knd:HeapKind prog w K}(hp:jS knd)(ok:Addr->Prop):jS (restrict knd ok):=
 ⟨⟨fun hk h=>hp.hk.Q7 hk.2 h,fun hk h=>hp.hk.notCls hk.2 h,fun x ho hd hs=> ⟨x.1,hp.hk.Du x.2 ho hd hs⟩⟩,fun hk h=>hp.Fd hk.2 h,fun hw fZ x=> ⟨x.1,hp.keep hw fZ x.2⟩⟩
theorem CU {α:Type}[DecidableEq α]:∀{ks l:List α},ks.Nodup->(∀k∈ks,k∈l)->l.length<=ks.length->l.Perm ks
 | [],l,_,_,h=>by have:l=[]:=Zb8 (Nat.le_zero.mp h);rw[this]
 |k::ks,l,nd,hs,h=>by
  obtain⟨n1,n2⟩:=Zcm.mp nd;have hk:=hs k Zaf;have p:=List.perm_cons_erase hk;refine p.trans (List.Perm.cons k (CU n2 (fun k' aG=> ?_) ?_))
  ·exact(List.mem_erase_of_ne fun z=>n1 (by rw[<-z];exact aG)).mpr (hs k' (Zae _ aG))
  ·have:=p.length_eq;rw[Za8]at this h;omega
end HC
namespace L2
open PySem PySem.Spec PyProof.Rows PyProof.Rows.dc
section
variable {X:Cx}
abbrev Hu (H:Hp)(a:Addr):Prop:=∃k:List Int,H a=some (.tup (k.map V.int))
noncomputable abbrev KO (X:Cx) (H:Hp):HeapKind X.prog X.w (List Int):=HC.restrict (tupleKind (intKind X.prog X.w)) (Hu H)
theorem Fj {pins:List (Addr×Obj)}{σ:St}{H:Hp}{s:Shared}{k:List Int}{a:Addr}(I:Inv X pins σ H s)(h:(KO X H).is s.heap k a):H a=some (.tup (k.map V.int)):=by obtain⟨⟨k',h'⟩,x⟩:=h;obtain⟨a',e,y⟩:=mG I ⟨a,rfl,h'⟩ (show RelV (.ref a) (.ref a) from rfl);cases e;rw[x.inj y];exact h'
theorem RJ {pins:List (Addr×Obj)}{σ:St}{H:Hp}{s:Shared}{k:List Int}{a:Addr}(I:Inv X pins σ H s)(h:H a=some (.tup (k.map V.int))):(KO X H).is s.heap k a:=by obtain⟨a',e,y⟩:=mG I ⟨a,rfl,h⟩ (show RelV (.ref a) (.ref a) from rfl);cases e;exact⟨⟨k,h⟩,y⟩
theorem Xa {pins:List (Addr×Obj)}{σ:St}{H:Hp}{s:Shared}{S:Addr}{ks:List (List Int)}{Q:VK}(I:Inv X pins σ H s)(nd:ks.Nodup)(bf:∀k∈ks,k≠[])(hl:ks.length<64)
  (OU:∀(E:Value->Shared->Prop) (Q':List Value->Shared->Prop),(∀h1 tk (acc:List Value),(∀b o,s.heap.get? b=some o->h1.get? b=some o)->s.heap.objs.size<=h1.objs.size->(∀u∈acc,∃a k,u=Value.ref a/\k∈ks/\H a=some (.tup (k.map V.int)))->(∀k∈ks,∃a,Value.ref a∈acc/\H a=some (.tup (k.map V.int)))->acc.length=ks.length->Q' acc {s with heap:=h1,toks:=tk})->wpAny (model X.prog X.w) X.A.in1 (collect (.ref S)) Q' E s)
  (q:∀(q:Addr) (cC:List V) (cg:List (List Int)),H q=none->cg.Perm ks->cg.Pairwise (fun a b=>ar b a=false)->Paired (bw H) cC cg->Q (.ref q) (upd H q (.lst cC))):
  wpAny (model X.prog X.w) X.A (call (.builtin "sorted") [.ref S]) (EP X pins σ Q) X.xe s:=by
 refine Zf2 PyProof.Rows.kind_sorted PyProof.Rows.plain_sorted PyProof.Rows.entry_sorted (PyProof.Rows.args_sorted1 _) ?_;unfold Builtin.«sorted»;refine eg (m:=checkCount "sorted" 1 1 _) (gc ?_);refine eg (OU _ _ fun h1 tk acc k1 hle el al la=> ?_);have I1:Inv X pins σ H {s with heap:=h1,toks:=tk} :=I.kept (t':=tk) k1;have each:∀u∈acc,∃a k,u=.ref a/\k∈ks/\H a=some (.tup (k.map V.int))/\gP h1 u k:=fun u hu=>by obtain⟨a,k,e1,hk,hH⟩:=el u hu;obtain⟨items,ri,⟨oo,go,oc,n,od⟩,_⟩:=I1.tuple (ab.of hH);exact⟨a,k,e1,hk,hH,a,oo,_,n,e1,go,oc,od,by simpa using ZL ri⟩
 have tu:Paired (gP h1) acc (acc.map (bo h1)):=by
  have:∀l:List Value,(∀u∈l,∃k,gP h1 u k)->Paired (gP h1) l (l.map (bo h1)):=fun l=>by
   induction l with
   |nil=>intro _;exact .nil
   |cons u l ih=>intro hh;refine .cons ?_ (ih fun v hv=>hh v (Zae _ hv));obtain⟨k,tq⟩:=hh u Zaf;have Io:=id tq;obtain⟨t0,o0,i0,n0,e0,g0,_,d0,j0⟩:=tq;rw[e0];rw[ZK g0 d0 j0];rw[<-e0];exact Io
  exact this _ fun u hu=>let ⟨a,k,_,_,_,h⟩:=each u hu;⟨k,h⟩
 have uC:∀u∈acc,bo h1 u∈ks:=fun u hu=>by obtain⟨a,k,e,hk,_,t0,o0,i0,n0,e0,g0,_,d0,j0⟩:=each u hu;rw[e0,ZK g0 d0 j0];exact hk
 have pk:(acc.map (bo h1)).Perm ks:=by refine HC.CU nd (fun k hk=> ?_) (by rw[Zal,la];exact Zak _);obtain⟨a,ha,hH⟩:=al k hk;obtain⟨items,ri,⟨oo,go,oc,n,od⟩,_⟩:=I1.tuple (ab.of hH);exact ZaN.mpr ⟨.ref a,ha,ZK go od (by simpa using ZL ri)⟩
 have Oj:∀k∈acc.map (bo h1),k≠[]:=fun k hk=>bf k (pk.mem_iff.mp hk);refine eg (ZfD ?_ (by rw[ZaX];omega));have lQ:(h1.push (PyProof.Rows.seqObj "list" acc.toArray 0)).get? h1.objs.size=some (PyProof.Rows.seqObj "list" acc.toArray 0):=Zar _ rfl;have nL:∀b o,h1.get? b=some o->b≠h1.objs.size:=fun b o e=>Za1 (ZaC e);have asks:sI X.prog X.w X.A.in1.in1 (fun _ _=>False) (tuples' true) (fun x y=>ar (bo h1 x.1) (bo h1 y.1)) h1.objs.size (h1.push (PyProof.Rows.seqObj "list" acc.toArray 0)) acc:=fun s6 h6=>by
  have pL:Paired (gP s6.heap) acc (acc.map (bo h1)):=Paired.ba tu fun u k x=>x.keep (a:=h1.objs.size) (fun b o hb e=>h6 b o hb (Zad _ e)) nL;refine⟨fun h2 Q' hq=> ?_,fun x y st Q' mx my hk hq=> ?_⟩
  ·obtain⟨fs,kt,kl,kf⟩:=JE pL Oj;refine ZgA (T:=.type "int") kt .o (fun v hv=> ?_) (by rfl) hq;obtain⟨n,t,rfl⟩:=kf v hv;exact PySem.W.Looks.of_pure rfl
  ·rw[lt'_eq];refine ZaE (Ze4 ?_);rw[hk];obtain⟨qC,_⟩:=Z0 mx;obtain⟨qB,_⟩:=Z0 my;obtain⟨kx,_,tx,ox,ix,nx,ex,gx,cx,dx,jx⟩:=ZS tu qC;obtain⟨ky,_,ty,oy,iy,ny,ey,gy,cy,dy,jy⟩:=ZS tu qB;have e1:bo h1 x.1=kx:=by rw[ex];exact ZK gx dx jx
   have e2:bo h1 y.1=ky:=by rw[ey];exact ZK gy dy jy
   dsimp only at hq;rw[e1,e2]at hq;rw[ex,ey];refine ZaE (ZfT (ZdU (Zhb (h6 _ _ (nL _ _ gx) (Zad _ gx)) dx (h6 _ _ (nL _ _ gy) (Zad _ gy)) dy (Jz jx jy ?_ ⟨rfl,?_⟩))))
   ·have l1:=jx.length;have l2:=jy.length;rw[Zau]at l1 l2;rw[l1,l2]
   ·exact ZaP hq
 have Ab:sI X.prog X.w X.A.in1.in1 X.xe (tuples' true) (fun x y=>ar (bo h1 x.1) (bo h1 y.1)) h1.objs.size (h1.push (PyProof.Rows.seqObj "list" acc.toArray 0)) acc:=fun s6 h6=>by obtain⟨q1,q2⟩:=asks s6 h6;refine⟨fun g Q hq=>ZcD (q1 g Q hq) (fun _ _ x=>x) fun _ _ x=>x.elim,fun x y st Q m1 m2 hk hq=> ?_⟩;exact ZcD (q2 x y st Q m1 m2 hk hq) (fun _ _ x=>x) fun _ _ x=>x.elim
 refine eg (ZbA (Zbn PyProof.Rows.slot_list_sort ⟨_,lQ,rfl⟩ PyProof.Rows.entry_list_sort (J9 (AN _) lQ Ab .o fun xs lG gG=> ⟨_,rfl,?_⟩) (PyProof.Rows.args_list_sort _)));have cF:∀pq∈xs.toList,pq.1∈acc/\pq.2=pq.1:=fun pq iW=>Z0 ((ZbD.mp lG).mem_iff.mp iW);have eo:(xs.map (·.2)).toList=xs.toList.map (·.1):=by rw[ZgB];exact List.map_congr_left fun pq iW=> (cF pq iW).2
 have po:(xs.toList.map (·.1)).Perm acc:=by
  refine List.Perm.trans ((ZbD.mp lG).map _) ?_;unfold pairsOf;rw[Zfw,ZeS];have:∀l:List Value,(l.zip l).map (·.1)=l:=fun l=>by
   induction l with
   |nil=>rfl
   |cons a l ih=>rw[Zcr,Zba,ih]
  rw[this]
 generalize DT:xs.map (·.2)=out at eo;have rel:∀u∈out.toList,∃k,bw H (toV u) k/\bo h1 u=k/\RelV (toV u) u:=fun u hu=>by rw[eo]at hu;obtain⟨a,k,e,_,hH,t0,o0,i0,n0,e0,g0,_,d0,j0⟩:=each u (po.mem_iff.mp hu);subst e;exact⟨k,⟨a,rfl,hH⟩,by rw[e0];exact ZK g0 d0 j0,rfl⟩
 have vals:∀l:List Value,(∀u∈l,∃k,bw H (toV u) k/\bo h1 u=k/\RelV (toV u) u)->Vals (l.map toV) l/\Paired (bw H) (l.map toV) (l.map (bo h1)):=fun l=>by
  induction l with
  |nil=>intro _;exact⟨.nil,.nil⟩
  |cons u l ih=>intro hl;obtain⟨i1,i2⟩:=ih fun v hv=>hl v (Zae _ hv);obtain⟨k,a1,a2,a3⟩:=hl u Zaf;exact⟨.cons a3 i1,.cons (by rw[a2];exact a1) i2⟩
 obtain⟨v1,v2⟩:=vals out.toList rel;obtain⟨e,he⟩:=PyProof.Rows.sortedHeap_at (out:=out) lQ;have lo:out.toList.length=acc.length:=by rw[eo];exact po.length_eq
 have hlen:(out.toList.map toV).length<=sizeLine:=by rw[Zal,lo,ZaX];omega
 refine gc ⟨_,rfl,.ref h1.objs.size,_,I.laid (t':=tk) (a:=h1.objs.size) (o:=.lst (out.toList.map toV)) (fun b ob eb=> ?_) hle ⟨hlen,out.toList,e,v1,by simpa using he⟩,rfl,q _ _ (out.toList.map (bo h1)) (I.aq.fresh hle) ?_ ?_ v2⟩
 ·have hb:=ZaC (k1 b ob eb);rw[PyProof.Rows.sortedHeap_old (Za1 hb) (by rw[Zc5];exact Zc8 hb)];exact Zad _ (k1 b ob eb)
 ·rw[eo];exact(po.map _).trans pk
 ·rw[eo,ZcG,Zb0];exact gG
theorem ZaS {pins:List (Addr×Obj)}{σ:St}{H:Hp}{s:Shared}{S:Addr}{ks:List (List Int)}{Q:VK}(I:Inv X pins σ H s)(zu:X.calm=true)(hS:HC.fA (KO X H) s.heap S ks)(nd:ks.Nodup)(bf:∀k∈ks,k≠[])(hl:ks.length<64)
  (q:∀(q:Addr) (cC:List V) (cg:List (List Int)),H q=none->cg.Perm ks->cg.Pairwise (fun a b=>ar b a=false)->Paired (bw H) cC cg->Q (.ref q) (upd H q (.lst cC))):
  wpAny (model X.prog X.w) X.A (call (.builtin "sorted") [.ref S]) (EP X pins σ Q) X.xe s:=by
 obtain⟨o,es,ep,t,P⟩:=hS;refine Xa I nd bf hl (fun E Q' hQ=> ?_) q;refine HC.Q2 (show X.A.in1.handled=none from I.ok.hd zu) P.core fun h1 tk acc k1 hle ia=> ?_;have ea:acc.toList=(HC.iK X.w S es ep).toList.map (·.2):=by
  refine Zfi fun j=> ?_;rw[Zbk,ZaT,ZaT];by_cases hj:j<acc.size
  ·obtain⟨e,q1,q2⟩:=ia.2 j _ (ZbM hj);rw[q1,ZbM hj,q2];rfl
  ·rw[Zfc .o,Zfc (by rw[HC.yn,<-ia.1];omega)];rfl
 have Dj:∀u,u∈acc.toList↔∃e∈es.toList,e.2=u:=fun u=>by
  rw[ea,ZaN];constructor
  ·rintro⟨e,he,rfl⟩;exact⟨e,(HC.yo X.w S es ep).mem_iff.mp he,rfl⟩
  ·rintro⟨e,he,rfl⟩;exact⟨e,(HC.yo X.w S es ep).mem_iff.mpr he,rfl⟩
 refine hQ h1 tk acc.toList k1 hle (fun u hu=> ?_) (fun k hk=> ?_) (by rw[Zau,ia.1,P.b.sz])
 ·obtain⟨e,he,rfl⟩:=(Dj u).mp hu;obtain⟨k,hk,a,e1,e2,_⟩:=P.b.el e he;exact⟨a,k,e1,hk,Fj I e2⟩
 ·obtain⟨e,he,a,e1,e2,_⟩:=P.b.all k hk;exact⟨a,(Dj _).mpr ⟨e,he,e1⟩,Fj I e2⟩
theorem Sx {te:TE}{σ:St}{H:Hp}{R:V->Hp->Prop}(h:te σ H R):kO te jT σ H fun vs H1=> ∃v,vs=[v]/\R v H1:=by
 have e0:(fun(v:V) (H1:Hp)=> ∃v':V,[v]=[v']/\R v' H1)=R:=by funext v H1;refine propext ⟨fun ae=> ?_,fun q=> ⟨v,rfl,q⟩⟩;obtain⟨v',z,q⟩:=ae;cases z;exact q
 show te σ H (fun(v:V) (H1:Hp)=> ∃v':V,[v]=[v']/\R v' H1);rw[e0];exact h
theorem Si {α β:Type}{R:α->β->Prop}{xs:List α}{ks:List β}{d:β}(pr:Paired R xs ks){i:Nat}(hi:i<xs.length):R xs[i] (ks.getD i d):=by obtain⟨k,hk,r⟩:=ZV pr (Zaw hi);rw[ZbC,hk];exact r
def A3 (H:Hp)(v:V)(k:List Int×List Int):Prop:=∃a b c:Addr,v=.ref a/\H a=some (.tup [.ref b,.ref c])/\H b=some (.tup (k.1.map V.int))/\H c=some (.tup (k.2.map V.int))
theorem LN {pins:List (Addr×Obj)}{σ:St}{H:Hp}{s:Shared}{v:V}{u:Value}{k:List Int×List Int}(I:Inv X pins σ H s)(h:A3 H v k)(r:RelV v u):∃a,u=.ref a/\HC.dm X.prog X.w s.heap k a:=by
 obtain⟨a,b,c,rfl,h1,h2,h3⟩:=h;cases r;obtain⟨us,rv,⟨o,ho,hc,n,hd⟩,_⟩:=I.tuple (ab.of h1);obtain⟨b',e1,x1⟩:=mG I ⟨b,rfl,h2⟩ (show RelV (.ref b) (.ref b) from rfl);obtain⟨c',e2,x2⟩:=mG I ⟨c,rfl,h3⟩ (show RelV (.ref c) (.ref c) from rfl);cases e1;cases e2;have eu:us=[.ref b,.ref c]:=by
  cases rv with
  |cons r1 r2=>
   cases r2 with
   |cons r3 r4=>cases r4;cases r1;cases r3;rfl
 subst eu;exact⟨a,rfl,o,n,b,c,ho,hc,hd,x1,x2⟩
def yA (ks:List (List Int×List Int)):Nat:=(HS.met (fun i=>ks.getD i ([],[])) ks.length).length
def Lv {κ:Type}(K:ZhK)(At:Hp->V->κ->Prop)(ln:List κ->Nat)(Q:VK):V->Hp->Prop:=fun v H1=> ∃(l:Addr) (ts:List V) (ks:List κ),v=.ref l/\ai K H1 l ts/\Paired (At H1) ts ks/\ts.length<=304/\Q (.int (ln ks)) H1
def we {κ:Type}(K:ZhK)(At:Hp->V->κ->Prop)(ln:List κ->Nat)(te:TE):TE:=fun σ H Q=>te σ H (Lv K At ln Q)
theorem Ge {κ:Type}[DecidableEq κ]{knd:HeapKind X.prog X.w κ}{At:Hp->V->κ->Prop}(hp:HC.jS knd)(d:κ)(ln:List κ->Nat)(DY:∀ks,ln ks=(HS.met (fun i=>ks.getD i d) ks.length).length)(NU:knd.room X.A.in1.in1.in1)
  (ze:∀{pins:List (Addr×Obj)}{σ:St}{H:Hp}{s:Shared}{v:V}{u:Value}{k:κ},Inv X pins σ H s->At H v k->RelV v u->∃a,u=.ref a/\knd.is s.heap k a)
  {e:Expr}{te:TE}{p p2 pos gZ:Pos} (hc:X.calm=true) (hg:Gl X "len") (hm:X.mg "len" =none) (rp:Gl X "set") (kh:X.mg "set" =none) (he:PE X e te) (dH:starEach [e] X.env=[(false,eval e X.env)]):
  PE X (.Call (.Name "len" p) [.Call (.Name "set" p2) [e] [] gZ] [] pos) (we X.K At ln te):=by
 intro pins s σ H Q I h;have qU:starEach [.Call (.Name "set" p2) [e] [] gZ] X.env=[(false,eval (.Call (.Name "set" p2) [e] [] gZ) X.env)]:=rfl;refine Zdd (Z8 I hg hm Zez ?_);refine Zed ?_ qU rfl;rw[qU];show wpAny _ _ (spliced ((false,eval (.Call (.Name "set" p2) [e] [] gZ) X.env)::backTo pos (starEach [] X.env))) _ _ s;refine Zew ?_;refine Zdd (Z8 I rp kh boot_set ?_);refine Zcs (au (Za he Zb dH gZ pins s σ H _ I (Sx h)) fun us s1 ae=> ?_) dH rfl;obtain⟨vs,H1,I1,r1,q1⟩:=ae;obtain⟨v,rfl,l,ts,ks,rfl,hl,pr,hn,q⟩:=q1;obtain⟨u,rfl,ru⟩:=ZgE r1;cases ru;obtain⟨aa,rv,pl,hz⟩:=I1.list hl;have ll:=rv.length;have lk:=Za0 pr;refine HC.Q5 (knd:=knd) hp (val:=fun i=>ks.getD i d) (items:=aa.toArray) (I1.ok.hd hc) NU pl.isList (fun i u dj=> ?_) (by rw[Zap];omega) fun h' tk hS hk=> ?_
 ·have dR:aa[i]? =some u:=by simpa using dj
  have hi:i<ts.length:=by rw[ll];exact(Zaa.mp dR).1
  obtain⟨u',e1,r2⟩:=rv.get (Zaw hi);rw[dR]at e1;cases e1;exact ze I1 (Si (d:=d) pr hi) r2
 ·have I2:Inv X pins σ H1 {s1 with heap:=h',toks:=tk} :=I1.kept fun b o eb=>hk b o (ZaC eb) eb;refine Zfe ?_;obtain⟨o,es,ep,t,SP⟩:=hS;have SH:=SP.b;have sm:=SH.room.small;refine call_len_set SH.ho SH.ex SH.hd (SH.T.fits (ZdQ (Zda SH.room.lt))) .o ?_;have ez:(es.size:Int)=(ln ks:Int):=by rw[SH.sz,DY,Zap,<-ll,lk]
  exact⟨.int (ln ks),H1,I2.tok _,⟨_,by rw[<-ez]⟩,q⟩
abbrev BF (K:ZhK):TE->TE:=we K A3 yA
theorem Zb9 {e:Expr}{te:TE}{p p2 pos gZ:Pos}(hc:X.calm=true)(hu:X.A.units+5<cLine)(hg:Gl X "len")(hm:X.mg "len" =none)(rp:Gl X "set")(kh:X.mg "set" =none)(he:PE X e te)
  (dH:starEach [e] X.env=[(false,eval e X.env)]:=by rfl):
  PE X (.Call (.Name "len" p) [.Call (.Name "set" p2) [e] [] gZ] [] pos) (BF X.K te):=Ge (HC.OC _ _) ([],[]) _ (fun _=>rfl) (by show X.A.units+1+1+1+1<cLine;omega) LN hc hg hm rp kh he dH
abbrev IQ (K:ZhK):TE->TE:=we K bw qE
theorem V3 {e:Expr}{te:TE}{p p2 pos gZ:Pos}(hc:X.calm=true)(hu:X.A.units+4<cLine)(hg:Gl X "len")(hm:X.mg "len" =none)(rp:Gl X "set")(kh:X.mg "set" =none)(he:PE X e te)
  (dH:starEach [e] X.env=[(false,eval e X.env)]:=by rfl):
  PE X (.Call (.Name "len" p) [.Call (.Name "set" p2) [e] [] gZ] [] pos) (IQ X.K te):=Ge (HC.D7 _ _) [] _ (fun _=>rfl) (by show X.A.units+1+1+1<cLine;omega) mG hc hg hm rp kh he dH
end
end L2
namespace HC
open PySem PySem.SetTable PySem.Spec HS
section
variable {prog:Program}{w:World}{K:Type} [DecidableEq K] {knd:HeapKind prog w K}{A:Around}{E:Value->Shared->Prop}{s:Shared}
theorem Q6 (hp:jS knd){S x:Addr}{k:K}{ks:List K}{Q:Value->Shared->Prop}(hroom:knd.room A.in1)(hx:knd.is s.heap k x)(H:fA knd s.heap S ks)(hn:ks.length+1<=306)
  (h:∀h',Heap.SameBut S s.heap h'->fA knd h' S (if k∈ks then ks else ks++[k])->Q .none {s with heap:=h',toks:=s.toks+knd.draws k}):
  wpAny (model prog w) A (call (.builtin "set.add") [.ref S,.ref x]) Q E s:=by
 have hT:s.TypeIs (.ref S) "set" :=let ⟨o,es,ep,t,X⟩:=H;⟨o,X.b.ho,X.b.ex.1⟩;refine Zbn F.slot_set_add hT F.entry_set_add ?_ (F.args_set_add_2 _ _);unfold Builtin.«set.add» Builtin.Frozenset.oneOther;simp only[ZgC,bind_assoc];unfold Builtin.Frozenset.addrOf setAdd;refine eg (gc ?_)
 try dsimp only
 refine eg (gc ?_)
 try dsimp only
 refine eg ?_;refine ZbA ?_;refine eg (knd.pyHash hroom hx ?_);refine F5 (s:= {s with toks:=s.toks+knd.draws k}) hp hroom hx H hn fun h' b sb l5=> ?_;show wpAny _ _ (ret Value.none) _ _ _;exact gc ⟨_,rfl,h h' sb l5⟩
theorem MH {Q:Value->Shared->Prop}(h:Q (.ref s.heap.objs.size) {s with heap:=s.heap.push (g8 (!(w.params.followText "set-order")))}):wpAny (model prog w) A (newSet (.type "set")) Q E s:=by unfold newSet setsByText;refine eg (eg (ZdO (gc ?_)));dsimp only;simp only[newObj];exact eg (wpAny_alloc (gc h))
end
end HC
namespace L2.ST
open PySem PySem.Spec PyProof.Rows
def enc (as:List (Addr×List Int)):List V:=as.flatMap fun p=> .ref p.1::p.2.map V.int
theorem YY (p:Addr×List Int)(as:List (Addr×List Int)):enc (p::as)=.ref p.1::(p.2.map V.int++enc as):=rfl
theorem G7 (as:List (Addr×List Int)):enc as=[]∨∃a l,enc as=V.ref a::l:=by
 cases as with
 |nil=>exact .inl rfl
 |cons p as=>exact .inr ⟨_,_,YY p as⟩
theorem GN:∀{k l:List Int}{x y:List V},(x=[]∨∃a r,x=V.ref a::r)->(y=[]∨∃a r,y=V.ref a::r)->k.map V.int++x=l.map V.int++y->k=l/\x=y
 | [],[],x,y,_,_,h=> ⟨rfl,h⟩
 | [],i::l,x,y,hx,_,h=>by have h':x=V.int i::(l.map V.int++y):=h;rcases hx with e |⟨a,r,e⟩<;>rw[e]at h'<;>cases h'
 |i::k,[],x,y,_,hy,h=>by have h':V.int i::(k.map V.int++x)=y:=h;rcases hy with e |⟨a,r,e⟩<;>rw[e]at h'<;>cases h'
 |i::k,j::l,x,y,hx,hy,h=>by have h':V.int i::(k.map V.int++x)=V.int j::(l.map V.int++y):=h;injection h' with h1 h2;injection h1 with h1;obtain⟨e1,e2⟩:=GN hx hy h2;exact⟨by rw[h1,e1],e2⟩
theorem AV:∀{as bs:List (Addr×List Int)},enc as=enc bs->as=bs
 | [],[],_=>rfl
 | [],b::bs,h=>by rw[YY]at h;cases h
 |a::as,[],h=>by rw[YY]at h;cases h
 |a::as,b::bs,h=>by rw[YY,YY]at h;injection h with h1 h2;injection h1 with h1;obtain⟨e1,e2⟩:=GN (G7 as) (G7 bs) h2;rw[AV e2,show a=b from Zeh h1 e1]
def gD (ks:List (List Int)):List (List Int):=ks.foldl (fun acc k=>if k∈acc then acc else acc++[k]) []
theorem UL (ks:List (List Int))(k:List Int):gD (ks++[k])=if k∈gD ks then gD ks else gD ks++[k]:=by unfold gD;rw[Zgh];rfl
theorem Yp:∀(n:Nat) (ks:List (List Int)),ks.length=n->(gD ks).Nodup/\(∀k,k∈gD ks↔k∈ks)/\(gD ks).length<=ks.length
 |0,ks,h=>by have:ks=[]:=Zb8 h;subst this;exact⟨.nil,fun _=>Iff.rfl,Zak _⟩
 |n+1,ks,h=>by
  have bf:ks≠[]:=fun z=>by rw[z]at h;cases h
  have e:ks=ks.dropLast++[ks.getLast bf]:=(List.dropLast_concat_getLast bf).symm;obtain⟨p1,p2,p3⟩:=Yp n ks.dropLast (by rw[List.length_dropLast];omega);have l1:ks.dropLast.length=n:=by rw[List.length_dropLast];omega
  generalize ks.dropLast=l at *
  generalize ks.getLast bf=x at *
  subst e;rw[UL];split
  ·rename_i hx;refine⟨p1,fun k=> ?_,by rw[Zaj];omega⟩;rw[p2,ZaO,Zas];constructor
   ·exact .inl
   ·rintro(h |rfl)
    ·exact h
    ·exact(p2 _).mp hx
  ·rename_i hx;refine⟨Zdj.mpr ⟨p1,by simp,fun a ha b hb e=>hx (by rw[Zas]at hb;rw[<-hb,<-e];exact ha)⟩,fun k=> ?_,by rw[Zaj,Zaj];simp;omega⟩;rw[ZaO,ZaO,p2]
abbrev qT (P:Program)(w:World)(k:List Int):Int:=tupleKeyHash (intKind P w) k
structure Core (P:Program)(w:World)(h:Heap)(D:Addr)(as:List (Addr×List Int))(o:Obj)(es:Array (Int×Value))(ep:Nat)(t:SetTable):Prop where
 c:HC.gz w h D o es ep t
 el:∀e∈es.toList,∃p∈as,e=(qT P w p.2,Value.ref p.1)
 all:∀p∈as,∃p'∈as,p'.2=p.2/\(qT P w p'.2,Value.ref p'.1)∈es.toList
 sz:es.size=(gD (as.map (·.2))).length
def AccAt (P:Program)(w:World)(h:Heap)(D:Addr)(ys:List V):Prop:=∃as,ys=enc as/\as.length<=63/\∃o es ep t,Core P w h D as o es ep t
theorem AccAt.obj {P:Program}{w:World}{h:Heap}{D:Addr}{ys:List V}(a:AccAt P w h D ys):∃o,h.get? D=some o/\(∀v,o.data≠.cell v)/\∀h':Heap,h'.get? D=some o->AccAt P w h' D ys:=by obtain⟨as,e,hl,o,es,ep,t,X⟩:=a;refine⟨o,X.c.ho,fun v z=> ?_,fun h' q=> ⟨as,e,hl,o,es,ep,t,⟨q,X.c.ex,X.c.hd,X.c.T,X.c.R,X.c.pl,X.c.ld⟩,X.el,X.all,X.sz⟩⟩;rw[X.c.hd]at z;cases z
theorem Core.set {P:Program}{w:World}{h:Heap}{D:Addr}{as:List (Addr×List Int)}{o:Obj}{es:Array (Int×Value)}{ep:Nat}{t:SetTable}(X:Core P w h D as o es ep t){ok:Addr->Prop}(hi:∀p∈as,(HC.restrict (tupleKind (intKind P w)) ok).is h p.2 p.1):HC.fA (HC.restrict (tupleKind (intKind P w)) ok) h D (gD (as.map (·.2))):=by
 obtain⟨_,km,_⟩:=Yp _ (as.map (·.2)) rfl;refine⟨o,es,ep,t,⟨X.c.ho,X.c.ex,X.c.hd,X.c.T,X.c.R,fun e he=> ?_,fun k hk=> ?_,X.sz⟩,X.c.pl,X.c.ld⟩
 ·obtain⟨p,hp,rfl⟩:=X.el e he;exact⟨p.2,(km _).mpr (Zcu hp),p.1,rfl,hi p hp,rfl⟩
 ·obtain⟨p,hp,rfl⟩:=ZaN.mp ((km _).mp hk);obtain⟨p',jG,e2,he⟩:=X.all p hp;exact⟨_,he,p'.1,rfl,e2▸hi p' jG,by rw[e2];rfl⟩
section
variable {X:Cx}
noncomputable abbrev KA (X:Cx) (H:Hp) (as:List (Addr×List Int)):HeapKind X.prog X.w (List Int):=HC.restrict (tupleKind (intKind X.prog X.w)) fun a=> ∃k,(a,k)∈as/\H a=some (.tup (k.map V.int))
theorem Fi {pins:List (Addr×Obj)}{σ:St}{H:Hp}{s:Shared}{as:List (Addr×List Int)}{k:List Int}{a:Addr}(I:Inv X pins σ H s)(h:(KA X H as).is s.heap k a):(a,k)∈as:=by obtain⟨⟨k',m,h'⟩,x⟩:=h;obtain⟨a',e,y⟩:=mG I ⟨a,rfl,h'⟩ (show RelV (.ref a) (.ref a) from rfl);cases e;rw[x.inj y];exact m
theorem Fh {pins:List (Addr×Obj)}{σ:St}{H:Hp}{s:Shared}{as:List (Addr×List Int)}{k:List Int}{a:Addr}(I:Inv X pins σ H s)(m:(a,k)∈as)(h:H a=some (.tup (k.map V.int))):(KA X H as).is s.heap k a:=by obtain⟨a',e,y⟩:=mG I ⟨a,rfl,h⟩ (show RelV (.ref a) (.ref a) from rfl);cases e;exact⟨⟨k,m,h⟩,y⟩
theorem Se {pins:List (Addr×Obj)}{σ:St}{H:Hp}{s:Shared}{D:Addr}{as:List (Addr×List Int)}(I:Inv X pins σ H s)(hS:HC.fA (KA X H as) s.heap D (gD (as.map (·.2)))):∃o es ep t,Core X.prog X.w s.heap D as o es ep t:=by
 obtain⟨o,es,ep,t,P⟩:=hS;obtain⟨_,km,_⟩:=Yp _ (as.map (·.2)) rfl;refine⟨o,es,ep,t,P.core,fun e he=> ?_,fun p hp=> ?_,P.b.sz⟩
 ·obtain⟨k,hk,a,e1,e2,e3⟩:=P.b.el e he;exact⟨(a,k),Fi I e2,Zeh e3 e1⟩
 ·obtain⟨e,he,a,e1,e2,e3⟩:=P.b.all p.2 ((km _).mpr (Zcu hp));refine⟨(a,p.2),Fi I e2,rfl,?_⟩;have:e=(qT X.prog X.w p.2,Value.ref a):=Zeh e3 e1;rw[<-this];exact he
end
noncomputable abbrev sk:CK:=⟨.SetComp,fun elt acc env=> (do let v <-eval elt env;standAt elt.pos;let _ <-call (.builtin "set.add") [acc,v]),AccAt,newSet (.type "set"),fun w=>HS.g8 (!(w.params.followText "set-order"))⟩
abbrev mn:=vJ sk
noncomputable abbrev inner:=lC sk
theorem uj:kL sk where
 turn:=fun elt tg iter ifs gens scope pos d it acc env hg h2=>by
  unfold compTurn lC;dsimp only;rw[hg];generalize hn:gens[d+1]? =o;cases o with
  |none=>rfl
  |some g'=>have e:=h2 g' hn;obtain⟨t',i',f',a'⟩:=g';have e':a'=0:=e;subst e';rfl
 cl:=fun _ _ _ _=>rfl
 dl:=fun _ _ _ _ _ _ _ _=> ⟨rfl,rfl⟩
 ds:=fun _ _ _ _ _ _ _ _=> ⟨rfl,rfl⟩
 obj:=fun a=>a.obj
 new:=fun h=>HC.MH h
 fr:=fun _=>rfl
 Ad:=fun {P w h D} nA=> ⟨[],rfl,ZaM _,(by obtain⟨o,es,ep,t,Q⟩:=HC.EN (knd:=tupleKind (intKind P w)) rfl nA;exact⟨o,es,ep,t,Q.core,(fun e he=>by obtain⟨k,hk,_⟩:=Q.b.el e he;cases hk),(fun p hp=>by cases hp),Q.b.sz⟩)⟩
section
variable {Y:Cx}{D:Addr}
def wg (te:TE):TC:=fun ys σ H Q=>te σ H fun v H1=> ∃(as:List (Addr×List Int)) (a:Addr) (k:List Int),ys=enc as/\v=.ref a/\H1 a=some (.tup (k.map V.int))/\(∀p∈as,H1 p.1=some (.tup (p.2.map V.int)))/\as.length<63/\Q (enc (as++[(a,k)])) σ H1
theorem cc {elt:Expr}{te:TE}(hu:Y.A.units+1<cLine)(hx:Y.xe=fun _ _=>False)(he:PE Y elt te):
  mn Y D (fun k=> (do let v <-eval elt Y.env;standAt elt.pos;let _ <-call (.builtin "set.add") [.ref D,v]) >>=fun _=>k) (wg te):=by
 intro pins s σ H ys Q k R I f a h hk;refine eg (ZcD (Q:=fun _ s'=> ∃aF ak H',Inv Y pins ak H' s'/\bj Y pins H' D/\AccAt Y.prog Y.w s'.heap D aF/\Q aF ak H') ?_ (fun _ s' ae=>by obtain⟨aF,ak,H',q1,q2,q3,q4⟩:=ae;exact hk s' aF ak H' q1 q2 q3 q4) fun _ _ z=>z);have I':=I.pinned (fp:=[D]) (fun b hb=>by rw[Zas.mp hb];exact f) (uj.kZ a);refine eg (ZcD (he _ s σ H _ I' h) (fun u s1 ae=> ?_) fun e s1 z=>by rw[hx]at z;exact z);obtain⟨v,H1,I1,ru,ik,x,k0,ey,ev,jF,aO,hlen,q⟩:=ae;subst ev;cases ru;obtain⟨⟨as,e,hl,o,es,ep,t,CO⟩,n1⟩:=uj.through Zaf a I1;rw[ey]at e;have:=AV e;subst this;have f1:bj Y pins H1 D:=⟨n1,f.2⟩;have Bc:=I1.gR;have aa1:∀p∈ik++[(x,k0)],H1 p.1=some (.tup (p.2.map V.int)):=fun p hp=>by
  rcases ZaO.mp hp with hp |hp
  ·exact aO p hp
  ·rw[Zas.mp hp];exact jF
 have hS:=CO.set (ok:=fun a=> ∃k,(a,k)∈ik++[(x,k0)]/\H1 a=some (.tup (k.map V.int))) fun p hp=>Fh Bc (Za3 _ hp) (aO p hp);have kl:=(Yp _ (ik.map (·.2)) rfl).2.2;rw[Zal]at kl;refine eg (Zef (eg (HC.Q6 (HC.OB (HC.D7 _ _) _) (by exact hu) (Fh Bc (ZaA _ (Zas.mpr rfl)) jF) hS .o fun h' sb l5=>gc ?_)));obtain⟨f0,g1,g2,g3,g4,g5⟩:=f1;have I2:Inv Y pins σ H1 {s1 with heap:=h',toks:=s1.toks+(HC.restrict (tupleKind (intKind Y.prog Y.w)) fun a=> ∃k,(a,k)∈ik++[(x,k0)]/\H1 a=some (.tup (k.map V.int))).draws k0} :=Bc.turned (it:=D) (fun b o hb eb=> (sb.2 b hb).trans eb) f0 g1 g3 g4 g5;have l3:HC.fA (KA Y H1 (ik++[(x,k0)])) h' D (gD ((ik++[(x,k0)]).map (·.2))):=by
  rw[show(ik++[(x,k0)]).map (·.2)=ik.map (·.2)++[k0] by rw[ZaV];rfl,UL];by_cases hm:k0∈gD (ik.map (·.2))
  ·rw[ZaQ hm]at l5 |-;exact l5
  ·rw[Zaz hm]at l5 |-;exact l5
 exact⟨_,σ,H1,I2,⟨f0,g1,g2,g3,g4,g5⟩,⟨ik++[(x,k0)],rfl,by rw[Zaj];show ik.length+1<=63;omega,Se I2 l3⟩,q⟩
end
section
variable {X:Cx}{pins:List (Addr×Obj)}{σ:St}{H H':Hp}{s s':Shared}
theorem vq {N':List Str}{scope:Scope}{C D:Addr}{fp:List Addr}{ak:St}{ys:List V}{pl:List (Addr×Obj)}{h':Heap}(I:Inv X pins σ H s)(hf:∀b∈fp,bj X pins H b)(hC:s.heap.objs.size<=C)(hD:s.heap.objs.size<=D)(i7:D≠C)
  (J:Inv (aU X N' scope C s H fp) pl ak H' s') (n:H' D=none) (a:AccAt X.prog X.w s'.heap D ys) (sb:Heap.SameBut C s'.heap h'):Inv X pins σ H' {s' with heap:=h'} :=by
 have fj:∀b o,s.heap.get? b=some o->b≠C:=fun b o e=>Za1 (Za7 (ZaC e) hC);have Dd:∀b o,s.heap.get? b=some o->b≠D:=fun b o e=>Za1 (Za7 (ZaC e) hD);have uq:∀b o,H b=some o->b≠D:=fun b o e=>Za1 (Za7 (I.aq.lt e) hD);have fC:H' C=none:=J.free;have u:Un (gN X.stack) fp H H' s.heap s'.heap:=J.base;refine I.Fc (s':= {s' with heap:=h'}) (ch:=fp) J.os ⟨fun b o e nb hb hx=> (sb.2 b (fj b o e)).trans (u.keep b o e nb hb hx),fun b o e nb hb hx=> ?_,fun b o e nb hx=>u.free b o e nb hx,fun b o e hx=> ?_,
  u.jq,u.i9,u.iC⟩ (fun b v e=> ?_) J.bare fun b hb=> ?_
 ·obtain⟨sl,q⟩:=u.slot b o e nb hb hx;exact⟨sl,(sb.2 b (fj b o e)).trans q⟩
 ·obtain⟨o',q⟩:=u.there b o e hx;exact⟨o',(sb.2 b (fj b o e)).trans q⟩
 ·refine(J.aq b v e).cq (fun c w hc q=> (sb.2 c ?_).trans q) (fun c q=>q) fun c xs q=>q;rcases hc with z |z
  ·rw[z];exact Zh e fC
  ·exact Zh z fC
 ·obtain⟨f0,f1,f2,f3,f4,f5⟩:=hf b hb;exact⟨f3,f1,f4,f5⟩
end
def Iz (wi:TI)(ts:Nat)(bF:List Nat)(g:TG)(tt:TT)(ti:TC):TE:=fun σ H Q=>wi σ H fun J H1=>gU g tt ti J [] (kG ts bF σ) H1 fun ys _ H2=> ∃as:List (Addr×List Int),ys=enc as/\(∀p∈as,H2 p.1=some (.tup (p.2.map V.int))/\p.2≠[])/\
 ∀(q:Addr) (cC:List V) (cg:List (List Int)),H2 q=none->cg.Nodup->(∀k,k∈cg↔k∈as.map (·.2))->cg.Pairwise (fun a b=>dc.ar b a=false)->Paired (bw H2) cC cg->Q (.ref q) (upd H2 q (.lst cC))
section
variable {X:Cx}{elt tg iter:Expr}{ifs:List Expr}{rest:List Comprehension}{scope:Scope}{pos:Pos}{wi:TI}{g:TG}{tt:TT}{ti:TC}
theorem LO {p gZ:Pos}(N':List Str)(ts:Nat)(bF:List Nat)(hg:Gl X "sorted")(hm:X.mg "sorted" =none)(hi:PI X tg iter wi)(pg:∀C s H fp,PG (aU X N' scope C s H fp) tg g)(pt:∀C s H fp,mj (aU X N' scope C s H fp) ifs tt)
  (pi:∀C s H fp D,mn (aU X N' scope C s H fp) D (inner elt (⟨tg,iter,ifs,0⟩::rest) scope pos 0 (.ref D) (aU X N' scope C s H fp).env) ti)
  (qU:starEach [.SetComp elt (⟨tg,iter,ifs,0⟩::rest) scope pos] X.env=[(false,eval (.SetComp elt (⟨tg,iter,ifs,0⟩::rest) scope pos) X.env)]:=by rfl)
  (ok:rR X.env.scope scope X.N N' ts bF=true:=by rfl) (hc:X.calm=true:=by rfl) (h2:∀g',(Comprehension.mk tg iter ifs 0::rest)[0+1]? =some g'->g'.is_async=0:=by(intro g' h;cases h<;>rfl))
  (hs:∀x,foldedSetIterable iter X.env x=pure x:=by intro _;rfl):
  PE X (.Call (.Name "sorted" p) [.SetComp elt (⟨tg,iter,ifs,0⟩::rest) scope pos] [] gZ) (Iz wi ts bF g tt ti):=by
 intro pins s σ H Q I h;refine Zdd (Z8 I hg hm boot_sorted ?_);refine Zed ?_ qU rfl;rw[qU];show wpAny _ _ (spliced ((false,eval (.SetComp elt (⟨tg,iter,ifs,0⟩::rest) scope pos) X.env)::backTo gZ (starEach [] X.env))) _ _ s;refine Zew ?_;have S:=W7 ok;rw[arm_eval_SetComp];refine(show wpAny _ X.A (comprehension (.SetComp elt (⟨tg,iter,ifs,0⟩::rest) scope pos) scope X.env _ (newSet (.type "set")) false (eval iter X.env)) _ _ s from ?_);refine ZeW (use:=none) rfl hs (Yw fun y hy e=>I.ok.has _ (S.free y hy e)) S.kind S.names (au (hi pins s σ H _ I h) fun v s1 h1=>au h1 fun lg s2 eY=> ?_);obtain⟨it,fp,tn,J,H2,e,I2,T,av,f2,q2⟩:=eY;subst e;refine YZ uj (RR:=fun acc C=>compPost (model X.prog X.w) X.A X.xe none _ acc C) S hc I2 T av f2 h2 (fun C=>pg C _ _ _) (fun C=>pt C _ _ _) (fun C D=>pi C _ _ _ D) q2 ?_;intro C D s' ak H' ys fl hC hD i7 J' n a q;obtain⟨m,hn,_⟩:=J'.loc;refine⟨m,hn,fun h' sb=> ?_⟩;have I3:Inv X pins σ H' {s' with heap:=h'} :=vq I2 f2 hC hD i7 J' n a sb;obtain⟨as,ey,hl,o,es,ep,t,CO⟩:=uj.keep a fun o e=> (sb.2 D i7).trans e;obtain⟨ik,EU,aO,q⟩:=q;rw[ey]at EU;have:=AV EU;subst this;refine Zfe ?_;have hS:=CO.set (ok:=Hu H') fun p hp=>RJ I3 (aO p hp).1;obtain⟨kn,km,kl⟩:=Yp _ (as.map (·.2)) rfl;rw[Zal]at kl;refine ZaS I3 hc hS kn (fun k hk=> ?_) .o fun q' cC cg hq pm so qv=> ?_
 ·obtain⟨p,hp,rfl⟩:=ZaN.mp ((km k).mp hk);exact(aO p hp).2
 ·exact q q' cC cg hq (pm.nodup_iff.mpr kn) (fun k=>pm.mem_iff.trans (km k)) so qv
end
end L2.ST
namespace L2
open PySem PySem.Spec PyProof.Rows SeqAt
section
variable {X:Cx}
def vd (g:Addr->Bool):Value->Bool
 | .ref a=>g a
 |_=>false
theorem JD:∀{as:List Addr}{aa:List Value},Vals (as.map V.ref) aa->aa=as.map Value.ref
 | [],_,.nil=>rfl
 |a::as,_,.cons h r=>by rw[show _=Value.ref a from h,JD r];rfl
inductive CG (K:ZhK) (E:Hp->Addr->V->Bool->Prop) (x:V) (y:V) (H:Hp) (Q:VK):Prop
 |mk (p:Addr) (as:List Addr) (g:Addr->Bool) (_:y=.ref p) (_:ai K H p (as.map V.ref)) (_:(∀a∈as,E H a x (g a))) (_:Q (.bl (as.any g)) H)
theorem S6 {E:Hp->Addr->V->Bool->Prop}(hE:∀{pins:List (Addr×Obj)}{σ:St}{H:Hp}{s:Shared}{a:Addr}{x:V}{v:Value}{b:Bool},Inv X pins σ H s->E H a x b->RelV x v->EqAt X.A.in1 s (.ref a) v b):aV X (compareOp .In) (CG X.K E):=by
 intro pins s σ H x y v u Q I rx ry h;obtain⟨p,as,g,rfl,hp,ha,q⟩:=h;cases ry;obtain⟨aa,r,pl,_⟩:=I.list hp;have e:=JD r;subst e;refine SeqAt.in_listAt (vd g) pl.isList (fun w hw=> ?_) ⟨.bl _,H,I,?_,q⟩
 ·have hw:w∈as.map Value.ref:=by simpa using hw
  obtain⟨a,h1,rfl⟩:=ZaN.mp hw;exact hE I (ha a h1) rx
 ·show Value.bool _=Value.bool _;have:((as.map Value.ref).any (vd g))=as.any g:=by rw[List.any_map];rfl
  rw[<-this];simp
inductive ya (K:ZhK) (E:Hp->Addr->V->Bool->Prop) (x:V) (y:V) (H:Hp) (Q:VK):Prop
 |mk (p:Addr) (as:List Addr) (g:Addr->Bool) (_:y=.ref p) (_:ai K H p (as.map V.ref)) (_:(∀a∈as,E H a x (g a))) (_:Q (.bl (!as.any g)) H)
theorem UD {E:Hp->Addr->V->Bool->Prop}(hE:∀{pins:List (Addr×Obj)}{σ:St}{H:Hp}{s:Shared}{a:Addr}{x:V}{v:Value}{b:Bool},Inv X pins σ H s->E H a x b->RelV x v->EqAt X.A.in1 s (.ref a) v b):aV X (compareOp .NotIn) (ya X.K E):=by
 intro pins s σ H x y v u Q I rx ry h;obtain⟨p,as,g,rfl,hp,ha,q⟩:=h;cases ry;obtain⟨aa,r,pl,_⟩:=I.list hp;have e:=JD r;subst e;refine SeqAt.notIn_listAt (vd g) pl.isList (fun w hw=> ?_) ⟨.bl _,H,I,?_,q⟩
 ·have hw:w∈as.map Value.ref:=by simpa using hw
  obtain⟨a,h1,rfl⟩:=ZaN.mp hw;exact hE I (ha a h1) rx
 ·show Value.bool _=Value.bool _;have:((as.map Value.ref).any (vd g))=as.any g:=by rw[List.any_map];rfl
  rw[<-this];simp
def EqT (K:ZhK)(H:Hp)(a:Addr)(x:V)(b:Bool):Prop:=∃(c:Addr) (xs ys:List V),x=.ref c/\ab K H a xs/\ab K H c ys/\xs.all cf=true/\ys.all cf=true/\b=decide (xs=ys)
theorem Zcc (hu:X.A.units+1<cLine):aV X (compareOp .NotIn) (ya X.K (EqT X.K)):=UD fun I h rx=>by obtain⟨c,xs,ys,rfl,h1,h2,n1,n2,rfl⟩:=h;cases rx;exact Ya I hu h1 h2 n1 n2
def Be (K:ZhK)(H:Hp)(a:Addr)(x:V)(r:Bool):Prop:=∃(b c d c' d':Addr) (xs ys bQ aF:List V),x=.ref b/\ab K H a [.ref c,.ref d]/\ab K H b [.ref c',.ref d']/\ab K H c xs/\ab K H d ys/\ab K H c' bQ/\ab K H d' aF/\
 xs.all cf=true/\ys.all cf=true/\bQ.all cf=true/\aF.all cf=true/\r=decide (xs=bQ/\ys=aF)
theorem SD (hu:X.A.units+2<cLine):aV X (compareOp .In) (CG X.K (Be X.K)):=S6 fun I h rx=>by obtain⟨b,c,d,c',d',xs,ys,bQ,aF,rfl,h1,h2,h3,h4,h5,h6,n1,n2,n3,n4,rfl⟩:=h;cases rx;exact UT I hu h1 h2 h3 h4 h5 h6 n1 n2 n3 n4
theorem Zcd (hu:X.A.units+2<cLine):aV X (compareOp .NotIn) (ya X.K (Be X.K)):=UD fun I h rx=>by obtain⟨b,c,d,c',d',xs,ys,bQ,aF,rfl,h1,h2,h3,h4,h5,h6,n1,n2,n3,n4,rfl⟩:=h;cases rx;exact UT I hu h1 h2 h3 h4 h5 h6 n1 n2 n3 n4
def Ls (K:ZhK):R2:=fun x y H Q=> ∃(a b c d c' d':Addr) (xs ys bQ aF:List V),x=.ref a/\y=.ref b/\ab K H a [.ref c,.ref d]/\ab K H b [.ref c',.ref d']/\ab K H c xs/\ab K H d ys/\ab K H c' bQ/\ab K H d' aF/\
 xs.all cf=true/\ys.all cf=true/\bQ.all cf=true/\aF.all cf=true/\Q (.bl (!decide (xs=bQ/\ys=aF))) H
theorem S8 (hu:X.A.units+1<cLine):aV X (compareOp .NotEq) (Ls X.K):=by
 intro pins s σ H x y u v Q I rx ry h;obtain⟨a,b,c,d,c',d',xs,ys,bQ,aF,rfl,rfl,ha,hb,hc,hd,bL,dA,h1,h2,h3,h4,q⟩:=h;cases rx;cases ry;obtain⟨us,r1,p1,_⟩:=I.tuple ha;obtain⟨vs,r2,p2,_⟩:=I.tuple hb;obtain rfl:=me (u:=.ref c) (v:=.ref d) r1 (fun _ z=>z) (fun _ z=>z);obtain rfl:=me (u:=.ref c') (v:=.ref d') r2 (fun _ z=>z) (fun _ z=>z);refine RcNeAt.tuples (e:=fun j=>if j=0 then decide (xs=bQ) else decide (ys=aF)) p1 p2 (Zda hu) (fun j fq eY=> ?_) _ _ _ _ ?_
 ·have hj:j<2:=fq
  match j,hj with
  |0,_=>exact Ya I hu hc bL h1 h3
  |1,_=>exact Ya I hu hd dA h2 h4
 ·have e2:((List.range (min [Value.ref c,Value.ref d].toArray.size [Value.ref c',Value.ref d'].toArray.size)).all (fun j=>if j=0 then decide (xs=bQ) else decide (ys=aF))&&[Value.ref c,Value.ref d].toArray.size==[Value.ref c',Value.ref d'].toArray.size)=decide (xs=bQ/\ys=aF):=by show((List.range 2).all (fun j=>if j=0 then decide (xs=bQ) else decide (ys=aF))&&2==2)=_;rw[Zcb];simp[ZbF]
  rw[e2];exact⟨.bl _,H,I,rfl,q⟩
end
end L2
variable {P:PySem.Program}{w:PySem.World}{K:ZhK}{mg:PySem.Str->Option PySem.Value}{base:PySem.Heap}{f:PySem.Addr}{fd:PySem.FuncData}
namespace U
open PySem L2 PyProof.Rows
noncomputable def top (i:Nat):Stmt:=PySem.Challenge.pw_unlikesteps_k83_whole_turns.main.body.getD i (.Pass ⟨0,0,0,0⟩)
structure Gs (mg:Str->Option Value):Prop where
 isinstance:mg "isinstance" =none
 int:mg "int" =none
 bool:mg "bool" =none
 tuple:mg "tuple" =none
 list:mg "list" =none
 len:mg "len" =none
 all:mg "all" =none
 set:mg "set" =none
 range:mg "range" =none
 max:mg "max" =none
 min:mg "min" =none
 enumerate:mg "enumerate" =none
 zip:mg "zip" =none
 sorted:mg "sorted" =none
 sum:mg "sum" =none
 longest:∃t,mg "LONGEST_SIDE" =some (.int 12 t)
 MR:∃t,mg "MOST_WIDE_fits" =some (.int 6 t)
 MU:∃t,mg "MOST_HIGH_fits" =some (.int 7 t)
 MS:∃t,mg "MOST_LINES" =some (.int 5 t)
 MQ:∃t,mg "MOST_WIDE_most" =some (.int 5 t)
 MT:∃t,mg "MOST_HIGH_most" =some (.int 5 t)
section
abbrev wU:Stmt:=top 10
inductive BQ (K:ZhK) (vs:List V) (H:Hp) (Q:VK) (_:XK):Prop
 |mk (x:_) (_:vs=[x]) (_:nO K H x) (_:Q (.bl (whole x)) H)
theorem Kj:aM ["thing"] ["thing"] (ax wU):=Zr (by decide+kernel)
theorem VH (F:aH K "is_whole" "is_whole" wU f fd)(G:Gs mg):ay P w K mg base az 1 f fd ["thing"] (BQ K):=by
 refine F.ok Kj (fun vs H Q E h=> ?_) (fun ao A outer s H vs Q E hr h=> ?_)
 ·obtain⟨x,rfl,_⟩:=h;rfl
 ·obtain⟨x,rfl,⟨T,t⟩,q⟩:=h;refine⟨_,Zg (Zm (YH (Zo (Yt (c:= "int")) rfl G.isinstance Ze5 (Za (pv 0) (Za (Jq (v:=.ty "int") rfl G.int boot_int rfl) Zb)))
   (YF (Tf (Zo (Yt (c:= "bool")) rfl G.isinstance Ze5 (Za (pv 0) (Za (Jq (v:=.ty "bool") rfl G.bool boot_bool rfl) Zb))))))),?_⟩
  try dsimp only[aP]
  refine⟨x,rfl,x,_,_,rfl,t,So t,_,rfl,?_⟩;rw[Zbp]at q;cases e:yD x with
  |false=>rw[e]at q;exact aI q
  |true=>rw[e]at q;exact aX ⟨x,rfl,x,_,_,rfl,t,TB t,_,rfl,q⟩
abbrev wR:Stmt:=top 11
inductive nX (K:ZhK) (vs:List V) (H:Hp) (Q:VK) (_:XK):Prop
 |mk (x a b:_) (_:vs=[x,.int a,.int b]) (_:nO K H x) (_:Q (.bl (cm x a b)) H)
theorem Ki:aM ["thing", "least", "most"] ["thing", "least", "most"] (ax wR):=Zr (by decide+kernel)
theorem XH (F:aH K "is_whole_within" "is_whole_within" wR f fd)(D1:Def P w K mg base 1 "is_whole" ["thing"] (BQ K)):ay P w K mg base az 2 f fd ["thing", "least", "most"] (nX K):=by
 refine F.ok Ki (fun vs H Q E h=> ?_) (fun ao A outer s H vs Q E hr h=> ?_)
 ·obtain⟨x,a,b,rfl,_⟩:=h;rfl
 ·obtain⟨x,a,b,rfl,t,q⟩:=h;refine⟨_,Zg (Zm (YH (Zc D1 hr (Za (pv 0) Zb)) (YF (VL Fm Fm (pv 1) (pv 0) (pv 2))))),?_⟩
  try dsimp only[aP]
  refine⟨x,rfl,x,rfl,t,_,rfl,?_⟩;cases x with
  |int i=>
   refine aX ⟨_,rfl,_,rfl,_,_,rfl,rfl,_,rfl,?_⟩;have e:cm (.int i) a b=(decide (a<=i)&&decide (i<=b)):=rfl;rw[e]at q;cases e1:decide (a<=i) with
   |false=>rw[e1]at q;exact aI q
   |true=>rw[e1]at q;exact aX ⟨_,rfl,_,_,rfl,rfl,q⟩
  |_=>exact aI q
abbrev tO:Stmt:=top 13
inductive tm (K:ZhK) (vs:List V) (H:Hp) (Q:VK) (_:XK):Prop
 |mk (x n:_) (_:vs=[x,.int n]) (_:nO K H x) (_:Q (.bl (match cV H x with |some xs=>decide ((xs.length:Int)=n) |none=>false)) H)
theorem Cq:aM ["thing", "many"] ["thing", "many"] (ax tO):=Zr (by decide+kernel)
theorem VG (F:aH K "is_tuple_of" "is_tuple_of" tO f fd)(G:Gs mg):ay P w K mg base az 1 f fd ["thing", "many"] (tm K):=by
 refine F.ok Cq (fun vs H Q E h=> ?_) (fun ao A outer s H vs Q E hr h=> ?_)
 ·obtain⟨x,n,rfl,_⟩:=h;rfl
 ·obtain⟨x,n,rfl,⟨T,t⟩,q⟩:=h;refine⟨_,Zg (Zm (YH (Zo (Yt (c:= "tuple")) rfl G.isinstance Ze5 (Za (pv 0) (Za (Jq (v:=.ty "tuple") rfl G.tuple boot_tuple rfl) Zb)))
   (YF (YG YQ (Zo Zv rfl G.len Zez (Za (pv 0) Zb)) (pv 1) (bR _))))),?_⟩
  try dsimp only[aP]
  refine⟨x,rfl,x,_,_,rfl,t,Xn t,_,rfl,?_⟩;cases e:cV H x with
  |none=>rw[e]at q;exact aI q
  |some xs=>
   rw[e]at q;obtain⟨a,rfl,ha⟩:=Zk e;refine aX ⟨_,rfl,a,xs,rfl,.inr (ab.of ha),_,rfl,rfl,?_⟩;have z:decide (V.int (xs.length:Int)=V.int n)=decide ((xs.length:Int)=n):=by simp
   rw[z];exact q
abbrev xQ:Stmt:=top 14
noncomputable def qK:Option (List V)->Bool
 |some [a,b]=>cm a 1 12&&cm b 1 12
 |_=>false
def r8 (K:ZhK)(H:Hp)(x:V):Prop:=nO K H x/\∀xs,cV H x=some xs->∀y∈xs,nO K H y
inductive Cg (K:ZhK) (vs:List V) (H:Hp) (Q:VK) (_:XK):Prop
 |mk (x:_) (_:vs=[x]) (_:r8 K H x) (_:∀H',ag H H'->Q (.bl (qK (cV H x))) H')
theorem KR:aM ["thing"] ["thing"] (ax xQ):=Zr (by decide+kernel)
theorem VC (F:aH K "is_board" "is_board" xQ f fd)(G:Gs mg)(D1:Def P w K mg base 1 "is_tuple_of" ["thing", "many"] (tm K))(D2:Def P w K mg base 2 "is_whole_within" ["thing", "least", "most"] (nX K)):
  ay P w K mg base az 3 f fd ["thing"] (Cg K):=by
 obtain⟨tk,hL⟩:=G.longest;refine F.ok KR (fun vs H Q E h=> ?_) (fun ao A outer s H vs Q E hr h=> ?_)
 ·obtain⟨x,rfl,_⟩:=h;rfl
 ·obtain⟨x,rfl,⟨t,hi⟩,q⟩:=h;refine⟨_,Zg (Zm (YH (Zc D1 (hr.mono .d) (Za (pv 0) (Za Zf Zb)))
   (YF (Zo Y0 rfl G.all boot_all (Za (ZM ["side"] 1 [] (WC (pv 0)) (fun C s H fp=>pb 0) (fun C s H fp=>ZE)
    (fun C s H fp D=>cc rfl (Zc D2 (hr.mono .d) (Za (pv 0) (Za Zf (Za (Yf (v:=.int 12) rfl hL ⟨_,rfl⟩) Zb)))))) Zb))))),?_⟩
  try dsimp only[aP]
  refine⟨x,rfl,x,2,rfl,t,_,rfl,?_⟩;cases e:cV H x with
  |none=>rw[e]at q;exact aI (q H (ag.refl H))
  |some xs=>
   rw[e]at q;obtain⟨a,rfl,ha⟩:=Zk e;show if decide ((xs.length:Int)=2)=true then _ else _
   by_cases h2:xs.length=2
   ·rw[Zaq (show(xs.length:Int)=2 by omega)];refine aX ⟨_,rfl,a,rfl,⟨xs,ab.of ha⟩,?_⟩;refine YR (xs:=xs) (fun i ys σ H2=>ys=(xs.take i).map (fun y=>V.bl (cm y 1 12))/\H2=H/\∃v,σ=[v]) ⟨rfl,rfl,none,rfl⟩ (fun i ys σ H2 _ ae=>by obtain⟨_,e2,_⟩:=ae;rw[e2];exact ab.of ha) ?_ ?_
    ·rintro i y ys σ H2 hy ⟨rfl,rfl,v,rfl⟩;have my:y∈xs:=ZaD hy;refine⟨y,rfl,y,1,12,rfl,hi xs e y my,?_,?_⟩
     ·rw[Zal,ZaX,ZaR];omega
     ·refine⟨?_,rfl,_,rfl⟩;rw[Za2,hy,ZaV];rfl
    ·rintro ys σ H2 ⟨rfl,rfl,v,rfl⟩ p hp;rw[Zbe];refine⟨p,xs.map (fun y=>cm y 1 12),rfl,?_,?_⟩
     ·rw[ZcG];exact ai.of Zd
     ·have e3:qK (some xs)=(xs.map (fun y=>cm y 1 12)).all id:=by
       match xs,h2 with
       | [a,b],_=>simp[qK]
      rw[<-e3];exact q _ fun b o hb=>by rw[Zi (Zh hb hp)];exact hb
   ·rw[ZaF (show ¬(xs.length:Int)=2 by omega)];have e3:qK (some xs)=false:=by
     match xs,h2 with
     | [],_=>rfl
     | [a],_=>rfl
     | [a,b],h=>exact absurd rfl h
     |a::b::c::r,_=>rfl
    rw[e3]at q;exact aI (q H (ag.refl H))
end
section
theorem YX (val:Nat->Int):∀n,((PyProof.Rows.firstMet val n).length=n↔((List.range n).map val).Nodup)
 |0=>by simp[PyProof.Rows.firstMet_zero]
 |n+1=>by
  have ih:=YX val n;have le:=PyProof.Rows.firstMet_length_le val n;rw[PyProof.Rows.firstMet_succ,PyProof.Rows.step_length,PyProof.Rows.firstMet_any,ZbF,ZaV];have e:(((List.range n).map val).any (· ==val n))=true↔val n∈(List.range n).map val:=by
   rw[ZdD];constructor
   ·rintro⟨x,hx,q⟩;have:x=val n:=by simpa using q
    rw[<-this];exact hx
   ·intro h;exact⟨_,h,by simp⟩
  have nd:((List.range n).map val++List.map val [n]).Nodup↔((List.range n).map val).Nodup/\¬val n∈(List.range n).map val:=by
   rw[Zdj];constructor
   ·rintro⟨h1,_,h3⟩;exact⟨h1,fun m=>h3 _ m (val n) (by simp) rfl⟩
   ·rintro⟨h1,h2⟩;refine⟨h1,by simp,fun a ha b hb q=>h2 ?_⟩;have cG:b=val n:=by simpa using hb
    rw[<-cG,<-q];exact ha
  rw[nd,<-ih];by_cases m:val n∈(List.range n).map val
  ·rw[ZaQ (e.mpr m)];constructor
   ·intro h;omega
   ·rintro⟨_,h⟩;exact absurd m h
  ·rw[Zaz (fun z=>m (e.mp z))];constructor
   ·intro h;exact⟨.o,m⟩
   ·rintro⟨h,_⟩;omega
theorem ZbX (ns:List Int):n8 ns=ns.length↔ns.Nodup:=by
 unfold n8;rw[YX];have e:(List.range ns.length).map (fun i=>ns.getD i 0)=ns:=by refine ZeN (by simp) fun i h1 h2=> ?_;rw[Zgw,List.getElem_range,ZbC,Zaw h2,Zem]
 rw[e]
def rowsOf (xs:List V):List V:=xs.filter fun x=> !decide (x=.ah)
noncomputable def bu (wd hg:Int):Option (List V)->Bool
 |some xs=>decide ((xs.length:Int)=wd)&&((rowsOf xs).all fun r=>cm r 0 (hg-1))&&decide (rowsOf xs).Nodup
 |none=>false
def cJ (H:Hp)(x:V)(wd hg:Int):Prop:=cV H x=some [.int wd,.int hg]/\1<=wd/\wd<=12/\1<=hg/\hg<=12
theorem cJ.same {H H':Hp}{x:V}{wd hg:Int}(b:cJ H x wd hg)(s:ag H H'):cJ H' x wd hg:=⟨s.cV b.1,b.2⟩
theorem cJ.is {H:Hp}{x:V}{wd hg:Int}(b:cJ H x wd hg):qK (cV H x)=true:=by obtain⟨h,h1,h2,h3,h4⟩:=b;rw[h];show(decide (1<=wd)&&decide (wd<=12)&&(decide (1<=hg)&&decide (hg<=12)))=true;simp[h1,h2,h3,h4]
theorem cJ.pl {K:ZhK}{H:Hp}{x:V}{wd hg:Int}(b:cJ H x wd hg):r8 K H x:=by
 obtain⟨a,rfl,ha⟩:=Zk b.1;refine⟨⟨_,.tup ha⟩,fun xs e y hy=> ?_⟩;rw[b.1]at e;cases e;rcases Zav.mp hy with z |hy
 ·rw[z];exact⟨_,.int wd⟩
 ·rw[Zas.mp hy];exact⟨_,.int hg⟩
theorem Zbq {xs:List V}{lo hi:Int}(h:(xs.all fun r=>cm r lo hi)=true):∃ns:List Int,xs=ns.map V.int:=by
 induction xs with
 |nil=>exact⟨[],rfl⟩
 |cons x xs ih=>
  rw[Zgm,Za5]at h;obtain⟨ns,e⟩:=ih h.2;cases x with
  |int i=>exact⟨i::ns,by rw[e];rfl⟩
  |_=>cases h.1
theorem UG (ns:List Int):(ns.map V.int).Nodup↔ns.Nodup:=by
 induction ns with
 |nil=>simp
 |cons n ns ih=>rw[Zba,Zcm,Zcm,ih];simp
end
section
abbrev xr:Stmt:=top 15
inductive pV (K:ZhK) (vs:List V) (H:Hp) (Q:VK) (_:XK):Prop
 |mk (x wd hg:_) (_:vs=[x]) (_:cJ H x wd hg) (_:∀H',ag H H'->Q .ah H')
theorem Kv:aM ["board"] ["board"] (ax xr):=Zr (by decide+kernel)
theorem Zam (F:aH K "need_board" "need_board" xr f fd)(D1:Def P w K mg base 3 "is_board" ["thing"] (Cg K)):ay P w K mg base az 4 f fd ["board"] (pV K):=by
 refine F.ok Kv (fun vs H Q E h=> ?_) (fun ao A outer s H vs Q E hr h=> ?_)
 ·obtain⟨x,wd,hg,rfl,_⟩:=h;rfl
 ·obtain⟨x,wd,hg,rfl,b,q⟩:=h;refine⟨_,Zg (Z1 (YE (Yi (Zc D1 hr (Za (pv 0) Zb)))) ZF ZD),?_⟩
  try dsimp only[aP]
  refine⟨x,rfl,x,rfl,b.pl,fun H' sm=> ⟨_,rfl,?_⟩⟩;rw[b.is];exact aI (q H' sm)
abbrev xC:Stmt:=top 17
inductive wD (K:ZhK) (vs:List V) (H:Hp) (Q:VK) (_:XK):Prop
 |mk (x y wd hg:_) (_:vs=[x,y]) (_:cJ H x wd hg) (_:r8 K H y) (_:∀H',ag H H'->Q (.bl (bu wd hg (cV H y))) H')
theorem tK:aM ["board", "thing", "wide", "high", "rows"] ["board", "thing"] (ax xC):=Zr (by decide+kernel)
theorem RA (F:aH K "is_lay" "is_lay" xC f fd)(G:Gs mg)(D1:Def P w K mg base 4 "need_board" ["board"] (pV K))(D2:Def P w K mg base 1 "is_tuple_of" ["thing", "many"] (tm K))
  (D3:Def P w K mg base 2 "is_whole_within" ["thing", "least", "most"] (nX K)):ay P w K mg base az 5 f fd ["board", "thing"] (wD K):=by
 refine F.ok tK (fun vs H Q E h=> ?_) (fun ao A outer s H vs Q E hr h=> ?_)
 ·obtain⟨x,y,wd,hg,rfl,_⟩:=h;rfl
 ·obtain⟨x,y,wd,hg,rfl,b,⟨ty,hy⟩,q⟩:=h;refine⟨_,Ze (ZP (Zc D1 hr (Za (pv 0) Zb)))
   (Ze (Yu (pv 0) (ZI rfl (Zj (Zn (i:=2) tK.nd rfl (Or.inl rfl)) (Zj (Zn (i:=3) tK.nd rfl (Or.inr rfl)) Zz))))
   (Ze (Z1 (YE (Yi (Zc D2 (hr.mono .d) (Za (pv 1) (Za (pv 2) Zb))))) (Zg (Zm Ao)) ZD)
   (Ze (Yr ["row"] 1 [] (i:=4) tK.nd rfl (Or.inl rfl) (WC (pv 1)) (fun C s H fp=>pb 0) (fun C s H fp=>Ye (JJ (Wm (pv 0)))) (fun C s H fp D=>cc rfl (pv 0)))
   (Zg (Zm (YH (Zo Y0 rfl G.all boot_all (Za (ZM ["row", "high"] 1 [3] (Zw (pv 4)) (fun C s H fp=>pb 0) (fun C s H fp=>ZE)
     (fun C s H fp D=>cc rfl (Zc D3 (hr.mono .d) (Za (pv 0) (Za Zf (Za (Zp Z7 (pv 1) Zf) Zb)))))) Zb))
    (YF (YG YQ (Zo Um rfl G.len Zez (Za (Yz Uk rfl G.set boot_set (Za (pv 4) Zb)) Zb)) (Zo Zv rfl G.len Zez (Za (pv 4) Zb)) (bR _))))))))),?_⟩
  try dsimp only[aP]
  refine⟨x,rfl,x,wd,hg,rfl,b,fun H1 s1=> ?_⟩;have b1:=b.same s1;obtain⟨a,rfl,ha⟩:=Zk b1.1;refine⟨_,rfl,a,_,rfl,ab.of ha,rfl,_,_,rfl,_,_,rfl,rfl,?_⟩;refine⟨y,rfl,_,rfl,y,wd,rfl,s1.CN ty,_,rfl,?_⟩;cases e:cV H y with
  |none=>
   have e1:cV H1 y=none:=by
    obtain⟨T,t⟩:=ty;cases t with
    |tup e2=>rw[Zx e2]at e;cases e
    |lst e2=>rw[Yj,s1 _ _ e2];rfl
    |bM e2=>rw[Yj,s1 _ _ e2];rfl
    |dK e2=>rw[Yj,s1 _ _ e2];rfl
    |dT e2=>rw[Yj,s1 _ _ e2];rfl
    |_=>rfl
   rw[e1];rw[e]at q;exact aX (q H1 s1)
  |some xs=>
   have e1:=s1.cV e;rw[e1];rw[e]at q;obtain⟨l,rfl,hl⟩:=Zk e1;by_cases hw:(xs.length:Int)=wd
   ·refine(show if (!decide ((xs.length:Int)=wd))=true then _ else _ from ?_);rw[Zaq hw];refine aI ?_;have hwd:=b.2.2.1;have hlen:xs.length<=12:=.o;refine⟨_,rfl,l,rfl,⟨xs,ab.of hl⟩,?_⟩;refine YR (xs:=xs) (fun i ys σ H2=>ys=rowsOf (xs.take i)/\H2=H1/\∃v,σ=[v]) ⟨rfl,rfl,none,rfl⟩ (fun i ys σ H2 _ ae=>by obtain⟨_,e2,_⟩:=ae;rw[e2];exact ab.of hl) ?_ ?_
    ·rintro i r ys σ H2 br ⟨rfl,rfl,v,rfl⟩;have et:rowsOf (xs.take (i+1))=rowsOf (xs.take i)++(if (!decide (r=V.ah))=true then [r] else []):=by
      unfold rowsOf;rw[Za2,br,ZcX];cases hh:(!decide (r=V.ah)) with
      |true=>simp[hh]
      |false=>simp[hh]
     refine⟨r,rfl,_,rfl,?_⟩;cases hh:(!decide (r=V.ah)) with
     |true=>
      rw[hh]at et;refine aX ?_;refine⟨r,rfl,?_,?_⟩
      ·have:=Zdk (fun x=> !decide (x=V.ah)) (xs.take i);unfold rowsOf;rw[ZaX];rw[ZaR]at this;omega
      ·exact⟨by rw[et,ZaQ rfl],rfl,_,rfl⟩
     |false=>rw[hh]at et;exact aI ⟨by rw[et,Zaz Zag,ZbE],rfl,_,rfl⟩
    ·rintro ys σ H2 ⟨rfl,rfl,v,rfl⟩ p hp;rw[Zbe];have hrl:(rowsOf xs).length<=12:=Zbi (Zdk _ _) hlen;have s2:ag H2 (upd H2 p (.lst (rowsOf xs))):=fun b o hb=>by rw[Zi (Zh hb hp)];exact hb
     refine⟨_,rfl,p,rfl,⟨rowsOf xs,ai.of Zd⟩,?_⟩;generalize ED:upd H2 p (HO.lst (rowsOf xs))=H3 at s2;have qY:H3 p=some (.lst (rowsOf xs)):=by rw[<-ED];exact Zd
     refine Zy (xs:=rowsOf xs) (fun i ys σ H4=>ys=((rowsOf xs).take i).map (fun r=>V.bl (cm r 0 (hg-1)))/\H4=H3/\∃v,σ=[v,some (.int hg)]) ⟨rfl,rfl,none,rfl⟩ (fun i ys σ H4 _ ae=>by obtain⟨_,e2,_⟩:=ae;rw[e2];exact ai.of qY) ?_ ?_
     ·rintro i r ys σ H4 br ⟨rfl,rfl,v,rfl⟩;have mr:r∈xs:=(ZaZ.mp (ZaD br)).1;refine⟨r,rfl,_,rfl,_,_,rfl,rfl,r,0,hg-1,rfl,(s1.trans s2).CN (hy xs e r mr),?_,?_⟩
      ·rw[Zal,ZaX,ZaR];omega
      ·refine⟨?_,rfl,_,rfl⟩;rw[Za2,br,ZaV];rfl
     ·rintro ys σ H4 ⟨rfl,rfl,v,rfl⟩ p' jG;rw[Zbe];have s3:∀o,ag H4 (upd H4 p' o):=fun o b u hb=>by rw[Zi (Zh hb jG)];exact hb
      refine⟨p',(rowsOf xs).map (fun r=>cm r 0 (hg-1)),rfl,?_,?_⟩
      ·rw[ZcG];exact ai.of Zd
      ·have Qd:((rowsOf xs).map (fun r=>cm r 0 (hg-1))).all id=(rowsOf xs).all fun r=>cm r 0 (hg-1):=by rw[List.all_map];rfl
       rw[Qd];have P6:bu wd hg (some xs)=(((rowsOf xs).all fun r=>cm r 0 (hg-1))&&decide (rowsOf xs).Nodup):=by show(decide ((xs.length:Int)=wd)&&_&&_)=_;rw[Zaq hw,Bool.true_and]
       rw[P6]at q;refine⟨_,rfl,?_⟩;cases aO:((rowsOf xs).all fun r=>cm r 0 (hg-1)) with
       |false=>rw[aO]at q;exact aI (q _ (s1.trans (s2.trans (s3 _))))
       |true=>
        rw[aO,Bool.true_and]at q;obtain⟨ns,en⟩:=Zbq aO;have fP:(upd H4 p' (.lst (((rowsOf xs).map (fun r=>V.bl (cm r 0 (hg-1))))))) p=some (.lst (rowsOf xs)):=s3 _ _ _ qY;refine aX ?_;have hnl:ns.length=(rowsOf xs).length:=by rw[en,Zal]
        refine⟨_,rfl,p,ns,rfl,by rw[<-en];exact ai.of fP,.o,fun q2 S cP=> ⟨q2,S,n8 ns,rfl,Zd,_,rfl,p,rowsOf xs,rfl,.inl (ai.of ?_),rfl,?_⟩⟩
        ·rw[Zi (Zh fP cP)];exact fP
        ·have ed:decide (V.int (n8 ns:Int)=V.int ((rowsOf xs).length:Int))=decide (rowsOf xs).Nodup:=by
          rw[Zfv];rw[en,UG,<-ZbX,Zal];constructor
          ·intro h;injection h with h;omega
          ·intro h;rw[h]
         rw[ed];exact q _ (s1.trans (s2.trans ((s3 _).trans fun b o hb=>by rw[Zi (Zh hb cP)];exact hb)))
   ·refine(show if (!decide ((xs.length:Int)=wd))=true then _ else _ from ?_);rw[ZaF hw];have e3:bu wd hg (some xs)=false:=by show(decide ((xs.length:Int)=wd)&&_&&_)=false;rw[ZaF hw,Zfl,Zfl]
    rw[e3]at q;exact aX (q H1 s1)
theorem jP {x y:V} :fw [x,y] 0=some x:=rfl
theorem ij {x y:V} :fw [x,y] 1=some y:=rfl
structure cA (wd hg:Int)(xs:List V):Prop where
 len:(xs.length:Int)=wd
 row:∀r∈rowsOf xs,cm r 0 (hg-1)=true
 nd:(rowsOf xs).Nodup
theorem cA.is {wd hg:Int}{xs:List V}(h:cA wd hg xs):bu wd hg (some xs)=true:=by show(decide ((xs.length:Int)=wd)&&((rowsOf xs).all fun r=>cm r 0 (hg-1))&&decide (rowsOf xs).Nodup)=true;rw[Zaq h.len,Zaq h.nd,Zbd.mpr h.row];rfl
end
section
def gW:V->Option Int
 | .int r=>some r
 |_=>none
def rowAt (xs:List V)(i:Nat):Option Int:=xs[i]?.bind gW
abbrev aE:=Int×Int×Int×Int
noncomputable def iD (xs:List V)(o l:Nat):Option aE:=(rowAt xs l).bind fun a=> (rowAt xs o).map fun b=> ((o:Int)-l,b-a,(l:Int),(o:Int))
def js (xs:List V)(o j:Nat):List aE:=(List.range j).filterMap (iD xs o)
def bO (xs:List V)(n:Nat):List aE:=(List.range n).flatMap fun o=>js xs o o
theorem U7 (xs:List V)(o j:Nat):js xs o (j+1)=js xs o j++(iD xs o j).toList:=by unfold js;rw[ZbF,ZbO];cases h:iD xs o j<;>simp[h]
theorem Jb (xs:List V)(n:Nat):bO xs (n+1)=bO xs n++js xs n n:=by unfold bO;rw[ZbF,ZcL];simp
def pj (H:Hp)(v:V)(q:aE):Prop:=∃t t':Addr,v=.ref t/\H t=some (.tup [.ref t',.int q.2.2.1,.int q.2.2.2])/\H t'=some (.tup [.int q.1,.int q.2.1])
def nK (xs:List V):Prop:=∀x∈xs,x=.ah∨∃i,x=.int i
theorem cA.ok {wd hg:Int}{xs:List V}(h:cA wd hg xs):nK xs:=fun x hx=>by
 by_cases e:x=.ah
 ·exact .inl e
 ·have m:x∈rowsOf xs:=ZaZ.mpr ⟨hx,by simp[e]⟩;have q:=h.row x m;cases x with
  |int i=>exact .inr ⟨i,rfl⟩
  |_=>cases q
end
section
theorem Paired.at {α β:Type}{F:α->β->Prop} :∀{k7:List α}{k6:List β}{i:Nat}{a:α},Paired F k7 k6->k7[i]? =some a->∃b,k6[i]? =some b/\F a b
 |_,_,_,_,.nil,e=>by simp at e
 |_,_,0,_,.cons r _,e=>by simp at e;subst e;exact⟨_,rfl,r⟩
 |_,_,i+1,a,.cons _ t,e=>by obtain⟨u,h1,h2⟩:=Paired.at (i:=i) (a:=a) t (by simpa using e);exact⟨u,by simpa using h1,h2⟩
end
section
def LA (K:ZhK):R2:=fun x y H Q=> ∃a b ys,x=.ref a/\y=.ref b/\ab K H a []/\ab K H b ys/\Q (.ref b) H
def mP (K:ZhK):R2:=fun x y H Q=>LA K x y H Q∨yc K x y H Q
theorem kX {X:Cx} :aV X (binaryOp .Add) (mP X.K):=Ho.or Ga
def aj (xs:List V):List (Int×Int):=(List.range xs.length).filterMap fun l=> (rowAt xs l).map fun r=> ((l:Int),r)
def iq (H:Hp)(v:V)(q:Int×Int):Prop:=∃t:Addr,v=.ref t/\H t=some (.tup [.int q.1,.int q.2])
def ji (H:Hp)(v:V)(q:aE):Prop:=∃t:Addr,v=.ref t/\H t=some (.tup [.int q.1,.int q.2.1,.int q.2.2.1,.int q.2.2.2])
theorem iq.same {H H':Hp}{v:V}{q:Int×Int}(h:iq H v q)(s:ag H H'):iq H' v q:=by obtain⟨t,e,h1⟩:=h;exact⟨t,e,s _ _ h1⟩
theorem ji.same {H H':Hp}{v:V}{q:aE}(h:ji H v q)(s:ag H H'):ji H' v q:=by obtain⟨t,e,h1⟩:=h;exact⟨t,e,s _ _ h1⟩
def pairsOf (ps:List (Int×Int))(a:Int×Int)(j:Nat):List aE:=((ps.take j).filter fun b=>decide (a.1<b.1)).map fun b=> (a.1,a.2,b.1,b.2)
def jA (ps:List (Int×Int))(i:Nat):List aE:=(ps.take i).flatMap fun a=>pairsOf ps a ps.length
def dw (ps:List (Int×Int)):List aE:=jA ps ps.length
theorem Zai {ps:List (Int×Int)}{a b:Int×Int}{j:Nat}(h:ps[j]? =some b):pairsOf ps a (j+1)=pairsOf ps a j++(if decide (a.1<b.1)=true then [(a.1,a.2,b.1,b.2)] else []):=by unfold pairsOf;rw[Za2,h,ZcX,ZaV];cases hh:decide (a.1<b.1)<;>simp_all
theorem Zah {ps:List (Int×Int)}{a:Int×Int}{i:Nat}(h:ps[i]? =some a):jA ps (i+1)=jA ps i++pairsOf ps a ps.length:=by unfold jA;rw[Za2,h,ZcL];simp
end
section
abbrev xq:Stmt:=top 18
def bt (H:Hp)(x y:V)(wd hg:Int)(xs:List V):Prop:=cJ H x wd hg/\cV H y=some xs/\cA wd hg xs
theorem bt.same {H H':Hp}{x y:V}{wd hg:Int}{xs:List V}(h:bt H x y wd hg xs)(s:ag H H'):bt H' x y wd hg xs:=⟨h.1.same s,s.cV h.2.1,h.2.2⟩
theorem bt.pl {H:Hp}{x y:V}{wd hg:Int}{xs:List V}(h:bt H x y wd hg xs):r8 K H y:=by
 obtain⟨a,rfl,ha⟩:=Zk h.2.1;refine⟨⟨_,.tup ha⟩,fun zs e z hz=> ?_⟩;rw[h.2.1]at e;cases e;rcases h.2.2.ok z hz with rfl |⟨i,rfl⟩
 ·exact⟨_,.ah⟩
 ·exact⟨_,.int i⟩
inductive wy (vs:List V) (H:Hp) (Q:VK) (_:XK):Prop
 |mk (x y wd hg xs:_) (_:vs=[x,y]) (_:bt H x y wd hg xs) (_:∀H',ag H H'->Q .ah H')
theorem Ku:aM ["board", "lay"] ["board", "lay"] (ax xq):=Zr (by decide+kernel)
theorem Zce (F:aH K "need_lay" "need_lay" xq f fd)(D1:Def P w K mg base 5 "is_lay" ["board", "thing"] (wD K)):ay P w K mg base az 6 f fd ["board", "lay"] wy:=by
 refine F.ok Ku (fun vs H Q E h=> ?_) (fun ao A outer s H vs Q E hr h=> ?_)
 ·obtain⟨x,y,wd,hg,xs,rfl,_⟩:=h;rfl
 ·obtain⟨x,y,wd,hg,xs,rfl,l,q⟩:=h;refine⟨_,Zg (Z1 (YE (Yi (Zc D1 hr (Za (pv 0) (Za (pv 1) Zb))))) ZF ZD),?_⟩
  try dsimp only[aP]
  refine⟨x,rfl,y,rfl,x,y,wd,hg,rfl,l.1,l.pl,fun H' sm=> ⟨_,rfl,?_⟩⟩;rw[l.2.1,l.2.2.is];exact aI (q H' sm)
inductive mH (vs:List V) (H:Hp) (Q:VK) (_:XK):Prop
 |mk (x y wd hg xs:_) (_:vs=[x,y]) (_:bt H x y wd hg xs) (_:∀(l:Addr) (H':Hp) (ps:List V),ag H H'->H l=none->H' l=some (.lst ps)->Paired (iq H') ps (aj xs)->Q (.ref l) H')
abbrev xn:Stmt:=top 24
inductive BY (vs:List V) (H:Hp) (Q:VK) (_:XK):Prop
 |mk (x y wd hg xs:_) (_:vs=[x,y]) (_:bt H x y wd hg xs) (_:∀(l:Addr) (H':Hp) (ps:List V),ag H H'->H l=none->H' l=some (.lst ps)->Paired (ji H') ps (dw (aj xs))->Q (.ref l) H')
theorem Cs:aM ["board", "lay", "found"] ["board", "lay"] (ax xn):=Zr (by decide+kernel)
theorem VE (F:aH K "point_pairs" "point_pairs" xn f fd)(D1:Def P w K mg base 7 "points" ["board", "lay"] mH):ay P w K mg base az 8 f fd ["board", "lay"] BY:=by
 refine F.ok Cs (fun vs H Q E h=> ?_) (fun ao A outer s H vs Q E hr h=> ?_)
 ·obtain⟨x,y,wd,hg,xs,rfl,_⟩:=h;rfl
 ·obtain⟨x,y,wd,hg,xs,rfl,l,q⟩:=h;refine⟨_,Ze (Zu (i:=2) Cs.nd rfl (Or.inr rfl) (Zc D1 hr (Za (pv 0) (Za (pv 1) Zb))))
   (Zg (Zm (ZM ["line", "row", "other", "there", "found"] 4 [2] (Zw (pv 2))
    (fun C s H fp=>show PG (aU _ _ _ C s H fp) _ (gK K 2 (bX (bE 0) (bX (bE 1) gM))) from ZI rfl (Zj (pb 0) (Zj (pb 1) Zz))) (fun C s H fp=>ZE)
    (fun C s H fp D=>WB rfl rfl rfl (show PI (aU _ _ _ C s H fp) _ _ (uE K (wb 4)) from Zw (pv 4))
     (show PG (aU _ _ _ C s H fp) _ (gK K 2 (bX (bE 2) (bX (bE 3) gM))) from ZI rfl (Zj (pb 2) (Zj (pb 3) Zz)))
     (Ye (Zq An (pv 0) (pv 2) (bR _))) (cc rfl (Zs (Za (pv 0) (Za (pv 1) (Za (pv 2) (Za (pv 3) Zb)))))) (by intro _;rfl) (by intro g' h;cases h))))),?_⟩
  try dsimp only[aP]
  refine⟨x,rfl,y,rfl,x,y,wd,hg,xs,rfl,l,fun fa H1 ps s1 i5 hf pr=> ?_⟩;generalize DM:aj xs=qs at pr q;have uR:ps.length=qs.length:=Za0 pr;have aaX:qs.length<=12:=by rw[<-DM];unfold aj;have:=Zdl (fun l:Nat=> (rowAt xs l).map fun r=> ((l:Int),r)) (List.range xs.length);rw[ZcA]at this;have h1:=l.2.2.len;have h2:=l.1.2.2.1;omega
  refine⟨_,rfl,fa,rfl,⟨ps,ai.of hf⟩,?_⟩;refine Zy (xs:=ps) (fun i ys σ H2=> ∃v0 v1 v2 v3,σ=[v0,v1,v2,v3,some (.ref fa)]/\ag H1 H2/\Paired (ji H2) ys (jA qs i)/\ys.length<=i*12) ⟨_,_,_,_,rfl,ag.refl _,.nil,ZaM _⟩ (fun i ys σ H2 _ ae=>by obtain⟨_,_,_,_,_,s2,_⟩:=ae;exact ai.of (s2 _ _ hf)) ?_ ?_
  ·rintro i v ys σ H2 hv ⟨v0,v1,v2,v3,rfl,s2,bJ,hG⟩;obtain⟨a,NY,t,rfl,ht⟩:=Paired.at pr hv;have hi:i<ps.length:=(Zaa.mp hv).1;refine⟨t,_,rfl,ab.of (s2 _ _ ht),rfl,_,_,rfl,_,_,rfl,rfl,?_⟩;refine⟨_,rfl,fa,rfl,⟨ps,ai.of (s2 _ _ hf)⟩,?_⟩;refine Zy (xs:=ps) (fun j ys σ H3=> ∃v2 v3,σ=[some (.int a.1),some (.int a.2),v2,v3,some (.ref fa)]/\ag H1 H3/\Paired (ji H3) ys (jA qs i++pairsOf qs a j)/\ys.length<=i*12+j) ⟨_,_,rfl,s2,by simpa[pairsOf] using bJ,hG⟩ (fun i ys σ H2 _ ae=>by obtain⟨_,_,_,s2,_⟩:=ae;exact ai.of (s2 _ _ hf)) ?_ ?_
   ·rintro j v ys σ H3 iT ⟨v2,v3,rfl,s3,bI,zb⟩;obtain⟨b,NX,t',rfl,lL⟩:=Paired.at pr iT;have hj:j<ps.length:=(Zaa.mp iT).1;have es:=Zai (a:=a) NX;refine⟨t',_,rfl,ab.of (s3 _ _ lL),rfl,_,_,rfl,_,_,rfl,rfl,?_⟩;refine⟨_,rfl,_,rfl,_,_,rfl,rfl,_,rfl,?_⟩;cases hh:decide (a.1<b.1) with
    |true=>
     rw[hh]at es;refine aX ?_;refine⟨_,rfl,_,rfl,_,rfl,_,rfl,BJ,fun t4 iU=> ⟨by rw[ZaX];omega,?_⟩⟩;have s4:ag H3 (upd H3 t4 (.tup [.int a.1,.int a.2,.int b.1,.int b.2])):=fun c o hc=>by rw[Zi (Zh hc iU)];exact hc
     refine⟨_,_,rfl,s3.trans s4,?_,by rw[Zaj];simp;omega⟩;rw[es,ZaQ rfl,<-ZaY];exact Zc3 (Paired.ba bI fun v q' hq=>hq.same s4) ⟨t4,rfl,Zd⟩
    |false=>rw[hh]at es;refine aI ⟨_,_,rfl,s3,?_,.o⟩;rw[es,Zaz Zag,ZbE];exact bI
   ·rintro ys σ H3 ⟨v2,v3,rfl,s3,bI,zb⟩;refine⟨_,_,_,_,rfl,s3,?_,.o⟩;rw[Zah NY,<-uR];exact bI
  ·rintro ys σ H2 ⟨v0,v1,v2,v3,rfl,s2,bJ,hG⟩ p hp;have s4:ag H2 (upd H2 p (.lst ys)):=fun c o hc=>by rw[Zi (Zh hc hp)];exact hc
   refine q p _ ys (s1.trans (s2.trans s4)) ((s1.trans s2).free hp) Zd ?_;rw[uR]at bJ;exact Paired.ba bJ fun v q' hq=>hq.same s4
end
section
def fH (xs:List V)(n:Nat):List (Int×Int):=(List.range n).filterMap fun l=> (rowAt xs l).map fun r=> ((l:Int),r)
theorem qp (xs:List V)(n:Nat):fH xs (n+1)=fH xs n++((rowAt xs n).map fun r=> ((n:Int),r)).toList:=by unfold fH;rw[ZbF,ZbO];cases h:rowAt xs n<;>simp[h]
end
section
abbrev xm:Stmt:=top 20
theorem Kr:aM ["board", "lay"] ["board", "lay"] (ax xm):=Zr (by decide+kernel)
theorem UF (F:aH K "points" "points" xm f fd)(G:Gs mg)(D1:Def P w K mg base 6 "need_lay" ["board", "lay"] wy):ay P w K mg base az 7 f fd ["board", "lay"] mH:=by
 refine F.ok Kr (fun vs H Q E h=> ?_) (fun ao A outer s H vs Q E hr h=> ?_)
 ·obtain⟨x,y,wd,hg,xs,rfl,_⟩:=h;rfl
 ·obtain⟨x,y,wd,hg,xs,rfl,l,q⟩:=h;refine⟨_,Ze (ZP (Zc D1 hr (Za (pv 0) (Za (pv 1) Zb))))
   (Zg (Zm (ZM ["line", "row"] 2 [] (Va rfl G.enumerate (Za (pv 1) Zb))
    (fun C s H fp=>show PG (aU _ _ _ C s H fp) _ (gK K 2 (bX (bE 0) (bX (bE 1) gM))) from ZI rfl (Zj (pb 0) (Zj (pb 1) Zz)))
    (fun C s H fp=>Ye (JJ (Wm (pv 1)))) (fun C s H fp D=>cc rfl (Zs (Za (pv 0) (Za (pv 1) Zb))))))),?_⟩
  try dsimp only[aP]
  refine⟨x,rfl,y,rfl,x,y,wd,hg,xs,rfl,l,fun H1 s1=> ?_⟩;obtain⟨a,rfl,ha⟩:=Zk (l.same s1).2.1;have hlen:xs.length<=12:=by have h1:=l.2.2.len;have h2:=l.1.2.2.1;omega
  refine⟨_,rfl,a,rfl,⟨xs,ab.of ha⟩,?_⟩;refine Xy (xs:=xs) (fun i ys σ H2=> ∃v0 v1,σ=[v0,v1]/\ag H1 H2/\Paired (iq H2) ys (fH xs i)/\ys.length<=i) ⟨_,_,rfl,ag.refl _,.nil,ZaM _⟩ (fun i ys σ H2 _ ae=>by obtain⟨_,_,_,s2,_⟩:=ae;exact ab.of (s2 _ _ ha)) ?_ ?_
  ·rintro i v T ys σ H2 hv hT ⟨v0,v1,rfl,s2,bJ,hG⟩;have hi:i<xs.length:=(Zaa.mp hv).1;have sT:ag H2 (upd H2 T (.par [.int (i:Int),v])):=fun c o hc=>by rw[Zi (Zh hc hT)];exact hc
   have er:rowAt xs i=gW v:=by unfold rowAt;rw[hv];rfl
   refine⟨T,_,rfl,ab.mS Zd,rfl,_,_,rfl,_,_,rfl,rfl,?_⟩;refine⟨_,rfl,_,rfl,?_⟩;generalize ED:upd H2 T (HO.par [V.int (i:Int),v])=H3 at sT;rcases l.2.2.ok v (ZaD hv) with rfl |⟨r,rfl⟩
   ·refine aI ⟨_,_,rfl,s2.trans sT,?_,.o⟩;rw[qp,er];exact(by simpa[gW] using Paired.ba bJ fun v q' hq=>hq.same sT)
   ·refine aX ?_;refine⟨_,rfl,_,rfl,bT,fun t ht=> ⟨by rw[ZaX];omega,?_⟩⟩;have s4:ag H3 (upd H3 t (.tup [.int (i:Int),.int r])):=fun c o hc=>by rw[Zi (Zh hc ht)];exact hc
    refine⟨_,_,rfl,s2.trans (sT.trans s4),?_,by rw[Zaj];simp;omega⟩;rw[qp,er];exact Zc3 (Paired.ba bJ fun v q' hq=>hq.same (sT.trans s4)) ⟨t,rfl,Zd⟩
  ·rintro ys σ H2 ⟨v0,v1,rfl,s2,bJ,hG⟩ p hp;have s4:ag H2 (upd H2 p (.lst ys)):=fun c o hc=>by rw[Zi (Zh hc hp)];exact hc
   exact q p _ ys (s1.trans (s2.trans s4)) ((s1.trans s2).free hp) Zd (Paired.ba bJ fun v q' hq=>hq.same s4)
end
end U
namespace U
open PySem L2 PyProof.Rows PyProof.Rows.dc
section
noncomputable def eE (p:aE):aE:=(p.2.2.1-p.1,p.2.2.2-p.2.1,p.1,p.2.2.1)
def nN (ks:List aE):Prop:=(ks.map bq).Pairwise fun a b=>ar b a=false
theorem pj.same {H H':Hp}{v:V}{q:aE}(h:pj H v q)(s:ag H H'):pj H' v q:=by obtain⟨t,t',e,h1,h2⟩:=h;exact⟨t,t',e,s _ _ h1,s _ _ h2⟩
theorem mQ (xs:List V):(aj xs).length<=xs.length:=by unfold aj;have:=Zdl (fun l:Nat=> (rowAt xs l).map fun r=> ((l:Int),r)) (List.range xs.length);rw[ZcA]at this;exact this
theorem GI {α β:Type}(f:α->List β)(n:Nat):∀l:List α,(∀a∈l,(f a).length<=n)->(l.flatMap f).length<=l.length*n
 | [],_=>by simp
 |a::l,h=>by have h1:=h a Zaf;have h2:=GI f n l fun b hb=>h b (Zae _ hb);rw[Zb5,Zaj,Za8,Nat.succ_mul];omega
theorem XJ (ps:List (Int×Int)):(dw ps).length<=ps.length*ps.length:=by unfold dw jA;rw[Zbe];refine GI _ _ _ fun a _=> ?_;unfold pairsOf;rw[Zal];refine Zbi (Zdk ..) ?_;rw[ZaR];exact Nat.min_le_right ..
theorem M4 {H:Hp}{x y:V}{wd hg:Int}{xs:List V}(l:bt H x y wd hg xs):xs.length<=12:=by have h1:=l.2.2.len;have h2:=l.1.2.2.1;omega
theorem CV {H:Hp}{x y:V}{wd hg:Int}{xs:List V}(l:bt H x y wd hg xs):(dw (aj xs)).length<=144:=by have h1:=XJ (aj xs);have h2:=mQ xs;have h3:=M4 l;have h4:(aj xs).length<=12:=.o;have h5:=Zf5 h4 h4;omega
end
section
abbrev xk:Stmt:=top 25
inductive BX (vs:List V) (H:Hp) (Q:VK) (_:XK):Prop
 |mk (x y wd hg xs:_) (_:vs=[x,y]) (_:bt H x y wd hg xs) (_:∀(l:Addr) (H':Hp) (rs:List V) (ks:List aE),ag H H'->H l=none->H' l=some (.lst rs)->Paired (pj H') rs ks->ks.Perm ((dw (aj xs)).map eE)->nN ks->Q (.ref l) H')
theorem Kq:aM ["board", "lay"] ["board", "lay"] (ax xk):=Zr (by decide+kernel)
theorem VF (F:aH K "steps" "steps" xk f fd)(G:Gs mg)(D1:Def P w K mg base 8 "point_pairs" ["board", "lay"] BY):ay P w K mg base az 9 f fd ["board", "lay"] BX:=by
 refine F.ok Kq (fun vs H Q E h=> ?_) (fun ao A outer s H vs Q E hr h=> ?_)
 ·obtain⟨x,y,wd,hg,xs,rfl,_⟩:=h;rfl
 ·obtain⟨x,y,wd,hg,xs,rfl,l,q⟩:=h;have hu:=hr.units;refine⟨_,Zg (Zm (Zo (ZaH (Ze3 (ZfH (by decide:2<=64) _) hu)) rfl G.sorted PyProof.Rows.Boot.«sorted» (Za (ZM ["line", "row", "other", "there"] 4 [] (Zw (Zc D1 hr (Za (pv 0) (Za (pv 1) Zb))))
    (fun C s H fp=>show PG (aU _ _ _ C s H fp) _ (gK K 4 (bX (bE 0) (bX (bE 1) (bX (bE 2) (bX (bE 3) gM))))) from ZI rfl (Zj (pb 0) (Zj (pb 1) (Zj (pb 2) (Zj (pb 3) Zz))))) (fun C s H fp=>ZE)
    (fun C s H fp D=>cc rfl (Zs (Za (Zs (Za (Zp Z7 (pv 2) (pv 0)) (Za (Zp Z7 (pv 3) (pv 1)) Zb))) (Za (pv 0) (Za (pv 2) Zb)))))) Zb))),?_⟩
  try dsimp only[aP]
  refine⟨x,rfl,y,rfl,x,y,wd,hg,xs,rfl,l,fun fa H1 ps s1 i5 hf pr=> ?_⟩;have hlen:=CV l;generalize DM:dw (aj xs)=qs at pr q hlen;have uR:ps.length=qs.length:=Za0 pr;refine⟨fa,rfl,⟨ps,ai.of hf⟩,?_⟩;refine Zy (xs:=ps) (fun i ys σ H2=> ∃v0 v1 v2 v3,σ=[v0,v1,v2,v3]/\ag H1 H2/\Paired (pj H2) ys ((qs.take i).map eE)/\ys.length<=i) ⟨_,_,_,_,rfl,ag.refl _,.nil,ZaM _⟩ (fun i ys σ H2 _ ae=>by obtain⟨_,_,_,_,_,s2,_⟩:=ae;exact ai.of (s2 _ _ hf)) ?_ ?_
  ·rintro i v ys σ H2 hv ⟨v0,v1,v2,v3,rfl,s2,bJ,hG⟩;obtain⟨⟨a,b,c,d⟩,hq,tt,rfl,NO⟩:=ZV pr hv;have hi:i<ps.length:=(Zaa.mp hv).1;refine⟨tt,_,rfl,ab.of (s2 _ _ NO),rfl,_,_,rfl,_,_,rfl,_,_,rfl,_,_,rfl,rfl,?_⟩;refine⟨_,rfl,_,rfl,c,a,rfl,rfl,_,rfl,_,rfl,d,b,rfl,rfl,bT,fun t' lL=> ?_⟩;refine⟨_,rfl,_,rfl,sX,fun t ht=> ⟨by rw[ZaX];omega,?_⟩⟩;generalize zD:upd H2 t' (HO.tup [V.int (c-a),V.int (d-b)])=H4 at ht;have s4:ag H2 H4:=fun e o hc=>by rw[<-zD,Zi (Zh hc lL)];exact hc
   have iU:H4 t'=some (.tup [V.int (c-a),V.int (d-b)]):=by rw[<-zD];exact Zd
   generalize rF:upd H4 t (HO.tup [V.ref t',V.int a,V.int c])=H5;have s5:ag H4 H5:=fun e o hc=>by rw[<-rF,Zi (Zh hc ht)];exact hc
   have NN:H5 t=some (.tup [V.ref t',V.int a,V.int c]):=by rw[<-rF];exact Zd
   refine⟨_,_,_,_,rfl,s2.trans (s4.trans s5),?_,by rw[Zaj];simp;omega⟩;rw[Za2,hq,ZaV];exact Zc3 (Paired.ba bJ fun v q' hq=>hq.same (s4.trans s5)) ⟨t,t',rfl,NN,s5 _ _ iU⟩
  ·rintro ys σ H2 ⟨v0,v1,v2,v3,rfl,s2,bJ,hG⟩ p hp;have s4:ag H2 (upd H2 p (.lst ys)):=fun c o hc=>by rw[Zi (Zh hc hp)];exact hc
   rw[uR,Zbe]at bJ;refine⟨p,ys,qs.map eE,rfl,ai.of Zd,Paired.ba bJ fun v q' hq=>hq.same s4,.o,fun r cC cg DG N6 N0 bI=> ?_⟩;have s5:ag (upd H2 p (.lst ys)) (upd (upd H2 p (.lst ys)) r (.lst cC)):=fun c o hc=>by rw[Zi (Zh hc DG)];exact hc
   exact q r _ cC cg (s1.trans (s2.trans (s4.trans s5))) ((s1.trans (s2.trans s4)).free DG) Zd (Paired.ba bI fun v q' hq=>pj.same hq s5) N6 N0
end
section
theorem Yl (a b:Int)(l m:List Int):ar (a::l) (b::m)=true↔a<b∨(a=b/\ar l m=true):=by
 have z:ar (a::l) (b::m)=if a=b then ar l m else decide (a<b):=rfl
 rw[z];by_cases e:a=b
 ·rw[ZaQ e];constructor
  ·exact fun h=> .inr ⟨e,h⟩
  ·rintro(h |h)
   ·omega
   ·exact h.2
 ·rw[Zaz e,Zbg];constructor
  ·exact fun h=> .inl h
  ·rintro(h |h)
   ·exact h
   ·exact absurd h.1 e
theorem YT:ar [] []=true↔False:=by simp[ar]
def cD (a b:aE):Prop:=a.1=b.1/\a.2.1=b.2.1
instance (a b:aE):Decidable (cD a b):=inferInstanceAs (Decidable (_/\_))
noncomputable def four (a b:aE):aE:=(a.2.2.1,a.2.2.2,b.2.2.1,b.2.2.2)
noncomputable def fL (a b:aE):Bool:=ar [a.2.2.1,a.2.2.2] [b.2.2.1,b.2.2.2]
def jk (S:List aE):Option aE->Prop
 |none=> ∀a∈S,∀b∈S,cD a b->fL a b=false
 |some k=> (∃a∈S,∃b∈S,cD a b/\fL a b=true/\k=four a b)/\∀a∈S,∀b∈S,cD a b->fL a b=true->ar (bq (four a b)) (bq k)=false
def mi (ks:List aE):List (aE×aE):=ks.zip (ks.drop 1)
def iN (ks:List aE):List aE:=((mi ks).filter fun p=>decide (cD p.1 p.2)).map fun p=>four p.1 p.2
theorem nf {b:Bool} :b=false↔¬b=true:=by cases b<;>simp
theorem mid {h d b:aE}(h1:ar (bq d) (bq h)=false)(h2:ar (bq b) (bq d)=false)(s:cD h b):cD h d/\ar (bq (four h b)) (bq (four h d))=false:=by
 unfold bq at *
 unfold cD at *
 unfold four;rw[nf]at *
 simp only[Yl,YT,and_false,ZdT,false_or]at *
 omega
theorem Fv {a b:aE}(s:cD a b):ar (bq a) (bq b)=true↔fL a b=true:=by
 unfold bq fL cD at *
 simp only[Yl,YT,and_false,ZdT]at *
 omega
theorem Fy {ks:List aE}(hr:nN ks):∀a∈ks,∀b∈ks,cD a b->fL a b=true->∃p∈mi ks,cD p.1 p.2/\ar (bq (four a b)) (bq (four p.1 p.2))=false:=by
 induction ks with
 |nil=>intro a ha;cases ha
 |cons h r ih=>
  have br:nN r:=(ZbG.mp hr).2;have hh:∀d∈r,ar (bq d) (bq h)=false:=fun d hd=> (ZbG.mp hr).1 _ (Zcu hd);intro a ha b hb s l;have kl:=(Fv s).mpr l;rcases Zav.mp ha with rfl |rB
  ·have cG:b∈r:=by
    rcases Zav.mp hb with rfl |hb
    ·have:=Z3 _ _ kl;rw[kl]at this;cases this
    ·exact hb
   cases r with
   |nil=>cases cG
   |cons d r'=>
    have eX:ar (bq b) (bq d)=false:=by
     rcases Zav.mp cG with rfl |hU
     ·cases hx:ar (bq b) (bq b) with
      |false=>rfl
      |true=>have:=Z3 _ _ hx;rw[hx]at this;cases this
     ·exact(ZbG.mp br).1 _ (Zcu hU)
    obtain⟨m1,m2⟩:=mid (hh d Zaf) eX s;exact⟨(a,d),Zaf,m1,m2⟩
  ·have cG:b∈r:=by
    rcases Zav.mp hb with rfl |hb
    ·have:=hh a rB;rw[kl]at this;cases this
    ·exact hb
   obtain⟨p,hp,q1,q2⟩:=ih br a rB b cG s l;refine⟨p,?_,q1,q2⟩;cases r with
   |nil=>cases rB
   |cons d r'=>exact Zae _ hp
theorem RX {ks:List aE}(hr:nN ks)(hn:ks.Nodup):∀p∈mi ks,cD p.1 p.2->p.1∈ks/\p.2∈ks/\fL p.1 p.2=true:=by
 induction ks with
 |nil=>intro p hp;cases hp
 |cons h r ih=>
  have br:nN r:=(ZbG.mp hr).2;have hh:∀d∈r,ar (bq d) (bq h)=false:=fun d hd=> (ZbG.mp hr).1 _ (Zcu hd);have ra:=(Zcm.mp hn);intro p hp s;cases r with
  |nil=>cases hp
  |cons d r'=>
   rcases Zav.mp (show p∈(h,d)::mi (d::r') from hp) with rfl |hp
   ·refine⟨Zaf,Zae _ Zaf,(Fv s).mp ?_⟩;cases hx:ar (bq h) (bq d) with
    |true=>rfl
    |false=>have e:=Tz (Y4 _ _ hx (hh d Zaf));rw[e]at ra;exact absurd Zaf ra.1
   ·obtain⟨q1,q2,q3⟩:=ih br ra.2 p hp s;exact⟨Zae _ q1,Zae _ q2,q3⟩
theorem JN {ks:List aE}{k:aE} :k∈iN ks↔∃p∈mi ks,cD p.1 p.2/\four p.1 p.2=k:=by
 unfold iN;rw[ZaN];constructor
 ·rintro⟨p,hp,e⟩;rw[ZaZ,Zbg]at hp;exact⟨p,hp.1,hp.2,e⟩
 ·rintro⟨p,hp,s,e⟩;exact⟨p,ZaZ.mpr ⟨hp,Zaq s⟩,e⟩
theorem X4 {ks:List aE}(hr:nN ks)(h:iN ks=[]):jk ks none:=fun a ha b hb s=>by
 cases hl:fL a b with
 |false=>rfl
 |true=>obtain⟨p,hp,q,_⟩:=Fy hr a ha b hb s hl;have:four p.1 p.2∈iN ks:=JN.mpr ⟨p,hp,q,rfl⟩;rw[h]at this;cases this
theorem X5 {ks:List aE}(hr:nN ks)(hn:ks.Nodup){k:aE}(hk:k∈iN ks)(hm:∀k'∈iN ks,ar (bq k') (bq k)=false):jk ks (some k):=by obtain⟨p,hp,s,e⟩:=JN.mp hk;obtain⟨m1,m2,m3⟩:=RX hr hn p hp s;refine⟨⟨p.1,m1,p.2,m2,s,m3,e.symm⟩,fun a ha b hb s' l=> ?_⟩;obtain⟨p',jG,q1,q2⟩:=Fy hr a ha b hb s' l;exact YB _ _ _ (hm _ (JN.mpr ⟨p',jG,q1,rfl⟩)) q2
def Ba (xs:List V)(q:aE):Prop:=∃l o:Nat,l<o/\o<xs.length/\iD xs o l=some q
theorem ZW {xs:List V}{p:Int×Int} :p∈aj xs↔∃l:Nat,l<xs.length/\rowAt xs l=some p.2/\p.1=(l:Int):=by
 unfold aj;rw[Zcq];constructor
 ·rintro⟨l,hl,e⟩;rw[Zbf]at e;obtain⟨r,hr,rfl⟩:=e;exact⟨l,Za6.mp hl,hr,rfl⟩
 ·rintro⟨l,hl,hr,e⟩;refine⟨l,Za6.mpr hl,?_⟩;rw[hr,Zd7,<-e]
theorem Su {xs:List V}{q:aE} :q∈bO xs xs.length↔Ba xs q:=by
 unfold bO js Ba;simp only[ZcJ,Zcq,Za6];constructor
 ·rintro⟨o,ho,l,hl,e⟩;exact⟨l,o,hl,ho,e⟩
 ·rintro⟨l,o,hl,ho,e⟩;exact⟨o,ho,l,hl,e⟩
theorem Yk {xs:List V}{o l:Nat}{q:aE} :iD xs o l=some q↔∃a b,rowAt xs l=some a/\rowAt xs o=some b/\q=((o:Int)-l,b-a,(l:Int),(o:Int)):=by
 unfold iD;cases h1:rowAt xs l with
 |none=>simp
 |some a=>
  cases h2:rowAt xs o with
  |none=>simp
  |some b=>
   simp only[Option.bind_some,Zd7,Option.some.injEq];constructor
   ·rintro rfl;exact⟨a,b,rfl,rfl,rfl⟩
   ·rintro⟨_,_,rfl,rfl,rfl⟩;rfl
theorem VX {xs:List V}{q:aE} :q∈(dw (aj xs)).map eE↔Ba xs q:=by
 unfold dw jA;rw[Zbe];simp only[ZaN,ZcJ,pairsOf,Zbe,ZaZ,Zbg];constructor
 ·rintro⟨_,⟨a,ha,b,⟨hb,aw⟩,rfl⟩,rfl⟩;obtain⟨l,hl,hr,e⟩:=ZW.mp ha;obtain⟨o,ho,br,e'⟩:=ZW.mp hb;refine⟨l,o,.o,ho,Yk.mpr ⟨a.2,b.2,hr,br,?_⟩⟩;unfold eE;rw[e,e']
 ·rintro⟨l,o,hl,ho,e⟩;obtain⟨a,b,h1,h2,rfl⟩:=Yk.mp e;exact⟨((l:Int),a,(o:Int),b),⟨((l:Int),a),ZW.mpr ⟨l,.o,h1,rfl⟩,((o:Int),b),⟨ZW.mpr ⟨o,ho,h2,rfl⟩,by show(l:Int)< (o:Int);omega⟩,rfl⟩,rfl⟩
theorem JL (xs:List V)(n:Nat):(bO xs n).Nodup:=by
 unfold bO;rw[ZaU,List.pairwise_flatMap];refine⟨fun o _=> ?_,?_⟩
 ·unfold js;rw[Zek];refine ZcU ?_ (ZaU.mp Zdr);intro l l' bf q hq q' cE e;obtain⟨_,_,_,_,rfl⟩:=Yk.mp hq;obtain⟨_,_,_,_,rfl⟩:=Yk.mp cE;simp only[Zdb]at e;omega
 ·refine ZcU ?_ (ZaU.mp Zdr);intro o o' bf q hq q' cE e;unfold js at hq cE;rw[Zcq]at hq cE;obtain⟨l,_,hq⟩:=hq;obtain⟨l',_,cE⟩:=cE;obtain⟨_,_,_,_,rfl⟩:=Yk.mp hq;obtain⟨_,_,_,_,rfl⟩:=Yk.mp cE;simp only[Zdb]at e;omega
theorem vF (xs:List V):(aj xs).Pairwise fun a b=>a.1≠b.1:=by unfold aj;rw[Zek];refine ZcU ?_ (ZaU.mp Zdr);intro l l' bf q hq q' cE;rw[Zbf]at hq cE;obtain⟨_,_,rfl⟩:=hq;obtain⟨_,_,rfl⟩:=cE;show(l:Int)≠(l':Int);omega
theorem WH (xs:List V):((dw (aj xs)).map eE).Nodup:=by
 unfold dw jA;rw[Zbe,ZaU,Zb0,List.pairwise_flatMap];refine⟨fun a _=> ?_,?_⟩
 ·unfold pairsOf;rw[Zbe,Zb0];refine ZcU ?_ ((vF xs).filter _);intro b b' bf e;unfold eE at e;simp only[Zdb]at e;exact bf e.2.2.2
 ·refine ZcU ?_ (vF xs);intro a a' bf q hq q' cE e;unfold pairsOf at hq cE;rw[ZaN]at hq cE;obtain⟨b,_,rfl⟩:=hq;obtain⟨b',_,rfl⟩:=cE;unfold eE at e;simp only[Zdb]at e;exact bf e.2.2.1
theorem Yn (xs:List V):((dw (aj xs)).map eE).Perm (bO xs xs.length):=
 (Zca (WH xs) (JL xs _)).mpr fun q=>VX.trans Su.symm
theorem Q1 (vs:List V):fu vs (some 1) none=vs.drop 1:=by
 unfold fu HT.aN;cases vs with
 |nil=>rfl
 |cons a r=>simp
noncomputable def oK (ks:List aE)(i:Nat):List aE:=(((mi ks).take i).filter fun p=>decide (cD p.1 p.2)).map fun p=>four p.1 p.2
theorem Zat {ks:List aE}{i:Nat}{a b:aE}(h1:ks[i]? =some a)(h2:(ks.drop 1)[i]? =some b):oK ks (i+1)=oK ks i++(if decide (cD a b)=true then [four a b] else []):=by have e:(mi ks)[i]? =some (a,b):=Zf4.mpr ⟨h1,h2⟩;unfold oK;rw[Za2,e,ZcX,ZaV];by_cases h:cD a b<;>simp[h]
def aad (H:Hp)(v:V):Option aE->Prop
 |none=>v=.ah
 |some k=>ji H v k
end
section
abbrev xN:Stmt:=top 26
inductive Ce (vs:List V) (H:Hp) (Q:VK) (_:XK):Prop
 |mk (x y wd hg xs:_) (_:vs=[x,y]) (_:bt H x y wd hg xs) (_:∀(H':Hp) (v:V) (r:Option aE),ag H H'->jk (bO xs xs.length) r->aad H' v r->Q v H')
theorem wQ:aM ["board", "lay", "told", "likes"] ["board", "lay"] (ax xN):=Zr (by decide+kernel)
theorem VD (F:aH K "first_like" "first_like" xN f fd)(G:Gs mg)(D1:Def P w K mg base 9 "steps" ["board", "lay"] BX):ay P w K mg base az 10 f fd ["board", "lay"] Ce:=by
 refine F.ok wQ (fun vs H Q E h=> ?_) (fun ao A outer s H vs Q E hr h=> ?_)
 ·obtain⟨x,y,wd,hg,xs,rfl,_⟩:=h;rfl
 ·obtain⟨x,y,wd,hg,xs,rfl,l,q⟩:=h;have hu:=rY hr;refine⟨_,Ze (Zu (i:=2) wQ.nd rfl (Or.inl rfl) (Zc D1 hr (Za (pv 0) (Za (pv 1) Zb))))
   (Ze (Yr ["step", "line", "other", "beside", "here", "there"] 6 [] (i:=3) wQ.nd rfl (Or.inl rfl) (Gg rfl G.zip (Za (pv 2) (Za (Jp Gv (pv 2) (Wk Zf) Wl) Zb)))
    (fun C s H fp=>show PG (aU _ _ _ C s H fp) _ (gK K 2 (bX (gK K 3 (bX (bE 0) (bX (bE 1) (bX (bE 2) gM)))) (bX (gK K 3 (bX (bE 3) (bX (bE 4) (bX (bE 5) gM)))) gM))) from
     ZI rfl (Zj (ZI rfl (Zj (pb 0) (Zj (pb 1) (Zj (pb 2) Zz)))) (Zj (ZI rfl (Zj (pb 3) (Zj (pb 4) (Zj (pb 5) Zz)))) Zz)))
    (fun C s H fp=>Ye (Zq (show aV (aU _ _ _ C s H fp) (compareOp .Eq) (fun x y H Q=> ∃(a b:Addr) (ns ms:List Int),x=.ref a/\y=.ref b/\ab K H a (ns.map V.int)/\ab K H b (ms.map V.int)/\Q (.bl (decide (ns=ms))) H) from Sz hr.vX) (pv 0) (pv 3) (bR _)))
    (fun C s H fp D=>cc rfl (Zs (Za (pv 1) (Za (pv 2) (Za (pv 4) (Za (pv 5) Zb)))))))
   (Zg (Zm (T8 rfl hu rfl G.min (pv 3))))),?_⟩
  try dsimp only[aP]
  refine⟨x,rfl,y,rfl,x,y,wd,hg,xs,rfl,l,fun fa H1 ps ks s1 i5 hf pr perm rise=> ?_⟩;have Ox:ps.length=ks.length:=Za0 pr;have hlen:ks.length<=144:=by rw[perm.length_eq,Zal];exact CV l
  refine⟨_,rfl,_,rfl,_,rfl,fa,ps,rfl,ai.of hf,fun c hc=> ?_⟩;generalize oZ:upd H1 c (HO.lst (fu ps (some 1) none))=H2;have s2:ag H1 H2:=fun b o hb=>by rw[<-oZ,Zi (Zh hb hc)];exact hb
  have gk:H2 c=some (.lst (ps.drop 1)):=by rw[<-oZ,Q1];exact Zd
  have lW:=s2 _ _ hf;refine⟨fa,c,rfl,⟨_,_,ai.of lW,ai.of gk⟩,?_⟩;refine Xz (xs:=ps) (zs:=ps.drop 1) (fun i ys σ H3=> ∃v0 v1 v2 v3 v4 v5,σ=[v0,v1,v2,v3,v4,v5]/\ag H2 H3/\Paired (ji H3) ys (oK ks i)/\ys.length<=i) ⟨_,_,_,_,_,_,rfl,ag.refl _,.nil,ZaM _⟩
   (fun i ys σ H3 _ ae=>by obtain⟨_,_,_,_,_,_,_,s3,_⟩:=ae;exact⟨ai.of (s3 _ _ lW),ai.of (s3 _ _ gk)⟩) ?_ ?_
  ·rintro i va vb T ys σ H3 DB ND hT ⟨v0,v1,v2,v3,v4,v5,rfl,s3,bI,zb⟩;have hi:i<ps.length:=(Zaa.mp DB).1;obtain⟨a,m6,ta,Iu,rfl,yK,NM⟩:=ZV pr DB;have NC:ps[1+i]? =some vb:=by rw[<-ZdA];exact ND
   obtain⟨b,mZ,tb,sS,rfl,yJ,NL⟩:=ZV pr NC;have zf:(ks.drop 1)[i]? =some b:=by rw[ZdA];exact mZ
   have es:=Zat m6 zf;have sT:ag H3 (upd H3 T (.par [.ref ta,.ref tb])):=fun e o hc=>by rw[Zi (Zh hc hT)];exact hc
   have sA:ag H1 (upd H3 T (.par [.ref ta,.ref tb])):=s2.trans (s3.trans sT);refine⟨T,_,rfl,ab.mS Zd,rfl,_,_,rfl,ta,_,rfl,ab.of (sA _ _ yK),rfl,_,_,rfl,_,_,rfl,_,_,rfl,rfl,_,_,rfl,tb,_,rfl,ab.of (sA _ _ yJ),rfl,_,_,rfl,_,_,rfl,_,_,rfl,rfl,rfl,?_⟩;generalize zD:upd H3 T (HO.par [V.ref ta,V.ref tb])=H4 at sT sA;refine⟨_,rfl,_,rfl,Iu,sS,[a.1,a.2.1],[b.1,b.2.1],rfl,rfl,ab.of (sA _ _ NM),ab.of (sA _ _ NL),_,rfl,?_⟩;by_cases hs:cD a b
   ·rw[Zaq hs,ZaQ rfl]at es;have ed:decide ([a.1,a.2.1]=[b.1,b.2.1])=true:=Zaq (by rw[hs.1,hs.2]);rw[ed];refine aX ?_;refine⟨_,rfl,_,rfl,_,rfl,_,rfl,BJ,fun t4 iU=> ⟨by rw[ZaX];omega,?_⟩⟩;generalize rF:upd H4 t4 (HO.tup [V.int a.2.2.1,V.int a.2.2.2,V.int b.2.2.1,V.int b.2.2.2])=H5;have s5:ag H4 H5:=fun e o hc=>by rw[<-rF,Zi (Zh hc iU)];exact hc
    refine⟨_,_,_,_,_,_,rfl,s3.trans (sT.trans s5),?_,by rw[Zaj];simp;omega⟩;rw[es];exact Zc3 (Paired.ba bI fun v q' hq=>hq.same (sT.trans s5)) ⟨t4,rfl,by rw[<-rF];exact Zd⟩
   ·rw[ZaF hs,Zaz Zag,ZbE]at es;have ed:decide ([a.1,a.2.1]=[b.1,b.2.1])=false:=ZaF (fun e=>hs (by simp only[ZcO,ZfW]at e;exact e));rw[ed];refine aI ⟨_,_,_,_,_,_,rfl,s3.trans sT,?_,.o⟩;rw[es];exact Paired.ba bI fun v q' hq=>hq.same sT
  ·rintro ys σ H3 ⟨v0,v1,v2,v3,v4,v5,rfl,s3,bI,zb⟩ p hp;have s4:ag H3 (upd H3 p (.lst ys)):=fun e o hc=>by rw[Zi (Zh hc hp)];exact hc
   have et:oK ks (min ps.length (ps.drop 1).length)=iN ks:=by unfold oK iN;rw[Zds];unfold mi;rw[List.length_zip,Zcz,Zcz,Ox];exact Zak _
   rw[et]at bI;have eK:Paired (ji (upd H3 p (.lst ys))) ys (iN ks):=Paired.ba bI fun v q' hq=>hq.same s4;have sA:ag H (upd H3 p (.lst ys)):=s1.trans (s2.trans (s3.trans s4));have cF:∀z,z∈ks↔z∈bO xs xs.length:=fun z=> (perm.trans (Yn xs)).mem_iff;have Ol:ks.Nodup:=(perm.trans (Yn xs)).nodup_iff.mpr (JL xs _);have conv:∀r,jk ks r->jk (bO xs xs.length) r:=fun r hr=>by
    cases r with
    |none=>exact fun a ha b hb s=>hr a ((cF a).mpr ha) b ((cF b).mpr hb) s
    |some k=>obtain⟨⟨a,ha,b,hb,w⟩,h2⟩:=hr;exact⟨⟨a,(cF a).mp ha,b,(cF b).mp hb,w⟩,fun a ha b hb s l=>h2 a ((cF a).mpr ha) b ((cF b).mpr hb) s l⟩
   refine⟨_,rfl,p,ys,(iN ks).map bq,rfl,ai.of Zd,?_,fun e=> ?_,fun v k hv hk yI Oq=> ?_⟩
   ·have:∀{ys:List V}{ls:List aE},Paired (ji (upd H3 p (.lst ys))) ys ls->Paired (bw (upd H3 p (.lst ys))) ys (ls.map bq):=by
     intro ys ls h;generalize (upd H3 p (.lst ys))=H9 at h
     induction h with
     |nil=>exact .nil
     |cons h1 _ ih=>exact .cons h1 ih
    exact this eK
   ·subst e;have el:iN ks=[]:=by have:=Za0 eK;exact List.length_eq_zero_iff.mp this.symm
    exact q _ .ah none sA (conv _ (X4 rise el)) rfl
   ·obtain⟨k4,zg,rfl⟩:=ZaN.mp hk;exact q _ v (some k4) sA (conv _ (X5 rise Ol zg fun k' aG=>Oq _ (Zcu aG))) yI
abbrev wW:Stmt:=top 27
inductive tj (vs:List V) (H:Hp) (Q:VK) (_:XK):Prop
 |mk (x y wd hg xs:_) (_:vs=[x,y]) (_:bt H x y wd hg xs) (_:∀(H':Hp) (r:Option aE),ag H H'->jk (bO xs xs.length) r->Q (.bl r.isNone) H')
theorem Kl:aM ["board", "lay"] ["board", "lay"] (ax wW):=Zr (by decide+kernel)
theorem RC (F:aH K "is_unlike" "is_unlike" wW f fd)(D1:Def P w K mg base 10 "first_like" ["board", "lay"] Ce):ay P w K mg base az 11 f fd ["board", "lay"] tj:=by
 refine F.ok Kl (fun vs H Q E h=> ?_) (fun ao A outer s H vs Q E hr h=> ?_)
 ·obtain⟨x,y,wd,hg,xs,rfl,_⟩:=h;rfl
 ·obtain⟨x,y,wd,hg,xs,rfl,l,q⟩:=h;refine⟨_,Zg (Zm (Te (Av (Zc D1 hr (Za (pv 0) (Za (pv 1) Zb)))))),?_⟩
  try dsimp only[aP]
  refine⟨x,rfl,y,rfl,x,y,wd,hg,xs,rfl,l,fun H1 v r s1 hf ho=> ?_⟩;have:=q H1 r s1 hf;cases r with
  |none=>have e:v=.ah:=ho;subst e;exact this
  |some k=>obtain⟨t,rfl,_⟩:=(show ji H1 v k from ho);exact this
end
end U
namespace U
open PySem L2 PyProof.Rows
section
theorem fh {D:Ends}{σ:L2.St}{H:Hp}(h:D.nx σ H):wc D σ H:=h
theorem bg {t u:TS}{D:Ends}{σ:L2.St}{H:Hp}(h:t {D with nx:=u D} σ H):pP t u D σ H:=h
theorem bC {te:TE}{g:TG}{D:Ends}{σ:L2.St}{H:Hp}(h:te σ H fun v H1=>g v σ H1 D.nx):pR te g D σ H:=h
theorem aK {i:Nat}{v:V}{σ:L2.St}{H:Hp}{Q:L2.St->Hp->Prop}(h:Q (σ.set i (some v)) H):bE i v σ H Q:=h
end
end U
namespace U
open PySem L2 PyProof.Rows PyProof.Rows.dc
section
theorem SJ (xs:List V):(aj xs).Pairwise fun a b=>a.1<b.1:=by unfold aj;refine Zek.mpr (ZcU ?_ (Zfa (n:=xs.length)));intro a b hV p hp q hq;obtain⟨r,hr,rfl⟩:=Zbf.mp hp;obtain⟨r',br,rfl⟩:=Zbf.mp hq;show(a:Int)< (b:Int);omega
def mR (ps:List (Int×Int)):List aE:=ps.flatMap fun a=> (ps.filter fun b=>decide (a.1<b.1)).map fun b=> (a.1,a.2,b.1,b.2)
theorem UC (ps:List (Int×Int)):dw ps=mR ps:=by unfold dw jA mR pairsOf;rw[Zbe]
theorem Ug {α β:Type}{f:α->β}{l:List α}(h:l.Nodup):(l.map f).Nodup↔∀a∈l,∀b∈l,f a=f b->a=b:=by
 rw[ZaU,Zb0];constructor
 ·intro pw a ha b hb e;obtain⟨i,hi,rfl⟩:=ZcC ha;obtain⟨j,hj,rfl⟩:=ZcC hb;have p:=ZcS.mp pw;rcases Zgd i j with q |q |q
  ·exact absurd e (p i j hi hj q)
  ·subst q;rfl
  ·exact absurd e.symm (p j i hj hi q)
 ·intro inj;refine Zgf ?_ (ZaU.mp h);intro a b ha hb ne e;exact ne (inj a ha b hb e)
theorem Za4 (xs:List V):(dw (aj xs)).Nodup:=by have:=WH xs;rw[ZaU,Zb0]at this;exact ZaU.mpr (ZcU (fun h e=>h (by rw[e])) this)
theorem Wn {xs:List V}{p:aE} :p∈dw (aj xs)↔∃l o:Nat,l<o/\o<xs.length/\∃a b,rowAt xs l=some a/\rowAt xs o=some b/\p=((l:Int),a,(o:Int),b):=by
 rw[UC];unfold mR;rw[ZcJ];constructor
 ·rintro⟨a,ha,hq⟩;obtain⟨b,hb,rfl⟩:=ZaN.mp hq;obtain⟨jL,hU⟩:=ZaZ.mp hb;obtain⟨l,hl,hr,e⟩:=ZW.mp ha;obtain⟨o,ho,br,e'⟩:=ZW.mp jL;have:=Zbt hU;refine⟨l,o,.o,ho,a.2,b.2,hr,br,by rw[e,e']⟩
 ·rintro⟨l,o,h1,h2,a,b,h3,h4,rfl⟩;exact⟨((l:Int),a),ZW.mpr ⟨l,.o,h3,rfl⟩,ZaN.mpr ⟨((o:Int),b),ZaZ.mpr ⟨ZW.mpr ⟨o,h2,h4,rfl⟩,Zaq (by show(l:Int)<o;omega)⟩,rfl⟩⟩
def pf (xs:List V):Prop:=∀p∈dw (aj xs),∀q∈dw (aj xs),cD (eE p) (eE q)->p=q
theorem RL {a b:aE}(h:a.2.2.1≠b.2.2.1∨a.2.2.2≠b.2.2.2):fL a b=true∨fL b a=true:=by unfold fL;simp only[Yl,YT,and_false,ZdT];omega
theorem TV {xs:List V}{r:Option aE}(f:jk (bO xs xs.length) r):r.isNone=true↔pf xs:=by
 have mem:∀{p:aE},p∈dw (aj xs)->eE p∈bO xs xs.length:=fun hp=> (Yn xs).mem_iff.mp (Zcu hp);cases r with
 |none=>
  refine⟨fun _ p hp q hq s=> ?_,fun _=>rfl⟩;refine ZcT fun ne=> ?_;obtain⟨l,o,_,_,a,b,g1,g2,rfl⟩:=Wn.mp hp;obtain⟨l',o',_,_,a',b',g3,g4,rfl⟩:=Wn.mp hq;have d:(l:Int)≠(l':Int)∨(o:Int)≠(o':Int):=by refine ZcT fun c=>ne ?_;have e1:l=l':=.o;have e2:o=o':=.o;subst e1 e2;rw[g1]at g3;rw[g2]at g4;cases g3;cases g4;rfl
  rcases RL (a:=eE ((l:Int),a,(o:Int),b)) (b:=eE ((l':Int),a',(o':Int),b')) d with z |z
  ·have:=f _ (mem hp) _ (mem hq) s;rw[z]at this;cases this
  ·have:=f _ (mem hq) _ (mem hp) ⟨s.1.symm,s.2.symm⟩;rw[z]at this;cases this
 |some k=>refine⟨fun h=> (by cases h),fun h=> ?_⟩;obtain⟨⟨a,ha,b,hb,s,l,_⟩,_⟩:=f;obtain⟨p,hp,rfl⟩:=ZaN.mp ((Yn xs).mem_iff.mpr ha);obtain⟨q,hq,rfl⟩:=ZaN.mp ((Yn xs).mem_iff.mpr hb);rw[h p hp q hq s]at l;unfold fL at l;simp only[Yl,YT,and_false,ZdT]at l;omega
def kJ (xs ys:List V):Prop:=ys.length=xs.length/\∀(i:Nat) (v:V),ys[i]? =some v->v=.ah∨xs[i]? =some v
theorem UR {xs ys:List V}(h:kJ xs ys){i:Nat}{r:Int}(e:rowAt ys i=some r):rowAt xs i=some r:=by
 unfold rowAt at e |-;cases ey:ys[i]? with
 |none=>rw[ey]at e;cases e
 |some v=>
  rw[ey]at e;rcases h.2 i v ey with rfl |q
  ·cases e
  ·rw[q];exact e
theorem XQ {xs ys:List V}(h:kJ xs ys)(u:pf xs):pf ys:=by
 have sub:∀{p:aE},p∈dw (aj ys)->p∈dw (aj xs):=fun {p} hp=>by obtain⟨l,o,h1,h2,a,b,g1,g2,rfl⟩:=Wn.mp hp;exact Wn.mpr ⟨l,o,h1,by rw[<-h.1];exact h2,a,b,UR h g1,UR h g2,rfl⟩
 exact fun p hp q hq s=>u p (sub hp) q (sub hq) s
theorem G9:∀{xs ys:List V},kJ xs ys->(rowsOf ys).Sublist (rowsOf xs)
 | [],[],_=> .refl _
 | [],_::_,h=>by simp[kJ]at h
 |_::_,[],h=>by simp[kJ]at h
 |x::xs,y::ys,h=>by
  have ht:kJ xs ys:=⟨by have:=h.1;simpa using this,fun i v e=>by have:=h.2 (i+1) v (by simpa using e);simpa using this⟩;have ih:=G9 ht;unfold rowsOf at ih |-;rcases h.2 0 y rfl with rfl |q
  ·rw[ZcM (by simp)];exact ih.trans ((List.sublist_cons_self x xs).filter _)
  ·have:x=y:=by simpa using q
   subst this;by_cases z:(!decide (x=V.ah))=true
   ·rw[ZdG (p:=fun x=> !decide (x=V.ah)) z,ZdG (p:=fun x=> !decide (x=V.ah)) z];exact ih.cons₂ x
   ·rw[ZcM (p:=fun x=> !decide (x=V.ah)) z,ZcM (p:=fun x=> !decide (x=V.ah)) z];exact ih
end
end U
namespace U.S
open PySem L2 PyProof.Rows
section
def sk (a b:Int×Int):List Int:=[b.1-a.1,b.2-a.2]
def pk:List (Int×Int)->List (List Int)
 | []=> []
 |a::r=>r.map (sk a)++pk r
def bN (xs:List V):Bool:=decide (pk (aj xs)).Nodup
noncomputable def tG (p:aE):List Int:=[p.2.2.1-p.1,p.2.2.2-p.2.1]
theorem Fn:∀{ps:List (Int×Int)},(ps.Pairwise fun a b=>a.1<b.1)->(mR ps).map tG=pk ps
 | [],_=>rfl
 |a::l,h=>by
  obtain⟨h1,h2⟩:=ZbG.mp h;have ih:=Fn h2;have e:mR (a::l)=(l.map fun b=> (a.1,a.2,b.1,b.2))++mR l:=by
   unfold mR;rw[Zb5]
   congr 1
   ·rw[ZcM (by simp),List.filter_eq_self.mpr fun b hb=>Zaq (h1 b hb)]
   ·rw[List.flatMap_def,List.flatMap_def]
    congr 1
    refine List.map_congr_left fun c hc=> ?_;rw[ZcM (by have:=h1 c hc;simp;omega)]
  rw[e,ZaV,ih,ZcG];rfl
theorem Gp (p q:aE):cD (eE p) (eE q)↔tG p=tG q:=by unfold cD eE tG;simp
theorem Ym (xs:List V):bN xs=true↔pf xs:=by
 unfold bN;rw[ZcY,<-Fn (SJ xs),<-UC,Ug (Za4 xs)];unfold pf;constructor
 ·intro h p hp q hq s;exact h p hp q hq ((Gp p q).mp s)
 ·intro h p hp q hq s;exact h p hp q hq ((Gp p q).mpr s)
theorem FI {xs:List V}{r:Option aE}(f:jk (bO xs xs.length) r):r.isNone=bN xs:=by have h1:=TV f;have h2:=Ym xs;cases hr:r.isNone<;>cases hu:bN xs<;>simp_all
def ft (hg:Nat)(xs:List V)(l:Nat):List Int:=((List.range hg).map fun(k:Nat)=> (k:Int)).filter fun r=> !bK (.int r) xs&&bN (xs.set l (.int r))
noncomputable def cH (wd hg:Nat):Nat->List (List V)
 |0=> [List.replicate wd .ah]
 |i+1=> (cH wd hg i).flatMap fun xs=> (V.ah::(ft hg xs i).map V.int).map fun v=>xs.set i v
def jC (xs:List V):Nat:=(xs.filter fun x=> !decide (x=V.ah)).length
def qx (wd hg:Nat)(n:Int):List (List V):=(cH wd hg wd).filter fun xs=>decide ((jC xs:Int)=n)
theorem de {H:Hp}{p:Addr}{o:HO}(h:H p=none):ag H (upd H p o):=fun b u hb=>by rw[Zi (Zh hb h)];exact hb
theorem Ht {v:V}(hv:v≠.ah):∀{xs:List V}{i:Nat},xs[i]? =some V.ah->(rowsOf (xs.set i v)).Perm (v::rowsOf xs)
 | [],_,h=>by simp at h
 |x::xs,0,h=>by
  have:x=.ah:=by simpa using h
  subst this;rw[List.set_cons_zero];unfold rowsOf;rw[ZdG (by simpa using hv),ZcM (by simp)]
 |x::xs,i+1,h=>by
  have ih:=Ht hv (xs:=xs) (i:=i) (by simpa using h);rw[List.set_cons_succ];unfold rowsOf at ih |-;by_cases z:(!decide (x=V.ah))=true
  ·rw[ZdG (p:=fun x=> !decide (x=V.ah)) z,ZdG (p:=fun x=> !decide (x=V.ah)) z];exact(ih.cons x).trans (List.Perm.swap v x _)
  ·rw[ZcM (p:=fun x=> !decide (x=V.ah)) z,ZcM (p:=fun x=> !decide (x=V.ah)) z];exact ih
theorem JO {r:Int}{xs:List V}(h:V.int r∈xs):bK (.int r) xs=true:=by unfold bK;exact ZdD.mpr ⟨_,h,by simp[dW]⟩
theorem AE {wd hg:Int}{xs:List V}{i:Nat}{r:Int}(h:cA wd hg xs)(hi:xs[i]? =some V.ah)(h0:0<=r)(h1:r<hg)(hn:bK (.int r) xs=false):cA wd hg (xs.set i (.int r)):=by
 have pm:=Ht (v:=.int r) (by intro z;cases z) hi;refine⟨by rw[ZgO];exact h.len,fun x hx=> ?_,pm.nodup_iff.mpr (Zcm.mpr ⟨fun m=> ?_,h.nd⟩)⟩
 ·rcases Zav.mp (pm.mem_iff.mp hx) with rfl |hx
  ·show(decide (0<=r)&&decide (r<=hg-1))=true;rw[Zaq h0,Zaq .o];rfl
  ·exact h.row x hx
 ·have:=JO (ZaZ.mp m).1;rw[hn]at this;cases this
theorem GR {wd hg:Int}{xs:List V}(h:cA wd hg xs):xs.all fT=true:=Zbd.mpr fun v hv=>by rcases h.ok v hv with rfl |⟨i,rfl⟩<;>rfl
theorem W8 {K:ZhK}{H:Hp}{a b:Addr}{xs ys:List V}{Q:VK}(h1:H a=some (.tup xs))(h2:H b=some (.tup ys))(hl:xs.length+ys.length<=1000)(q:∀t H',ag H H'->H' t=some (.tup (xs++ys))->Q (.ref t) H'):mP K (.ref a) (.ref b) H Q:=by
 cases xs with
 |nil=>exact .inl ⟨a,b,ys,rfl,rfl,ab.of h1,ab.of h2,q b H (ag.refl _) h2⟩
 |cons x xs=>refine .inr ⟨a,b,_,_,rfl,rfl,ab.of h1,ab.of h2,by simp,by rw[ZaX];omega,fun e=> ?_,fun _ p hp=>q p _ (de hp) Zd⟩;subst e;exact q a H (ag.refl _) (by rw[ZbE];exact h1)
theorem R7 {xs:List V}{i:Nat}(h:i<xs.length):fu xs none (some (i:Int))=xs.take i:=by unfold fu;rw[HT.Cy,HT.tU,Zd9 .o];simp
theorem G5 {xs:List V}{i:Nat}(h:i<xs.length):fu xs (some ((i:Int)+1)) none=xs.drop (i+1):=by unfold fu;rw[show(i:Int)+1=((i+1:Nat):Int) from rfl,HT.Cy,HT.tU,Zd9 .o];exact Zds (by simp)
end
section
abbrev wV:Stmt:=top 19
inductive tf (vs:List V) (H:Hp) (Q:VK) (_:XK):Prop
 |mk (l:Addr) (xs:List V) (i:Nat) (v:V) (_:vs=[.ref l,.int i,v]) (_:H l=some (.tup xs)) (_:i<xs.length) (_:xs.length<=12) (_:∀t H',ag H H'->H' t=some (.tup (xs.set i v))->Q (.ref t) H')
theorem Kk:aM ["lay", "line", "row"] ["lay", "line", "row"] (ax wV):=Zr (by decide+kernel)
theorem LS (F:aH K "with_point" "with_point" wV f fd):ay P w K mg base az 1 f fd ["lay", "line", "row"] tf:=by
 refine F.ok Kk (fun vs H Q E h=> ?_) (fun ao A outer s H vs Q E hr h=> ?_)
 ·obtain⟨l,xs,i,v,rfl,_⟩:=h;rfl
 ·obtain⟨l,xs,i,v,rfl,hl,hi,h12,q⟩:=h;refine⟨_,Zg (Zm (Zp kX (Zp kX (Jp FG (pv 0) Wl (Wk (pv 1))) (Zs (Za (pv 2) Zb))) (Jp FG (pv 0) (Wk (Zp Yo (pv 1) Zf)) Wl))),?_⟩
  try dsimp only[aP]
  refine⟨_,rfl,_,rfl,_,rfl,l,xs,rfl,ab.of hl,?_,fun p hp=> ?_⟩
  ·rintro⟨_,z⟩;rw[HT.tU]at z;omega
  obtain⟨H1,zz,s1,e1⟩:=bV (o:=.tup (fu xs none (some (i:Int)))) hp;rw[zz];rw[R7 hi]at e1;refine⟨_,rfl,fE,fun p2 fQ=> ?_⟩;obtain⟨H2,zz,s2,e2⟩:=bV (o:=.tup [v]) fQ;rw[zz];refine W8 (s2 _ _ e1) e2 (by rw[ZaR];simp;omega) fun t3 H3 s3 e3=> ?_;refine⟨_,rfl,_,rfl,_,_,rfl,rfl,_,rfl,l,xs,rfl,ab.of ((s1.trans (s2.trans s3)) _ _ hl),?_,fun p4 Oa=> ?_⟩
  ·rintro⟨z,_⟩;rw[show(i:Int)+1=((i+1:Nat):Int) from rfl,HT.tU]at z;omega
  obtain⟨H4,zz,s4,e4⟩:=bV (o:=.tup (fu xs (some ((i:Int)+1)) none)) Oa;rw[zz];rw[G5 hi]at e4;refine W8 (s4 _ _ e3) e4 (by rw[Zaj,ZaR,Zcz];simp;omega) fun t5 H5 s5 e5=> ?_;refine q t5 H5 (s1.trans (s2.trans (s3.trans (s4.trans s5)))) ?_;rw[e5,ZaY,List.set_eq_take_append_cons_drop,ZaQ hi];rfl
def vf (xs:List V)(l:Nat)(i:Nat):List Int:=((List.range i).map fun(k:Nat)=> (k:Int)).filter fun r=> !bK (.int r) xs&&bN (xs.set l (.int r))
theorem Zbv (xs:List V)(l i:Nat):vf xs l (i+1)=vf xs l i++(if (!bK (.int (i:Int)) xs&&bN (xs.set l (.int (i:Int))))=true then [(i:Int)] else []):=by unfold vf;rw[ZbF,ZaV,ZcX];cases h:(!bK (.int (i:Int)) xs&&bN (xs.set l (.int (i:Int))))<;>simp_all
abbrev xO:Stmt:=top 32
inductive wK (vs:List V) (H:Hp) (Q:VK) (_:XK):Prop
 |mk (b l:Addr) (i:Nat) (wd hg:Int) (xs:List V) (_:vs=[.ref b,.ref l,.int i]) (_:cJ H (.ref b) wd hg) (_:H l=some (.tup xs)) (_:cA wd hg xs) (_:xs[i]? =some .ah) (_:∀(q:Addr) (H':Hp),ag H H'->H q=none->H' q=some (.lst ((ft hg.toNat xs i).map V.int))->Q (.ref q) H')
theorem KP:aM ["board", "lay", "line"] ["board", "lay", "line"] (ax xO):=Zr (by decide+kernel)
theorem Mq (F:aH K "free_rows" "free_rows" xO f fd)(G:Gs mg)(pD:Def P w K mg base 11 "is_unlike" ["board", "lay"] tj)(su:Def P w K mg base 1 "with_point" ["lay", "line", "row"] tf):ay P w K mg base az 12 f fd ["board", "lay", "line"] wK:=by
 refine F.ok KP (fun vs H Q E h=> ?_) (fun ao A outer s H vs Q E hr h=> ?_)
 ·obtain⟨b,l,i,wd,hg,xs,rfl,_⟩:=h;rfl
 ·obtain⟨b,l,i,wd,hg,xs,rfl,bd,hl,ly,hi,q⟩:=h;refine⟨_,Zg (Zm (ZM ["row", "board", "lay", "line"] 1 [0,1,2] (ZZ rfl G.range (Za (ZB ZC (pv 0) Zf (fun _ _=>rfl)) Zb)) (fun C s H fp=>pb 0)
   (fun C s H fp=>Ye (PW.pt (Az (Zq (show aV (aU _ _ _ C s H fp) (compareOp .NotIn) (t6 K true) from Jt) (pv 0) (pv 2) rfl) (AQ (Yi (Zc pD hr (Za (pv 1) (Za (Zc su (hr.mono .d) (Za (pv 2) (Za (pv 3) (Za (pv 0) Zb)))) Zb))))))))
   (fun C s H fp D=>cc rfl (pv 0)))),?_⟩
  try dsimp only[aP]
  obtain⟨b',eb,hb⟩:=Zk bd.1;cases eb;have aY:i<xs.length:=(Zaa.mp hi).1;have oN:xs.length<=12:=by have h1:=ly.len;have h2:=bd.2.2.1;omega
  have g1:=bd.2.2.2.1;have g2:=bd.2.2.2.2;refine⟨_,rfl,b,_,1,.int hg,rfl,rfl,ab.of hb,rfl,_,rfl,.o,.o,?_⟩;refine Je (fun k ys σ H1=> ∃v,σ=[v,some (.ref b),some (.ref l),some (.int i)]/\ag H H1/\ys=(vf xs i k).map V.int/\ys.length<=k) ⟨_,rfl,ag.refl _,rfl,ZaM _⟩ ?_ ?_
  ·rintro k ys σ H1 hk ⟨v,rfl,s1,rfl,hlen⟩;have es:=Zbv xs i k;rw[ZeF];refine aK ?_;dsimp only[List.set];refine⟨_,rfl,_,rfl,l,xs,rfl,.inr (ab.of (s1 _ _ hl)),rfl,GR ly,_,rfl,?_⟩;cases hn:bK (.int (k:Int)) xs with
   |true=>rw[hn]at es;refine aI ?_;refine aI ⟨_,rfl,s1,?_,.o⟩;rw[es];simp
   |false=>
    rw[hn]at es;refine aX ?_;refine⟨_,rfl,_,rfl,_,rfl,_,rfl,l,xs,i,.int (k:Int),rfl,s1 _ _ hl,aY,oN,fun t H2 s2 e2=> ?_⟩;refine⟨.ref b,.ref t,wd,hg,_,rfl,⟨bd.same (s1.trans s2),Zx e2,AE ly hi .o .o hn⟩,fun H3 r s3 fi=> ⟨_,rfl,?_⟩⟩;rw[FI fi];have fW:=s1.trans (s2.trans s3);cases hu:bN (xs.set i (.int (k:Int))) with
    |true=>rw[hu]at es;refine aX ⟨_,rfl,by rw[ZaX];omega,⟨_,rfl,fW,?_,by rw[Zaj];simp at hlen |-;omega⟩⟩;rw[es];simp
    |false=>rw[hu]at es;refine aI ⟨_,rfl,fW,?_,.o⟩;rw[es];simp
  ·rintro ys σ H1 ⟨v,rfl,s1,rfl,hlen⟩ p hp;exact q p _ (s1.trans (de hp)) (s1.free hp) Zd
end
section
theorem JT {α β:Type}(f:α->List β)(n:Nat):∀l:List α,(∀a∈l,(f a).length<=n)->(l.flatMap f).length<=l.length*n
 | [],_=>by simp
 |a::l,h=>by have h1:=h a Zaf;have h2:=JT f n l fun b hb=>h b (Zae _ hb);rw[Zb5,Zaj,Za8,Nat.succ_mul];omega
theorem JQ (hg:Nat)(xs:List V)(l:Nat):(ft hg xs l).length<=hg:=by unfold ft;refine Zbi (Zdk _ _) ?_;rw[Zal,ZcA];exact Zak _
end
section
abbrev xo:Stmt:=top 56
inductive BZ (vs:List V) (H:Hp) (Q:VK) (_:XK):Prop
 |mk (l:Addr) (xs:List V) (_:vs=[.ref l]) (_:H l=some (.tup xs)) (_:xs.all fT=true) (_:Q (.int (jC xs)) H)
theorem Ks:aM ["lay"] ["lay"] (ax xo):=Zr (by decide+kernel)
theorem Zci (xs:List V):(xs.length:Int)-((xs.countP fun y=>dW y .ah:Nat):Int)=(jC xs:Int):=by
 unfold jC
 induction xs with
 |nil=>rfl
 |cons x xs ih=>
  rw[Zdh,Zeq,Za8];have e:dW x .ah=decide (x=V.ah):=by cases x<;>rfl
  rw[e];cases hd:decide (x=V.ah)
  ·rw[Zaz Zag,show(!false)=true from rfl,ZaQ rfl,Za8];omega
  ·rw[ZaQ rfl,show(!true)=false from rfl,Zaz Zag];omega
theorem L7 (F:aH K "points_many" "points_many" xo f fd)(G:Gs mg):ay P w K mg base az 1 f fd ["lay"] BZ:=by
 refine F.ok Ks (fun vs H Q E h=> ?_) (fun ao A outer s H vs Q E hr h=> ?_)
 ·obtain⟨l,xs,rfl,_⟩:=h;rfl
 ·obtain⟨l,xs,rfl,hl,fl,q⟩:=h;refine⟨_,Zg (Zm (Zp Z7 (Zo Zv rfl G.len Zez (Za (pv 0) Zb)) (rZ PySem.F.plainAttrs_tuple PySem.F.slot_tuple_count PySem.F.type_tuple_count Xx (pv 0) (Za YN Zb)))),?_⟩
  try dsimp only[aP]
  refine⟨_,rfl,l,xs,rfl,.inr (ab.of hl),_,rfl,?ty,l,xs,.ah,rfl,rfl,ab.of hl,rfl,fl,_,_,rfl,rfl,?_⟩
  case ty=>exact .inr (.inl ⟨rfl,.inr ⟨_,hl⟩⟩)
  have e:=Zci xs;show Q (.int ((xs.length:Int)-((xs.countP fun y=>dW y .ah:Nat):Int))) H;rw[e];exact q
abbrev xw:Stmt:=top 16
inductive wB (vs:List V) (H:Hp) (Q:VK) (_:XK):Prop
 |mk (b:Addr) (wd hg W T:Int) (_:vs=[.ref b,.int W,.int T]) (_:H b=some (.tup [.int wd,.int hg])) (_:wd<=W) (_:hg<=T) (_:Q .ah H)
theorem Kz:aM ["board", "wide", "high"] ["board", "wide", "high"] (ax xw):=Zr (by decide+kernel)
theorem Md (F:aH K "need_at_most" "need_at_most" xw f fd):ay P w K mg base az 1 f fd ["board", "wide", "high"] wB:=by
 refine F.ok Kz (fun vs H Q E h=> ?_) (fun ao A outer s H vs Q E hr h=> ?_)
 ·obtain⟨b,wd,hg,W,T,rfl,_⟩:=h;rfl
 ·obtain⟨b,wd,hg,W,T,rfl,hb,h1,h2,q⟩:=h;refine⟨_,Zg (Z1 (PW.pt (J8 (Zq vx (ZB ZC (pv 0) Zf (fun _ _=>rfl)) (pv 1) (bR _)) (YM (Zq vx (ZB ZC (pv 0) Zf (fun _ _=>rfl)) (pv 2) (bR _))))) ZF ZD),?_⟩
  try dsimp only[aP]
  refine⟨_,rfl,b,_,0,.int wd,rfl,rfl,ab.of hb,rfl,_,rfl,_,_,rfl,rfl,_,rfl,?_⟩;rw[ZaF .o];refine aI ?_;refine⟨_,rfl,b,_,1,.int hg,rfl,rfl,ab.of hb,rfl,_,rfl,_,_,rfl,rfl,_,rfl,?_⟩;rw[ZaF .o];exact aI q
end
section
theorem tZ (n:Nat)(v:V):(List.replicate n [v]).flatten=List.replicate n v:=by
 induction n with
 |zero=>rfl
 |succ n ih=>rw[ZcK,Zd6,ih,ZcK];rfl
theorem Hs (n:Nat):rowsOf (List.replicate n V.ah)=[]:=by unfold rowsOf;exact Zdf.mpr fun x hx=>by rw[Zgi hx];simp
theorem Vf (n:Nat):aj (List.replicate n V.ah)=[]:=by unfold aj;rw[ZeK];intro l hl;unfold rowAt;rw[Zc7];split<;>rfl
theorem rJ (w h:Nat):∀i,∀xs∈cH w h i,cA w h xs/\bN xs=true/\∀j,i<=j->j<w->xs[j]? =some V.ah
 |0,xs,hx=>by
  have e:xs=List.replicate w V.ah:=by simpa[cH] using hx
  subst e;refine⟨⟨by rw[Zco],fun r hr=> ?_,by rw[Hs];exact Zfm⟩,?_,fun j _ hj=>by rw[Zc7,ZaQ hj]⟩
  ·rw[Hs]at hr;cases hr
  ·unfold bN;rw[Vf];rfl
 |i+1,xs,hx=>by
  unfold cH at hx;obtain⟨ys,hy,hm⟩:=ZcJ.mp hx;obtain⟨h1,h2,h3⟩:=rJ w h i ys hy;obtain⟨v,hv,rfl⟩:=ZaN.mp hm;have hlen:ys.length=w:=by have:=h1.len;omega
  have later:∀v j,i+1<=j->j<w->(ys.set i v)[j]? =some V.ah:=fun v j hj uU=>by rw[Zd2 .o];exact h3 j .o uU
  by_cases hi:i<w
  ·have hn:=h3 i (Zak _) hi;rcases Zav.mp hv with rfl |hv
   ·have e:ys.set i V.ah=ys:=by
     refine Zfi fun j=> ?_;by_cases hj:i=j
     ·subst hj;rw[Zet .o,hn]
     ·rw[Zd2 hj]
    rw[e];exact⟨h1,h2,fun j hj uU=>h3 j .o uU⟩
   ·obtain⟨r,hr,rfl⟩:=ZaN.mp hv;unfold ft at hr;obtain⟨lP,eV⟩:=ZaZ.mp hr;obtain⟨k,hk,rfl⟩:=ZaN.mp lP;rw[Za6]at hk;rw[Za5,ZcR]at eV;exact⟨AE h1 hn .o .o eV.1,eV.2,later _⟩
  ·have e:∀v,ys.set i v=ys:=fun v=>List.set_eq_of_length_le .o;rw[e];exact⟨h1,h2,fun j hj uU=>.o⟩
theorem JR (w h:Nat):∀i,(cH w h i).length<=(h+1)^i
 |0=>by simp[cH]
 |i+1=>by
  have ih:=JR w h i;unfold cH;refine Zbi (JT _ (h+1) _ fun a _=> ?_) ?_
  ·have:=JQ h a i;simp;exact this
  ·rw[Nat.pow_succ];exact Nat.mul_le_mul_right _ ih
theorem UB {h i:Nat}(hh:h<=5)(hi:i<=5):(h+1)^i<=7776:=
 Zbi (Nat.pow_le_pow_left (by omega:h+1<=6) i) (Nat.pow_le_pow_right .d hi)
def cj (H:Hp)(v:V)(xs:List V):Prop:=∃t:Addr,v=.ref t/\H t=some (.tup xs)
theorem cj.same {H H':Hp}{v:V}{xs:List V}(h:cj H v xs)(s:ag H H'):cj H' v xs:=let ⟨t,e,h1⟩:=h;⟨t,e,s _ _ h1⟩
def putAll (hg:Nat)(i:Nat)(xs:List V):List (List V):=(V.ah::(ft hg xs i).map V.int).map fun v=>xs.set i v
def kB (w h i:Nat)(j:Nat):List (List V):=((cH w h i).take j).flatMap (putAll h i)
theorem ZaB {w h i j:Nat}{xs:List V}(e:(cH w h i)[j]? =some xs):kB w h i (j+1)=kB w h i j++putAll h i xs:=by unfold kB;rw[Za2,e,ZcL];simp
end
section
abbrev wY:Stmt:=top 57
inductive BS (vs:List V) (H:Hp) (Q:VK) (_:XK):Prop
 |mk (b:Addr) (wd hg:Int) (_:vs=[.ref b]) (_:cJ H (.ref b) wd hg) (_:wd<=5) (_:hg<=5) (_:∀(q:Addr) (H':Hp) (ts:List V),ag H H'->H q=none->H' q=some (.lst ts)->Paired (cj H') ts (cH wd.toNat hg.toNat wd.toNat)->Q (.ref q) H')
theorem tI:aM ["board", "found", "line"] ["board"] (ax wY):=Zr (by decide+kernel)
theorem LV (F:aH K "unlike_lays" "unlike_lays" wY f fd)(G:Gs mg)(Bk:Def P w K mg base 1 "need_at_most" ["board", "wide", "high"] wB)(su:Def P w K mg base 1 "with_point" ["lay", "line", "row"] tf)(Bo:Def P w K mg base 12 "free_rows" ["board", "lay", "line"] wK):ay P w K mg base az 13 f fd ["board"] BS:=by
 obtain⟨Iq,l6⟩:=G.MQ;obtain⟨pN,zC⟩:=G.MT;refine F.ok tI (fun vs H Q E h=> ?_) (fun ao A outer s H vs Q E hr h=> ?_)
 ·obtain⟨b,wd,hg,rfl,_⟩:=h;rfl
 ·obtain⟨b,wd,hg,rfl,bd,w5,h5,q⟩:=h;refine⟨_,Ze (ZP (Zc Bk (hr.mono .d) (Za (pv 0) (Za (Yf (v:=.int 5) rfl l6 ⟨_,rfl⟩) (Za (Yf (v:=.int 5) rfl zC ⟨_,rfl⟩) Zb)))))
   (Ze (Zu (i:=1) tI.nd rfl (Or.inl rfl) (Z6 (Za (Zp Gd (Zs (Za YN Zb)) (ZB ZC (pv 0) Zf (fun _ _=>rfl))) Zb)))
   (Ze (ZY Zcn rfl (ZZ rfl G.range (Za (ZB ZC (pv 0) Zf (fun _ _=>rfl)) Zb)) (Zn (i:=2) tI.nd rfl (Or.inr rfl))
    (Zg (Yr ["lay", "row", "board", "line"] 2 [0,2] (i:=1) tI.nd rfl (Or.inl rfl) (Zw (pv 1)) (fun C s H fp=>pb 0) (fun C s H fp=>ZE)
     (fun C s H fp D=>WB rfl rfl rfl (show PI (aU _ _ _ C s H fp) _ _ (uE K _) from Zw (Zp RD (Z6 (Za YN Zb)) (Zc Bo hr (Za (pv 2) (Za (pv 0) (Za (pv 3) Zb))))))
      (show PG (aU _ _ _ C s H fp) _ (bE 1) from pb 1) ZE (cc rfl (Zc su (hr.mono .d) (Za (pv 0) (Za (pv 3) (Za (pv 1) Zb))))) (by intro _;rfl) (by intro g' h;cases h)))))
   (Zg (Zm (pv 1))))),?_⟩
  try dsimp only[aP]
  obtain⟨b',eb,hb⟩:=Zk bd.1;cases eb;have g0:=bd.2.1;have g1:=bd.2.2.2.1;have eW:(wd.toNat:Int)=wd:=.o;have eH:(hg.toNat:Int)=hg:=.o;refine⟨_,rfl,b,wd,hg,5,5,rfl,hb,w5,h5,?_⟩;dsimp only;refine bg (bC ⟨fE,fun p hp=> ⟨_,rfl,b,_,0,.int wd,rfl,rfl,ab.of (de hp _ _ hb),rfl,p,wd,[.ah],rfl,rfl,Zd,by simp,g0,.o,by simp;omega,fun c H1 s1 e1=> ⟨fE,fun p2 fQ=>aK ?_⟩⟩⟩);dsimp only[List.set];have CC:=(de hp).trans s1;obtain⟨H2,zz,s2,e2⟩:=bV (o:=.lst [.ref c]) fQ;rw[zz];have n2:=CC.free fQ;have cX:=CC.trans s2;refine bg ⟨_,rfl,b,_,0,.int wd,rfl,rfl,ab.of (cX _ _ hb),rfl,_,rfl,.o,.o,?_⟩;refine Yd (fun i σ H'=> ∃fa ts v,σ=[some (.ref b),some (.ref fa),v]/\ag H H'/\H fa=none/\H' fa=some (.lst ts)/\Paired (cj H') ts (cH wd.toNat hg.toNat i)) ⟨p2,_,_,rfl,cX,n2,e2,?_⟩ ?_ ?_
  ·rw[tZ wd.toNat V.ah]at e1;exact .cons ⟨c,rfl,s2 _ _ e1⟩ .nil
  ·rintro i σ H3 hi ⟨fa,ts,v,rfl,s3,oH,jM,bI⟩;rw[ZeF];refine aK ?_;dsimp only[List.set];have iM:=Za0 bI;have M1:=Zbi (JR wd.toNat hg.toNat i) (UB .o .o);refine⟨_,rfl,fa,rfl,⟨ts,ai.of jM⟩,?_⟩;refine Zy (xs:=ts) (fun j ys σ H4=> ∃v0 v1,σ=[v0,v1,some (.ref b),some (.int (i:Int))]/\ag H3 H4/\Paired (cj H4) ys (kB wd.toNat hg.toNat i j)/\ys.length<=j*6) ⟨_,_,rfl,ag.refl _,.nil,ZaM _⟩ (fun i ys σ H2 _ ae=>by obtain⟨_,_,_,s2,_⟩:=ae;exact ai.of (s2 _ _ jM)) ?_ ?_
   ·rintro j v ys σ H4 hv ⟨v0,v1,rfl,s4,eK,lS⟩;obtain⟨xs,gG,t,rfl,ht⟩:=Paired.at bI hv;have hj:j<ts.length:=(Zaa.mp hv).1;obtain⟨ly,un,Nd⟩:=rJ wd.toNat hg.toNat i xs (ZaD gG);rw[eW,eH]at ly;have hx:=Nd i (Zak _) .o;have iU:=s4 _ _ ht;refine aK ?_;dsimp only[List.set];unfold kN;refine aX ?_;refine⟨fE,fun p5 uM=> ?_⟩;obtain⟨H5,zz,s5,e5⟩:=bV (o:=.lst [.ah]) uM;rw[zz];refine⟨_,rfl,_,rfl,_,rfl,b,t,i,wd,hg,xs,rfl,bd.same (s3.trans (s4.trans s5)),s5 _ _ iU,ly,hx,fun fb H6 s6 nf ef=> ?_⟩;have fl:=JQ hg.toNat xs i;have es:=ZaB (w:=wd.toNat) (h:=hg.toNat) (i:=i) gG;unfold putAll at es;generalize ft hg.toNat xs i=fs at ef es fl;refine⟨p5,fb,_,_,rfl,rfl,s6 _ _ e5,ef,by rw[ZaX];simp;omega,fun p7 N8=> ?_⟩;obtain⟨H7,zz,s7,e7⟩:=bV (o:=.lst ([.ah]++fs.map V.int)) N8;rw[zz];refine⟨p7,rfl,⟨_,ai.of e7⟩,?_⟩;have kT:=s5.trans (s6.trans s7);generalize iS:([V.ah]++fs.map V.int)=vs at e7;have lvs:vs.length<=6:=by rw[<-iS];simp;omega
    have dI:kB wd.toNat hg.toNat i (j+1)=kB wd.toNat hg.toNat i j++vs.map fun v=>xs.set i v:=by rw[es,<-iS];rfl
    refine Zy (xs:=vs) (fun k ys σ H8=> ∃v1,σ=[some (.ref t),v1,some (.ref b),some (.int (i:Int))]/\ag H7 H8/\Paired (cj H8) ys (kB wd.toNat hg.toNat i j++(vs.take k).map fun v=>xs.set i v)/\ys.length<=j*6+k) ⟨_,rfl,ag.refl _,by simpa using Paired.ba eK fun v q' hq=>hq.same kT,lS⟩ (fun i ys σ H2 _ ae=>by obtain⟨_,_,s2,_⟩:=ae;exact ai.of (s2 _ _ e7)) ?_ ?_
    ·rintro k v ys σ H8 iT ⟨v1,rfl,s8,uf,OA⟩;have hk:k<vs.length:=(Zaa.mp iT).1;refine aK ?_;dsimp only[List.set]
     try unfold kN
     refine aX ?_;refine⟨_,rfl,_,rfl,_,rfl,t,xs,i,v,rfl,(kT.trans s8) _ _ iU,by have:=ly.len;omega,by have:=ly.len;omega,fun t9 H9 s9 e9=> ⟨by rw[ZaX];omega,?_⟩⟩;refine⟨_,rfl,s8.trans s9,?_,by rw[Zaj];simp;omega⟩;rw[Za2,iT,ZaV,<-ZaY];exact Zc3 (Paired.ba uf fun v q' hq=>hq.same s9) ⟨t9,rfl,e9⟩
    ·rintro ys σ H8 ⟨v1,rfl,s8,uf,OA⟩;rw[Zbe]at uf;refine⟨_,_,rfl,s4.trans (kT.trans s8),?_,.o⟩;rw[dI];exact uf
   ·rintro ys σ H4 ⟨v0,v1,rfl,s4,eK,lS⟩ p5 uM;have s5:=de (o:=.lst ys) uM;refine⟨p5,ys,_,rfl,s3.trans (s4.trans s5),(s3.trans s4).free uM,Zd,?_⟩;have e:kB wd.toNat hg.toNat i ts.length=cH wd.toNat hg.toNat (i+1):=by unfold kB;rw[iM,Zbe];rfl
    rw[e]at eK;exact Paired.ba eK fun v q' hq=>hq.same s5
  ·rintro σ H3 ⟨fa,ts,v,rfl,s3,oH,jM,bI⟩;exact⟨_,rfl,q fa H3 ts s3 oH jM bI⟩
end
end U.S
namespace U
open PySem L2 PyProof.Rows
section
abbrev xt:Stmt:=top 12
inductive wz (vs:List V) (H:Hp) (Q:VK) (_:XK):Prop
 |mk (i a b:Int) (_:vs=[.int i,.int a,.int b]) (_:a<=i) (_:i<=b) (_:Q .ah H)
theorem Kw:aM ["number", "least", "most"] ["number", "least", "most"] (ax xt):=Zr (by decide+kernel)
theorem RB (F:aH K "need_whole_within" "need_whole_within" xt f fd)(D1:Def P w K mg base 2 "is_whole_within" ["thing", "least", "most"] (nX K)):ay P w K mg base az 3 f fd ["number", "least", "most"] wz:=by
 refine F.ok Kw (fun vs H Q E h=> ?_) (fun ao A outer s H vs Q E hr h=> ?_)
 ·obtain⟨i,a,b,rfl,_⟩:=h;rfl
 ·obtain⟨i,a,b,rfl,h1,h2,q⟩:=h;refine⟨_,Zg (Z1 (YE (Yi (Zc D1 hr (Za (pv 0) (Za (pv 1) (Za (pv 2) Zb)))))) ZF ZD),?_⟩
  try dsimp only[aP]
  refine⟨_,rfl,_,rfl,_,rfl,_,a,b,rfl,⟨_,.int i⟩,_,rfl,?_⟩;have e:cm (.int i) a b=true:=by show(decide (a<=i)&&decide (i<=b))=true;rw[Zaq h1,Zaq h2];rfl
  rw[e];exact aI q
end
end U
namespace U.S
open PySem L2 PyProof.Rows
section
noncomputable def oD (w h:Nat)(n:Int)(i:Nat):List (List V):=((cH w h w).take i).filter fun xs=>decide ((jC xs:Int)=n)
theorem XG {w h i:Nat}{n:Int}{xs:List V}(e:(cH w h w)[i]? =some xs):oD w h n (i+1)=oD w h n i++(if decide ((jC xs:Int)=n)=true then [xs] else []):=by unfold oD;rw[Za2,e,ZcX];cases hh:decide ((jC xs:Int)=n)<;>simp_all
end
section
abbrev wX:Stmt:=top 58
inductive BR (vs:List V) (H:Hp) (Q:VK) (_:XK):Prop
 |mk (b:Addr) (wd hg n:Int) (_:vs=[.ref b,.int n]) (_:cJ H (.ref b) wd hg) (_:wd<=5) (_:hg<=5) (_:∀(q:Addr) (H':Hp) (ts:List V),ag H H'->H q=none->H' q=some (.lst ts)->Paired (cj H') ts (qx wd.toNat hg.toNat n)->Q (.ref q) H')
theorem Km:aM ["board", "number"] ["board", "number"] (ax wX):=Zr (by decide+kernel)
theorem LU (F:aH K "unlike_of" "unlike_of" wX f fd)(Dpm:Def P w K mg base 1 "points_many" ["lay"] BZ)(Dul:Def P w K mg base 13 "unlike_lays" ["board"] BS):ay P w K mg base az 14 f fd ["board", "number"] BR:=by
 refine F.ok Km (fun vs H Q E h=> ?_) (fun ao A outer s H vs Q E hr h=> ?_)
 ·obtain⟨b,wd,hg,n,rfl,_⟩:=h;rfl
 ·obtain⟨b,wd,hg,n,rfl,bd,w5,h5,q⟩:=h;refine⟨_,Zg (Zm (ZM ["lay", "number"] 1 [1] (Zw (Zc Dul hr (Za (pv 0) Zb))) (fun C s H fp=>pb 0)
   (fun C s H fp=>Ye (Zq YQ (Zc Dpm (hr.mono .d) (Za (pv 0) Zb)) (pv 1) (bR _))) (fun C s H fp D=>cc rfl (pv 0)))),?_⟩
  try dsimp only[aP]
  refine⟨_,rfl,b,wd,hg,rfl,bd,w5,h5,fun fa H1 ts s1 nf ef pr=> ?_⟩;have M1:=Zbi (JR wd.toNat hg.toNat wd.toNat) (UB .o .o);have iM:=Za0 pr;refine⟨fa,rfl,⟨ts,ai.of ef⟩,?_⟩;refine Zy (xs:=ts) (fun i ys σ H2=> ∃v,σ=[v,some (.int n)]/\ag H1 H2/\Paired (cj H1) ys (oD wd.toNat hg.toNat n i)/\ys.length<=i) ⟨_,rfl,ag.refl _,.nil,ZaM _⟩ (fun i ys σ H2 _ ae=>by obtain⟨_,_,s2,_⟩:=ae;exact ai.of (s2 _ _ ef)) ?_ ?_
  ·rintro i v ys σ H2 hv ⟨v0,rfl,s2,bJ,hG⟩;obtain⟨xs,gG,t,rfl,ht⟩:=Paired.at pr hv;have hi:i<ts.length:=(Zaa.mp hv).1;have ly:=(rJ wd.toNat hg.toNat wd.toNat xs (ZaD gG)).1;have es:=XG (n:=n) gG;refine aK ?_;dsimp only[List.set];refine⟨_,rfl,t,xs,rfl,s2 _ _ ht,GR ly,_,rfl,rfl,_,rfl,?_⟩;have z:decide (V.int (jC xs:Int)=V.int n)=decide ((jC xs:Int)=n):=by rw[Zfv];exact⟨fun h=>by injection h,fun h=>by rw[h]⟩
   rw[z];cases hh:decide ((jC xs:Int)=n) with
   |true=>rw[hh,ZaQ rfl]at es;refine aX ⟨_,rfl,by rw[ZaX];omega,⟨_,rfl,s2,?_,by rw[Zaj];simp;omega⟩⟩;rw[es];exact Zc3 bJ ⟨t,rfl,ht⟩
   |false=>rw[hh,Zaz Zag,ZbE]at es;refine aI ⟨_,rfl,s2,?_,.o⟩;rw[es];exact bJ
  ·rintro ys σ H2 ⟨v,rfl,s2,bJ,hG⟩ p hp;have s4:=de (o:=.lst ys) hp;refine q p _ ys (s1.trans (s2.trans s4)) ((s1.trans s2).free hp) Zd ?_;have e:oD wd.toNat hg.toNat n ts.length=qx wd.toNat hg.toNat n:=by unfold oD qx;rw[iM,Zbe]
   rw[e]at bJ;exact Paired.ba bJ fun v q' hq=>hq.same (s2.trans s4)
abbrev xx:Stmt:=top 59
inductive wC (vs:List V) (H:Hp) (Q:VK) (_:XK):Prop
 |mk (b:Addr) (wd hg n:Int) (_:vs=[.ref b,.int n]) (_:cJ H (.ref b) wd hg) (_:wd<=5) (_:hg<=5) (_:0<=n) (_:n<=12) (_:∀(H':Hp),ag H H'->Q (.int (qx wd.toNat hg.toNat n).length) H')
theorem KC:aM ["board", "number"] ["board", "number"] (ax xx):=Zr (by decide+kernel)
theorem Me (F:aH K "many_of" "many_of" xx f fd)(G:Gs mg)(Dnb:Def P w K mg base 4 "need_board" ["board"] (pV K))(Bj:Def P w K mg base 3 "need_whole_within" ["number", "least", "most"] wz)(Duo:Def P w K mg base 14 "unlike_of" ["board", "number"] BR):ay P w K mg base az 15 f fd ["board", "number"] wC:=by
 obtain⟨tk,hL⟩:=G.longest;refine F.ok KC (fun vs H Q E h=> ?_) (fun ao A outer s H vs Q E hr h=> ?_)
 ·obtain⟨b,wd,hg,n,rfl,_⟩:=h;rfl
 ·obtain⟨b,wd,hg,n,rfl,bd,w5,h5,n0,n1,q⟩:=h;refine⟨_,Ze (ZP (Zc Dnb (hr.mono .d) (Za (pv 0) Zb)))
   (Ze (ZP (Zc Bj (hr.mono .d) (Za (pv 1) (Za Zf (Za (Yf (v:=.int 12) rfl hL ⟨_,rfl⟩) Zb)))))
   (Zg (Zm (Zo Zv rfl G.len Zez (Za (Zc Duo hr (Za (pv 0) (Za (pv 1) Zb))) Zb))))),?_⟩
  try dsimp only[aP]
  refine⟨_,rfl,.ref b,wd,hg,rfl,bd,fun H0 s0=> ?_⟩;refine⟨_,rfl,n,0,12,rfl,n0,n1,?_⟩
  ·refine⟨_,rfl,_,rfl,b,wd,hg,n,rfl,bd.same s0,w5,h5,fun fa H2 ts s2 nf ef pr=> ⟨fa,ts,rfl,.inl (ai.of ef),?_⟩⟩;rw[Za0 pr];exact q H2 (s0.trans s2)
end
section
def oC (ps:List (Int×Int))(i:Nat):List (List Int):=(List.range i).flatMap fun k=>match ps[k]? with
 |some a=> (ps.drop (k+1)).map (sk a)
 |none=> []
theorem V6 {ps:List (Int×Int)}{i:Nat}{a:Int×Int}(h:ps[i]? =some a):oC ps (i+1)=oC ps i++(ps.drop (i+1)).map (sk a):=by unfold oC;rw[ZbF,ZcL];simp[h]
theorem Fo:∀ps:List (Int×Int),oC ps ps.length=pk ps
 | []=>rfl
 |a::r=>by have ih:=Fo r;unfold oC at ih |-;rw[Za8,List.range_succ_eq_map,Zb5,List.flatMap_map];unfold pk;rw[<-ih];rfl
theorem TL {xs:List V}{i:Nat}{r:Int}(h:rowAt xs i=some r):fw xs (i:Int)=some (.int r):=by
 refine Y8 ?_;unfold rowAt at h;cases e:xs[i]? with
 |none=>rw[e]at h;cases h
 |some v=>
  rw[e]at h;cases v with
  |int y=>have:y=r:=Zbh h;rw[this]
  |_=>cases h
theorem RU {xs:List V}{q:Int×Int}(h:q∈aj xs):fw xs q.1=some (.int q.2):=by obtain⟨l,hl,hr,e⟩:=ZW.mp h;rw[e];exact TL hr
theorem Hi {H:Hp}{L:Addr}{zs:List V}{o:HO}(e:H L=some (.lst zs)){v:V}{k:List Int}(h:bw H v k):bw (upd H L o) v k:=by
 obtain⟨t,rfl,ht⟩:=h;refine⟨t,rfl,?_⟩;rw[Zi (fun z=> ?_)]
 ·exact ht
 ·subst z;rw[e]at ht;cases ht
theorem pX {H H1:Hp}{L:Addr}{o:HO}(s:ag H H1)(n:H L=none):ag H (upd H1 L o):=fun b u h=>by rw[Zi (Zh h n)];exact s b u h
theorem WF {α β:Type}{F:α->β->Prop} :∀{a c:List α}{b d:List β},Paired F a b->Paired F c d->Paired F (a++c) (b++d)
 |_,_,_,_,.nil,h=>h
 |_,_,_,_,.cons x y,h=> .cons x (WF y h)
theorem VS (xs:List V):(aj xs).length<=xs.length:=by unfold aj;refine Zbi (Zdl _ _) ?_;rw[ZcA];exact Zak _
end
section
abbrev xE:Stmt:=top 64
inductive B8 (vs:List V) (H:Hp) (Q:VK) (_:XK):Prop
 |mk (a:Addr) (xs:List V) (_:vs=[.ref a]) (_:H a=some (.tup xs)) (_:nK xs) (_:xs.length<=12) (_:∀(q:Addr) (H':Hp) (ts:List V),ag H H'->H q=none->H' q=some (.lst ts)->Paired (bw H') ts (pk (aj xs))->ts.length<=144->Q (.ref q) H')
noncomputable abbrev ML:List Str:=["_law_lay_here", "_law_some", "_law_found", "_law_at", "_law_line"]
theorem pW:aM ML ["_law_lay_here"] (ax xE):=Zr (by decide+kernel)
theorem Mi (F:aH K "_law_steps" "_law_steps" xE f fd)(G:Gs mg):ay P w K mg base az 1 f fd ["_law_lay_here"] B8:=by
 refine F.ok pW (fun vs H Q E h=> ?_) (fun ao A outer s H vs Q E hr h=> ?_)
 ·obtain⟨a,xs,rfl,_⟩:=h;rfl
 ·obtain⟨a,xs,rfl,ha,ok,oN,q⟩:=h;refine⟨_,Ze (Yr ["_law_line", "_law_lay_here"] 1 [0] (i:=1) pW.nd rfl (Or.inl rfl) (ZZ rfl G.range (Za (Zo Zv rfl G.len Zez (Za (pv 0) Zb)) Zb)) (fun C s H fp=>pb 0)
    (fun C s H fp=>Ye (JJ (Wm (ZB (show mv (aU _ _ _ C s H fp) (oz K) from ZC) (pv 1) (pv 0) (fun _ _=>rfl))))) (fun C s H fp D=>cc rfl (pv 0)))
   (Ze (Zu (i:=2) pW.nd rfl (Or.inl rfl) (Z6 Zb))
   (Ze (ZY Zcn rfl (VO rfl G.enumerate (Za (pv 1) Zb)) (ZI rfl (Zj (Zn (i:=3) pW.nd rfl (Or.inl rfl)) (Zj (Zn (i:=4) pW.nd rfl (Or.inr rfl)) Zz)))
    (Zg (ZP (rZ Zel Zgj Zgk UI (pv 2) (Za
     (ZM ["_law_other", "_law_lay_here", "_law_line"] 1 [0,4] (Zw (Jp Gv (pv 1) (Wk (Zp Yo (pv 3) Zf)) Wl)) (fun C s H fp=>pb 0) (fun C s H fp=>ZE)
      (fun C s H fp D=>cc rfl (Zs (Za (Zp Z7 (pv 0) (pv 2)) (Za (Zp Z7 (ZB (show mv (aU _ _ _ C s H fp) (oz K) from ZC) (pv 1) (pv 0) (fun _ _=>rfl)) (ZB (show mv (aU _ _ _ C s H fp) (oz K) from ZC) (pv 1) (pv 2) (fun _ _=>rfl))) Zb))))) Zb)))))
   (Zg (Zm (pv 2))))),?_⟩
  try dsimp only[aP]
  have MY:=VS xs;refine bg ⟨_,rfl,a,xs,rfl,.inr (ab.of ha),_,rfl,.o,.o,?_⟩;refine Je (fun k ys σ H1=> ∃v,σ=[v,some (.ref a)]/\ag H H1/\ys=((fH xs k).map (·.1)).map V.int/\ys.length<=k) ⟨_,rfl,ag.refl _,rfl,ZaM _⟩ ?_ ?_
  ·rintro k ys σ H1 hk ⟨v,rfl,s1,rfl,hlen⟩;have aG:k<xs.length:=.o;rw[ZeF];refine aK ?_;dsimp only[List.set];obtain⟨v,hv⟩:∃v,xs[k]? =some v:=⟨_,Zaw aG⟩;have zx:fw xs (k:Int)=some v:=Y8 hv;refine⟨_,rfl,_,rfl,a,xs,(k:Int),v,rfl,rfl,ab.of (s1 _ _ ha),zx,_,rfl,?_⟩;have er:rowAt xs k=gW v:=by unfold rowAt;rw[hv];rfl
   have es:=qp xs k;rw[er]at es;rcases ok v (ZaD hv) with rfl |⟨r,rfl⟩
   ·refine aI ⟨_,rfl,s1,?_,.o⟩;rw[es];simp[gW]
   ·refine aX ⟨_,rfl,by rw[ZaX];omega,⟨_,rfl,s1,?_,by rw[Zaj];simp at hlen |-;omega⟩⟩;rw[es];simp[gW]
  ·rintro ys σ H1 ⟨v,rfl,s1,rfl,hlen⟩ m hm;have e0:fH xs (Int.toNat (xs.length:Int))=aj xs:=by rw[Zbu];rfl
   obtain⟨H2,zz,sm,em⟩:=bV (o:=.lst (((fH xs (Int.toNat (xs.length:Int))).map (·.1)).map V.int)) hm;rw[zz];rw[e0]at em;have cF:∀q'∈aj xs,fw xs q'.1=some (.int q'.2):=fun q' h=>RU h;generalize aj xs=ps at em MY q cF;have nm:H m=none:=s1.free hm;have cX:=s1.trans sm;dsimp only[List.set];refine bg (bC ⟨BK,fun L hL=>aK ?_⟩);dsimp only[List.set];have nL:H L=none:=cX.free hL;have Ot:m≠L:=Zh em hL;obtain⟨H3,zz,sL,eL⟩:=bV (o:=.lst []) hL;rw[zz];have xW:=cX.trans sL;refine bg ⟨_,rfl,m,rfl,⟨_,ai.of (sL _ _ em)⟩,?_⟩;refine XR (xs:=(ps.map (·.1)).map V.int) (fun i σ H4=> ∃zs v3 v4,σ=[some (.ref a),some (.ref m),some (.ref L),v3,v4]/\ag H H4/\H4 m=some (.lst ((ps.map (·.1)).map V.int))/\H4 L=some (.lst zs)/\Paired (bw H4) zs (oC ps i)/\zs.length<=i*12) ⟨_,_,_,rfl,xW,sL _ _ em,eL,.nil,ZaM _⟩ (fun i σ H4 _ ae=>by obtain⟨_,_,_,_,_,e,_⟩:=ae;exact ai.of e) ?_ ?_
   ·rintro i v T σ H4 hv hT ⟨zs,v3,v4,rfl,s4,zM,jN,eK,lS⟩;rw[Zbk,Zbk]at hv;obtain⟨z,hz,rfl⟩:=Zbf.mp hv;obtain⟨p0,yS,rfl⟩:=Zbf.mp hz;have hi:i<ps.length:=(Zaa.mp yS).1;have sT:=de (o:=.par [.int (i:Int),.int p0.1]) hT;refine⟨T,_,rfl,ab.mS Zd,rfl,_,_,rfl,_,_,rfl,rfl,?_⟩;generalize upd H4 T (HO.par [V.int (i:Int),V.int p0.1])=H5 at sT;have Qf:=sT _ _ jN;have P4:=sT _ _ zM;refine⟨_,rfl,.inl ⟨rfl,_,ai.of Qf⟩,?_⟩;refine⟨_,rfl,_,rfl,_,_,rfl,rfl,_,rfl,m,_,rfl,ai.of P4,fun p6 N9=> ?_⟩;have OT:fu ((ps.map (·.1)).map V.int) (some ((i:Int)+1)) none=((ps.drop (i+1)).map (·.1)).map V.int:=by rw[G5 (by simpa using hi),<-List.map_drop,<-List.map_drop]
    rw[OT];obtain⟨H6,zz,s6,e6⟩:=bV (o:=.lst (((ps.drop (i+1)).map (·.1)).map V.int)) N9;rw[zz];refine⟨p6,rfl,⟨_,ai.of e6⟩,?_⟩;have es:=V6 yS;have lN:∀q'∈ps.drop (i+1),fw xs q'.1=some (.int q'.2):=fun q' h=>cF q' (ZcH h);have M7:(ps.drop (i+1)).length<=12:=by rw[Zcz];omega
    generalize ps.drop (i+1)=rs at e6 es lN M7;have O2:=(s4.trans (sT.trans s6)) _ _ ha;have h0:=cF p0 (ZaD yS);refine Zy (xs:=(rs.map (·.1)).map V.int) (fun j ys σ H7=> ∃v,σ=[v,some (.ref a),some (.int p0.1)]/\ag H6 H7/\Paired (bw H7) ys ((rs.take j).map (sk p0))/\ys.length<=j) ⟨_,rfl,ag.refl _,.nil,ZaM _⟩ (fun i ys σ H2 _ ae=>by obtain⟨_,_,s2,_⟩:=ae;exact ai.of (s2 _ _ e6)) ?_ ?_
    ·rintro j v ys σ H7 iT ⟨v0,rfl,s7,qt,DZ⟩;rw[Zbk,Zbk]at iT;obtain⟨z,kc,rfl⟩:=Zbf.mp iT;obtain⟨p1,oT,rfl⟩:=Zbf.mp kc;have hj:j<rs.length:=(Zaa.mp oT).1;have h1:=lN p1 (ZaD oT);have Eu:=ab.of (K:=K) (s7 _ _ O2);refine aK ?_;dsimp only[List.set]
     try unfold kN
     refine aX ?_;refine⟨_,rfl,_,rfl,_,_,rfl,rfl,_,rfl,_,rfl,a,xs,p1.1,_,rfl,rfl,Eu,h1,_,rfl,_,rfl,a,xs,p0.1,_,rfl,rfl,Eu,h0,_,_,rfl,rfl,bT,fun t8 yL=> ⟨by rw[ZaX];omega,?_⟩⟩;have s8:=de (o:=.tup [.int (p1.1-p0.1),.int (p1.2-p0.2)]) yL;refine⟨_,rfl,s7.trans s8,?_,by rw[Zaj];simp;omega⟩;rw[Za2,oT,ZaV];exact Zc3 (Paired.ba qt fun v q' hq=>hq.same s8) ⟨t8,rfl,Zd⟩
    ·rintro ys σ H7 ⟨v0,rfl,s7,qt,DZ⟩ p8 N7;rw[Zal,Zal]at qt DZ;rw[Zbe]at qt;obtain⟨H8,zz,s8,e8⟩:=bV (o:=.lst ys) N7;rw[zz];have tX:=sT.trans (s6.trans (s7.trans s8));have zP:=tX _ _ jN;have P2:=tX _ _ zM;refine⟨L,p8,zs,ys,rfl,rfl,zP,e8,by rw[ZaX];omega,?_⟩;refine⟨_,_,_,rfl,pX (s4.trans tX) nL,?_,Zd,?_,by rw[Zaj];omega⟩
     ·rw[Zi Ot];exact P2
     ·rw[es];exact WF (Paired.ba eK fun v q' hq=>Hi zP (hq.same tX)) (Paired.ba qt fun v q' hq=>Hi zP (hq.same s8))
   ·rintro σ H4 ⟨zs,v3,v4,rfl,s4,zM,jN,eK,lS⟩;rw[Zal,Zal]at eK lS;rw[Fo]at eK;exact⟨_,rfl,q L H4 zs s4 nL jN eK .o⟩
abbrev tR:Stmt:=top 65
inductive B7 (vs:List V) (H:Hp) (Q:VK) (_:XK):Prop
 |mk (a:Addr) (xs:List V) (_:vs=[.ref a]) (_:H a=some (.tup xs)) (_:nK xs) (_:xs.length<=12) (_:∀(H':Hp),ag H H'->Q (.bl (bN xs)) H')
theorem Ct:aM ["_law_lay_here", "_law_some"] ["_law_lay_here"] (ax tR):=Zr (by decide+kernel)
theorem Mf (F:aH K "_law_unlike" "_law_unlike" tR f fd)(G:Gs mg)(Dls:Def P w K mg base 1 "_law_steps" ["_law_lay_here"] B8):ay P w K mg base az 2 f fd ["_law_lay_here"] B7:=by
 refine F.ok Ct (fun vs H Q E h=> ?_) (fun ao A outer s H vs Q E hr h=> ?_)
 ·obtain⟨a,xs,rfl,_⟩:=h;rfl
 ·obtain⟨a,xs,rfl,ha,ok,oN,q⟩:=h;have hu:(ie az P w K mg base ["_law_lay_here", "_law_some"] "_law_unlike" (ax tR) f ao A outer s H E).jZ.A.units+4<cLine:=Ze3 (ZfH (by decide:4<=64) _) hr.units;refine⟨_,Ze (Zu (i:=1) Ct.nd rfl (Or.inl rfl) (Zc Dls hr (Za (pv 0) Zb)))
   (Zg (Zm (YG YQ (V3 rfl hu rfl G.len rfl G.set (pv 1)) (Zo Zv rfl G.len Zez (Za (pv 1) Zb)) (bR _)))),?_⟩
  try dsimp only[aP]
  refine bg (bC ⟨_,rfl,a,xs,rfl,ha,ok,oN,fun t H1 ts s1 nt e1 pr aaV=>aK ?_⟩);dsimp only[List.set];have lk:=Za0 pr;refine⟨_,rfl,t,ts,_,rfl,ai.of e1,pr,.o,_,rfl,t,ts,rfl,.inl (ai.of e1),rfl,?_⟩;have z:decide (V.int (qE (pk (aj xs)):Int)=V.int (ts.length:Int))=bN xs:=by
   unfold bN;rw[Zfv,lk,<-Sr];constructor
   ·intro h;injection h with h;omega
   ·intro h;rw[h]
  rw[z];exact q H1 s1
end
section
theorem VW {hg:Nat}{xs:List V}{l:Nat}{r:Int} :r∈ft hg xs l↔(0<=r/\r<hg)/\bK (.int r) xs=false/\bN (xs.set l (.int r))=true:=by
 unfold ft;rw[ZaZ,ZaN,Za5,ZcR];constructor
 ·rintro⟨⟨k,hk,rfl⟩,h⟩;rw[Za6]at hk;exact⟨.o,h⟩
 ·rintro⟨h,h'⟩;exact⟨⟨r.toNat,Za6.mpr .o,.o⟩,h'⟩
end
end U.S
namespace U.T
open PySem L2 PyProof.Rows
section
theorem bh {H:Hp}{p:Addr}{o:HO}(h:H p=none):ag H (upd H p o):=fun b u hb=>by rw[Zi (Zh hb h)];exact hb
theorem fh {D:Ends}{σ:L2.St}{H:Hp}(h:D.nx σ H):wc D σ H:=h
theorem bg {t u:TS}{D:Ends}{σ:L2.St}{H:Hp}(h:t {D with nx:=u D} σ H):pP t u D σ H:=h
theorem bC {te:TE}{g:TG}{D:Ends}{σ:L2.St}{H:Hp}(h:te σ H fun v H1=>g v σ H1 D.nx):pR te g D σ H:=h
theorem aK {i:Nat}{v:V}{σ:L2.St}{H:Hp}{Q:L2.St->Hp->Prop}(h:Q (σ.set i (some v)) H):bE i v σ H Q:=h
end
section
abbrev xP:Stmt:=top 61
inductive Cf (K:ZhK) (vs:List V) (H:Hp) (Q:VK) (_:XK):Prop
 |mk (a:Addr) (ns:List Int) (k:Nat) (_:vs=[.ref a,.int k]) (_:ai K H a (ns.map V.int)) (_:∀n:Int,Q (.int n) H)
theorem KQ:aM ["_law_script", "_law_k"] ["_law_script", "_law_k"] (ax xP):=Zr (by decide+kernel)
theorem Mr (F:aH K "_law_cell_at" "_law_cell_at" xP f fd)(G:Gs mg):ay P w K mg base az 1 f fd ["_law_script", "_law_k"] (Cf K):=by
 refine F.ok KQ (fun vs H Q E h=> ?_) (fun ao A outer s H vs Q E hr h=> ?_)
 ·obtain⟨a,ns,k,rfl,_⟩:=h;rfl
 ·obtain⟨a,ns,k,rfl,hs,q⟩:=h;refine⟨_,Ze (Z1 (Zq An (pv 1) (Zo Zv rfl G.len Zez (Za (pv 0) Zb)) (bR _)) (Zg (Zm (ZB Z9 (pv 0) (pv 1) (fun _ _=>rfl)))) ZD) (Zg (Zm Zf)),?_⟩
  try dsimp only[aP]
  refine⟨_,rfl,_,rfl,a,ns.map V.int,rfl,.inl hs,_,_,rfl,rfl,_,rfl,?_⟩;by_cases hk:k<ns.length
  ·rw[Zaq (by rw[Zal];omega)];refine aX ⟨_,rfl,_,rfl,a,ns.map V.int,k,V.int ns[k],rfl,rfl,hs,Y8 ?_,q _⟩;rw[Zbk,Zaw hk];rfl
  ·rw[ZaF (by rw[Zal];omega)];exact aI (q 0)
def dk (H:Hp)(p:Addr):Prop:=∃u v:Int,H p=some (.lst [.int u,.int v])/\0<=u/\0<=v/\v<2147483647
abbrev xl:Stmt:=top 62
inductive wu (K:ZhK) (vs:List V) (H:Hp) (Q:VK) (_:XK):Prop
 |mk (a:Addr) (ns:List Int) (k:Nat) (_:vs=[.ref a,.int k]) (_:ai K H a (ns.map V.int)) (_:∀p H',H p=none->ag H H'->dk H' p->Q (.ref p) H')
theorem Cr:aM ["_law_script", "_law_k", "_law_cell"] ["_law_script", "_law_k"] (ax xl):=Zr (by decide+kernel)
theorem L6 (F:aH K "_law_state" "_law_state" xl f fd)(G:Gs mg)(D1:Def P w K mg base 1 "_law_cell_at" ["_law_script", "_law_k"] (Cf K)):ay P w K mg base az 2 f fd ["_law_script", "_law_k"] (wu K):=by
 refine F.ok Cr (fun vs H Q E h=> ?_) (fun ao A outer s H vs Q E hr h=> ?_)
 ·obtain⟨a,ns,k,rfl,_⟩:=h;rfl
 ·obtain⟨a,ns,k,rfl,hs,q⟩:=h;refine⟨_,Ze (Zu (i:=2) Cr.nd rfl (Or.inl rfl) (Zc D1 hr (Za (pv 0) (Za (pv 1) Zb))))
   (Zg (Zm (Z6 (Za (Zo (UW rfl) rfl G.max boot_max (Za Zf (Za (Zp Z7 (pv 2) (Zp Ta Zf Zf)) Zb))) (Za (Zp Jd (pv 2) Zf) Zb))))),?_⟩
  try dsimp only[aP]
  refine⟨_,rfl,_,rfl,a,ns,k,rfl,hs,fun n=> ?_⟩;refine⟨_,rfl,_,_,rfl,rfl,⟨.d,.d,.d⟩,_,_,rfl,rfl,_,_,rfl,?_⟩;refine⟨_,rfl,_,_,rfl,rfl,(by show(0:Int)<2147483647;decide),bT,fun p hp=>q p _ hp (fun b o hb=>by rw[Zi (Zh hb hp)];exact hb) ?_⟩;refine⟨_,_,Zd,?_,Zec _ .d,ZdB _ .d⟩;split<;>omega
abbrev xb:Stmt:=top 63
inductive nY (vs:List V) (H:Hp) (Q:VK) (_:XK):Prop
 |mk (p:Addr) (m:Int) (_:vs=[.ref p,.int m]) (_:dk H p) (_:0<m) (_:m<1073741824) (_:∀r o,0<=r->r<m->dk (upd H p o) p->Q (.int r) (upd H p o))
theorem tJ:aM ["_law_state_here", "_law_many", "_law_found", "_law_mixed"] ["_law_state_here", "_law_many"] (ax xb):=Zr (by decide+kernel)
theorem L5 (F:aH K "_law_take" "_law_take" xb f fd):ay P w K mg base az 1 f fd ["_law_state_here", "_law_many"] nY:=by
 refine F.ok tJ (fun vs H Q E h=> ?_) (fun ao A outer s H vs Q E hr h=> ?_)
 ·obtain⟨p,m,rfl,_⟩:=h;rfl
 ·obtain⟨p,m,rfl,⟨u,v,hp,hu,hv,NF⟩,hm,kh,q⟩:=h;refine⟨_,Ze (Z1 (Zq RQ (ZB Z9 (pv 0) Zf (fun _ _=>rfl)) (pv 1) (bR _))
    (Ze (Zu (i:=2) tJ.nd rfl (Or.inl rfl) (Zp Jd (ZB Z9 (pv 0) Zf (fun _ _=>rfl)) (pv 1)))
    (Ze (Yu (Zp AM (ZB Z9 (pv 0) Zf (fun _ _=>rfl)) (pv 1)) (Ay (pv 0) Zf Wy)) (Zg (Zm (pv 2))))) ZD)
   (Ze (Yu (Zp Jd (Zp Yo (Zp YO (ZB Z9 (pv 0) Zf (fun _ _=>rfl)) Zf) Zf) Zf) (Ay (pv 0) Zf Wy))
   (Ze (Zu (i:=3) tJ.nd rfl (Or.inl rfl) (Zp Jd (Zp Yo (Zp Yo (Zp YO (ZB Z9 (pv 0) Zf (fun _ _=>rfl)) (ZB Z9 (pv 0) Zf (fun _ _=>rfl))) (Zp YO Zf (ZB Z9 (pv 0) Zf (fun _ _=>rfl)))) Zf) Zf))
   (Ze (Zu (i:=3) tJ.nd rfl (Or.inl rfl) (Zp Jd (Zp Yo (Zp YO (pv 3) (pv 3)) (Zp YO Zf (pv 3))) Zf))
   (Zg (Zm (Zp Jd (Zp AM (pv 3) Zf) (pv 1))))))),?_⟩
  try dsimp only[aP]
  have s0:=ai.of (K:=K) hp;refine⟨_,rfl,p,_,_,_,rfl,rfl,s0,jP,_,rfl,_,_,rfl,rfl,_,rfl,?_⟩;by_cases h0:m<=u
  ·rw[Zaq h0];refine aX ?_;refine⟨_,rfl,p,_,_,_,rfl,rfl,s0,jP,_,rfl,_,_,rfl,rfl,hm,?_⟩;refine⟨_,rfl,p,_,_,_,rfl,rfl,s0,jP,_,rfl,_,_,rfl,rfl,⟨hm,.o⟩,?_⟩;refine⟨_,rfl,p,_,0,0,rfl,rfl,hp,rfl,?_⟩;refine⟨_,rfl,q _ _ (Zec _ .o) (ZdB _ hm) ?_⟩;exact⟨u/m,v,Zd,Int.ediv_nonneg hu .o,hv,NF⟩
  ·rw[ZaF h0];refine aI ?_;refine⟨_,rfl,p,_,_,_,rfl,rfl,s0,ij,_,_,rfl,rfl,.inr ⟨.d,.d⟩,_,_,rfl,rfl,_,_,rfl,rfl,(by show(0:Int)<2147483647;decide),?_⟩;refine⟨_,rfl,p,_,1,1,rfl,rfl,hp,rfl,?_⟩;have b1:0<=((v*48271+29)%2147483647):=Zec _ .d;have b2:((v*48271+29)%2147483647)<2147483647:=ZdB _ .d;have s1:ai K (upd H p (.lst (([V.int u,V.int v]:List V).set 1 (V.int ((v*48271+29)%2147483647))))) p [.int u,.int ((v*48271+29)%2147483647)]:=ai.of Zd;have lo:∀{t:Int},0<=t-> -(2^64)<t:=fun h=>Int.lt_of_lt_of_le .d h;have hi:∀{t:Int},t<2147483647->t<2^64:=fun h=>Int.lt_trans h .d;refine⟨_,rfl,p,_,_,_,rfl,rfl,s1,ij,_,rfl,p,_,_,_,rfl,rfl,s1,ij,_,_,rfl,rfl,.inl ⟨lo b1,hi b2⟩,?_⟩;refine⟨_,rfl,p,_,_,_,rfl,rfl,s1,ij,_,_,rfl,rfl,.inl ⟨.d,.d⟩,_,_,rfl,rfl,_,_,rfl,rfl,_,_,rfl,rfl,(by show(0:Int)<2147483629;decide),?_⟩;have c1:0<=((((v*48271+29)%2147483647)*((v*48271+29)%2147483647)+39373*((v*48271+29)%2147483647)+7)%2147483629):=Zec _ .d;have c2:((((v*48271+29)%2147483647)*((v*48271+29)%2147483647)+39373*((v*48271+29)%2147483647)+7)%2147483629)<2147483647:=Int.lt_trans (ZdB _ .d) .d;refine⟨_,rfl,_,rfl,_,_,rfl,rfl,.inl ⟨lo c1,hi c2⟩,_,rfl,_,_,rfl,rfl,.inl ⟨.d,.d⟩,_,_,rfl,rfl,_,_,rfl,rfl,(by show(0:Int)<2147483587;decide),?_⟩;refine⟨_,rfl,_,_,rfl,rfl,⟨.d,.d⟩,_,rfl,_,_,rfl,rfl,hm,?_⟩;refine q _ _ (Zec _ .o) (ZdB _ hm) ?_;exact⟨u,_,Zd,hu,b1,b2⟩
end
section
theorem dk.same {H H':Hp}{p:Addr}(h:dk H p)(s:ag H H'):dk H' p:=by obtain⟨u,v,e,r⟩:=h;exact⟨u,v,s _ _ e,r⟩
def mP (K:ZhK):R2:=fun x y H Q=> (∃a b ys,x=.ref a/\y=.ref b/\ab K H a []/\ab K H b ys/\Q (.ref b) H)∨yc K x y H Q
theorem kX {X:Cx} :aV X (binaryOp .Add) (mP X.K):=Ho.or Ga
theorem zU {K:ZhK}{H:Hp}{a b:Addr}{xs ys:List V}{Q:VK}(ha:H a=some (.tup xs))(hb:H b=some (.tup ys))(hl:xs.length+ys.length<=sizeLine)(q:∀(c:Addr) H',ag H H'->H' c=some (.tup (xs++ys))->Q (.ref c) H'):mP K (.ref a) (.ref b) H Q:=by
 by_cases hx:xs=[]
 ·subst hx;exact .inl ⟨a,b,ys,rfl,rfl,ab.of ha,ab.of hb,q b H (ag.refl _) hb⟩
 ·refine .inr ⟨a,b,xs,ys,rfl,rfl,ab.of ha,ab.of hb,hx,hl,fun hy=> ?_,fun _ c hc=>q c _ (bh hc) Zd⟩;subst hy;exact q a H (ag.refl _) (by rw[ZbE];exact ha)
theorem Gw {b a c:Int}(h0:a<=b)(h1:b<=c):cm (.int b) a c=true:=by show(decide (a<=b)&&decide (b<=c))=true;rw[Zaq h0,Zaq h1];rfl
structure bt (K:ZhK)(H:Hp)(x:V)(l:Addr)(xs:List V)(wd hg:Int):Prop where
 bd:cJ H x wd hg
 at_:H l=some (.tup xs)
 ly:bu wd hg (some xs)=true
theorem bt.same {K:ZhK}{H H':Hp}{x:V}{l:Addr}{xs:List V}{wd hg:Int}(a:bt K H x l xs wd hg)(s:ag H H'):bt K H' x l xs wd hg:=⟨a.bd.same s,s _ _ a.at_,a.ly⟩
theorem GG {xs:List V}{wd hg:Int}(h:bu wd hg (some xs)=true):(xs.length:Int)=wd:=by unfold bu at h;rw[Za5,Za5]at h;exact Zbt h.1.1
theorem oM {xs:List V}{wd hg:Int}{v:V}(h:bu wd hg (some xs)=true)(hv:v∈xs):v=.ah∨∃i:Int,v=.int i/\0<=i/\i<hg:=by
 unfold bu at h;rw[Za5,Za5]at h;by_cases e:v=.ah
 ·exact .inl e
 ·have:=Zbd.mp h.1.2 v (ZaZ.mpr ⟨hv,by simp[e]⟩);cases v with
  |int i=>have z:(decide (0<=i)&&decide (i<=hg-1))=true:=this;rw[Za5]at z;have z1:=Zbt z.1;have z2:=Zbt z.2;exact .inr ⟨i,rfl,z1,.o⟩
  |_=>cases this
theorem bt.pl {K:ZhK}{H:Hp}{x:V}{l:Addr}{xs:List V}{wd hg:Int}(a:bt K H x l xs wd hg):r8 K H (.ref l):=by
 refine⟨⟨_,.tup a.at_⟩,fun ys e y hy=> ?_⟩;rw[Zx a.at_]at e;cases e;rcases oM a.ly hy with rfl |⟨i,rfl,_⟩
 ·exact⟨_,.ah⟩
 ·exact⟨_,.int i⟩
theorem Xh (n:Nat):L2.upTo n=(h9 0 n).map V.int:=by unfold L2.upTo h9;rw[ZcG];refine List.map_congr_left fun k _=> ?_;show V.int (k:Int)=V.int (0+(k:Int));rw[ZeF]
theorem Ts {n:Nat}{i:Int} :i∈h9 0 n↔0<=i/\i<n:=by
 unfold h9;rw[ZaN];constructor
 ·rintro⟨k,hk,rfl⟩;have:=Za6.mp hk;omega
 ·rintro⟨h1,h2⟩;exact⟨i.toNat,Za6.mpr .o,.o⟩
theorem Tr (n:Nat):(h9 0 n).length=n:=by unfold h9;rw[Zal,ZcA]
theorem X6 (n:Nat):(h9 0 n).Nodup:=by unfold h9;refine List.Pairwise.map _ (fun a b h=> ?_) Zdr;omega
theorem W5:∀{ls:List Int}{k:Nat}(h:k<ls.length),(ls[k]::ls.eraseIdx k).Perm ls
 |_::_,0,_=> .refl _
 |a::ls,k+1,h=> ((List.Perm.swap _ _ _).trans (List.Perm.cons a (W5 (ls:=ls) (k:=k) (by simpa using h))))
theorem Jk {t u:TS}{D:Ends}{σ:L2.St}{H:Hp}(R:L2.St->Hp->Prop)(h2:∀ak H',R ak H'->u D ak H')(h1:∀D':Ends,(∀ak H',R ak H'->D'.nx ak H')->t D' σ H):pP t u D σ H:=h1 _ h2
theorem ZbZ {p L:Addr}{H H1:Hp}{o:HO}(x:bD p H H1)(hp:H1 p=some o)(hL:H1 L=none):H L=none/\L≠p:=by
 have n:L≠p:=fun e=>by rw[e,hp]at hL;cases hL
 refine⟨?_,n⟩;cases h:H L with
 |none=>rfl
 |some u=>rw[x _ _ h n]at hL;cases hL
theorem ZbY {p L:Addr}{H H1:Hp}{o:HO}(x:bD p H H1)(n:H L=none):bD p H (upd H1 L o):=fun b u h nb=>by rw[Zi (Zh h n)];exact x b u h nb
theorem TM {p L:Addr}{H:Hp}{o:HO}(s:dk H p)(n:L≠p):dk (upd H L o) p:=by obtain⟨u,v,e,r⟩:=s;exact⟨u,v,by rw[Zi n.symm];exact e,r⟩
theorem Rm {n:Nat}{k:Int}(h0:0<=k)(h1:k<n):j8 n k=some k.toNat:=by unfold j8;rw[ZaQ h0,ZaQ h1]
theorem US {α β:Type}(f:α->β):∀(xs:List α) (k:Nat),(xs.map f).eraseIdx k=(xs.eraseIdx k).map f
 | [],_=>rfl
 |_::_,0=>rfl
 |a::xs,k+1=>by show f a::(xs.map f).eraseIdx k=f a::(xs.eraseIdx k).map f;rw[US f xs k]
theorem Ir {t:TE}{σ:L2.St}{H:Hp}{Q:VK}(R:V->Hp->Prop)(h2:∀v H',R v H'->Q v H')(h1:∀Q':VK,(∀v H',R v H'->Q' v H')->t σ H Q'):t σ H Q:=h1 Q h2
theorem Vi {fs:List V} :rowsOf (fs++[.ah])=rowsOf fs:=by unfold rowsOf;rw[ZcX];simp
theorem Vh {fs:List V}{i:Int} :rowsOf (fs++[.int i])=rowsOf fs++[.int i]:=by unfold rowsOf;rw[ZcX];simp
theorem Zbj {fs:List V}{is ls:List Int}{wd hg:Int}(OH:1<=hg)(h1:rowsOf fs=is.map V.int)(h2:(is++ls).Perm (h9 0 hg.toNat))(h3:(fs.length:Int)=wd):bu wd hg (some fs)=true:=by
 unfold bu;dsimp only;rw[h1,Zaq h3];have a1:((is.map V.int).all fun r=>cm r 0 (hg-1))=true:=by rw[Zbd];intro x hx;obtain⟨i,hi,rfl⟩:=ZaN.mp hx;have:=Ts.mp (h2.mem_iff.mp (Za3 _ hi));exact Gw this.1 .o
 have a2:(is.map V.int).Nodup:=(UG is).mpr (Zdj.mp ((List.Perm.nodup_iff h2).mpr (X6 _))).1;rw[a1,Zaq a2];rfl
end
section
abbrev xH:Stmt:=top 66
inductive wH (K:ZhK) (vs:List V) (H:Hp) (Q:VK) (_:XK):Prop
 |mk (p b:Addr) (wd hg:Int) (_:vs=[.ref p,.ref b]) (_:dk H p) (_:cJ H (.ref b) wd hg) (_:∀(l:Addr) H' (xs:List V),bD p H H'->dk H' p->H' l=some (.tup xs)->bu wd hg (some xs)=true->Q (.ref l) H')
theorem og:aM ["_law_state_here", "_law_board", "_law_left", "_law_found", "_law_line", "_law_row"] ["_law_state_here", "_law_board"] (ax xH):=Zr (by decide+kernel)
theorem Mk (F:aH K "_law_lay" "_law_lay" xH f fd)(G:Gs mg)(D1:Def P w K mg base 1 "_law_take" ["_law_state_here", "_law_many"] nY):ay P w K mg base az 2 f fd ["_law_state_here", "_law_board"] (wH K):=by
 refine F.ok og (fun vs H Q E h=> ?_) (fun ao A outer s H vs Q E hr h=> ?_)
 ·obtain⟨p,b,wd,hg,rfl,_⟩:=h;rfl
 ·obtain⟨p,b,wd,hg,rfl,st,bd,q⟩:=h;obtain⟨_,w1,w2,g1,g2⟩:=id bd;obtain⟨a',eb,hb⟩:=Zk bd.1;cases eb;refine⟨_,Ze (vD (i:=2) (j:=3) rfl og.nd rfl rfl .d rfl rfl (Za (Yz Ul rfl G.list boot_list (Za (Yz ZbJ rfl G.range boot_range (Za (ZB ZC (pv 1) Zf (fun _ _=>rfl)) Zb)) Zb)) (Za (Zs Zb) Zb)) rfl)
   (Ze (ZY Zcn rfl (ZZ rfl G.range (Za (ZB ZC (pv 1) Zf (fun _ _=>rfl)) Zb)) (Zn (i:=4) og.nd rfl (Or.inl rfl))
    (Ze (Zu (i:=5) og.nd rfl (Or.inl rfl) YN)
    (Ze (Z1 (PW.pt (Az (Zq (S7 hr.vX) (pv 2) (Z6 Zb) (bR _)) (AQ (Zq vx (Zc D1 hr (Za (pv 0) (Za Zf Zb))) Zf (bR _)))))
     (Zg (Zu (i:=5) og.nd rfl (Or.inl rfl) (rZ Zel PySem.F.slot_list_pop PySem.F.type_list_pop VZ (pv 2) (Za (Zc D1 hr (Za (pv 0) (Za (Zo Zv rfl G.len Zez (Za (pv 2) Zb)) Zb))) Zb)))) ZD)
    (Zg (Zu (i:=3) og.nd rfl (Or.inl rfl) (Zp kX (pv 3) (Zs (Za (pv 5) Zb))))))))
   (Zg (Zm (pv 3)))),?_⟩
  try dsimp only[aP]
  obtain⟨u0,v0,EX,_⟩:=id st;have nbp:b≠p:=YS hb EX (by intro z;cases z)
  (try refine hY _ _ ?_);refine ZJ fun Y hY=> ⟨_,rfl,b,_,_,_,rfl,rfl,ab.of hb,ij,hg,rfl,fun rg NV=> ⟨rg,hg,rfl,Zd,.o,.o,fun L hL=> ⟨ZaM _,fun f0 zo=> ⟨_,_,rfl,?_⟩⟩⟩⟩
  dsimp only[List.set];have sA:=bh (o:=.iH 0 hg) NV;have sB:=bh (o:=.lst (L2.upTo hg.toNat)) hL;have sC:=bh (o:=.tup []) zo;have eL:=sC _ _ (Zd (H:=upd H rg (.iH 0 hg)) (a:=L) (o:=.lst (L2.upTo hg.toNat)));have eF:upd (upd (upd H rg (.iH 0 hg)) L (.lst (L2.upTo hg.toNat))) f0 (.tup []) f0=some (.tup []):=Zd;have kS:=sA.trans (sB.trans sC);have Pf:H L=none/\L≠p:=ZbZ (p:=p) sA.x (sA _ _ EX) hL;generalize upd (upd (upd H rg (.iH 0 hg)) L (.lst (L2.upTo hg.toNat))) f0 (.tup [])=H1 at kS eL eF;obtain⟨Pe,zB⟩:=Pf;rw[Xh]at eL;have jL:=kS _ _ hb
  (try refine hY _ _ ?_);refine ZJ fun Y hY=> ⟨_,rfl,b,_,_,_,rfl,rfl,ab.of jL,jP,wd,rfl,.o,.o,?_⟩
  refine Yd (n:=wd.toNat) (fun i σ H2=> ∃(fa:Addr) (fs:List V) (is ls:List Int) (x4 x5:Option V),σ=[some (.ref p),some (.ref b),some (.ref L),some (.ref fa),x4,x5]/\bD p H H2/\dk H2 p/\H2 L=some (.lst (ls.map V.int))/\H2 fa=some (.tup fs)/\fs.length=i/\rowsOf fs=is.map V.int/\(is++ls).Perm (h9 0 hg.toNat))
   ⟨f0,[],[],h9 0 hg.toNat,none,none,rfl,kS.x,st.same kS,eL,eF,rfl,rfl,.refl _⟩ ?_ ?_
  ·rintro i σ H2 hi ⟨fa,fs,is,ls,x4,x5,rfl,x2,av,jd,rO,fl,tY,pm⟩;have hlen:=pm.length_eq;rw[Zaj,Tr]at hlen;obtain⟨u2,v2,P0,_⟩:=id av;have C9:fa≠p:=YS rO P0 (by intro z;cases z);have MF:fa≠L:=YS rO jd (by intro z;cases z);refine aK (bg (bC (aK ?_)));dsimp only[List.set]
   (try refine hY _ _ ?_);refine Jk (fun σ H3=> ∃(row:V) (uD uw:List Int),σ=[some (.ref p),some (.ref b),some (.ref L),some (.ref fa),some (.int (0+(i:Int))),some row]/\bD p H H3/\dk H3 p/\H3 L=some (.lst (uw.map V.int))/\H3 fa=some (.tup fs)/\rowsOf (fs++[row])=uD.map V.int/\(uD++uw).Perm (h9 0 hg.toNat)) ?_ ?_
   ·rintro σ H3 ⟨row,uD,uw,rfl,x3,bU,rM,rN,Le,LM⟩;refine bC ⟨_,rfl,_,rfl,fE,fun t ht=> ?_⟩;have s4:=bh (o:=.tup [row]) ht;refine zU (s4 _ _ rN) Zd (by rw[ZaX];show fs.length+1<=_;omega) fun c H5 s5 e5=>aK ?_;have om:=s4.trans s5;exact⟨c,fs++[row],uD,uw,_,_,rfl,x3.trans om.x,bU.same om,om _ _ rM,e5,by rw[Zaj,fl];rfl,Le,LM⟩
   ·intro D' hD;refine⟨_,rfl,ZaM _,fun e he=> ⟨L,e,ls.map V.int,rfl,rfl,ai.of (bh he _ _ jd),ai.of Zd,_,rfl,?_⟩⟩;have se:=bh (o:=.lst []) he;have bU:=av.same se;have x3:=x2.trans se.x;have rM:=se _ _ jd;have rN:=se _ _ rO;generalize upd H2 e (.lst [])=H3 at se bU x3 rM rN;have none_:∀{H4:Hp},bD p H H4->dk H4 p->H4 L=some (.lst (ls.map V.int))->H4 fa=some (.tup fs)->D'.nx [some (.ref p),some (.ref b),some (.ref L),some (.ref fa),some (.int (0+(i:Int))),some .ah] H4:=fun x s e1 e2=>hD _ _ ⟨.ah,is,ls,rfl,x,s,e1,e2,by rw[Vi];exact tY,pm⟩;cases ls with
    |nil=>exact aI (aI (fh (none_ x3 bU rM rN)))
    |cons l0 lr=>
     refine aX ⟨_,rfl,p,4,rfl,bU,.d,.d,fun r o r0 r4 eG=> ⟨_,_,rfl,rfl,_,rfl,?_⟩⟩;have vU:bD p H (upd H3 p o):=x3.trans bD.upd;have jN:upd H3 p o L=some (.lst ((l0::lr).map V.int)):=by rw[Zi zB];exact rM
     have zQ:upd H3 p o fa=some (.tup fs):=by rw[Zi C9];exact rN
     generalize upd H3 p o=H4 at eG vU jN zQ;by_cases qV:(0:Int)<r
     ·rw[Zaq qV];refine aX (bC ⟨_,rfl,.inl ⟨rfl,_,ai.of jN⟩,_,rfl,_,rfl,L,_,rfl,.inl (ai.of jN),p,_,rfl,eG,by rw[Zal];simp,by rw[Zal];omega,fun r' o' LD yd dM=> ?_⟩);rw[Zal]at yd;have e5:upd H4 p o' L=some (.lst ((l0::lr).map V.int)):=by rw[Zi zB];exact jN
      have br:r'.toNat< (l0::lr).length:=.o;refine⟨L,_,r',r'.toNat,.int ((l0::lr)[r'.toNat]),rfl,rfl,e5,.o,.o,Zhe LD (by rw[Zal];exact yd),by rw[Zbk,Zaw br];rfl,aK ?_⟩;refine hD _ _ ⟨_,is++[(l0::lr)[r'.toNat]],(l0::lr).eraseIdx r'.toNat,rfl,ZbY (vU.trans bD.upd) Pe,TM dM zB,?_,?_,?_,?_⟩
      ·rw[Zd,US]
      ·rw[Zi MF,Zi C9];exact zQ
      ·rw[Vh,tY,ZaV];rfl
      ·rw[ZaY];exact((W5 br).append_left is).trans pm
     ·rw[ZaF qV];exact aI (fh (none_ vU eG jN zQ))
  ·rintro σ H2 ⟨fa,fs,is,ls,x4,x5,rfl,x2,av,jd,rO,fl,tY,pm⟩;refine hY _ _ ?_;exact⟨_,rfl,q fa H2 fs x2 av rO (Zbj g1 tY pm .o)⟩
end
section
def bi (b:Bool):Int:=if b=true then 1 else 0
noncomputable abbrev tv (q:Bool×Bool×Bool):List V:=[.int (bi q.1),.int (bi q.2.1),.int (bi q.2.2)]
end
section
variable {aB aT:Addr}
def tA (n:Int)(l:Bool)(x:Int):Int:=if l=true then n-1-x else x
noncomputable def bz (wd hg:Int)(q:Bool×Bool×Bool)(x:Int×Int):Int×Int:=if q.1=true then (tA hg q.2.2 x.2,tA wd q.2.1 x.1) else (tA wd q.2.1 x.1,tA hg q.2.2 x.2)
theorem W9 (b:Bool):decide (V.int (bi b)=V.int 1)=b:=by cases b<;>decide
abbrev tW (wd hg:Int)(q:Bool×Bool×Bool):Int:=if q.1=true then hg else wd
abbrev tH (wd hg:Int)(q:Bool×Bool×Bool):Int:=if q.1=true then wd else hg
end
section
theorem Rh {α β:Type}(g:α->Option β)(a:α):[a].filterMap g=(g a).toList:=by rw[Zc0];cases g a<;>rfl
def fH (xs:List V)(n:Nat):List (Int×Int):=(List.range n).filterMap fun(l:Nat)=> ((xs[l]?).bind gW).map fun r=> ((l:Int),r)
theorem qp (xs:List V)(n:Nat):fH xs (n+1)=fH xs n++(((xs[n]?).bind gW).map fun r=> ((n:Int),r)).toList:=by unfold fH;rw[ZbF,ZbO,Rh]
abbrev aj (xs:List V):List (Int×Int):=fH xs xs.length
theorem FQ {xs:List V}{n:Nat}{q:Int×Int}(h:q∈fH xs n):∃k:Nat,k<n/\q.1=k/\xs[k]? =some (.int q.2):=by
 unfold fH at h;obtain⟨k,hk,e⟩:=Zcq.mp h;refine⟨k,Za6.mp hk,?_⟩;cases e1:xs[k]? with
 |none=>rw[e1]at e;cases e
 |some v=>
  rw[e1]at e;cases v with
  |int r=>cases e;exact⟨rfl,rfl⟩
  |_=>cases e
def dJ (qs:List (Int×Int)):Prop:=qs.Pairwise fun a b=>a.1≠b.1/\a.2≠b.2
def mz (wd hg:Int)(qs:List (Int×Int)):Prop:=∀q∈qs,(0<=q.1/\q.1<wd)/\0<=q.2/\q.2<hg
theorem qo {xs:List V}{wd hg:Int}(h:bu wd hg (some xs)=true):mz wd hg (aj xs):=fun q hq=>by
 obtain⟨k,hk,e1,e2⟩:=FQ hq;have hl:=GG h;rcases oM h (ZaD e2) with z |⟨i,z,i0,i1⟩
 ·cases z
 ·cases z;exact⟨⟨.o,.o⟩,i0,i1⟩
def gY (ps:List (Int×Int))(k:Int):V:=ps.foldl (fun v p=>if k=p.1 then .int p.2 else v) .ah
theorem VR {ps:List (Int×Int)}{p:Int×Int}{k:Int} :gY (ps++[p]) k=if k=p.1 then .int p.2 else gY ps k:=by unfold gY;rw[Zgh];rfl
theorem FP {k:Int} :∀(ps:List (Int×Int)) (v:V),ps.foldl (fun v p=>if k=p.1 then V.int p.2 else v) v=v∨∃p∈ps,p.1=k/\ps.foldl (fun v p=>if k=p.1 then V.int p.2 else v) v=.int p.2
 | [],v=> .inl rfl
 |p::ps,v=>by
  rw[Zdw];rcases FP ps (if k=p.1 then V.int p.2 else v) with h |⟨q,hq,e1,e2⟩
  ·by_cases z:k=p.1
   ·right
    refine⟨p,Zaf,z.symm,?_⟩;rw[h,ZaQ z]
   ·left
    rw[h,Zaz z]
  ·exact .inr ⟨q,Zae _ hq,e1,e2⟩
theorem qr (ps:List (Int×Int))(k:Int):gY ps k=.ah∨∃p∈ps,p.1=k/\gY ps k=.int p.2:=FP ps .ah
theorem ue {ps:List (Int×Int)}{k:Int}(h:∀p∈ps,p.1≠k):gY ps k=.ah:=by
 rcases qr ps k with z |⟨p,hp,e,_⟩
 ·exact z
 ·exact absurd e (h p hp)
def cz (W:Nat)(ps:List (Int×Int)):List V:=(List.range W).map fun(k:Nat)=>gY ps k
theorem k9 (W:Nat)(ps:List (Int×Int)):(cz W ps).length=W:=by unfold cz;rw[Zal,ZcA]
theorem Xp (W:Nat):cz W []=List.replicate W .ah:=by unfold cz;rw[show(fun(k:Nat)=>gY [] (k:Int))=fun _=>V.ah from rfl,List.map_const',ZcA]
theorem qF {W:Nat}{ps:List (Int×Int)}{k:Nat}(h:k<W):(cz W ps)[k]? =some (gY ps k):=by unfold cz;rw[Zbk,List.getElem?_range h];rfl
theorem Xq {W:Nat}{ps:List (Int×Int)}{p:Int×Int}(h0:0<=p.1):(cz W ps).set p.1.toNat (.int p.2)=cz W (ps++[p]):=by
 refine ZeN (by rw[ZgO,k9,k9]) fun i h1 h2=> ?_;rw[k9]at h2;have e1:=Zaa.mp (qF (ps:=ps) h2);have e2:=Zaa.mp (qF (ps:=ps++[p]) h2);rw[List.getElem_set];obtain⟨_,e1⟩:=e1;obtain⟨_,e2⟩:=e2;rw[e1,e2,VR];by_cases z:p.1.toNat=i
 ·rw[ZaQ z,ZaQ .o]
 ·rw[Zaz z,Zaz .o]
theorem uB {W:Nat}{ps:List (Int×Int)}{v:V}(h:v∈cz W ps):v=.ah∨∃p∈ps,v=.int p.2:=by
 unfold cz at h;obtain⟨k,_,rfl⟩:=ZaN.mp h;rcases qr ps (k:Int) with z |⟨p,hp,_,e⟩
 ·exact .inl z
 ·exact .inr ⟨p,hp,e⟩
theorem TF {W:Nat}{ps:List (Int×Int)}{r:Int}(h:∀p∈ps,p.2≠r):bK (.int r) (cz W ps)=false:=by
 unfold bK;rw[Zf6];intro y hy;rcases uB hy with rfl |⟨p,hp,rfl⟩
 ·show ¬false=true;exact Zag
 ·show ¬(p.2==r)=true;rw[Zd8];exact h p hp
theorem Zcl {W:Nat}{ps:List (Int×Int)} :(cz W ps).all fT=true:=by rw[Zbd];intro y hy;rcases uB hy with rfl |⟨p,hp,rfl⟩<;>rfl
theorem tZ (n:Nat)(v:V):(List.replicate n [v]).flatten=List.replicate n v:=by
 induction n with
 |zero=>rfl
 |succ n ih=>rw[ZcK,Zd6,ih,ZcK];rfl
theorem pX {H H1:Hp}{L:Addr}{o:HO}(s:ag H H1)(n:H L=none):ag H (upd H1 L o):=fun b u h=>by rw[Zi (Zh h n)];exact s b u h
end
section
variable {aB aL aT:Addr}
inductive mH (K:ZhK) (vs:List V) (H:Hp) (Q:VK) (_:XK):Prop
 |mk (x:V) (l:Addr) (xs:List V) (wd hg:Int) (_:vs=[x,.ref l]) (_:bt K H x l xs wd hg) (_:∀(L:Addr) (H':Hp) (ps:List V),ag H H'->H' L=some (.lst ps)->Paired (iq H') ps (aj xs)->Q (.ref L) H')
abbrev xJ:Stmt:=top 21
inductive Cc (K:ZhK) (vs:List V) (H:Hp) (Q:VK) (_:XK):Prop
 |mk (b:Addr) (v:V) (wd hg:Int) (x:Int×Int) (_:vs=[.ref b,v]) (_:H b=some (.tup [.int wd,.int hg])) (_:iq H v x) (_:(0<=x.1/\x.1<wd)) (_:(0<=x.2/\x.2<hg)) (_:∀H',ag H H'->Q (.bl true) H')
theorem KN:aM ["board", "thing"] ["board", "thing"] (ax xJ):=Zr (by decide+kernel)
theorem Mo (F:aH K "is_point" "is_point" xJ f fd)(G:Gs mg)(D1:Def P w K mg base 1 "is_tuple_of" ["thing", "many"] (tm K))(D2:Def P w K mg base 2 "is_whole_within" ["thing", "least", "most"] (nX K)):
  ay P w K mg base az 3 f fd ["board", "thing"] (Cc K):=by
 refine F.ok KN (fun vs H Q E h=> ?_) (fun ao A outer s H vs Q E hr h=> ?_)
 ·obtain⟨b,v,wd,hg,x,rfl,_⟩:=h;rfl
 ·obtain⟨b,v,wd,hg,⟨x,y⟩,rfl,hb,⟨t,rfl,ht⟩,hx,hy,q⟩:=h;refine⟨_,Zg (Zm (YH (Zc D1 (hr.mono .d) (Za (pv 1) (Za Zf Zb)))
   (YF (Zo Y0 rfl G.all boot_all (Za (ZM ["at", "side"] 2 [] (Vb rfl G.zip (Za (pv 1) (Za (pv 0) Zb)))
    (fun C s H fp=>show PG (aU _ _ _ C s H fp) _ (gK K 2 (bX (bE 0) (bX (bE 1) gM))) from ZI rfl (Zj (pb 0) (Zj (pb 1) Zz))) (fun C s H fp=>ZE)
    (fun C s H fp D=>cc rfl (Zc D2 (hr.mono .d) (Za (pv 0) (Za Zf (Za (Zp Z7 (pv 1) Zf) Zb)))))) Zb))))),?_⟩
  try dsimp only[aP]
  refine⟨_,rfl,.ref t,2,rfl,⟨_,.tup ht⟩,_,rfl,?_⟩;rw[Zx ht];show if decide ((2:Int)=2)=true then _ else _
  rw[Zaq rfl];refine aX ⟨_,rfl,_,rfl,t,b,rfl,⟨_,_,ab.of ht,ab.of hb⟩,?_⟩;refine XA (xs:=[.int x,.int y]) (zs:=[.int wd,.int hg]) rfl (fun i zs σ H2=> ∃v0 v1,σ=[v0,v1]/\ag H H2/\zs=List.replicate i (V.bl true)) ⟨_,_,rfl,ag.refl _,rfl⟩ (fun i zs σ H2 _ ae=>by obtain⟨_,_,_,s2,_⟩:=ae;exact⟨ab.of (s2 _ _ ht),ab.of (s2 _ _ hb)⟩) ?_ ?_
  ·rintro i u v T zs σ H2 hu hv hT ⟨v0,v1,rfl,s2,rfl⟩;have sT:=bh (o:=.par [u,v]) hT;obtain⟨a,sd,rfl,rfl,h0,h1⟩:∃a sd:Int,u=.int a/\v=.int sd/\0<=a/\a<sd:=by
    match i,hu,hv with
    |0,hu,hv=>cases hu;cases hv;exact⟨_,_,rfl,rfl,hx.1,hx.2⟩
    |1,hu,hv=>cases hu;cases hv;exact⟨_,_,rfl,rfl,hy.1,hy.2⟩
   have hi:i<2:=(Zaa.mp hu).1;refine⟨T,_,rfl,ab.mS Zd,rfl,_,_,rfl,_,_,rfl,rfl,?_⟩;refine⟨_,rfl,_,rfl,_,_,rfl,rfl,.int a,0,sd-1,rfl,⟨_,.int a⟩,by rw[Zco,ZaX];omega,_,_,rfl,s2.trans sT,?_⟩;rw[Gw h0 .o,ZfB]
  ·rintro zs σ H2 ⟨v0,v1,rfl,s2,rfl⟩ p hp;refine⟨p,List.replicate 2 true,rfl,ai.of Zd,?_⟩;exact q _ (s2.trans (bh hp))
abbrev xF:Stmt:=top 22
inductive Ca (K:ZhK) (vs:List V) (H:Hp) (Q:VK) (_:XK):Prop
 |mk (b L:Addr) (ps:List V) (qs:List (Int×Int)) (wd hg:Int) (_:vs=[.ref b,.ref L]) (_:cJ H (.ref b) wd hg) (_:H L=some (.lst ps)) (_:Paired (iq H) ps qs) (_:mz wd hg qs) (_:dJ qs) (_:qs.length<=12) (_:∀(t:Addr) H',ag H H'->H' t=some (.tup (cz wd.toNat qs))->Q (.ref t) H')
theorem tL:aM ["board", "points", "rows", "line", "row"] ["board", "points"] (ax xF):=Zr (by decide+kernel)
theorem Mj (F:aH K "lay_of" "lay_of" xF f fd)(G:Gs mg)(D1:Def P w K mg base 4 "need_board" ["board"] (pV K))(D2:Def P w K mg base 3 "is_point" ["board", "thing"] (Cc K)):ay P w K mg base az 5 f fd ["board", "points"] (Ca K):=by
 refine F.ok tL (fun vs H Q E h=> ?_) (fun ao A outer s H vs Q E hr h=> ?_)
 ·obtain⟨b,L,ps,qs,wd,hg,rfl,_⟩:=h;rfl
 ·obtain⟨b,L,ps,qs,wd,hg,rfl,bd,hL,pr,Dw,Qi,hlen,q⟩:=h;refine⟨_,Ze (ZP (Zc D1 hr (Za (pv 0) Zb)))
   (Ze (Z1 (PW.pt (J8 (YE (Yi (Zo (Yt (c:= "list")) rfl G.isinstance Ze5 (Za (pv 1) (Za (Jq (v:=.ty "list") rfl G.list boot_list rfl) Zb)))))
     (YM (YE (Yi (Zo Y0 rfl G.all boot_all (Za (ZM ["point", "board"] 1 [0] (Zw (pv 1)) (fun C s H fp=>pb 0) (fun C s H fp=>ZE)
      (fun C s H fp D=>cc rfl (Zc D2 (hr.mono .d) (Za (pv 1) (Za (pv 0) Zb))))) Zb))))))) ZF ZD)
   (Ze (Zu (i:=2) tL.nd rfl (Or.inl rfl) (Zp Tb (Z6 (Za YN Zb)) (ZB ZC (pv 0) Zf (fun _ _=>rfl))))
   (Ze (ZY Zcn rfl (Zw (pv 1)) (ZI rfl (Zj (Zn (i:=3) tL.nd rfl (Or.inl rfl)) (Zj (Zn (i:=4) tL.nd rfl (Or.inl rfl)) Zz)))
    (Ze (Z1 (PW.pt (J8 (JJ (Wm (ZB Z9 (pv 2) (pv 3) (fun _ _=>rfl)))) (YM (Zq XI (pv 4) (pv 2) rfl)))) ZF ZD)
    (Zg (Yu (pv 4) (Ay (pv 2) (pv 3) Wy)))))
   (Zg (Zm (Yz Jc rfl G.tuple boot_tuple (Za (pv 2) Zb))))))),?_⟩
  try dsimp only[aP]
  obtain⟨_,w1,Bz,g1,EM⟩:=id bd;obtain⟨b',eb,hb⟩:=Zk bd.1;cases eb;have lp:ps.length=qs.length:=Za0 pr;refine bg ⟨_,rfl,.ref b,wd,hg,rfl,bd,fun H1 s1=> ?_⟩;dsimp only;have l6:=s1 _ _ hL;have jL:=s1 _ _ hb;refine bg ⟨_,rfl,_,_,_,rfl,.lst l6,(show _=some true from rfl),_,rfl,aI ?_⟩;refine⟨_,rfl,L,rfl,⟨ps,ai.of l6⟩,?_⟩;refine Zy (xs:=ps) (fun i zs σ H2=> ∃v0,σ=[v0,some (.ref b)]/\ag H1 H2/\zs=List.replicate i (V.bl true)) ⟨_,rfl,ag.refl _,rfl⟩ (fun i zs σ H2 _ ae=>by obtain⟨_,_,s2,_⟩:=ae;exact ai.of (s2 _ _ l6)) ?_ ?_
  ·rintro i v zs σ H2 hv ⟨v0,rfl,s2,rfl⟩;obtain⟨x,hx,px⟩:=ZV pr hv;obtain⟨uF,kg⟩:=Dw x (ZaD hx);have hi:i<ps.length:=(Zaa.mp hv).1;refine⟨_,rfl,_,rfl,b,v,wd,hg,x,rfl,s2 _ _ jL,px.same (s1.trans s2),uF,kg,fun H3 s3=> ⟨by rw[Zco,ZaX];omega,_,rfl,s2.trans s3,?_⟩⟩;rw[ZfB]
  rintro zs σ H2 ⟨v0,rfl,s2,rfl⟩ p hp;refine⟨p,List.replicate ps.length true,rfl,?_,?_⟩
  ·rw[List.map_replicate];exact ai.of Zd
  have ea:(List.replicate ps.length true).all id=true:=by simp
  rw[ea];refine⟨_,rfl,aI (fh ?_)⟩;dsimp only;have s3:=s2.trans (bh (o:=.lst (List.replicate ps.length (V.bl true))) hp);generalize upd H2 p (.lst (List.replicate ps.length (V.bl true)))=H3 at s3;have O1:=s3 _ _ jL;have Pg:=s3 _ _ l6;refine bg (bC ⟨fE,fun l0 h0=> ?_⟩);obtain⟨H4,zz,s4,e4⟩:=bV (o:=.lst [V.ah]) h0;rw[zz];refine⟨_,rfl,b,_,_,_,rfl,rfl,ab.of (s4 _ _ O1),jP,l0,wd,_,rfl,rfl,e4,.o,.o,(by rw[ZaX];show 1*wd.toNat<=_;omega),fun R hR=>aK ?_⟩;dsimp only[List.set];have er:(List.replicate wd.toNat [V.ah]).flatten=cz wd.toNat []:=by rw[tZ,Xp]
  rw[er];have Ez:=s4 _ _ Pg;have iG:=s3.trans s4;have LJ:Paired (iq H4) ps qs:=Paired.ba pr fun v q' hq=>hq.same (s1.trans iG);refine bg ⟨_,rfl,L,rfl,⟨ps,ai.of ((bh hR) _ _ Ez)⟩,?_⟩;refine Yh (xs:=ps) (fun i σ H5=> ∃v3 v4,σ=[some (.ref b),some (.ref L),some (.ref R),v3,v4]/\ag H4 H5/\H5 R=some (.lst (cz wd.toNat (qs.take i)))) ⟨_,_,rfl,bh hR,Zd⟩ (fun i σ H5 _ ae=>by obtain⟨_,_,_,s5,_⟩:=ae;exact ai.of (s5 _ _ Ez)) ?_ ?_
  ·rintro i v σ H5 hv ⟨v3,v4,rfl,s5,e5⟩;obtain⟨x,hx,px⟩:=ZV LJ hv;obtain⟨t,rfl,ht⟩:=px.same s5;obtain⟨⟨x0,x1⟩,y0,y1⟩:=Dw x (ZaD hx);have hi:i<qs.length:=(Zaa.mp hx).1;have ES:∀p∈qs.take i,p.1≠x.1/\p.2≠x.2:=fun p hp=>by obtain⟨j,hj,e⟩:=ZcC hp;rw[ZaR]at hj;rw[Zga]at e;have:=ZcS.mp Qi j i .o hi .o;rw[e,(Zaa.mp hx).2]at this;exact this
   refine⟨t,_,rfl,ab.of ht,rfl,_,_,rfl,_,_,rfl,rfl,?_⟩;dsimp only[List.set];have ek:x.1=(x.1.toNat:Int):=.o;have zx:fw (cz wd.toNat (qs.take i)) x.1=some .ah:=by rw[ek];refine Y8 ?_;rw[qF .o,<-ek,ue fun p hp=> (ES p hp).1]
   refine bg ⟨_,rfl,_,rfl,R,_,_,_,rfl,rfl,ai.of e5,zx,?_⟩;refine⟨_,rfl,aI ?_⟩;refine⟨_,rfl,_,rfl,R,_,rfl,.inl (ai.of e5),rfl,Zcl,?_⟩;have zi:bK (.int x.2) (cz wd.toNat (qs.take i))=false:=TF fun p hp=> (ES p hp).2;rw[Zaz Zag,zi];refine⟨_,rfl,aI (fh ?_)⟩;dsimp only;refine bC ⟨_,rfl,_,rfl,_,rfl,R,_,x.1,x.1.toNat,rfl,rfl,e5,Rm x0 (by rw[k9];omega),?_⟩;refine⟨_,_,rfl,pX s5 hR,?_⟩;rw[Zd,Xq x0,Za2,hx];rfl
  ·rintro σ H5 ⟨v3,v4,rfl,s5,e5⟩;rw[lp,Zbe]at e5;refine⟨_,rfl,R,_,rfl,.inl ⟨ai.of e5,fun t ht=> ?_⟩⟩;exact q t _ (s1.trans (iG.trans (s5.trans (bh ht)))) Zd
end
section
theorem uA {xs:List V}{wd hg:Int} :bu wd hg (some xs)=true↔(xs.length:Int)=wd/\(∀v∈xs,v=.ah∨cm v 0 (hg-1)=true)/\xs.Pairwise fun a b=>a=b->a=.ah:=by
 have pw:(rowsOf xs).Nodup↔xs.Pairwise fun a b=>a=b->a=.ah:=by
  unfold rowsOf List.Nodup;rw[List.pairwise_filter];constructor
  ·intro h;refine h.imp fun {a b} h e=> ?_;by_cases z:a=.ah
   ·exact z
   ·exact absurd e (h (by simp[z]) (by rw[<-e];simp[z]))
  ·intro h;refine h.imp fun {a b} h p1 p2 e=> ?_;rw[h e]at p1;simp at p1
 have al:((rowsOf xs).all fun r=>cm r 0 (hg-1))=true↔∀v∈xs,v=.ah∨cm v 0 (hg-1)=true:=by
  rw[Zbd];unfold rowsOf;constructor
  ·intro h v hv;by_cases z:v=.ah
   ·exact .inl z
   ·exact .inr (h v (ZaZ.mpr ⟨hv,by simp[z]⟩))
  ·intro h v hv;obtain⟨h1,h2⟩:=ZaZ.mp hv;rcases h v h1 with z |z
   ·rw[z]at h2;simp at h2
   ·exact z
 unfold bu;rw[Za5,Za5,ZcY,ZcY,al,pw,and_assoc]
theorem oA {xs:List V}{wd hg:Int}(h:bu wd hg (some xs)=true):∀n,dJ (fH xs n)
 |0=> .nil
 |n+1=>by
  rw[qp];unfold dJ;rw[Zbo];refine⟨oA h n,?_,fun a ha b hb=> ?_⟩
  ·cases ((xs[n]?).bind gW).map fun r=> ((n:Int),r)<;>simp
  ·obtain⟨k,hk,e1,e2⟩:=FQ ha;cases e3:xs[n]? with
   |none=>rw[e3]at hb;cases hb
   |some v=>
    rw[e3]at hb;cases v with
    |int r=>obtain rfl:b=((n:Int),r):=Zas.mp hb;refine⟨by show a.1≠(n:Int);omega,fun z=> ?_⟩;obtain⟨_,_,h3⟩:=uA.mp h;obtain⟨k1,g1⟩:=Zaa.mp e2;obtain⟨n1,g2⟩:=Zaa.mp e3;have:=ZcS.mp h3 k n k1 n1 hk (by rw[g1,g2,z]);rw[g1]at this;cases this
    |_=>cases hb
theorem mQ (xs:List V):(aj xs).length<=xs.length:=by have:=Zdl (fun(l:Nat)=> ((xs[l]?).bind gW).map fun r=> ((l:Int),r)) (List.range xs.length);rw[ZcA]at this;exact this
theorem Fq {n x:Int}{l:Bool}(h0:0<=x)(h1:x<n):0<=tA n l x/\tA n l x<n:=by
 unfold tA;cases l
 ·rw[Zaz Zag];exact⟨h0,h1⟩
 ·rw[ZaQ rfl];omega
theorem Fs {n x y:Int}{l:Bool}(h:x≠y):tA n l x≠tA n l y:=by
 unfold tA;cases l
 ·rw[Zaz Zag,Zaz Zag];exact h
 ·rw[ZaQ rfl,ZaQ rfl];omega
theorem sQ {wd hg:Int}{q:Bool×Bool×Bool}{ps:List (Int×Int)}(h:mz wd hg ps):mz (tW wd hg q) (tH wd hg q) (ps.map (bz wd hg q)):=fun x hx=>by
 obtain⟨y,hy,rfl⟩:=ZaN.mp hx;obtain⟨⟨a0,a1⟩,b0,b1⟩:=h y hy;obtain⟨o,l,r⟩:=q;have z1:=Fq (l:=l) a0 a1;have z2:=Fq (l:=r) b0 b1;cases o
 ·exact⟨z1,z2⟩
 ·exact⟨z2,z1⟩
theorem sR {wd hg:Int}{q:Bool×Bool×Bool}{ps:List (Int×Int)}(h:dJ ps):dJ (ps.map (bz wd hg q)):=by
 unfold dJ;rw[Zb0];refine ZcU (fun {a b} hV=> ?_) h;obtain⟨o,l,r⟩:=q;have z1:=Fs (n:=wd) (l:=l) hV.1;have z2:=Fs (n:=hg) (l:=r) hV.2;cases o
 ·exact⟨z1,z2⟩
 ·exact⟨z2,z1⟩
end
section
variable {aB aL aT:Addr}
noncomputable abbrev bH (wd hg:Int) (q:Bool×Bool×Bool) (xs:List V):List V:=cz (tW wd hg q).toNat ((aj xs).map (bz wd hg q))
noncomputable abbrev aZ (q p:Bool×Bool×Bool):Bool×Bool×Bool:=(xor q.1 p.1,xor q.2.1 (if q.1=true then p.2.2 else p.2.1),xor q.2.2 (if q.1=true then p.2.1 else p.2.2))
theorem Ax (a b:Bool):Builtin.bitXor (bi a) (bi b)=bi (xor a b):=by cases a<;>cases b<;>decide
abbrev xc:Stmt:=top 46
theorem n9:aM ["turn", "other", "over", "lines", "rows", "more_lines", "more_rows"] ["turn", "other"] (ax xc):=Zr (by decide+kernel)
end
section
theorem Aj {r:Int}(h0:0<=r)(h2:r<2):∃b,r=bi b:=by
 rcases (by omega:r=0∨r=1) with rfl |rfl
 ·exact⟨false,rfl⟩
 ·exact⟨true,rfl⟩
end
section
abbrev xD:Stmt:=top 68
inductive wG (vs:List V) (H:Hp) (Q:VK) (_:XK):Prop
 |mk (p:Addr) (_:vs=[.ref p]) (_:dk H p) (_:∀(t:Addr) H' (q:Bool×Bool×Bool),bD p H H'->dk H' p->H' t=some (.tup (tv q))->Q (.ref t) H')
theorem KG:aM ["_law_state_here"] ["_law_state_here"] (ax xD):=Zr (by decide+kernel)
theorem Mg (F:aH K "_law_turn" "_law_turn" xD f fd)(D1:Def P w K mg base 1 "_law_take" ["_law_state_here", "_law_many"] nY):ay P w K mg base az 2 f fd ["_law_state_here"] wG:=by
 refine F.ok KG (fun vs H Q E h=> ?_) (fun ao A outer s H vs Q E hr h=> ?_)
 ·obtain⟨p,rfl,_⟩:=h;rfl
 ·obtain⟨p,rfl,st,q⟩:=h;refine⟨_,Zg (Zm (Zs (Za (Zc D1 hr (Za (pv 0) (Za Zf Zb))) (Za (Zc D1 hr (Za (pv 0) (Za Zf Zb))) (Za (Zc D1 hr (Za (pv 0) (Za Zf Zb))) Zb))))),?_⟩
  try dsimp only[aP]
  refine⟨_,rfl,p,2,rfl,st,.d,.d,fun r1 o1 a0 a1 aA=> ?_⟩;obtain⟨H1,zz,x1⟩:=newX H p o1;rw[zz]at aA |-;refine⟨_,rfl,p,2,rfl,aA,.d,.d,fun r2 o2 b0 b1 av=> ?_⟩;obtain⟨H2,zz,x2⟩:=newX H1 p o2;rw[zz]at av |-;refine⟨_,rfl,p,2,rfl,av,.d,.d,fun r3 o3 c0 c1 bU=> ?_⟩;obtain⟨H3,zz,x3⟩:=newX H2 p o3;rw[zz]at bU |-;obtain⟨a,rfl⟩:=Aj a0 a1;obtain⟨b,rfl⟩:=Aj b0 b1;obtain⟨c,rfl⟩:=Aj c0 c1;refine⟨sX,fun t ht=> ?_⟩;have s4:=bh (o:=.tup (tv (a,b,c))) ht;exact q t _ (a,b,c) (x1.trans (x2.trans (x3.trans s4.x))) (bU.same s4) Zd
end
section
theorem XM {X:Cx}{k:Nat}{x:Str}{sp:Sp}{p pos:Pos}(d:Def X.prog X.w X.K X.mg X.base k x [] sp)(hr:bP k X.A)(hg:Gl X x:=by rfl)(eX:(x==("__debug__" :Str))=false:=by decide):PE X (.Call (.Name x p) [] [] pos) (sV sp [] E0 jT):=by obtain⟨f,fd,F,hm,hk,hb⟩:=d;exact VJ F hr hg hm hk hb .nil yl eX
theorem Jr {α β γ:Type}{R:α->γ->Prop}{f:β->γ} :∀{xs:List α}{ys:List β},Paired R xs (ys.map f)->Paired (fun x y=>R x (f y)) xs ys
 |_,[],h=>by cases h;exact .nil
 |_,_::_,h=>by
  cases h with
  |cons h1 h2=>exact .cons h1 (Jr h2)
def jj (H:Hp)(v:V)(l:List Bool):Prop:=∃t:Addr,v=.ref t/\H t=some (.tup (l.map fun b=>V.int (bi b)))
theorem jj.same {H H':Hp}{v:V}{l:List Bool}(h:jj H v l)(s:ag H H'):jj H' v l:=by obtain⟨t,e,h1⟩:=h;exact⟨t,e,s _ _ h1⟩
def vH (H:Hp)(v:V)(q:Bool×Bool×Bool):Prop:=∃t:Addr,v=.ref t/\H t=some (.tup (tv q))
theorem vH.same {H H':Hp}{v:V}{q:Bool×Bool×Bool}(h:vH H v q)(s:ag H H'):vH H' v q:=by obtain⟨t,e,h1⟩:=h;exact⟨t,e,s _ _ h1⟩
noncomputable def two (l:List Bool):List (List Bool):=[l++[false],l++[true]]
def mh:Nat->List (List Bool)
 |0=> [[]]
 |k+1=> (mh k).flatMap two
noncomputable def aW:List (Bool×Bool×Bool):=[(false,false,false),(false,false,true),(false,true,false),(false,true,true),(true,false,false),(true,false,true),(true,true,false),(true,true,true)]
theorem R0:mh 3=aW.map fun q=> [q.1,q.2.1,q.2.2]:=.d
theorem T5:∀{k:Nat},k<=3->(mh k).length<=8/\∀l∈mh k,l.length=k:=by intro k h;rcases (by omega:k=0∨k=1∨k=2∨k=3) with rfl |rfl |rfl |rfl<;>exact⟨.d,.d⟩
end
section
abbrev xR:Stmt:=top 73
def Ci:Sp:=fun vs H Q _=>vs=[]/\∀(L:Addr) H' (ts:List V),ag H H'->H' L=some (.lst ts)->Paired (vH H') ts aW->Q (.ref L) H'
theorem oh:aM ["_law_found", "_law_k", "_law_longer", "_law_one"] [] (ax xR):=Zr (by decide+kernel)
theorem Ms (F:aH K "_law_all_turns" "_law_all_turns" xR f fd)(G:Gs mg):ay P w K mg base az 1 f fd [] Ci:=by
 refine F.ok oh (fun vs H Q E h=> ?_) (fun ao A outer s H vs Q E hr h=> ?_)
 ·obtain⟨rfl,_⟩:=h;rfl
 ·obtain⟨rfl,q⟩:=h;refine⟨_,Ze (Zu (i:=0) oh.nd rfl (Or.inl rfl) (Z6 (Za (Zs Zb) Zb)))
   (Ze (ZY Zcn rfl (ZZ rfl G.range (Za Zf Zb)) (Zn (i:=1) oh.nd rfl (Or.inl rfl))
    (Ze (Zu (i:=2) oh.nd rfl (Or.inl rfl) (Z6 Zb))
    (Ze (ZY Zcn rfl (Zw (pv 0)) (Zn (i:=3) oh.nd rfl (Or.inl rfl))
     (Zg (ZP (rZ Zel Zgj Zgk UI (pv 2) (Za (Z6 (Za (Zp kX (pv 3) (Zs (Za Zf Zb))) (Za (Zp kX (pv 3) (Zs (Za Zf Zb))) Zb))) Zb)))))
    (Zg (Zu (i:=0) oh.nd rfl (Or.inl rfl) (pv 2))))))
   (Zg (Zm (pv 0)))),?_⟩
  try dsimp only[aP]
  refine bg (bC ⟨ZaM _,fun t0 h0=> ⟨fE,fun L0 EA=>aK ?_⟩⟩);dsimp only[List.set];have s1:=bh (o:=.tup []) h0;have e1:upd H t0 (.tup []) t0=some (.tup []):=Zd;generalize upd H t0 (.tup [])=H1 at s1 e1 EA;obtain⟨H2,zz,s2,e2⟩:=bV (o:=.lst [V.ref t0]) EA;rw[zz];refine bg ⟨3,rfl,.d,.d,?_⟩;refine Yd (n:=3) (fun i σ H'=> ∃(L:Addr) (ts:List V) (v1 v2 v3:Option V),σ=[some (.ref L),v1,v2,v3]/\ag H H'/\H' L=some (.lst ts)/\Paired (jj H') ts (mh i)) ⟨L0,_,_,_,_,rfl,s1.trans s2,e2,.cons ⟨t0,rfl,s2 _ _ e1⟩ .nil⟩ ?_ ?_
  ·rintro i σ H3 hi ⟨L,ts,v1,v2,v3,rfl,s3,e3,pr⟩;refine aK ?_;dsimp only[List.set];refine bg (bC ⟨ZaM _,fun M hM=>aK ?_⟩);dsimp only[List.set];obtain⟨k8,kl⟩:=T5 (k:=i) .o;have lt:ts.length=(mh i).length:=Za0 pr;refine bg ⟨_,rfl,L,rfl,⟨ts,ai.of (bh hM _ _ e3)⟩,?_⟩;refine Yh (xs:=ts) (fun j σ H4=> ∃(ws:List V) (v3:Option V),σ=[some (.ref L),some (.int (0+(i:Int))),some (.ref M),v3]/\ag H3 H4/\H4 M=some (.lst ws)/\Paired (jj H4) ws (((mh i).take j).flatMap two)) ⟨[],_,rfl,bh hM,Zd,.nil⟩ (fun j σ H4 _ ae=>by obtain⟨_,_,_,s4,_⟩:=ae;exact ai.of (s4 _ _ e3)) ?_ ?_
   ·rintro j v σ H4 hv ⟨ws,v3,rfl,s4,e4,pw⟩;obtain⟨l,hl,pl⟩:=ZV pr hv;obtain⟨t,rfl,ht⟩:=pl.same s4;have ll:=kl l (ZaD hl);have hj:j<ts.length:=(Zaa.mp hv).1;have lw:ws.length<=16:=by
     have h1:=Za0 pw;have h2:∀ks:List (List Bool),(ks.flatMap two).length=2*ks.length:=fun ks=>by
      induction ks with
      |nil=>rfl
      |cons a r ih=>rw[Zb5,Zaj,ih,Za8];show 2+_=_;omega
     rw[h2,ZaR]at h1;omega
    refine aK ?_;dsimp only[List.set];refine⟨_,rfl,.inl ⟨rfl,_,ai.of e4⟩,_,rfl,fE,fun ta yK=> ?_⟩;have sa:=bh (o:=.tup [V.int 0]) yK;refine zU (sa _ _ ht) Zd (by rw[Zal,ZaX];show l.length+1<=_;omega) fun c1 H5 s5 e5=> ?_;have om:=sa.trans s5;refine⟨_,rfl,fE,fun tb yJ=> ?_⟩;have sb:=bh (o:=.tup [V.int 1]) yJ;refine zU ((om.trans sb) _ _ ht) Zd (by rw[Zal,ZaX];show l.length+1<=_;omega) fun c2 H6 s6 e6=> ?_;have CA:=sb.trans s6;refine⟨bT,fun N hN=> ?_⟩;obtain⟨H7,zz,sn,en⟩:=bV (o:=.lst [V.ref c1,V.ref c2]) hN;rw[zz];have kT:=om.trans (CA.trans sn);refine⟨M,N,ws,_,rfl,rfl,kT _ _ e4,en,(by rw[ZaX];show ws.length+2<=_;omega),?_⟩;have Pd:H3 M=none:=hM;have s7:=s4.trans kT;have keep:∀{v:V}{l:List Bool},jj H7 v l->jj (upd H7 M (.lst (ws++[V.ref c1,V.ref c2]))) v l:=fun⟨t,e,h⟩=> ⟨t,e,by rw[Zi (fun z=>by rw[z,kT _ _ e4]at h;cases h)];exact h⟩;refine⟨_,_,rfl,pX s7 Pd,Zd,?_⟩;rw[Za2,hl,ZcL];have p1:jj H7 (.ref c1) (l++[false]):=⟨c1,rfl,by rw[ZaV];exact(CA.trans sn) _ _ e5⟩;have p2:jj H7 (.ref c2) (l++[true]):=⟨c2,rfl,by rw[ZaV];exact sn _ _ e6⟩;have LI:Paired (jj (upd H7 M (.lst (ws++[V.ref c1,V.ref c2])))) ws (((mh i).take j).flatMap two):=Paired.ba pw fun v l h=>keep (h.same kT);have:=Zc3 (Zc3 LI (keep p1)) (keep p2);rw[ZaY,ZaY]at this;exact this
   ·rintro σ H4 ⟨ws,v3,rfl,s4,e4,pw⟩;rw[lt,Zbe]at pw;dsimp only;refine bC ⟨_,rfl,aK ?_⟩;exact⟨M,ws,_,_,_,rfl,s3.trans s4,e4,pw⟩
  ·rintro σ H3 ⟨L,ts,v1,v2,v3,rfl,s3,e3,pr⟩;rw[R0]at pr;exact⟨_,rfl,q L H3 ts s3 e3 (Paired.ba (Jr (R:=jj H3) pr) fun v q h=>h)⟩
end
end U.T
namespace U
open PySem L2 PyProof.Rows
section
theorem bh {H:Hp}{p:Addr}{o:HO}(h:H p=none):ag H (upd H p o):=fun b u hb=>by rw[Zi (Zh hb h)];exact hb
end
end U
namespace U
open PySem L2 PyProof.Rows PyProof.Rows.dc
section
def cY (p q:Int×Int):List Key:=[Sum.inl (q.1-p.1),Sum.inl (q.2-p.2)]
def allM (ps qs:List (Int×Int)):List (List Key):=ps.flatMap fun p=>qs.map (cY p)
def cK (ms:List (List Key))(k:List Key):Nat:=ms.countP fun m=>decide (m=k)
theorem Fz (a b:List (List Key))(k:List Key):cK (a++b) k=cK a k+cK b k:=Ze6
theorem R5 {ms:List (List Key)}{k:List Key} :0<cK ms k↔k∈ms:=by
 unfold cK;rw[List.countP_pos_iff];constructor
 ·rintro⟨a,h1,h2⟩;rw[<-Zbt h2];exact h1
 ·intro h;exact⟨k,h,Zaq rfl⟩
structure HM (kvs:List (List Key×V))(ms:List (List Key)):Prop where
 val:∀k,cp kvs k=if cK ms k=0 then none else some (.int (cK ms k:Int))
 nd:(kvs.map (·.1)).Nodup
 len:kvs.length<=ms.length
 mem:∀kv∈kvs,kv.1∈ms
theorem HM.nil:HM [] []:=⟨fun k=>rfl,Zfm,Zak _,fun kv h=>by cases h⟩
theorem R9 {kvs:List (List Key×V)}{k:List Key} :(kvs.any fun kv=>decide (kv.1=k))=true↔k∈kvs.map (·.1):=by
 rw[ZdD,ZaN];constructor
 ·rintro⟨kv,h1,h2⟩;exact⟨kv,h1,Zbt h2⟩
 ·rintro⟨kv,h1,h2⟩;exact⟨kv,h1,Zaq h2⟩
theorem HM.put {kvs:List (List Key×V)}{ms:List (List Key)}(h:HM kvs ms)(k:List Key):HM (putK kvs k (.int ((cK ms k:Int)+1))) (ms++[k]):=by
 have ek:∀j,cK (ms++[k]) j=cK ms j+if k=j then 1 else 0:=fun j=>by
  rw[Fz]
  congr 1
  unfold cK;by_cases e:k=j
  ·simp[e,Zdh]
  ·simp[e,Zdh]
 refine⟨fun j=> ?_,?_,?_,fun kv jI=> ?_⟩
 ·rw[Vt,ek];by_cases e:j=k
  ·subst e;rw[ZaQ rfl,ZaQ rfl,Zaz .o]
   congr 2
  ·rw[Zaz e,Zaz (Zd3 e),ZdV];exact h.val j
 ·unfold putK;by_cases e:(kvs.any fun kv=>decide (kv.1=k))=true
  ·rw[ZaQ e,ZcG];have:((fun x:List Key×V=>x.1)∘fun kv=>if kv.1=k then (kv.1,V.int ((cK ms k:Int)+1)) else kv)=(·.1):=by funext kv;show(if kv.1=k then (kv.1,V.int ((cK ms k:Int)+1)) else kv).1=kv.1;split<;>rfl
   rw[this];exact h.nd
  ·rw[Zaz e,ZaV];refine Zdj.mpr ⟨h.nd,ZdF _ _,fun a ha b hb=> ?_⟩;have cG:b=k:=by simpa using hb
   rw[cG];intro z;rw[z]at ha;exact e (R9.mpr ha)
 ·refine Zbi (YU _ _ _) ?_;rw[Zaj];have:=h.len;simp;omega
 ·have key:kv.1∈kvs.map (·.1)∨kv.1=k:=by
   unfold putK at jI;split at jI
   ·obtain⟨u,hu,rfl⟩:=ZaN.mp jI;refine .inl ?_;have:(if u.1=k then (u.1,V.int ((cK ms k:Int)+1)) else u).1=u.1:=by split<;>rfl
    rw[this];exact Zcu hu
   ·rcases ZaO.mp jI with z |z
    ·exact .inl (Zcu z)
    ·have:kv=(k,.int ((cK ms k:Int)+1)):=by simpa using z
     exact .inr (by rw[this])
  rcases key with z |z
  ·obtain⟨u,hu,e⟩:=ZaN.mp z;rw[<-e];exact Za3 _ (h.mem u hu)
  ·rw[z];simp
theorem HM.at_ {kvs:List (List Key×V)}{ms:List (List Key)}(h:HM kvs ms){kv:List Key×V}(hk:kv∈kvs):kv.2=.int (cK ms kv.1:Int):=by
 have v:cp kvs kv.1=some kv.2:=by
  have:∀{l:List (List Key×V)},(l.map (·.1)).Nodup->kv∈l->cp l kv.1=some kv.2:=by
   intro l
   induction l with
   |nil=>intro _ h;cases h
   |cons x r ih=>
    intro nd hm;rw[Zba,Zcm]at nd;by_cases e:x.1=kv.1
    ·rcases Zav.mp hm with z |z
     ·rw[z,ZU rfl]
     ·exact absurd (Zcu (f:=fun x:List Key×V=>x.1) z) (by rw[<-e];exact nd.1)
    ·rcases Zav.mp hm with z |z
     ·exact absurd (by rw[z]) e
     ·unfold cp;rw[List.find?_cons_of_neg (by simpa using e)];exact ih nd.2 z
  exact this h.nd hk
 rw[h.val]at v;split at v
 ·cases v
 ·exact(Zbh v).symm
noncomputable def f9 (xs ys:List V)(a b:Int)(i:Nat):Bool:=match rowAt xs i with
 |some r=>decide (0<=(i:Int)+a)&&decide ((i:Int)+a<ys.length)&&decide (rowAt ys ((i:Int)+a).toNat=some (r+b))
 |none=>false
def gJ (xs ys:List V)(a b:Int):Nat->Nat
 |0=>0
 |n+1=>gJ xs ys a b n+if f9 xs ys a b n=true then 1 else 0
def qq (xs:List V)(n:Nat):List (Int×Int):=(List.range n).filterMap fun l=> (rowAt xs l).map fun r=> ((l:Int),r)
theorem UA (xs:List V)(n:Nat):qq xs (n+1)=qq xs n++((rowAt xs n).map fun r=> ((n:Int),r)).toList:=by
 unfold qq;rw[ZbF,ZbO]
 congr 1
 all_goals (cases rowAt xs n<;>rfl)
theorem AR {ys:List V}{a b:Int} :(a,b)∈aj ys↔0<=a/\a<ys.length/\rowAt ys a.toNat=some b:=by
 rw[ZW];constructor
 ·rintro⟨l,h1,h2,h3⟩;have h3:a=(l:Int):=h3;subst h3;exact⟨.o,.o,by rw[Zbu];exact h2⟩
 ·rintro⟨h1,h2,h3⟩;exact⟨a.toNat,.o,h3,by show a=(a.toNat:Int);omega⟩
theorem SK (ys:List V):(aj ys).Nodup:=(vF ys).imp fun {a b} h e=>h (by rw[e])
theorem Uj {qs:List (Int×Int)}(nd:qs.Nodup)(p:Int×Int)(a b:Int):cK (qs.map (cY p)) [Sum.inl a,Sum.inl b]=if (p.1+a,p.2+b)∈qs then 1 else 0:=by
 have e:cK (qs.map (cY p)) [Sum.inl a,Sum.inl b]=qs.countP fun q=>decide (q=(p.1+a,p.2+b)):=by
  unfold cK;rw[List.countP_map];refine List.countP_congr fun q _=> ?_;show decide (cY p q=[Sum.inl a,Sum.inl b])=true↔decide (q=(p.1+a,p.2+b))=true;rw[ZcY,ZcY];unfold cY;constructor
  ·intro h;injection h with h1 h2;injection h2 with h2 _;injection h1 with h1;injection h2 with h2;exact Zeh (by show q.1=p.1+a;omega) (by show q.2=p.2+b;omega)
  ·intro h;rw[h];show [Sum.inl (p.1+a-p.1),Sum.inl (p.2+b-p.2)]=_;rw[show p.1+a-p.1=a by omega,show p.2+b-p.2=b by omega]
 have one:∀{l:List (Int×Int)}{x:Int×Int},l.Nodup->l.countP (fun q=>decide (q=x))=if x∈l then 1 else 0:=by
  intro l x
  induction l with
  |nil=>intro _;rfl
  |cons y r ih=>
   intro nd;rw[Zcm]at nd;by_cases z:y=x
   ·subst z;rw[Zdh,ih nd.2,Zaz nd.1,ZaQ Zaf,ZaQ (Zaq rfl)]
   ·rw[Zdh,ih nd.2,Zaz (show ¬decide (y=x)=true by rw[ZaF z];exact Zag),ZdV];by_cases m:x∈r
    ·rw[ZaQ m,ZaQ (Zae _ m)]
    ·rw[Zaz m,Zaz fun h=> (Zav.mp h).elim (fun e=>z e.symm) m]
 rw[e];exact one nd
theorem WZ (xs ys:List V)(a b:Int):∀n,cK (allM (qq xs n) (aj ys)) [Sum.inl a,Sum.inl b]=gJ xs ys a b n
 |0=>rfl
 |n+1=>by
  have ih:=WZ xs ys a b n;unfold allM at *
  rw[UA,ZcL,Fz,ih];show _=gJ xs ys a b n+_
  congr 1
  cases hr:rowAt xs n with
  |none=>
   have hh:¬f9 xs ys a b n=true:=by unfold f9;rw[hr];exact Zag
   rw[Zaz hh];rfl
  |some r=>
   show cK (List.flatMap (fun p=> (aj ys).map (cY p)) [((n:Int),r)]) _=_;rw[Zfd,Uj (SK ys)];have iff:=AR (ys:=ys) (a:=(n:Int)+a) (b:=r+b);have hh:f9 xs ys a b n=true↔((n:Int)+a,r+b)∈aj ys:=by unfold f9;rw[hr,iff];simp only[Za5,Zbg,and_assoc]
   by_cases h:((n:Int)+a,r+b)∈aj ys
   ·rw[ZaQ h,ZaQ (hh.mpr h)]
   ·rw[Zaz h,Zaz fun z=>h (hh.mp z)]
abbrev aC (xs ys:List V)(a b:Int):Nat:=gJ xs ys a b xs.length
theorem YC (xs ys:List V)(a b:Int):cK (allM (aj xs) (aj ys)) [Sum.inl a,Sum.inl b]=aC xs ys a b:=WZ xs ys a b xs.length
def gX (xs ys:List V)(a:Int)(lo:Int)(n:Nat):List (List Int):=(List.range n).filterMap fun(j:Nat)=>if 0<aC xs ys a (lo+j) then some [a,lo+j,(aC xs ys a (lo+j):Int)] else none
def jO (xs ys:List V)(la lb:Int)(nb:Nat)(n:Nat):List (List Int):=(List.range n).flatMap fun(i:Nat)=>gX xs ys (la+i) lb nb
theorem JI (xs ys:List V)(a lo:Int)(n:Nat):gX xs ys a lo (n+1)=gX xs ys a lo n++(if 0<aC xs ys a (lo+n) then [[a,lo+n,(aC xs ys a (lo+n):Int)]] else []):=by
 unfold gX;rw[ZbF,ZbO]
 congr 1
 by_cases h:0<aC xs ys a (lo+n)
 ·simp[h]
 ·simp[h]
theorem Y6 (xs ys:List V)(la lb:Int)(nb n:Nat):jO xs ys la lb nb (n+1)=jO xs ys la lb nb n++gX xs ys (la+n) lb nb:=by unfold jO;rw[ZbF,ZcL,Zfd]
theorem Jw {xs ys:List V}{a lo:Int}{n:Nat}{k:List Int} :k∈gX xs ys a lo n↔∃j:Nat,j<n/\0<aC xs ys a (lo+j)/\k=[a,lo+j,(aC xs ys a (lo+j):Int)]:=by
 unfold gX;rw[Zcq];constructor
 ·rintro⟨j,hj,e⟩;split at e
  ·rename_i h;exact⟨j,Za6.mp hj,h,(Zbh e).symm⟩
  ·cases e
 ·rintro⟨j,hj,h,rfl⟩;exact⟨j,Za6.mpr hj,by rw[ZaQ h]⟩
theorem Yg {xs ys:List V}{la lb:Int}{nb n:Nat}{k:List Int} :k∈jO xs ys la lb nb n↔∃i j:Nat,i<n/\j<nb/\0<aC xs ys (la+i) (lb+j)/\k=[la+i,lb+j,(aC xs ys (la+i) (lb+j):Int)]:=by
 unfold jO;rw[ZcJ];constructor
 ·rintro⟨i,hi,h⟩;obtain⟨j,hj,h1,h2⟩:=Jw.mp h;exact⟨i,j,Za6.mp hi,hj,h1,h2⟩
 ·rintro⟨i,j,hi,hj,h1,h2⟩;exact⟨i,Za6.mpr hi,Jw.mpr ⟨j,hj,h1,h2⟩⟩
theorem Wq {a a':Int}{l m:List Int}(h:a<a'):ar (a::l) (a'::m)=true:=by show(if a=a' then _ else decide (a<a'))=true;rw[Zaz .o,Zaq h]
theorem Ss {a b b':Int}{l m:List Int}(h:b<b'):ar (a::b::l) (a::b'::m)=true:=by show(if a=a then _ else _)=true;rw[ZaQ rfl];exact Wq h
theorem Ux (xs ys:List V)(a lo:Int):∀n,(gX xs ys a lo n).Pairwise fun u v=>ar u v=true
 |0=>List.Pairwise.nil
 |n+1=>by
  rw[JI];refine Zbo.mpr ⟨Ux xs ys a lo n,by split<;>simp,fun u hu v hv=> ?_⟩;obtain⟨j,hj,_,rfl⟩:=Jw.mp hu;split at hv
  ·have:v=[a,lo+n,(aC xs ys a (lo+n):Int)]:=by simpa using hv
   rw[this];exact Ss .o
  ·cases hv
theorem JX (xs ys:List V)(la lb:Int)(nb:Nat):∀n,(jO xs ys la lb nb n).Pairwise fun u v=>ar u v=true
 |0=>List.Pairwise.nil
 |n+1=>by rw[Y6];refine Zbo.mpr ⟨JX xs ys la lb nb n,Ux _ _ _ _ _,fun u hu v hv=> ?_⟩;obtain⟨i,j,hi,_,_,rfl⟩:=Yg.mp hu;obtain⟨j',_,_,rfl⟩:=Jw.mp hv;exact Wq .o
theorem VU (xs ys:List V)(a lo:Int)(n:Nat):(gX xs ys a lo n).length<=n:=by unfold gX;exact Zbi (Zdl _ _) (by rw[ZcA];exact Zak _)
theorem G6 (xs ys:List V)(la lb:Int)(nb:Nat):∀n,(jO xs ys la lb nb n).length<=n*nb
 |0=>ZaM _
 |n+1=>by rw[Y6,Zaj,Nat.add_mul];have:=G6 xs ys la lb nb n;have:=VU xs ys (la+n) lb nb;omega
def cI (wd hg:Int)(xs ys:List V):List (List Int):=jO xs ys (1-wd) (1-hg) (2*hg-1).toNat (2*wd-1).toNat
def fg (kv:List Key×V):List Int:=(kv.1.map fun k=>match k with |Sum.inl i=>i |Sum.inr _=>0)++[match kv.2 with | .int n=>n |_=>0]
theorem VV {ps qs:List (Int×Int)}{k:List Key} :k∈allM ps qs↔∃p∈ps,∃q∈qs,k=cY p q:=by
 unfold allM;rw[ZcJ];constructor
 ·rintro⟨p,hp,h⟩;obtain⟨q,hq,rfl⟩:=ZaN.mp h;exact⟨p,hp,q,hq,rfl⟩
 ·rintro⟨p,hp,q,hq,rfl⟩;exact⟨p,hp,Zcu hq⟩
theorem HM.fg {kvs:List (List Key×V)}{xs ys:List V}(h:HM kvs (allM (aj xs) (aj ys))){kv:List Key×V}(hk:kv∈kvs):
  ∃p∈aj xs,∃q∈aj ys,kv.1=cY p q/\kv.2=.int (aC xs ys (q.1-p.1) (q.2-p.2):Int)/\0<aC xs ys (q.1-p.1) (q.2-p.2)/\U.fg kv=[q.1-p.1,q.2-p.2,(aC xs ys (q.1-p.1) (q.2-p.2):Int)]:=by
 obtain⟨p,hp,q,hq,e⟩:=VV.mp (h.mem kv hk);have v:=h.at_ hk;have c:cK (allM (aj xs) (aj ys)) kv.1=aC xs ys (q.1-p.1) (q.2-p.2):=by rw[e];exact YC xs ys _ _
 rw[c]at v;have pos:0<cK (allM (aj xs) (aj ys)) kv.1:=R5.mpr (h.mem kv hk);rw[c]at pos;refine⟨p,hp,q,hq,e,v,pos,?_⟩;unfold U.fg;rw[e,v];rfl
theorem vA {wd hg:Int}{xs:List V}(l:cA wd hg xs){p:Int×Int}(hp:p∈aj xs):0<=p.1/\p.1<wd/\0<=p.2/\p.2<hg:=by
 obtain⟨i,hi,hr,e⟩:=ZW.mp hp;have:=l.len;have rr:xs[i]? =some (.int p.2):=by
  unfold rowAt at hr;cases h:xs[i]? with
  |none=>rw[h]at hr;cases hr
  |some v=>rw[h]at hr;cases v<;>first |(cases hr;rfl) |cases hr
 have m:V.int p.2∈rowsOf xs:=ZaZ.mpr ⟨ZaD rr,by simp⟩;have q:=l.row _ m;have q:(decide (0<=p.2)&&decide (p.2<=hg-1))=true:=q;simp only[Za5,Zbg]at q;omega
theorem HM.Qh {kvs:List (List Key×V)}{xs ys:List V}{wd hg:Int}(h:HM kvs (allM (aj xs) (aj ys)))(lx:cA wd hg xs)(ly:cA wd hg ys):(kvs.map U.fg).Perm (cI wd hg xs ys):=by
 have inj:∀{u v:List Key×V},u∈kvs->v∈kvs->U.fg u=U.fg v->u.1=v.1:=fun {u v} hu hv e=>by obtain⟨p,_,q,_,e1,_,_,t1⟩:=h.fg hu;obtain⟨p',_,q',_,e2,_,_,t2⟩:=h.fg hv;rw[t1,t2]at e;injection e with f1 f2;injection f2 with f2 _;rw[e1,e2];unfold cY;rw[f1,f2]
 refine(Zca ?_ ?_).mpr fun k=> ?_
 ·have:∀{l:List (List Key×V)},(∀u∈l,u∈kvs)->(l.map (·.1)).Nodup->(l.map U.fg).Nodup:=by
   intro l
   induction l with
   |nil=>intro _ _;exact Zfm
   |cons x r ih=>intro hm nd;rw[Zba,Zcm]at nd |-;refine⟨fun hx=> ?_,ih (fun u hu=>hm u (Zae _ hu)) nd.2⟩;obtain⟨y,hy,e⟩:=ZaN.mp hx;exact nd.1 (ZaN.mpr ⟨y,hy,inj (hm y (Zae _ hy)) (hm x Zaf) e⟩)
  exact this (fun u hu=>hu) h.nd
 ·refine(JX xs ys _ _ _ _).imp fun {u v} hl e=> ?_;rw[e]at hl;have:=Z3 _ _ hl;rw[this]at hl;cases hl
 ·constructor
  ·intro hk;obtain⟨kv,jI,rfl⟩:=ZaN.mp hk;obtain⟨p,hp,q,hq,e,v,pos,t⟩:=h.fg jI;have a:=vA lx hp;have b:=vA ly hq;rw[t];refine Yg.mpr ⟨(q.1-p.1-(1-wd)).toNat,(q.2-p.2-(1-hg)).toNat,.o,.o,?_⟩;have e1:1-wd+((q.1-p.1-(1-wd)).toNat:Int)=q.1-p.1:=.o;have e2:1-hg+((q.2-p.2-(1-hg)).toNat:Int)=q.2-p.2:=.o;rw[e1,e2];exact⟨pos,rfl⟩
  ·intro hk;obtain⟨i,j,_,_,pos,rfl⟩:=Yg.mp hk;rw[<-YC]at pos;have v:=h.val [Sum.inl (1-wd+i),Sum.inl (1-hg+j)];rw[Zaz .o]at v;unfold cp at v;obtain⟨kv,hf,e⟩:=Zbf.mp v;have hm:=Zf3 hf;have lU:kv.1=[Sum.inl (1-wd+(i:Int)),Sum.inl (1-hg+(j:Int))]:=by have z:=List.find?_some hf;exact Zbt z
   refine ZaN.mpr ⟨kv,hm,?_⟩;unfold U.fg;rw[lU,e,YC];rfl
theorem R8 (wd hg:Int)(xs ys:List V):(cI wd hg xs ys).Pairwise fun a b=>ar b a=false:=(JX xs ys _ _ _ _).imp fun {a b} h=>Z3 _ _ h
theorem Vu {wd hg:Int}{xs ys:List V}{ks:List (List Int)}(p:ks.Perm (cI wd hg xs ys))(r:ks.Pairwise fun a b=>ar b a=false):ks=cI wd hg xs ys:=
 List.Perm.eq_of_pairwise (le:=fun a b=>ar b a=false) (fun a b _ _ h1 h2=>Y4 _ _ h2 h1) r (R8 wd hg xs ys) p
end
section
variable {cB cL cN:Addr}
abbrev xK:Stmt:=top 50
inductive Cd (vs:List V) (H:Hp) (Q:VK) (_:XK):Prop
 |mk (x y z wd hg xs ys:_) (_:vs=[x,y,z]) (_:bt H x y wd hg xs) (_:bt H x z wd hg ys) (_:∀(d:Addr) (H':Hp) (kvs:List (List Key×V)),ag H H'->H d=none->H' d=some (.dT kvs)->HM kvs (allM (aj xs) (aj ys))->Q (.ref d) H')
theorem jW:aM ["board", "one", "other", "starts", "ends", "many_by_move", "line", "row", "at", "there", "move"] ["board", "one", "other"] (ax xK):=Zr (by decide+kernel)
theorem Vv {ps qs:List (Int×Int)}{p:Int×Int}{i:Nat}(h:ps[i]? =some p):allM (ps.take (i+1)) qs=allM (ps.take i) qs++qs.map (cY p):=by unfold allM;rw[Za2,h,ZcL];show _++List.flatMap _ [p]=_;rw[Zfd]
theorem Nb {H H':Hp}{x y:V}{wd hg:Int}{xs:List V}(l:bt H x y wd hg xs)(s:ag H H'):bt H' x y wd hg xs:=⟨l.1.same s,s.cV l.2.1,l.2.2⟩
theorem HM.get {kvs:List (List Key×V)}{ms:List (List Key)}(h:HM kvs ms)(k:List Key):(cp kvs k).getD (.int 0)=.int (cK ms k:Int):=by
 rw[h.val];split
 ·rename_i e;rw[e];rfl
 ·rfl
theorem RO (F:aH K "hits_by_move" "hits_by_move" xK f fd)(D1:Def P w K mg base 7 "points" ["board", "lay"] mH):ay P w K mg base az 8 f fd ["board", "one", "other"] Cd:=by
 refine F.ok jW (fun vs H Q E h=> ?_) (fun ao A outer s H vs Q E hr h=> ?_)
 ·obtain⟨x,y,z,wd,hg,xs,ys,rfl,_⟩:=h;rfl
 ·obtain⟨x,y,z,wd,hg,xs,ys,rfl,la,lb,q⟩:=h;have hu:=rY hr;refine⟨_,Ze (Zu (i:=3) jW.nd rfl (Or.inl rfl) (Zc D1 hr (Za (pv 0) (Za (pv 1) Zb))))
   (Ze (Zu (i:=4) jW.nd rfl (Or.inl rfl) (Zc D1 hr (Za (pv 0) (Za (pv 2) Zb))))
   (Ze (Zu (i:=5) jW.nd rfl (Or.inl rfl) VN)
   (Ze (ZY Zcn rfl (Zw (pv 3)) (ZI rfl (Zj (Zn (i:=6) jW.nd rfl (Or.inl rfl)) (Zj (Zn (i:=7) jW.nd rfl (Or.inl rfl)) Zz)))
    (Zg (ZY Zcn rfl (Zw (pv 4)) (ZI rfl (Zj (Zn (i:=8) jW.nd rfl (Or.inl rfl)) (Zj (Zn (i:=9) jW.nd rfl (Or.inl rfl)) Zz)))
     (Ze (Zu (i:=10) jW.nd rfl (Or.inl rfl) (Zs (Za (Zp Z7 (pv 8) (pv 6)) (Za (Zp Z7 (pv 9) (pv 7)) Zb))))
     (Zg (Vd hu (pv 5) (pv 10) (Zp Yo (VM hu (pv 5) (pv 10) Zf ⟨rfl,rfl,rfl,rfl⟩) Zf) rfl))))))
   (Zg (Zm (pv 5)))))),?_⟩
  try dsimp only[aP]
  refine bg (bC ⟨_,rfl,_,rfl,x,y,wd,hg,xs,rfl,la,fun l1 H1 ps s1 n1 e1 oB=>aK ?_⟩);dsimp only[List.set];refine bg (bC ⟨_,rfl,_,rfl,x,z,wd,hg,ys,rfl,Nb lb s1,fun l2 H2 qs s2 n2 e2 bJ=>aK ?_⟩);dsimp only[List.set];refine bg (bC fun d hd=>aK ?_);dsimp only[List.set];have kE:=s2 _ _ e1;have LK:Paired (iq H2) ps (aj xs):=Paired.ba oB fun v q h=>h.same s2;have s3:bD d H2 (upd H2 d (.dT [])):=bD.upd;have e3:upd H2 d (.dT []) d=some (.dT []):=Zd;generalize upd H2 d (HO.dT [])=H3 at s3 e3;have nl1:l1≠d:=Zh kE hd;have nl2:l2≠d:=Zh e2 hd;have small:(aj xs).length<=12/\(aj ys).length<=12:=by have a:=mQ xs;have b:=mQ ys;have c:=la.2.2.len;have c':=lb.2.2.len;have:=la.1.2.2.1;omega
  have keep:∀{H':Hp},bD d H2 H'->∀{t:Addr}{o:HO},H2 t=some o->H' t=some o:=fun {H'} sx {t o} h=>sx _ _ h (Zh h hd);refine bg ⟨_,rfl,l1,rfl,⟨ps,ai.of (keep s3 kE)⟩,?_⟩;refine Yh (K:=K) (a:=l1) (xs:=ps) (fun i σ H'=> ∃kvs v6 v7 v8 v9 v10,σ=[some x,some y,some z,some (.ref l1),some (.ref l2),some (.ref d),v6,v7,v8,v9,v10]/\bD d H2 H'/\H' d=some (.dT kvs)/\HM kvs (allM ((aj xs).take i) (aj ys)))
   ⟨_,none,none,none,none,none,rfl,s3,e3,HM.nil⟩ (fun i σ H' _ ae=>by obtain⟨_,_,_,_,_,_,_,sx,_⟩:=ae;exact ai.of (keep sx kE)) ?_ ?_
  ·rintro i v σ H4 hv ⟨kvs,v6,v7,v8,v9,v10,rfl,pS,e4,uQ⟩;obtain⟨p,hp,t,rfl,ht⟩:=Paired.at LK hv;refine⟨t,_,rfl,ab.of (keep pS ht),rfl,_,_,rfl,_,_,rfl,rfl,?_⟩;dsimp only[List.set];have hi:i< (aj xs).length:=(Zaa.mp hp).1;refine⟨_,rfl,l2,rfl,⟨qs,ai.of (keep pS e2)⟩,?_⟩;refine Yh (K:=K) (a:=l2) (xs:=qs) (fun j σ H'=> ∃kvs v8 v9 v10,σ=[some x,some y,some z,some (.ref l1),some (.ref l2),some (.ref d),some (.int p.1),some (.int p.2),v8,v9,v10]/\bD d H2 H'/\H' d=some (.dT kvs)/\HM kvs (allM ((aj xs).take i) (aj ys)++((aj ys).take j).map (cY p)))
    ⟨_,v8,v9,v10,rfl,pS,e4,by rw[Zg9,Zfo,ZbE];exact uQ⟩ (fun j σ H' _ ae=>by obtain⟨_,_,_,_,_,sx,_⟩:=ae;exact ai.of (keep sx e2)) ?_ ?_
   ·rintro j u σ H5 dj ⟨Dt,u8,u9,Ij,rfl,sY,e5,oW⟩;obtain⟨r,br,t2,rfl,qQ⟩:=Paired.at bJ dj;have hj:j< (aj ys).length:=(Zaa.mp br).1;refine⟨t2,_,rfl,ab.of (keep sY qQ),rfl,_,_,rfl,_,_,rfl,rfl,?_⟩;dsimp only[List.set];refine bg (bC ⟨_,rfl,_,rfl,_,_,rfl,rfl,_,rfl,_,rfl,_,_,rfl,rfl,bT,fun b hb=>aK ?_⟩);dsimp only[List.set];have s6:=bh (o:=.tup ((cY p r).map kV)) hb;have e6:upd H5 b (.tup ((cY p r).map kV)) b=some (.tup ((cY p r).map kV)):=Zd;have PZ:upd H5 b (HO.tup [V.int (r.1-p.1),V.int (r.2-p.2)])=upd H5 b (.tup ((cY p r).map kV)):=rfl;rw[PZ];generalize upd H5 b (HO.tup ((cY p r).map kV))=H6 at s6 e6;have zO:=s6 _ _ e5;have ln:Dt.length<sizeLine:=by
     have:=oW.len;rw[Zaj,Zal,ZaR]at this;have l2:(allM ((aj xs).take i) (aj ys)).length<=144:=by
      have:∀(l:List (Int×Int)),(allM l (aj ys)).length=l.length*(aj ys).length:=fun l=>by
       unfold allM
       induction l with
       |nil=>simp
       |cons a t ih=>rw[Zb5,Zaj,ih,Zal,Za8,Nat.add_mul];omega
      rw[this,ZaR];exact Zbi (Zf5 (by omega:min i (aj xs).length<=12) small.2) .d
     rw[ZaX];omega
    refine⟨_,rfl,d,rfl,.inr ⟨_,.inl zO⟩,_,rfl,_,sH.t zO e6,_,_,oW.get (cY p r),rfl,_,rfl,_,rfl,d,_,rfl,sG.t zO e6 ln,?_⟩;refine⟨_,_,_,_,rfl,(sY.trans s6.x).trans bD.upd,Zd,?_⟩;rw[Za2,br,ZaV,<-ZaY];exact oW.put (cY p r)
   ·rintro σ H5 ⟨Dt,u8,u9,Ij,rfl,sY,e5,oW⟩;refine⟨_,_,_,_,_,_,rfl,sY,e5,?_⟩;have lq:qs.length=(aj ys).length:=Za0 bJ;rw[lq,Zbe]at oW;rw[Vv hp];exact oW
  ·rintro σ H4 ⟨kvs,v6,v7,v8,v9,v10,rfl,pS,e4,uQ⟩;have lp:ps.length=(aj xs).length:=Za0 oB;rw[lp,Zbe]at uQ;have dn:H d=none:=by
    cases h:H d with
    |none=>rfl
    |some u=>rw[(s1.trans s2) _ _ h]at hd;cases hd
   exact⟨_,rfl,q d H4 kvs (fun b o h=>keep pS (s2 _ _ (s1 _ _ h))) dn e4 uQ⟩
abbrev xS:Stmt:=top 51
inductive Cj (vs:List V) (H:Hp) (Q:VK) (_:XK):Prop
 |mk (x y wd hg xs:_) (_:vs=[x,y]) (_:bt H x y wd hg xs) (_:∀(L:Addr) (H':Hp) (ts:List V),ag H H'->H L=none->H' L=some (.lst ts)->Paired (bw H') ts (cI wd hg xs xs)->Q (.ref L) H')
theorem Cv:aM ["board", "lay", "many_by_move"] ["board", "lay"] (ax xS):=Zr (by decide+kernel)
theorem U4 {H H':Hp}{v:V}{k:List Int}(h:bw H v k)(s:ag H H'):bw H' v k:=let ⟨t,e,g⟩:=h;⟨t,e,s _ _ g⟩
theorem RN (F:aH K "all_hits" "all_hits" xS f fd)(G:Gs mg)(D1:Def P w K mg base 8 "hits_by_move" ["board", "one", "other"] Cd):ay P w K mg base az 9 f fd ["board", "lay"] Cj:=by
 refine F.ok Cv (fun vs H Q E h=> ?_) (fun ao A outer s H vs Q E hr h=> ?_)
 ·obtain⟨x,y,wd,hg,xs,rfl,_⟩:=h;rfl
 ·obtain⟨x,y,wd,hg,xs,rfl,la,q⟩:=h;refine⟨_,Ze (Zu (i:=2) Cv.nd rfl (Or.inl rfl) (Zc D1 hr (Za (pv 0) (Za (pv 1) (Za (pv 1) Zb)))))
   (Zg (Zm (Zo ZaG rfl G.sorted boot_sorted (Za (ZM ["right", "up", "many"] 3 [] (VP (pv 2))
    (fun C s H fp=>show PG (aU _ _ _ C s H fp) _ (gK K 2 (bX (gK K 2 (bX (bE 0) (bX (bE 1) gM))) (bX (bE 2) gM))) from ZI rfl (Zj (ZI rfl (Zj (pb 0) (Zj (pb 1) Zz))) (Zj (pb 2) Zz))) (fun C s H fp=>ZE)
    (fun C s H fp D=>cc rfl (Zs (Za (pv 0) (Za (pv 1) (Za (pv 2) Zb)))))) Zb)))),?_⟩
  try dsimp only[aP]
  refine bg (bC ⟨_,rfl,_,rfl,_,rfl,x,y,y,wd,hg,xs,xs,rfl,la,la,fun d H1 kvs s1 n1 e1 hm=>aK ?_⟩);dsimp only[List.set];refine⟨_,rfl,d,kvs,rfl,e1,fun o=> ?_⟩;have x2:bD d H1 (upd H1 d (.bM o (.dT kvs))):=bD.upd;have e2:upd H1 d (.bM o (.dT kvs)) d=some (.bM o (.dT kvs)):=Zd;generalize upd H1 d (HO.bM o (.dT kvs))=H2 at x2 e2;have cX:ag H H2:=fun b u h=>x2 _ _ (s1 _ _ h) (Zh h n1);have lk:kvs.length<=144:=by
   have a:=hm.len;have b:=mQ xs;have c:=la.2.2.len;have:=la.1.2.2.1;have:∀(l:List (Int×Int)),(allM l (aj xs)).length=l.length*(aj xs).length:=fun l=>by
    unfold allM
    induction l with
    |nil=>simp
    |cons a t ih=>rw[Zb5,Zaj,ih,Zal,Za8,Nat.add_mul];omega
   rw[this]at a;exact Zbi a (Zbi (Zf5 (by omega:(aj xs).length<=12) (by omega:(aj xs).length<=12)) .d)
  refine Zcg (kvs:=kvs) (o:=o) (d:=d) (fun i ys σ H'=> ∃v0 v1 v2,σ=[v0,v1,v2]/\ag H2 H'/\Paired (bw H') ys ((kvs.take i).map U.fg)/\ys.length<=i) ⟨_,_,_,rfl,ag.refl _,.nil,ZaM _⟩ (fun i ys σ H' ae=>by obtain⟨_,_,_,_,s',_⟩:=ae;exact s' _ _ e2) ?_ ?_
  ·rintro i k yv T a ys σ H' hk hT ha ⟨v0,v1,v2,rfl,s',pr,ln⟩;have hi:i<kvs.length:=(Zaa.mp hk).1;obtain⟨p,hp,r,br,ek,ev,pos,et⟩:=hm.fg (ZaD hk);have ek:k=cY p r:=ek;have ev:yv=.int (aC xs xs (r.1-p.1) (r.2-p.2):Int):=ev;subst ek ev;have sT:=bh (o:=.par [V.ref a,.int (aC xs xs (r.1-p.1) (r.2-p.2):Int)]) hT;have eT:upd H' T (.par [V.ref a,.int (aC xs xs (r.1-p.1) (r.2-p.2):Int)]) T=some (.par [V.ref a,.int (aC xs xs (r.1-p.1) (r.2-p.2):Int)]):=Zd;have rB:H' a=some (.tup [.int (r.1-p.1),.int (r.2-p.2)]):=ha;generalize upd H' T (HO.par [V.ref a,.int (aC xs xs (r.1-p.1) (r.2-p.2):Int)])=H4 at sT eT;refine⟨T,_,rfl,ab.mS eT,rfl,_,_,rfl,⟨a,_,rfl,ab.of (sT _ _ rB),rfl,_,_,rfl,_,_,rfl,rfl,_,_,rfl,rfl,?_⟩⟩;dsimp only[List.set];refine⟨_,rfl,_,rfl,_,rfl,sX,fun t ht=> ⟨by rw[ZaX];omega,?_⟩⟩;have s5:=bh (o:=.tup [V.int (r.1-p.1),V.int (r.2-p.2),.int (aC xs xs (r.1-p.1) (r.2-p.2):Int)]) ht;refine⟨_,_,_,rfl,s'.trans (sT.trans s5),?_,by rw[Zaj];simp;omega⟩;rw[Za2,hk,ZaV];refine Zc3 (Paired.ba pr fun v q h=>U4 h (sT.trans s5)) ?_;show bw _ _ (U.fg (cY p r,V.int (aC xs xs (r.1-p.1) (r.2-p.2):Int)));rw[et];exact⟨t,rfl,Zd⟩
  ·rintro ys σ H' ⟨v0,v1,v2,rfl,s',pr,ln⟩ L hL;rw[Zbe]at pr;obtain⟨H5,zz,sL,eL⟩:=bV (o:=.lst ys) hL;rw[zz];refine⟨L,ys,kvs.map U.fg,rfl,ai.of eL,Paired.ba pr fun v q h=>U4 h sL,fun k hk=> ?_,.o,fun q' cC cg nq pm rise qv=> ?_⟩
   ·obtain⟨kv,jI,rfl⟩:=ZaN.mp hk;unfold U.fg;simp
   ·have ek:=Vu (pm.trans (hm.Qh la.2.2 la.2.2)) rise;subst ek;have s6:=bh (o:=.lst cC) nq;have nn:H q'=none:=by
     cases h:H q' with
     |none=>rfl
     |some u=>rw[(cX.trans (s'.trans sL)) _ _ h]at nq;cases nq
    exact q q' _ cC (cX.trans (s'.trans (sL.trans s6))) nn Zd (Paired.ba qv fun v q h=>U4 h s6)
end
end U
namespace U.S
open PySem L2 PyProof.Rows
def ur (ys:List V):Bool:=decide (rowsOf ys).Nodup
def cU (ys:List V):Bool:=ur ys&&bN ys
theorem Z5 {ys:List V} :cU ys=true↔(rowsOf ys).Nodup/\pf ys:=by unfold cU ur;rw[Za5,ZcY,Ym]
theorem W0 {xs ys:List V}(h:kJ xs ys)(g:cU xs=true):cU ys=true:=by obtain⟨h1,h2⟩:=Z5.mp g;exact Z5.mpr ⟨h1.sublist (G9 h),XQ h h2⟩
theorem XN {b rest:List V}{v:V} :kJ (b++v::rest) (b++V.ah::rest):=by
 refine⟨by simp,fun i u hu=> ?_⟩;by_cases h1:i<b.length
 ·rw[ZcQ h1]at hu |-;exact .inr hu
 ·rw[Zcx .o]at hu |-;cases hk:i-b.length with
  |zero=>rw[hk]at hu;exact .inl (by simpa using hu.symm)
  |succ k=>rw[hk]at hu;exact .inr (by simpa using hu)
theorem XO {b rest:List V} :kJ (b++rest) (b++List.replicate rest.length V.ah):=by
 refine⟨by simp,fun i u hu=> ?_⟩;by_cases h1:i<b.length
 ·rw[ZcQ h1]at hu |-;exact .inr hu
 ·rw[Zcx .o,Zc7]at hu;split at hu
  ·exact .inl (by simpa using hu.symm)
  ·cases hu
theorem UQ {α β:Type}{f g:α->Option β} :∀{l:List α},(∀x∈l,f x=g x)->l.filterMap f=l.filterMap g
 | [],_=>rfl
 |a::l,h=>by rw[Zc0,Zc0,h a Zaf,UQ fun x hx=>h x (Zae _ hx)]
theorem VT (xs:List V)(n:Nat):aj (xs++List.replicate n V.ah)=aj xs:=by
 unfold aj;rw[Zaj,Zco,ZfA,ZfA,<-List.range'_append_1 (s:=0),ZbO];have e2:(List.range' (0+xs.length) n).filterMap (fun l=> (rowAt (xs++List.replicate n V.ah) l).map fun r=> ((l:Int),r))=[]:=by
  rw[ZeK];intro l hl;rw[List.mem_range'_1]at hl;have:rowAt (xs++List.replicate n V.ah) l=none:=by unfold rowAt;rw[Zcx .o,Zc7];split<;>rfl
  rw[this];rfl
 have e1:(List.range' 0 xs.length).filterMap (fun l=> (rowAt (xs++List.replicate n V.ah) l).map fun r=> ((l:Int),r))=(List.range' 0 xs.length).filterMap (fun l=> (rowAt xs l).map fun r=> ((l:Int),r)):=by refine UQ fun l hl=> ?_;rw[List.mem_range'_1]at hl;unfold rowAt;rw[ZcQ .o]
 simp only[e1,e2,ZbE]
theorem Vs (b:List V)(n:Nat):bN (b++List.replicate n V.ah)=bN b:=by unfold bN;rw[VT]
theorem Yx (a b:List V):rowsOf (a++b)=rowsOf a++rowsOf b:=by unfold rowsOf;rw[ZcX]
theorem GK {b rest:List V}(g:cU (b++rest)=true):cU b=true:=by
 obtain⟨h1,h2⟩:=Z5.mp (W0 XO g);refine Z5.mpr ⟨?_,?_⟩
 ·rw[Yx]at h1;exact(Zdj.mp h1).1
 ·have:=(Ym _).mpr h2;rw[Vs]at this;exact(Ym _).mp this
def xZ (hg:Nat):List Int:=(List.range hg).map fun(k:Nat)=> (k:Int)
def rV (hg:Nat):Option V->List Int
 |some (.int r)=> [r]
 |_=>xZ hg
noncomputable def dB (hg:Nat)(xs:List V):Nat->List (List V)
 |0=>if bN xs=true then [xs] else []
 |i+1=>if xs[i]? =some V.ah then (dB hg xs i).flatMap fun p=> (ft hg p i).map fun r=>p.set i (.int r) else dB hg xs i
def mT (hg:Nat)(xs:List V)(i:Nat)(b:List V):List (List V):=((rV hg xs[i]?).filter fun r=> !bK (.int r) b&&bN (b++[.int r])).map fun r=>b++[V.int r]
def dU (hg:Nat)(xs:List V):Nat->List (List V)
 |0=> [[]]
 |i+1=> (dU hg xs i).flatMap (mT hg xs i)
theorem o6 (hg:Nat)(xs:List V):∀i,∀b∈dU hg xs i,b.length=i/\cU b=true/\∃ks:List Int,b=ks.map V.int
 |0,b,h=>by
  have:b=[]:=by simpa[dU] using h
  subst this;exact⟨rfl,rfl,[],rfl⟩
 |i+1,b,h=>by
  unfold dU at h;obtain⟨a,ha,hm⟩:=ZcJ.mp h;obtain⟨h1,h2,ks,rfl⟩:=o6 hg xs i a ha;unfold mT at hm;obtain⟨r,hr,rfl⟩:=ZaN.mp hm;obtain⟨_,eV⟩:=ZaZ.mp hr;rw[Za5,ZcR]at eV;refine⟨by rw[Zaj,h1];rfl,Z5.mpr ⟨?_,(Ym _).mp eV.2⟩,ks++[r],by simp⟩;rw[Yx];refine Zdj.mpr ⟨(Z5.mp h2).1,by unfold rowsOf;simp,fun x hx y hy e=> ?_⟩;have mV:y=.int r:=by unfold rowsOf at hy;simpa using (ZaZ.mp hy).1
  subst mV;subst e;have:=JO (ZaZ.mp hx).1;rw[eV.1]at this;cases this
theorem EO {α β:Type}{f g:α->List β} :∀{l:List α},(∀x∈l,f x=g x)->l.flatMap f=l.flatMap g
 | [],_=>rfl
 |a::l,h=>by rw[Zb5,Zb5,h a Zaf,EO fun x hx=>h x (Zae _ hx)]
theorem Wb {α β:Type}(p:β->Bool)(f:α->List β):∀l:List α,(l.flatMap f).filter p=l.flatMap fun a=> (f a).filter p
 | []=>rfl
 |a::l=>by rw[Zb5,Zb5,ZcX,Wb p f l]
theorem YW {α β:Type}(p:α->Bool)(f:α->List β):∀l:List α,(l.filter p).flatMap f=l.flatMap fun a=>if p a=true then f a else []
 | []=>rfl
 |a::l=>by
  rw[Zeq,Zb5];cases h:p a with
  |true=>rw[ZaQ rfl,Zb5,YW p f l];simp
  |false=>rw[Zaz Zag,YW p f l];simp
theorem Hb {x v:V}{t:List V} :∀{fs:List V},(fs++x::t).set fs.length v=fs++v::t
 | []=>rfl
 |a::fs=>by show a::(fs++x::t).set fs.length v=_;rw[Hb];rfl
theorem Ft {r:Int}{xs:List V}(ok:nK xs)(h:bK (.int r) xs=true):V.int r∈xs:=by
 unfold bK at h;obtain⟨y,hy,e⟩:=ZdD.mp h;rcases ok y hy with z |⟨j,z⟩
 ·rw[z]at e;simp[dW]at e
 ·rw[z]at e;have:j=r:=by simpa[dW] using e
  rw[<-this,<-z];exact hy
theorem GL {b rest:List V}{r:Int}(ok:nK (b++V.ah::rest))(g:cU (b++V.ah::rest)=true):cU (b++V.int r::rest)=(!bK (.int r) (b++V.ah::rest)&&bN (b++V.int r::rest)):=by
 have hp:(rowsOf (b++V.int r::rest)).Perm (V.int r::rowsOf (b++V.ah::rest)):=by rw[Yx,Yx];have e1:rowsOf (V.int r::rest)=V.int r::rowsOf rest:=rfl;have e2:rowsOf (V.ah::rest)=rowsOf rest:=rfl;rw[e1,e2];exact Zgy
 have hn:(rowsOf (b++V.int r::rest)).Nodup↔V.int r∉rowsOf (b++V.ah::rest):=by rw[hp.nodup_iff,Zcm];exact⟨fun h=>h.1,fun h=> ⟨h,(Z5.mp g).1⟩⟩
 have hm:V.int r∈rowsOf (b++V.ah::rest)↔bK (.int r) (b++V.ah::rest)=true:=by unfold rowsOf;rw[ZaZ];exact⟨fun h=>JO h.1,fun h=> ⟨Ft ok h,by simp⟩⟩
 unfold cU
 congr 1
 unfold ur;cases hi:bK (.int r) (b++V.ah::rest) with
 |true=>rw[Zb1];exact ZaF fun h=>hn.mp h (hm.mpr hi)
 |false=>rw[Zd0];exact Zaq (hn.mpr fun h=>by rw[hm.mp h]at hi;cases hi)
theorem Ar {wd:Int}{hg:Nat}{xs:List V}(ly:cA wd hg xs):∀i,i<=xs.length->dB hg xs i=((dU hg xs i).filter fun b=>cU (b++xs.drop i)).map fun b=>b++xs.drop i
 |0,_=>by
  have e:cU xs=bN xs:=by unfold cU ur;rw[Zaq ly.nd,Bool.true_and]
  unfold dB dU;simp only[Zeq,ZgY,Zf1,Zdn,e];split<;>simp
 |i+1,hi=>by
  have aw:i<xs.length:=.o;have ed:xs.drop i=xs[i]::xs.drop (i+1):=Zdu aw;have hx:xs[i]? =some xs[i]:=Zaw aw;have CZ:∀v∈xs.drop (i+1),v=.ah∨∃j,v=V.int j:=fun v hv=>ly.ok v (ZcH hv);have ih:=Ar ly i .o;generalize xs.drop (i+1)=rest at ed CZ |-;have C0:∀{b:List V}{v:V},b∈dU hg xs i->(v=.ah∨∃j,v=V.int j)->nK (b++v::rest):=fun {b v} hb hv x Nz=>by
   obtain⟨_,_,ks,rfl⟩:=o6 hg xs i b hb;rcases ZaO.mp Nz with h |h
   ·obtain⟨k,_,rfl⟩:=ZaN.mp h;exact .inr ⟨k,rfl⟩
   ·rcases Zav.mp h with rfl |h
    ·exact hv
    ·exact CZ x h
  unfold dB dU;rw[hx,ih,ed,Wb,List.map_flatMap];rcases ly.ok xs[i] (Zeo aw) with hv |⟨r,hv⟩
  ·rw[hv,ZaQ rfl,List.flatMap_map,YW];refine EO fun b hb=> ?_;obtain⟨lb,gb,_⟩:=o6 hg xs i b hb;have es:∀v:V,(b++V.ah::rest).set i v=b++v::rest:=fun v=>by rw[<-lb];exact Hb
   have ea:rV hg xs[i]? =xZ hg:=by rw[hx,hv];rfl
   unfold mT;rw[ea,List.filter_map,ZcG,List.filter_filter];have eb:∀v:V,b++[v]++rest=b++v::rest:=fun v=>by rw[ZaY];rfl
   cases nj:cU (b++V.ah::rest) with
   |true=>
    rw[ZaQ rfl];unfold ft;simp only[es];have e1:((fun c:List V=>c++rest)∘fun r:Int=>b++[V.int r])=fun r=>b++V.int r::rest:=funext fun r=>eb _;rw[e1];refine ZcE (List.map _) (List.filter_congr fun r _=> ?_);show _=(cU (b++[V.int r]++rest)&&_);rw[eb,GL (C0 hb (.inl rfl)) nj];cases h1:(!bK (.int r) (b++V.ah::rest)&&bN (b++V.int r::rest)) with
    |false=>rfl
    |true=>
     have gg:cU (b++V.int r::rest)=true:=by rw[GL (C0 hb (.inl rfl)) nj];exact h1
     rw[<-eb]at gg;have g1:=GK gg;rw[Za5,ZcR]at h1;have hn:bK (.int r) b=false:=by
      cases hz:bK (.int r) b with
      |false=>rfl
      |true=>
       have:bK (.int r) (b++V.ah::rest)=true:=by unfold bK at hz |-;rw[List.any_append,hz];rfl
       rw[this]at h1;cases h1.1
     rw[hn,(Ym _).mpr (Z5.mp g1).2];rfl
   |false=>
    rw[Zaz Zag];symm;rw[List.map_eq_nil_iff,Zdf];intro r _;show ¬(cU (b++[V.int r]++rest)&&_)=true;rw[eb];cases hz:cU (b++V.int r::rest) with
    |false=>simp
    |true=>have:=W0 XN hz;rw[nj]at this;cases this
  ·rw[hv,Zaz (by intro z;cases z)];have ea:rV hg xs[i]? =[r]:=by rw[hx,hv];rfl
   have eb:∀b:List V,b++[V.int r]++rest=b++V.int r::rest:=fun b=>by rw[ZaY];rfl
   have key:∀l:List (List V),(∀b∈l,b∈dU hg xs i)->(l.filter fun b=>cU (b++V.int r::rest)).map (fun b=>b++V.int r::rest)=l.flatMap fun b=> ((mT hg xs i b).filter fun b=>cU (b++rest)).map fun b=>b++rest:=by
    intro l hl
    induction l with
    |nil=>rfl
    |cons b l Nk=>
     rw[Zb5,<-Nk fun x hx=>hl x (Zae _ hx),Zeq];have hb:=hl b Zaf;have en:((mT hg xs i b).filter fun b=>cU (b++rest)).map (fun b=>b++rest)=if cU (b++V.int r::rest)=true then [b++V.int r::rest] else []:=by
      unfold mT;rw[ea];cases nj:cU (b++V.int r::rest) with
      |false=>
       rw[Zaz Zag];rw[List.map_eq_nil_iff,Zdf];intro y hy;obtain⟨r',br,rfl⟩:=ZaN.mp hy;have:r'=r:=by simpa using (ZaZ.mp br).1
       rw[this,eb,nj];simp
      |true=>
       rw[ZaQ rfl];have gg:=nj;rw[<-eb]at gg;have g1:=GK gg;have hn:bK (.int r) b=false:=by
        cases hz:bK (.int r) b with
        |false=>rfl
        |true=>obtain⟨_,_,ks,rfl⟩:=o6 hg xs i b hb;have hm:=Ft (fun x hx=>by obtain⟨k,_,rfl⟩:=ZaN.mp hx;exact .inr ⟨k,rfl⟩) hz;have nd:=(Z5.mp g1).1;rw[Yx]at nd;have:=(Zdj.mp nd).2.2 (V.int r) (ZaZ.mpr ⟨hm,by simp⟩) (V.int r) (by unfold rowsOf;simp);exact absurd rfl this
       have hu:=(Ym _).mpr (Z5.mp g1).2;simp only[Zeq,ZgY,hn,hu,Zd0,Zgs,ZdC,Zba,Zfo,eb,nj]
     rw[en];split<;>simp
   exact key _ fun b hb=>hb
theorem Sh {wd:Int}{hg:Nat}{xs:List V}(ly:cA wd hg xs):dB hg xs xs.length=dU hg xs xs.length:=by rw[Ar ly xs.length (Zak _)];have e:xs.drop xs.length=[]:=List.drop_length;simp only[e,ZbE];rw[List.map_id'' (fun _=>rfl)];exact List.filter_eq_self.mpr fun b hb=> (o6 hg xs _ b hb).2.1
theorem Sa {hg:Nat}(h:hg<=7)(o:Option V):(rV hg o).length<=7:=by
 unfold rV;split
 ·simp
 ·unfold xZ;simp;exact h
theorem GH {hg:Nat}(h:hg<=7)(xs:List V):∀i,(dU hg xs i).length<=7^i
 |0=>by simp[dU]
 |i+1=>by
  have ih:=GH h xs i;unfold dU;refine Zbi (JT _ 7 _ fun a _=> ?_) ?_
  ·unfold mT;rw[Zal];exact Zbi (Zdk _ _) (Sa h _)
  ·rw[Nat.pow_succ];exact Nat.mul_le_mul_right _ ih
theorem To {hg:Nat}(h:hg<=7)(xs:List V){i:Nat}(hi:i<=6):(dU hg xs i).length<=117649:=
 Zbi (GH h xs i) (Zbi (Nat.pow_le_pow_right .d hi) .d)
theorem Tj {wd:Int}{hg:Nat}{xs:List V}(ly:cA wd hg xs)(h:hg<=7){i:Nat}(hi:i<=6)(hl:i<=xs.length):(dB hg xs i).length<=117649:=by rw[Ar ly i hl,Zal];exact Zbi (Zdk _ _) (To h xs hi)
theorem W2 {wd:Int}{hg:Nat}{xs:List V}(ly:cA wd hg xs):∀i,∀p∈dB hg xs i,cA wd hg p/\∀j,i<=j->p[j]? =xs[j]?
 |0,p,hp=>by
  unfold dB at hp;split at hp
  ·rw[Zas.mp hp];exact⟨ly,fun _ _=>rfl⟩
  ·cases hp
 |i+1,p,hp=>by
  unfold dB at hp;split at hp
  ·rename_i hx;obtain⟨a,ha,hm⟩:=ZcJ.mp hp;obtain⟨h1,h2⟩:=W2 ly i a ha;obtain⟨r,hr,rfl⟩:=ZaN.mp hm;obtain⟨⟨r0,r1⟩,hn,_⟩:=VW.mp hr;have hi:a[i]? =some V.ah:=by rw[h2 i (Zak _)];exact hx
   refine⟨AE h1 hi r0 r1 hn,fun j hj=> ?_⟩;rw[Zd2 .o];exact h2 j .o
  ·obtain⟨h1,h2⟩:=W2 ly i p hp;exact⟨h1,fun j hj=>h2 j .o⟩
def nD (hg:Nat)(xs:List V)(i j:Nat):List (List V):=((dB hg xs i).take j).flatMap fun p=> (ft hg p i).map fun r=>p.set i (.int r)
theorem Zbz {hg:Nat}{xs:List V}{i j:Nat}{p:List V}(e:(dB hg xs i)[j]? =some p):nD hg xs i (j+1)=nD hg xs i j++(ft hg p i).map fun r=>p.set i (.int r):=by unfold nD;rw[Za2,e,ZcL];simp
section
abbrev xv:Stmt:=top 31
inductive B6 (vs:List V) (H:Hp) (Q:VK) (_:XK):Prop
 |mk (x y wd hg xs:_) (_:vs=[x,y]) (_:bt H x y wd hg xs) (_:wd<=6) (_:hg<=7) (_:∀H',ag H H'->Q .ah H')
theorem Ky:aM ["board", "lay"] ["board", "lay"] (ax xv):=Zr (by decide+kernel)
theorem Mb (F:aH K "need_small" "need_small" xv f fd)(G:Gs mg)(Dnl:Def P w K mg base 6 "need_lay" ["board", "lay"] wy)(Bk:Def P w K mg base 1 "need_at_most" ["board", "wide", "high"] wB):ay P w K mg base az 7 f fd ["board", "lay"] B6:=by
 obtain⟨Iq,l6⟩:=G.MR;obtain⟨pN,zC⟩:=G.MU;refine F.ok Ky (fun vs H Q E h=> ?_) (fun ao A outer s H vs Q E hr h=> ?_)
 ·obtain⟨x,y,wd,hg,xs,rfl,_⟩:=h;rfl
 ·obtain⟨x,y,wd,hg,xs,rfl,la,w6,g7,q⟩:=h;refine⟨_,Ze (ZP (Zc Dnl hr (Za (pv 0) (Za (pv 1) Zb))))
   (Zg (ZP (Zc Bk (hr.mono .d) (Za (pv 0) (Za (Yf (v:=.int 6) rfl l6 ⟨_,rfl⟩) (Za (Yf (v:=.int 7) rfl zC ⟨_,rfl⟩) Zb)))))),?_⟩
  try dsimp only[aP]
  refine bg ⟨_,rfl,_,rfl,x,y,wd,hg,xs,rfl,la,fun H1 s1=> ?_⟩;dsimp only;obtain⟨b,rfl,hb⟩:=Zk la.1.1;exact⟨_,rfl,b,wd,hg,6,7,rfl,s1 _ _ hb,w6,g7,q H1 s1⟩
abbrev xT:Stmt:=top 33
inductive Ck (vs:List V) (H:Hp) (Q:VK) (_:XK):Prop
 |mk (b l:Addr) (wd hg:Int) (xs:List V) (_:vs=[.ref b,.ref l]) (_:cJ H (.ref b) wd hg) (_:H l=some (.tup xs)) (_:cA wd hg xs) (_:wd<=6) (_:hg<=7) (_:∀(q:Addr) (H':Hp) (ts:List V),ag H H'->H q=none->H' q=some (.lst ts)->Paired (cj H') ts (dU hg.toNat xs xs.length)->Q (.ref q) H')
theorem tM:aM ["board", "lay", "found", "line"] ["board", "lay"] (ax xT):=Zr (by decide+kernel)
theorem Mu (F:aH K "all_fits" "all_fits" xT f fd)(G:Gs mg)(Dns:Def P w K mg base 7 "need_small" ["board", "lay"] B6)(pD:Def P w K mg base 11 "is_unlike" ["board", "lay"] tj)(su:Def P w K mg base 1 "with_point" ["lay", "line", "row"] tf)(Bo:Def P w K mg base 12 "free_rows" ["board", "lay", "line"] wK):ay P w K mg base az 13 f fd ["board", "lay"] Ck:=by
 refine F.ok tM (fun vs H Q E h=> ?_) (fun ao A outer s H vs Q E hr h=> ?_)
 ·obtain⟨b,l,wd,hg,xs,rfl,_⟩:=h;rfl
 ·obtain⟨b,l,wd,hg,xs,rfl,bd,hl,ly,w6,g7,q⟩:=h;refine⟨_,Ze (ZP (Zc Dns (hr.mono .d) (Za (pv 0) (Za (pv 1) Zb))))
   (Ze (Zu (i:=2) tM.nd rfl (Or.inl rfl) (Yy (Yi (Zc pD (hr.mono .d) (Za (pv 0) (Za (pv 1) Zb)))) (Z6 (Za (pv 1) Zb)) (Z6 Zb)))
   (Ze (ZY Zcn rfl (ZZ rfl G.range (Za (ZB ZC (pv 0) Zf (fun _ _=>rfl)) Zb)) (Zn (i:=3) tM.nd rfl (Or.inr rfl))
    (Zg (Z1 (JJ (Av (ZB ZC (pv 1) (pv 3) (fun _ _=>rfl))))
     (Zg (Yr ["part", "row", "board", "line"] 2 [0,3] (i:=2) tM.nd rfl (Or.inl rfl) (Zw (pv 2)) (fun C s H fp=>pb 0) (fun C s H fp=>ZE)
      (fun C s H fp D=>WB rfl rfl rfl (show PI (aU _ _ _ C s H fp) _ _ (uE K _) from Zw (Zc Bo hr (Za (pv 2) (Za (pv 0) (Za (pv 3) Zb)))))
       (show PG (aU _ _ _ C s H fp) _ (bE 1) from pb 1) ZE (cc rfl (Zc su (hr.mono .d) (Za (pv 0) (Za (pv 3) (Za (pv 1) Zb))))) (by intro _;rfl) (by intro g' h;cases h)))) ZD)))
   (Zg (Zm (pv 2))))),?_⟩
  try dsimp only[aP]
  obtain⟨b',eb,hb⟩:=Zk bd.1;cases eb;obtain⟨_,w1,_,g1,_⟩:=id bd;have eH:(hg.toNat:Int)=hg:=.o;have jD:cA wd (hg.toNat:Int) xs:=by rw[eH];exact ly
  have Py:hg.toNat<=7:=.o;have ll:=ly.len;have eq:=Sh jD;refine bg ⟨_,rfl,_,rfl,.ref b,.ref l,wd,hg,xs,rfl,⟨bd,Zx hl,ly⟩,w6,g7,fun H1 s1=> ?_⟩;dsimp only;have iZ:=s1 _ _ hl;refine bg (bC (T.Ir (t:=BG _ _ _) (fun v H'=> ∃fa ts,v=.ref fa/\ag H H'/\H fa=none/\H' fa=some (.lst ts)/\Paired (cj H') ts (dB hg.toNat xs 0)) ?_ ?_))
  case refine_2=>
   intro Q' hq;refine⟨_,rfl,_,rfl,.ref b,.ref l,wd,hg,xs,rfl,⟨bd.same s1,Zx iZ,ly⟩,fun H2 r s2 fi=> ⟨_,rfl,?_⟩⟩;rw[FI fi];have cX:=s1.trans s2;have hG:=s2 _ _ iZ;have e0:dB hg.toNat xs 0=if bN xs=true then [xs] else []:=rfl
   cases hu:bN xs with
   |true=>rw[hu,ZaQ rfl]at e0;refine aX ⟨_,rfl,fE,fun L hL=>hq _ _ ⟨L,_,rfl,cX.trans (de hL),cX.free hL,Zd,?_⟩⟩;rw[e0];exact .cons ⟨l,rfl,de hL _ _ hG⟩ .nil
   |false=>rw[hu,Zaz Zag]at e0;refine aI ⟨ZaM _,fun L hL=>hq _ _ ⟨L,_,rfl,cX.trans (de hL),cX.free hL,Zd,?_⟩⟩;rw[e0];exact .nil
  rintro v H2 ⟨PJ,Im,rfl,s2,n2,e2,bJ⟩;refine aK ?_;dsimp only[List.set];refine bg ⟨_,rfl,b,_,_,_,rfl,rfl,ab.of (s2 _ _ hb),jP,wd,rfl,.o,.o,?_⟩;refine Yd (n:=wd.toNat) (fun i σ H'=> ∃fa ts v,σ=[some (.ref b),some (.ref l),some (.ref fa),v]/\ag H H'/\H fa=none/\H' fa=some (.lst ts)/\Paired (cj H') ts (dB hg.toNat xs i)) ⟨PJ,Im,_,rfl,s2,n2,e2,bJ⟩ ?_ ?_
  ·rintro i σ H3 hi ⟨fa,ts,v,rfl,s3,oH,jM,bI⟩;rw[ZeF];refine aK ?_;dsimp only[List.set];have zh:i<xs.length:=.o;obtain⟨v,hv⟩:∃v,xs[i]? =some v:=⟨_,Zaw zh⟩;have vh:=Tj jD Py (i:=i) .o .o;have iM:=Za0 bI;have es:dB hg.toNat xs (i+1)=if xs[i]? =some V.ah then (dB hg.toNat xs i).flatMap fun p=> (ft hg.toNat p i).map fun r=>p.set i (.int r) else dB hg.toNat xs i:=rfl
   rw[hv]at es;refine⟨_,rfl,_,rfl,l,xs,(i:Int),v,rfl,rfl,ab.of (s3 _ _ hl),Y8 hv,_,rfl,?_⟩;rcases ly.ok v (ZaD hv) with rfl |⟨r,rfl⟩
   ·rw[ZaQ rfl]at es;refine aX ⟨_,rfl,fa,rfl,⟨ts,ai.of jM⟩,?_⟩;refine Zy (xs:=ts) (fun j ys σ H4=> ∃v0 v1,σ=[v0,v1,some (.ref b),some (.int (i:Int))]/\ag H3 H4/\Paired (cj H4) ys (nD hg.toNat xs i j)/\ys.length<=j*7) ⟨_,_,rfl,ag.refl _,.nil,ZaM _⟩ (fun j ys σ H4 _ ae=>by obtain⟨_,_,_,s4,_⟩:=ae;exact ai.of (s4 _ _ jM)) ?_ ?_
    ·rintro j v ys σ H4 iT ⟨v0,v1,rfl,s4,eK,lS⟩;obtain⟨p,hp,t,rfl,ht⟩:=Paired.at bI iT;have hj:j<ts.length:=(Zaa.mp iT).1;obtain⟨yw,tail⟩:=W2 jD i p (ZaD hp);have lp:=yw.len;rw[eH]at yw;have hx:p[i]? =some V.ah:=by rw[tail i (Zak _)];exact hv
     have iU:=s4 _ _ ht;refine aK ?_;dsimp only[List.set]
     try unfold kN
     refine aX ?_;refine⟨_,rfl,_,rfl,_,rfl,b,t,i,wd,hg,p,rfl,bd.same (s3.trans s4),iU,yw,hx,fun fb H5 s5 nf ef=> ?_⟩;have fl:=JQ hg.toNat p i;have dI:=Zbz hp;generalize ft hg.toNat p i=fr at ef fl dI;refine⟨fb,rfl,⟨_,ai.of ef⟩,?_⟩;refine Zy (xs:=fr.map V.int) (fun k zs σ H6=> ∃v1,σ=[some (.ref t),v1,some (.ref b),some (.int (i:Int))]/\ag H5 H6/\Paired (cj H6) zs (nD hg.toNat xs i j++(fr.take k).map fun r=>p.set i (.int r))/\zs.length<=j*7+k) ⟨_,rfl,ag.refl _,by simpa using Paired.ba eK fun v q' hq=>cj.same hq s5,lS⟩ (fun k zs σ H6 _ ae=>by obtain⟨_,_,s6,_⟩:=ae;exact ai.of (s6 _ _ ef)) ?_ ?_
     ·rintro k u zs σ H6 hu ⟨v1,rfl,s6,qu,D0⟩;rw[Zbk]at hu;obtain⟨r,br,rfl⟩:=Zbf.mp hu;have hk:k<fr.length:=(Zaa.mp br).1;refine aK ?_;dsimp only[List.set]
      try unfold kN
      refine aX ?_;refine⟨_,rfl,_,rfl,_,rfl,t,p,i,.int r,rfl,(s5.trans s6) _ _ iU,.o,.o,fun t7 H7 s7 e7=> ⟨by rw[ZaX];omega,_,rfl,s6.trans s7,?_,by rw[Zaj];simp;omega⟩⟩;rw[Za2,br,ZaV,<-ZaY];exact Zc3 (Paired.ba qu fun v q' hq=>cj.same hq s7) ⟨t7,rfl,e7⟩
     ·rintro zs σ H6 ⟨v1,rfl,s6,qu,D0⟩;rw[Zal]at qu D0;rw[Zbe]at qu;refine⟨_,_,rfl,s4.trans (s5.trans s6),?_,.o⟩;rw[dI];exact qu
    ·rintro ys σ H4 ⟨v0,v1,rfl,s4,eK,lS⟩ p hp;dsimp only[List.set];have s5:=de (o:=.lst ys) hp;refine⟨p,ys,_,rfl,s3.trans (s4.trans s5),s3.free (s4.free hp),Zd,?_⟩;have e:nD hg.toNat xs i ts.length=dB hg.toNat xs (i+1):=by unfold nD;rw[iM,Zbe,es]
     rw[<-e];exact Paired.ba eK fun v q' hq=>cj.same hq s5
   ·rw[Zaz (by intro z;cases z)]at es;refine aI (fh ⟨fa,ts,_,rfl,s3,oH,jM,?_⟩);rw[es];exact bI
  ·rintro σ H3 ⟨fa,ts,v,rfl,s3,oH,jM,bI⟩;have e:dB hg.toNat xs wd.toNat=dU hg.toNat xs xs.length:=by rw[show wd.toNat=xs.length by omega];exact eq
   rw[e]at bI;exact⟨_,rfl,q fa H3 ts s3 oH jM bI⟩
end
end U.S
namespace L2
open PySem PySem.Spec PyProof.Rows
theorem ab.keep {K:ZhK}{H H':Hp}{a:Addr}{xs:List V}(h:ab K H a xs)(s:ag H H'):ab K H' a xs:=by
 rcases h with (h |⟨o,h⟩) |h |h
 ·exact .inl (.inl (s _ _ h))
 ·exact .inl (.inr ⟨o,s _ _ h⟩)
 ·exact .inr (.inl h)
 ·exact .inr (.inr (s _ _ h))
end L2
namespace U.T
open PySem L2 PyProof.Rows
section
variable {aB aL aT:Addr}
inductive BV (K:ZhK) (vs:List V) (H:Hp) (Q:VK) (_:XK):Prop
 |mk (a:Addr) (xs:List V) (n:Int) (_:vs=[.ref a,.int n]) (_:ab K H a xs) (_:Q (.bl (decide ((xs.length:Int)=n))) H)
theorem LX (F:aH K "is_tuple_of" "is_tuple_of" tO f fd)(G:Gs mg):ay P w K mg base az 1 f fd ["thing", "many"] (BV K):=by
 refine F.ok Cq (fun vs H Q E h=> ?_) (fun ao A outer s H vs Q E hr h=> ?_)
 ·obtain⟨a,xs,n,rfl,_⟩:=h;rfl
 ·obtain⟨a,xs,n,rfl,t,q⟩:=h;refine⟨_,Zg (Zm (YH (Zo (ZaI (c:= "tuple")) rfl G.isinstance Ze5 (Za (pv 0) (Za (Jq (v:=.ty "tuple") rfl G.tuple boot_tuple rfl) Zb)))
   (YF (YG YQ (Zo Zv rfl G.len Zez (Za (pv 0) Zb)) (pv 1) (bR _))))),?_⟩
  try dsimp only[aP]
  refine⟨_,rfl,a,xs,true,rfl,t,rfl,_,rfl,aX ⟨_,rfl,a,xs,rfl,.inr t,_,rfl,rfl,?_⟩⟩;have z:decide (V.int (xs.length:Int)=V.int n)=decide ((xs.length:Int)=n):=by simp
  rw[z];exact q
inductive BU (K:ZhK) (vs:List V) (H:Hp) (Q:VK) (_:XK):Prop
 |mk (t:Addr) (q:Bool×Bool×Bool) (_:vs=[.ref t]) (_:ab K H t (tv q)) (_:∀H',ag H H'->Q (.bl true) H')
abbrev wZ:Stmt:=top 37
theorem Kn:aM ["thing"] ["thing"] (ax wZ):=Zr (by decide+kernel)
theorem LW (F:aH K "is_turn" "is_turn" wZ f fd)(G:Gs mg)(D1:Def P w K mg base 1 "is_tuple_of" ["thing", "many"] (BV K))(D2:Def P w K mg base 2 "is_whole_within" ["thing", "least", "most"] (nX K)):
  ay P w K mg base az 3 f fd ["thing"] (BU K):=by
 refine F.ok Kn (fun vs H Q E h=> ?_) (fun ao A outer s H vs Q E hr h=> ?_)
 ·obtain⟨t,x,rfl,_⟩:=h;rfl
 ·obtain⟨t,x,rfl,ht,q⟩:=h;refine⟨_,Zg (Zm (YH (Zc D1 (hr.mono .d) (Za (pv 0) (Za Zf Zb)))
   (YF (Zo Y0 rfl G.all boot_all (Za (ZM ["part"] 1 [] (WC (pv 0)) (fun C s H fp=>pb 0) (fun C s H fp=>ZE)
    (fun C s H fp D=>cc rfl (Zc D2 (hr.mono .d) (Za (pv 0) (Za Zf (Za Zf Zb)))))) Zb))))),?_⟩
  try dsimp only[aP]
  refine⟨_,rfl,t,tv x,3,rfl,ht,_,rfl,?_⟩;rw[Zaq (show((tv x).length:Int)=3 from rfl)];refine aX ⟨_,rfl,t,rfl,⟨tv x,ht⟩,?_⟩;refine YR (xs:=tv x) (fun i ys σ H2=>ys=List.replicate i (V.bl true)/\H2=H/\∃v,σ=[v]) ⟨rfl,rfl,none,rfl⟩ (fun i ys σ H2 _ ae=>by obtain⟨_,e2,_⟩:=ae;rw[e2];exact ht) ?_ ?_
  ·rintro i y ys σ H2 hy ⟨rfl,rfl,v,rfl⟩;have my:y∈tv x:=ZaD hy;obtain⟨b,rfl⟩:∃b:Bool,y=.int (bi b):=by simp only[Zav,ZcB,ZdT]at my;rcases my with rfl |rfl |rfl<;>exact⟨_,rfl⟩
   have hi:i<3:=(Zaa.mp hy).1;refine⟨_,rfl,_,0,1,rfl,⟨_,.int _⟩,?_,?_⟩
   ·rw[Zco,ZaX];omega
   ·refine⟨?_,rfl,_,rfl⟩;rw[show cm (.int (bi b)) 0 1=true by cases b<;>rfl,ZfB]
  ·rintro ys σ H2 ⟨rfl,rfl,v,rfl⟩ p hp;refine⟨p,List.replicate 3 true,rfl,ai.of Zd,?_⟩;exact q _ (bh hp)
inductive wA (K:ZhK) (vs:List V) (H:Hp) (Q:VK) (_:XK):Prop
 |mk (t:Addr) (q:Bool×Bool×Bool) (_:vs=[.ref t]) (_:ab K H t (tv q)) (_:∀H',ag H H'->Q .ah H')
abbrev xu:Stmt:=top 38
theorem Kx:aM ["turn"] ["turn"] (ax xu):=Zr (by decide+kernel)
theorem Ma (F:aH K "need_turn" "need_turn" xu f fd)(D1:Def P w K mg base 3 "is_turn" ["thing"] (BU K)):ay P w K mg base az 4 f fd ["turn"] (wA K):=by
 refine F.ok Kx (fun vs H Q E h=> ?_) (fun ao A outer s H vs Q E hr h=> ?_)
 ·obtain⟨t,x,rfl,_⟩:=h;rfl
 ·obtain⟨t,x,rfl,ht,q⟩:=h;refine⟨_,Zg (Z1 (YE (Yi (Zc D1 hr (Za (pv 0) Zb)))) ZF ZD),?_⟩
  try dsimp only[aP]
  exact⟨_,rfl,t,x,rfl,ht,fun H1 s1=> ⟨_,rfl,aI (q H1 s1)⟩⟩
abbrev xg:Stmt:=top 39
inductive BW (K:ZhK) (vs:List V) (H:Hp) (Q:VK) (_:XK):Prop
 |mk (b p t:Addr) (wd hg:Int) (x:Int×Int) (q:Bool×Bool×Bool) (_:vs=[.ref b,.ref p,.ref t]) (_:H b=some (.tup [.int wd,.int hg])) (_:H p=some (.tup [.int x.1,.int x.2])) (_:ab K H t (tv q)) (_:∀(r:Addr) H',ag H H'->H' r=some (.tup [.int (bz wd hg q x).1,.int (bz wd hg q x).2])->Q (.ref r) H')
theorem kP:aM ["board", "point", "turn", "line", "row", "over", "lines", "rows"] ["board", "point", "turn"] (ax xg):=Zr (by decide+kernel)
theorem L3 (F:aH K "turned_point" "turned_point" xg f fd):ay P w K mg base az 1 f fd ["board", "point", "turn"] (BW K):=by
 refine F.ok kP (fun vs H Q E h=> ?_) (fun ao A outer s H vs Q E hr h=> ?_)
 ·obtain⟨b,p,t,wd,hg,x,q,rfl,_⟩:=h;rfl
 ·obtain⟨b,p,t,wd,hg,⟨x,y⟩,⟨o,l,r⟩,rfl,hb,hp,ht,q⟩:=h;refine⟨_,Ze (Yu (pv 1) (ZI rfl (Zj (Zn (i:=3) kP.nd rfl (Or.inl rfl)) (Zj (Zn (i:=4) kP.nd rfl (Or.inl rfl)) Zz))))
   (Ze (Yu (pv 2) (ZI rfl (Zj (Zn (i:=5) kP.nd rfl (Or.inl rfl)) (Zj (Zn (i:=6) kP.nd rfl (Or.inl rfl)) (Zj (Zn (i:=7) kP.nd rfl (Or.inl rfl)) Zz)))))
   (Ze (Z1 (Zq YQ (pv 6) Zf (bR _)) (Zg (Zu (i:=3) kP.nd rfl (Or.inl rfl) (Zp Z7 (Zp Z7 (ZB ZC (pv 0) Zf (fun _ _=>rfl)) Zf) (pv 3)))) ZD)
   (Ze (Z1 (Zq YQ (pv 7) Zf (bR _)) (Zg (Zu (i:=4) kP.nd rfl (Or.inl rfl) (Zp Z7 (Zp Z7 (ZB ZC (pv 0) Zf (fun _ _=>rfl)) Zf) (pv 4)))) ZD)
   (Zg (Zm (Yy (Zq YQ (pv 5) Zf (bR _)) (Zs (Za (pv 4) (Za (pv 3) Zb))) (Zs (Za (pv 3) (Za (pv 4) Zb))))))))),?_⟩
  try dsimp only[aP]
  refine bg (bC ⟨_,rfl,p,_,rfl,ab.of hp,rfl,_,_,rfl,_,_,rfl,rfl,?_⟩);dsimp only[List.set];refine bg (bC ⟨_,rfl,t,_,rfl,ht,rfl,_,_,rfl,_,_,rfl,_,_,rfl,rfl,?_⟩);dsimp only[List.set];refine Jk (fun σ H'=>H'=H/\σ=[some (.ref b),some (.ref p),some (.ref t),some (.int (tA wd l x)),some (.int y),some (.int (bi o)),some (.int (bi l)),some (.int (bi r))]) ?_ ?_
  ·rintro σ H' ⟨rfl,rfl⟩;refine Jk (fun σ H2=>H2=H'/\σ=[some (.ref b),some (.ref p),some (.ref t),some (.int (tA wd l x)),some (.int (tA hg r y)),some (.int (bi o)),some (.int (bi l)),some (.int (bi r))]) ?_ ?_
   ·rintro σ H2 ⟨rfl,rfl⟩;refine⟨_,rfl,rfl,_,rfl,?_⟩;rw[W9];cases o with
    |true=>exact aX ⟨_,rfl,_,rfl,bT,fun u hu=>q u _ (bh hu) Zd⟩
    |false=>exact aI ⟨_,rfl,_,rfl,bT,fun u hu=>q u _ (bh hu) Zd⟩
   ·intro D' hD;refine⟨_,rfl,rfl,_,rfl,?_⟩;rw[W9];cases r with
    |true=>exact aX (bC ⟨_,rfl,b,_,_,_,rfl,rfl,ab.of hb,ij,_,_,rfl,rfl,_,rfl,_,_,rfl,rfl,aK (hD _ _ ⟨rfl,rfl⟩)⟩)
    |false=>exact aI (fh (hD _ _ ⟨rfl,rfl⟩))
  ·intro D' hD;refine⟨_,rfl,rfl,_,rfl,?_⟩;rw[W9];cases l with
   |true=>exact aX (bC ⟨_,rfl,b,_,_,_,rfl,rfl,ab.of hb,jP,_,_,rfl,rfl,_,rfl,_,_,rfl,rfl,aK (hD _ _ ⟨rfl,rfl⟩)⟩)
   |false=>exact aI (fh (hD _ _ ⟨rfl,rfl⟩))
abbrev xh:Stmt:=top 40
inductive pU (K:ZhK) (vs:List V) (H:Hp) (Q:VK) (_:XK):Prop
 |mk (b t:Addr) (wd hg:Int) (q:Bool×Bool×Bool) (_:vs=[.ref b,.ref t]) (_:cJ H (.ref b) wd hg) (_:ab K H t (tv q)) (_:∀(c:Addr) H',ag H H'->cJ H' (.ref c) (tW wd hg q) (tH wd hg q)->Q (.ref c) H')
theorem Ko:aM ["board", "turn"] ["board", "turn"] (ax xh):=Zr (by decide+kernel)
theorem L4 (F:aH K "turned_board" "turned_board" xh f fd)(D1:Def P w K mg base 4 "need_board" ["board"] (pV K))(D2:Def P w K mg base 4 "need_turn" ["turn"] (wA K)):ay P w K mg base az 5 f fd ["board", "turn"] (pU K):=by
 refine F.ok Ko (fun vs H Q E h=> ?_) (fun ao A outer s H vs Q E hr h=> ?_)
 ·obtain⟨b,t,wd,hg,q,rfl,_⟩:=h;rfl
 ·obtain⟨b,t,wd,hg,⟨o,l,r⟩,rfl,bd,ht,q⟩:=h;refine⟨_,Ze (ZP (Zc D1 hr (Za (pv 0) Zb)))
   (Ze (ZP (Zc D2 hr (Za (pv 1) Zb)))
   (Zg (Zm (Yy (Zq YQ (ZB ZC (pv 1) Zf (fun _ _=>rfl)) Zf (bR _)) (Zs (Za (ZB ZC (pv 0) Zf (fun _ _=>rfl)) (Za (ZB ZC (pv 0) Zf (fun _ _=>rfl)) Zb))) (pv 0))))),?_⟩
  try dsimp only[aP]
  refine bg ⟨_,rfl,.ref b,wd,hg,rfl,bd,fun H1 s1=> ?_⟩;dsimp only;have qR:=ht.keep s1;refine bg ⟨_,rfl,t,_,rfl,qR,fun H2 s2=> ?_⟩;dsimp only;have qQ:=qR.keep s2;have cW:=s1.trans s2;obtain⟨_,w1,Bz,g1,EM⟩:=id bd;obtain⟨b',eb,hb⟩:=Zk bd.1;cases eb;have hU:=cW _ _ hb;refine⟨_,rfl,t,_,_,_,rfl,rfl,qQ,rfl,rfl,_,rfl,?_⟩;rw[W9];cases o with
  |true=>refine aX ⟨_,rfl,b,_,_,_,rfl,rfl,ab.of hU,ij,_,rfl,b,_,_,_,rfl,rfl,ab.of hU,jP,bT,fun u hu=>q u _ (cW.trans (bh hu)) ⟨Zx Zd,g1,EM,w1,Bz⟩⟩
  |false=>exact aI ⟨_,rfl,q b _ cW (bd.same cW)⟩
abbrev w9:Stmt:=top 41
inductive tw (K:ZhK) (vs:List V) (H:Hp) (Q:VK) (_:XK):Prop
 |mk (b l t:Addr) (xs:List V) (wd hg:Int) (q:Bool×Bool×Bool) (_:vs=[.ref b,.ref l,.ref t]) (_:bt K H (.ref b) l xs wd hg) (_:ab K H t (tv q)) (_:∀(u:Addr) H',ag H H'->H' u=some (.tup (bH wd hg q xs))->Q (.ref u) H')
theorem wM:aM ["board", "lay", "turn", "elder", "come"] ["board", "lay", "turn"] (ax w9):=Zr (by decide+kernel)
theorem LY (F:aH K "turned" "turned" w9 f fd)(D1:Def P w K mg base 7 "points" ["board", "lay"] (mH K))(D2:Def P w K mg base 5 "turned_board" ["board", "turn"] (pU K))(D3:Def P w K mg base 5 "lay_of" ["board", "points"] (Ca K))(D4:Def P w K mg base 1 "turned_point" ["board", "point", "turn"] (BW K)):
  ay P w K mg base az 8 f fd ["board", "lay", "turn"] (tw K):=by
 refine F.ok wM (fun vs H Q E h=> ?_) (fun ao A outer s H vs Q E hr h=> ?_)
 ·obtain⟨b,l,t,xs,wd,hg,q,rfl,_⟩:=h;rfl
 ·obtain⟨b,l,t,xs,wd,hg,x,rfl,la,ht,q⟩:=h;refine⟨_,Ze (Zu (i:=3) wM.nd rfl (Or.inl rfl) (Zc D1 hr (Za (pv 0) (Za (pv 1) Zb))))
   (Ze (Zu (i:=4) wM.nd rfl (Or.inl rfl) (Zc D2 (hr.mono .d) (Za (pv 0) (Za (pv 2) Zb))))
   (Zg (Zm (Zc D3 (hr.mono .d) (Za (pv 4) (Za (ZM ["point", "board", "turn"] 1 [0,2] (Zw (pv 3)) (fun C s H fp=>pb 0) (fun C s H fp=>ZE)
    (fun C s H fp D=>cc rfl (Zc D4 (hr.mono .d) (Za (pv 1) (Za (pv 0) (Za (pv 2) Zb)))))) Zb)))))),?_⟩
  try dsimp only[aP]
  refine bg (bC ⟨_,rfl,_,rfl,.ref b,l,xs,wd,hg,rfl,la,fun L H1 ps s1 e1 pr=>aK ?_⟩);dsimp only[List.set];have qR:=ht.keep s1;refine bg (bC ⟨_,rfl,_,rfl,b,t,wd,hg,x,rfl,la.bd.same s1,qR,fun c H2 s2 Q8=>aK ?_⟩);dsimp only[List.set];obtain⟨b',eb,hb⟩:=Zk la.bd.1;cases eb;have cW:=s1.trans s2;have e2:=s2 _ _ e1;have bJ:Paired (iq H2) ps (aj xs):=Paired.ba pr fun v q' hq=>hq.same s2;have lp:ps.length=(aj xs).length:=Za0 pr;have oN:(aj xs).length<=12:=by have h1:=mQ xs;have h2:=GG la.ly;have h3:=la.bd.2.2.1;omega
  refine⟨_,rfl,_,rfl,L,rfl,⟨ps,ai.of e2⟩,?_⟩;refine Zy (xs:=ps) (fun i zs σ H3=> ∃v0,σ=[v0,some (.ref b),some (.ref t)]/\ag H2 H3/\Paired (iq H3) zs (((aj xs).take i).map (bz wd hg x))) ⟨_,rfl,ag.refl _,.nil⟩ (fun i zs σ H3 _ ae=>by obtain⟨_,_,s3,_⟩:=ae;exact ai.of (s3 _ _ e2)) ?_ ?_
  ·rintro i v zs σ H3 hv ⟨v0,rfl,s3,bI⟩;obtain⟨y,hy,py⟩:=ZV bJ hv;obtain⟨t',rfl,lL⟩:=py.same s3;have hi:i<ps.length:=(Zaa.mp hv).1;have lz:zs.length<=12:=by have:=Za0 bI;rw[Zal,ZaR]at this;omega
   refine⟨_,rfl,_,rfl,_,rfl,b,t',t,wd,hg,y,x,rfl,(cW.trans s3) _ _ hb,lL,qR.keep (s2.trans s3),fun r H4 s4 e4=> ⟨by rw[ZaX];omega,_,rfl,s3.trans s4,?_⟩⟩;rw[Za2,hy,ZaV];exact Zc3 (Paired.ba bI fun v q' hq=>hq.same s4) ⟨r,rfl,e4⟩
  ·rintro zs σ H3 ⟨v0,rfl,s3,bI⟩ p hp;rw[lp,Zbe]at bI;have s4:=bh (o:=.lst zs) hp;refine⟨c,p,zs,_,tW wd hg x,tH wd hg x,rfl,Q8.same (s3.trans s4),Zd,Paired.ba bI fun v q' hq=>hq.same s4,sQ (qo la.ly),sR (oA la.ly _),by rw[Zal];exact oN,fun u H5 s5 e5=> ?_⟩;exact q u H5 (cW.trans (s3.trans (s4.trans s5))) e5
end
end U.T
namespace U.T
open PySem L2 PyProof.Rows PyProof.Rows.dc
def dE:V->Int
 | .int i=>i
 |_=> -1
def NR (ys:List V):Prop:=∀y∈ys,y=.ah∨∃i:Int,y=.int i/\0<=i
theorem NR.ni {ys:List V}(h:NR ys):ys.all cf=true:=by rw[Zbd];intro y hy;rcases h y hy with rfl |⟨i,rfl,_⟩<;>rfl
theorem Yc {wd hg:Int}{q:Bool×Bool×Bool}{xs:List V}(ly:bu wd hg (some xs)=true):NR (bH wd hg q xs):=fun y hy=>by
 rcases uB hy with rfl |⟨p,hp,rfl⟩
 ·exact .inl rfl
 ·exact .inr ⟨_,rfl,(sQ (q:=q) (qo ly) p hp).2.1⟩
theorem Rt {wd hg:Int}{xs:List V}(ly:bu wd hg (some xs)=true):NR xs:=fun y hy=>by
 rcases oM ly hy with h |⟨i,e,h,_⟩
 ·exact .inl h
 ·exact .inr ⟨i,e,h⟩
def AZ (K:ZhK)(mg:Str->Option Value):Prop:=∃(aT:Addr) (ts:List Addr),mg "TURNS" =some (.ref aT)/\(∀H,ab K H aT (ts.map V.ref))/\Paired (fun t q=> ∀H,ab K H t (tv q)) ts aW
def eC (wd hg:Int)(xs:List V)(H:Hp)(v:V)(q:Bool×Bool×Bool):Prop:=∃t c u:Addr,v=.ref t/\H t=some (.tup [.ref c,.ref u])/\cJ H (.ref c) (tW wd hg q) (tH wd hg q)/\H u=some (.tup (bH wd hg q xs))
theorem eC.same {wd hg:Int}{xs:List V}{H H':Hp}{v:V}{q:Bool×Bool×Bool}(h:eC wd hg xs H v q)(s:ag H H'):eC wd hg xs H' v q:=by obtain⟨t,c,u,e,h1,h2,h3⟩:=h;exact⟨t,c,u,e,s _ _ h1,h2.same s,s _ _ h3⟩
section
variable {aB aL aT:Addr}
abbrev kS:Stmt:=top 42
inductive tF (K:ZhK) (vs:List V) (H:Hp) (Q:VK) (_:XK):Prop
 |mk (b l:Addr) (xs:List V) (wd hg:Int) (_:vs=[.ref b,.ref l]) (_:bt K H (.ref b) l xs wd hg) (_:∀(L:Addr) H' (ps:List V),ag H H'->H' L=some (.lst ps)->Paired (eC wd hg xs H') ps aW->Q (.ref L) H')
theorem KU:aM ["board", "lay"] ["board", "lay"] (ax kS):=Zr (by decide+kernel)
theorem YI {ts:List Addr}{i:Nat}{v:V}(h:(ts.map V.ref)[i]? =some v):∃t,ts[i]? =some t/\v=.ref t:=by
 rw[Zbk]at h;cases e:ts[i]? with
 |none=>rw[e]at h;cases h
 |some t=>rw[e]at h;cases h;exact⟨t,rfl,rfl⟩
theorem Mt (F:aH K "all_turned" "all_turned" kS f fd)(T:AZ K mg)(D1:Def P w K mg base 5 "turned_board" ["board", "turn"] (pU K))(D2:Def P w K mg base 8 "turned" ["board", "lay", "turn"] (tw K)):ay P w K mg base az 9 f fd ["board", "lay"] (tF K):=by
 obtain⟨aT,ts,hm,hq,pt⟩:=T;refine F.ok KU (fun vs H Q E h=> ?_) (fun ao A outer s H vs Q E hr h=> ?_)
 ·obtain⟨b,l,xs,wd,hg,rfl,_⟩:=h;rfl
 ·obtain⟨b,l,xs,wd,hg,rfl,la,q⟩:=h;refine⟨_,Zg (Zm (ZM ["turn", "board", "lay"] 1 [0,1] (WC (Yf (v:=.ref aT) rfl hm rfl)) (fun C s H fp=>pb 0) (fun C s H fp=>ZE)
    (fun C s H fp D=>cc rfl (Zs (Za (Zc D1 (hr.mono .d) (Za (pv 1) (Za (pv 0) Zb))) (Za (Zc D2 (hr.mono .d) (Za (pv 1) (Za (pv 2) (Za (pv 0) Zb)))) Zb)))))),?_⟩
  try dsimp only[aP]
  refine⟨aT,rfl,⟨_,hq H⟩,?_⟩;have lt:ts.length=8:=Za0 pt;refine YR (xs:=ts.map V.ref) (fun i zs σ H2=> ∃v0,σ=[v0,some (.ref b),some (.ref l)]/\ag H H2/\Paired (eC wd hg xs H2) zs (aW.take i)) ⟨_,rfl,ag.refl _,.nil⟩ (fun i zs σ H2 _ _=>hq H2) ?_ ?_
  ·rintro i v zs σ H2 hv ⟨v0,rfl,s2,pr⟩;obtain⟨t,ht,rfl⟩:=YI hv;obtain⟨y,hy,py⟩:=ZV pt ht;have hi:i<ts.length:=(Zaa.mp ht).1;refine⟨_,rfl,_,rfl,b,t,wd,hg,y,rfl,la.bd.same s2,py H2,fun c H3 s3 b3=> ?_⟩;refine⟨_,rfl,_,rfl,_,rfl,b,l,t,xs,wd,hg,y,rfl,la.same (s2.trans s3),py H3,fun u H4 s4 e4=> ?_⟩;refine⟨bT,fun p hp=> ?_⟩;obtain⟨H5,zz,s5,e5⟩:=bV (o:=.tup [V.ref c,V.ref u]) hp;rw[zz];have lz:zs.length<=8:=by have:=Za0 pr;rw[ZaR]at this;omega
   have mN:=s3.trans (s4.trans s5);refine⟨by rw[ZaX];omega,_,rfl,s2.trans mN,?_⟩;rw[Za2,hy];exact Zc3 (Paired.ba pr fun v q' h=>h.same mN) ⟨p,c,u,rfl,e5,b3.same (s4.trans s5),s5 _ _ e4⟩
  ·rintro zs σ H2 ⟨v0,rfl,s2,pr⟩ p hp;rw[Zal,lt]at pr;have s3:=bh (o:=.lst zs) hp;exact q p _ zs (s2.trans s3) Zd (Paired.ba pr fun v q' h=>h.same s3)
abbrev xp:Stmt:=top 43
inductive B5 (vs:List V) (H:Hp) (Q:VK) (_:XK):Prop
 |mk (t c u:Addr) (wd hg:Int) (ys:List V) (_:vs=[.ref t]) (_:H t=some (.tup [.ref c,.ref u])) (_:H c=some (.tup [.int wd,.int hg])) (_:H u=some (.tup ys)) (_:NR ys) (_:ys.length<=12) (_:∀v H',ag H H'->iw H' v (wd::hg::ys.map dE)->Q v H')
theorem wO:aM ["led", "board", "lay"] ["led"] (ax xp):=Zr (by decide+kernel)
theorem Mc (F:aH K "none_least" "none_least" xp f fd)(G:Gs mg):ay P w K mg base az 1 f fd ["led"] B5:=by
 refine F.ok wO (fun vs H Q E h=> ?_) (fun ao A outer s H vs Q E hr h=> ?_)
 ·obtain⟨t,c,u,wd,hg,ys,rfl,_⟩:=h;rfl
 ·obtain⟨t,c,u,wd,hg,ys,rfl,ht,hc,hu,nr,lu,q⟩:=h;refine⟨_,Ze (Yu (pv 0) (ZI rfl (Zj (Zn (i:=1) wO.nd rfl (Or.inl rfl)) (Zj (Zn (i:=2) wO.nd rfl (Or.inl rfl)) Zz))))
   (Zg (Zm (Zs (Za (pv 1) (Za (Yz Jc rfl G.tuple boot_tuple (Za (ZM ["row"] 1 [] (WC (pv 2)) (fun C s H fp=>pb 0) (fun C s H fp=>ZE)
    (fun C s H fp D=>cc rfl (Yy (JJ (Av (pv 0))) (RT SX Zf) (pv 0)))) Zb)) Zb))))),?_⟩
  try dsimp only[aP]
  refine bg (bC ⟨_,rfl,t,_,rfl,ab.of ht,rfl,_,_,rfl,_,_,rfl,rfl,?_⟩);dsimp only[List.set];refine⟨_,rfl,_,rfl,u,rfl,⟨ys,ab.of hu⟩,?_⟩;refine YR (xs:=ys) (fun i zs σ H2=>zs=((ys.take i).map dE).map V.int/\H2=H/\∃v,σ=[v]) ⟨rfl,rfl,none,rfl⟩ (fun i zs σ H2 _ ae=>by obtain⟨_,e2,_⟩:=ae;rw[e2];exact ab.of hu) ?_ ?_
  ·rintro i y zs σ H2 hy ⟨rfl,rfl,v,rfl⟩;have hz:(((ys.take i).map dE).map V.int).length<sizeLine:=by rw[Zal,Zal,ZaR,ZaX];omega
   have e:((ys.take (i+1)).map dE).map V.int=((ys.take i).map dE).map V.int++[V.int (dE y)]:=by rw[Za2,hy,ZaV,ZaV];rfl
   refine⟨_,rfl,_,rfl,?_⟩;rcases nr y (ZaD hy) with rfl |⟨r,rfl,_⟩
   ·exact aX ⟨_,rfl,hz,e.symm,rfl,_,rfl⟩
   ·exact aI ⟨_,rfl,hz,e.symm,rfl,_,rfl⟩
  ·rintro zs σ H2 ⟨rfl,rfl,v,rfl⟩ L hL;rw[Zbe];refine⟨L,_,rfl,.inl ⟨ai.of Zd,fun r br=> ?_⟩⟩;refine⟨bT,fun p hp=> ?_⟩;have s1:=bh (o:=.lst ((ys.map dE).map V.int)) hL;generalize upd H2 L (.lst ((ys.map dE).map V.int))=H3 at s1 br hp;have s2:=bh (o:=.tup ((ys.map dE).map V.int)) br;have e2:upd H3 r (.tup ((ys.map dE).map V.int)) r=some (.tup ((ys.map dE).map V.int)):=Zd;generalize upd H3 r (.tup ((ys.map dE).map V.int))=H4 at s2 e2 hp;have s3:=bh (o:=.tup [V.ref c,V.ref r]) hp;have sA:=s1.trans (s2.trans s3);exact q _ _ sA ⟨p,c,r,wd,hg,ys.map dE,rfl,Zd,sA _ _ hc,s3 _ _ e2,rfl⟩
noncomputable def eR (wd hg:Int)(xs:List V)(q:Bool×Bool×Bool):List Int:=tW wd hg q::tH wd hg q::(bH wd hg q xs).map dE
abbrev xy:Stmt:=top 44
inductive nZ (K:ZhK) (vs:List V) (H:Hp) (Q:VK) (_:XK):Prop
 |mk (b l:Addr) (xs:List V) (wd hg:Int) (_:vs=[.ref b,.ref l]) (_:bt K H (.ref b) l xs wd hg) (_:∀v q H',ag H H'->eC wd hg xs H' v q->(∀p,ar (eR wd hg xs p) (eR wd hg xs q)=false)->Q v H')
theorem KD:aM ["board", "lay"] ["board", "lay"] (ax xy):=Zr (by decide+kernel)
theorem mf (q:Bool×Bool×Bool):q∈aW:=by obtain⟨a,b,c⟩:=q;cases a<;>cases b<;>cases c<;>decide
theorem Mh (F:aH K "least_turned" "least_turned" xy f fd)(G:Gs mg)(D1:Def P w K mg base 9 "all_turned" ["board", "lay"] (tF K))(D2:Def P w K mg base 1 "none_least" ["led"] B5):ay P w K mg base az 10 f fd ["board", "lay"] (nZ K):=by
 refine F.ok KD (fun vs H Q E h=> ?_) (fun ao A outer s H vs Q E hr h=> ?_)
 ·obtain⟨b,l,xs,wd,hg,rfl,_⟩:=h;rfl
 ·obtain⟨b,l,xs,wd,hg,rfl,la,q⟩:=h;refine⟨_,Zg (Zm (T9 rfl rfl G.min D2 rfl (hr.mono .d) (Zc D1 hr (Za (pv 0) (Za (pv 1) Zb))))),?_⟩
  try dsimp only[aP]
  refine⟨_,rfl,_,rfl,b,l,xs,wd,hg,rfl,la,fun L H1 ps s1 e1 pr=> ?_⟩;have lp:ps.length=8:=Za0 pr;refine⟨L,ps,aW.map (eR wd hg xs),rfl,e1,(fun z=>by rw[z]at lp;cases lp),by rw[Zal,lp];rfl,fun j v k' hv hk H2 s2 Q' q'=> ?_,fun i v k' H2 hv hk best s2=> ?_⟩
  ·obtain⟨y,hy,py⟩:=ZV pr hv;rw[Zbk,hy]at hk;cases hk;obtain⟨t,c,u,rfl,h1,h2,h3⟩:=py.same s2;obtain⟨c',ec,hc⟩:=Zk h2.1;cases ec;refine⟨t,c,u,_,_,_,rfl,h1,hc,h3,Yc la.ly,?_,fun v H' s' kp=>q' v H' s' kp⟩;rw[k9];have:=h2.2.2.1;omega
  ·obtain⟨y,hy,py⟩:=ZV pr hv;rw[Zbk,hy]at hk;cases hk;exact q v y H2 (s1.trans s2) (py.same s2) fun p=>best _ (ZaN.mpr ⟨p,mf p,rfl⟩)
end
end U.T
namespace U
open PySem L2 PyProof.Rows PyProof.Rows.dc
def c2 (n:Nat):Int:=(n:Int)*((n:Int)-1)/2
theorem U6 {α:Type}(f g:α->Int):∀G:List α,(G.map fun x=>f x+g x).sum=(G.map f).sum+(G.map g).sum
 | []=>rfl
 |x::r=>by simp only[Zba,Zdv,U6 f g r];omega
theorem Hg {α:Type} :∀G:List α,(G.map fun _=> (0:Int)).sum=0
 | []=>rfl
 |x::r=>by simp only[Zba,Zdv,Hg r];rfl
def fF (q:aE):Int×Int:=(q.1,q.2.1)
def cs (l:List aE)(a b:Int):Nat:=l.countP fun q=>decide (fF q=(a,b))
def mt (xs:List V)(l o:Nat)(b:Int):Bool:=match rowAt xs l with
 |some r=>decide (rowAt xs o=some (r+b))
 |none=>false
theorem Ak (xs:List V)(o a:Nat)(b:Int)(ha:0<a):∀j,j<=o->cs (js xs o j) a b=if a<=o/\o-a<j/\mt xs (o-a) o b=true then 1 else 0
 |0,_=>by rw[Zaz .o];rfl
 |j+1,h=>by
  rw[U7];unfold cs;rw[Ze6];have ih:=Ak xs o a b ha j .o;unfold cs at ih;rw[ih];by_cases z:a<=o/\o-a=j
  ·have n1:¬(a<=o/\o-a<j/\mt xs (o-a) o b=true):=.o;rw[Zaz n1,z.2,ZeY];have e:iD xs o j=(rowAt xs j).bind fun a=> (rowAt xs o).map fun b=> ((o:Int)-j,b-a,(j:Int),(o:Int)):=rfl;rw[e];unfold mt;cases hr:rowAt xs j with
   |none=>rw[Zaz (by simp)];rfl
   |some r=>
    cases ho:rowAt xs o with
    |none=>rw[Zaz (by simp)];rfl
    |some r'=>
     have e2:(Option.map (fun b=> ((o:Int)-j,b-r,(j:Int),(o:Int))) (some r')).toList=[((o:Int)-j,r'-r,(j:Int),(o:Int))]:=rfl;simp only[Option.bind_some,Zd7,Option.toList_some,Zdh,List.countP_nil];unfold fF;by_cases y:r'=r+b
     ·rw[ZaQ (by simp only[Zbg,Zdb];omega),ZaQ ⟨z.1,.o,by rw[y];simp⟩]
     ·rw[Zaz (by simp only[Zbg,Zdb];omega),Zaz (by simp;omega)]
  ·have e0:List.countP (fun q=>decide (fF q=((a:Int),b))) (iD xs o j).toList=0:=by
    cases hs:iD xs o j with
    |none=>rfl
    |some q=>have e:iD xs o j=(rowAt xs j).bind fun a=> (rowAt xs o).map fun b=> ((o:Int)-j,b-a,(j:Int),(o:Int)):=rfl;rw[e,Option.bind_eq_some_iff]at hs;obtain⟨r,_,hs⟩:=hs;obtain⟨r',_,rfl⟩:=Zbf.mp hs;simp only[Option.toList_some,Zdh,List.countP_nil];rw[Zaz];unfold fF;simp only[Zbg,Zdb];omega
   rw[e0,ZdV];by_cases y:a<=o/\o-a<j/\mt xs (o-a) o b=true
   ·rw[ZaQ y,ZaQ ⟨y.1,.o,y.2.2⟩]
   ·rw[Zaz y,Zaz fun t=>y ⟨t.1,.o,t.2.2⟩]
theorem FC (l m:List aE)(a b:Int):cs (l++m) a b=cs l a b+cs m a b:=Ze6
theorem Ap (xs:List V)(a:Nat)(b:Int)(ha:0<a):∀n,n<=a->cs (bO xs n) a b=0
 |0,_=>rfl
 |n+1,h=>by rw[Jb,FC,Ap xs a b ha n .o,Ak xs n a b ha n (Zak _),Zaz .o]
theorem Tw {xs:List V}{a m:Nat}{b:Int}(h:m+a<xs.length):f9 xs xs a b m=mt xs m (m+a) b:=by
 unfold f9 mt;cases rowAt xs m with
 |none=>rfl
 |some r=>show(decide (0<=(m:Int)+a)&&decide ((m:Int)+a<xs.length)&&decide (rowAt xs ((m:Int)+a).toNat=some (r+b)))=_;rw[Zaq (show 0<=(m:Int)+a by omega),Zaq (show(m:Int)+a<xs.length by omega),show((m:Int)+a).toNat=m+a by omega];rfl
theorem F0 (xs:List V)(a:Nat)(b:Int)(ha:0<a):∀m,m+a<=xs.length->cs (bO xs (m+a)) a b=gJ xs xs a b m
 |0,_=>by rw[ZeY,Ap xs a b ha a (Zak _)];rfl
 |m+1,h=>by
  rw[show m+1+a=m+a+1 by omega,Jb,FC,F0 xs a b ha m .o,Ak xs (m+a) a b ha _ (Zak _)];show _=gJ xs xs a b m+(if f9 xs xs a b m=true then 1 else 0);rw[Tw .o,show m+a-a=m by omega];by_cases z:mt xs m (m+a) b=true
  ·rw[ZaQ ⟨.o,.o,z⟩,ZaQ z]
  ·rw[Zaz fun t=>z t.2.2,Zaz z]
theorem WY (xs:List V)(a:Nat)(b:Int)(n:Nat)(h:xs.length<=n+a):∀k,gJ xs xs a b (n+k)=gJ xs xs a b n
 |0=>rfl
 |k+1=>by
  show gJ xs xs a b (n+k)+(if f9 xs xs a b (n+k)=true then 1 else 0)=_;rw[WY xs a b n h k,Zaz,ZdV];unfold f9;cases rowAt xs (n+k) with
  |none=>exact Zag
  |some r=>show ¬((decide (0<=((n+k:Nat):Int)+a)&&decide (((n+k:Nat):Int)+a<xs.length)&&decide (rowAt xs (((n+k:Nat):Int)+a).toNat=some (r+b)))=true);rw[ZaF (show ¬(((n+k:Nat):Int)+a<xs.length) by omega),ZeI,Zfl];exact Zag
theorem FA (xs:List V)(a:Int)(b:Int)(ha:0<a):cs (bO xs xs.length) a b=aC xs xs a b:=by
 obtain⟨n,rfl⟩:=Int.eq_ofNat_of_zero_le (Int.le_of_lt ha);have hn:0<n:=.o;by_cases z:n<=xs.length
 ·have e:=F0 xs n b hn (xs.length-n) .o;rw[show xs.length-n+n=xs.length by omega]at e;rw[e];have f:=WY xs n b (xs.length-n) .o n;rw[show xs.length-n+n=xs.length by omega]at f;exact f.symm
 ·rw[Ap xs n b hn _ .o];have f:=WY xs n b 0 .o xs.length;rw[ZeY]at f;exact f.symm
noncomputable def kD (k:List Int):Option Int:=match k with
 | [a,_,n]=>if 0<a then some (n*(n-1)/2) else none
 |_=>none
def j5 (wd hg:Int)(xs:List V):Int:=((cI wd hg xs xs).filterMap kD).sum
def kA (la lb:Int)(nb:Nat)(n:Nat):List (Int×Int):=(List.range n).flatMap fun(i:Nat)=> (List.range nb).map fun(j:Nat)=> (la+(i:Int),lb+(j:Int))
theorem Jx {la lb:Int}{nb n:Nat}{g:Int×Int} :g∈kA la lb nb n↔∃i j:Nat,i<n/\j<nb/\g=(la+i,lb+j):=by
 unfold kA;rw[ZcJ];constructor
 ·rintro⟨i,hi,h⟩;obtain⟨j,hj,rfl⟩:=ZaN.mp h;exact⟨i,j,Za6.mp hi,Za6.mp hj,rfl⟩
 ·rintro⟨i,j,hi,hj,rfl⟩;exact⟨i,Za6.mpr hi,ZaN.mpr ⟨j,Za6.mpr hj,rfl⟩⟩
theorem JP (la lb:Int)(nb n:Nat):kA la lb nb (n+1)=kA la lb nb n++(List.range nb).map fun(j:Nat)=> (la+(n:Int),lb+(j:Int)):=by unfold kA;rw[ZbF,ZcL];simp
theorem Wt (la lb:Int)(nb:Nat):∀n,(kA la lb nb n).Nodup
 |0=>Zfm
 |n+1=>by
  rw[JP];refine Zdj.mpr ⟨Wt la lb nb n,?_,?_⟩
  ·refine ZaU.mpr (Zb0.mpr ((ZaU.mp Zdr).imp fun {i j} h e=>h ?_));have:=ZcE Prod.snd e;simp only at this;omega
  ·intro x hx y hy e;obtain⟨i,j,hi,_,rfl⟩:=Jx.mp hx;obtain⟨j',_,rfl⟩:=ZaN.mp hy;have:=ZcE Prod.fst e;simp only at this;omega
def wt (xs:List V)(g:Int×Int):Int:=if 0<g.1 then c2 (aC xs xs g.1 g.2) else 0
theorem Gn (xs:List V)(a lo:Int):∀n,((gX xs xs a lo n).filterMap kD).sum=(((List.range n).map fun(j:Nat)=> (a,lo+(j:Int))).map (wt xs)).sum
 |0=>rfl
 |n+1=>by
  rw[JI,ZbO,ZdM,Gn xs a lo n,ZbF,ZaV,ZaV,ZdM];refine ZcE _ ?_;show _=wt xs (a,lo+n)+0;rw[ZgZ];unfold wt;by_cases z:0<aC xs xs a (lo+n)
  ·rw[ZaQ z];by_cases p:0<a
   ·have e:kD [a,lo+n,(aC xs xs a (lo+n):Int)]=some (c2 (aC xs xs a (lo+n))):=by show(if 0<a then some ((aC xs xs a (lo+n):Int)*((aC xs xs a (lo+n):Int)-1)/2) else none)=_;rw[ZaQ p];rfl
    rw[ZeZ e,ZaQ p];simp
   ·have e:kD [a,lo+n,(aC xs xs a (lo+n):Int)]=none:=Zaz p;rw[Ze0 e,Zaz p];rfl
  ·rw[Zaz z];have h0:aC xs xs a (lo+n)=0:=.o;show(0:Int)=_;simp only[h0];split<;>rfl
theorem Gx (xs:List V)(la lb:Int)(nb:Nat):∀n,((jO xs xs la lb nb n).filterMap kD).sum=((kA la lb nb n).map (wt xs)).sum
 |0=>rfl
 |n+1=>by rw[Y6,ZbO,ZdM,Gx xs la lb nb n,Gn,JP,ZaV,ZdM]
theorem Ww {xs:List V}{q:aE} :∀{n:Nat},q∈bO xs n->∃l o:Nat,l<o/\o<n/\∃r r',rowAt xs l=some r/\rowAt xs o=some r'/\q=((o:Int)-l,r'-r,(l:Int),(o:Int)):=fun {n} h=>by unfold bO js at h;obtain⟨o,ho,h⟩:=ZcJ.mp h;obtain⟨l,hl,h⟩:=Zcq.mp h;unfold iD at h;obtain⟨r,hr,h⟩:=Option.bind_eq_some_iff.mp h;obtain⟨r',br,rfl⟩:=Zbf.mp h;exact⟨l,o,Za6.mp hl,Za6.mp ho,r,r',hr,br,rfl⟩
theorem Gm {f:List Int->Option Int}{W:Int×Int->Int}{xs ys:List V}(h1:∀a b,0<aC xs ys a b->(f [a,b,(aC xs ys a b:Int)]).getD 0=W (a,b))(h0:∀a b,aC xs ys a b=0->W (a,b)=0)(a lo:Int):
  ∀n,((gX xs ys a lo n).filterMap f).sum=(((List.range n).map fun(j:Nat)=> (a,lo+(j:Int))).map W).sum
 |0=>rfl
 |n+1=>by
  rw[JI,ZbO,ZdM,Gm h1 h0 a lo n,ZbF,ZaV,ZaV,ZdM];refine ZcE _ ?_;show _=W (a,lo+n)+0;rw[ZgZ];by_cases z:0<aC xs ys a (lo+n)
  ·rw[ZaQ z,<-h1 a (lo+n) z];cases e:f [a,lo+n,(aC xs ys a (lo+n):Int)] with
   |none=>rw[Ze0 e];rfl
   |some v=>rw[ZeZ e];simp
  ·rw[Zaz z,h0 a (lo+n) .o];rfl
theorem AU {f:List Int->Option Int}{W:Int×Int->Int}{xs ys:List V}(h1:∀a b,0<aC xs ys a b->(f [a,b,(aC xs ys a b:Int)]).getD 0=W (a,b))(h0:∀a b,aC xs ys a b=0->W (a,b)=0)(la lb:Int)(nb:Nat):
  ∀n,((jO xs ys la lb nb n).filterMap f).sum=((kA la lb nb n).map W).sum
 |0=>rfl
 |n+1=>by rw[Y6,ZbO,ZdM,AU h1 h0 la lb nb n,Gm h1 h0,JP,ZaV,ZdM]
def th (k:List Int):Option Int:=match k with
 | [_,_,n]=>some n
 |_=>none
noncomputable def l9 (k:List Int):Option Int:=match k with
 | [a,b,n]=>if ([a,b]:List Int)=[0,0] then none else some n
 |_=>none
abbrev gr (wd hg:Int):List (Int×Int):=kA (1-wd) (1-hg) (2*hg-1).toNat (2*wd-1).toNat
theorem Hf {α β:Type}(f:α->β->Int):∀(ps:List α) (qs:List β),(ps.map fun p=> (qs.map fun q=>f p q).sum).sum=(qs.map fun q=> (ps.map fun p=>f p q).sum).sum
 | [],qs=>by show(0:Int)=_;rw[show(qs.map fun q=> (([]:List α).map fun p=>f p q).sum)=qs.map fun _=> (0:Int) from rfl,Hg]
 |p::ps,qs=>by rw[Zba,Zdv,Hf f ps qs,<-U6];rfl
theorem FZ {α:Type}(P:α->Bool):∀l:List α,((l.countP P:Nat):Int)=(l.map fun x=>if P x=true then (1:Int) else 0).sum
 | []=>rfl
 |x::r=>by
  rw[Zdh,Zba,Zdv,<-FZ P r];by_cases h:P x=true
  ·rw[ZaQ h,ZaQ h];omega
  ·rw[Zaz h,Zaz h];omega
theorem Wv (ps qs:List (Int×Int))(a b:Int):((cK (allM ps qs) [Sum.inl a,Sum.inl b]:Nat):Int)=(ps.map fun p=> (qs.map fun q=>if q.1-p.1=a/\q.2-p.2=b then (1:Int) else 0).sum).sum:=by
 unfold cK allM
 induction ps with
 |nil=>rfl
 |cons p ps ih=>
  rw[Zb5,Ze6,Zba,Zdv,<-ih,Int.natCast_add,FZ,ZcG];refine ZcE (· +_) (ZcE List.sum (List.map_congr_left fun q _=> ?_));show(if decide (cY p q=[Sum.inl a,Sum.inl b])=true then (1:Int) else 0)=_;unfold cY;by_cases z:q.1-p.1=a/\q.2-p.2=b
  ·rw[ZaQ z,ZaQ (by rw[z.1,z.2];exact Zaq rfl)]
  ·rw[Zaz z,Zaz fun t=>z ?_];have t:=Zbt t;simp only[ZcO,Sum.inl.injEq,ZfW]at t;exact t
theorem WX (xs ys:List V)(a b:Int):aC xs ys a b=aC ys xs (0-a) (0-b):=by
 have e1:=Wv (aj xs) (aj ys) a b;have e2:=Wv (aj ys) (aj xs) (0-a) (0-b);rw[YC]at e1 e2;rw[Hf]at e1;have:((aj ys).map fun q=> ((aj xs).map fun p=>if q.1-p.1=a/\q.2-p.2=b then (1:Int) else 0).sum)=(aj ys).map fun p=> ((aj xs).map fun q=>if q.1-p.1=0-a/\q.2-p.2=0-b then (1:Int) else 0).sum:=List.map_congr_left fun q _=>ZcE List.sum (List.map_congr_left fun p _=>by
  by_cases z:q.1-p.1=a/\q.2-p.2=b
  ·rw[ZaQ z,ZaQ .o]
  ·rw[Zaz z,Zaz .o])
 rw[this,<-e2]at e1;omega
theorem GD (xs:List V)(b:Int)(h:b≠0):aC xs xs 0 b=0:=by
 have key:∀n,gJ xs xs 0 b n=0:=fun n=>by
  induction n with
  |zero=>rfl
  |succ n ih=>
   show gJ xs xs 0 b n+(if f9 xs xs 0 b n=true then 1 else 0)=0;rw[ih,Zaz];unfold f9;cases e:rowAt xs n with
   |none=>exact Zag
   |some r=>show ¬((decide (0<=(n:Int)+0)&&decide ((n:Int)+0<xs.length)&&decide (rowAt xs ((n:Int)+0).toNat=some (r+b)))=true);rw[ZgZ,Zbu,e,ZaF (show ¬(some r=some (r+b)) from fun t=>h (by have:=Zbh t;omega)),ZeI];exact Zag
 exact key _
theorem XU (xs ys:List V)(a b:Int):aC xs ys a b<=(aj xs).length:=by
 have key:∀n,gJ xs ys a b n<=(qq xs n).length:=fun n=>by
  induction n with
  |zero=>exact Zak _
  |succ n ih=>
   show gJ xs ys a b n+(if f9 xs ys a b n=true then 1 else 0)<=_;rw[UA,Zaj];refine Nat.add_le_add ih ?_;unfold f9;cases e:rowAt xs n with
   |none=>exact Zak _
   |some r=>have le:∀c:Bool,(if c=true then 1 else 0)<=1:=.d;exact le _
 exact key xs.length
theorem WL {wd hg:Int}{g:Int×Int} :g∈gr wd hg↔(1-wd<=g.1/\g.1<=wd-1)/\1-hg<=g.2/\g.2<=hg-1:=by
 unfold gr;rw[Jx];obtain⟨x,y⟩:=g;constructor
 ·rintro⟨i,j,hi,hj,e⟩;rw[Zdb]at e;simp only;omega
 ·rintro⟨⟨h1,h2⟩,h3,h4⟩;simp only at h1 h2 h3 h4;exact⟨(x-(1-wd)).toNat,(y-(1-hg)).toNat,.o,.o,by rw[Zdb];omega⟩
theorem V0 (wd hg:Int)(w1:1<=wd)(g1:1<=hg):((gr wd hg).map fun g=> (0-g.1,0-g.2)).Perm (gr wd hg):=by
 have nd:=Wt (1-wd) (1-hg) (2*hg-1).toNat (2*wd-1).toNat;refine(Zca ?_ nd).mpr fun g=> ?_
 ·refine ZaU.mpr (Zb0.mpr ((ZaU.mp nd).imp fun {a b} h e=>h ?_));have e1:=ZcE Prod.fst e;have e2:=ZcE Prod.snd e;simp only at e1 e2;exact Zeh .o .o
 ·rw[ZaN,WL];constructor
  ·rintro⟨x,hx,rfl⟩;have:=WL.mp hx;dsimp only;omega
  ·intro h;exact⟨(0-g.1,0-g.2),WL.mpr (by dsimp only;omega),Zeh (by dsimp only;omega) (by dsimp only;omega)⟩
theorem Jo {l m:List Int}(p:l.Perm m):l.sum=m.sum:=by
 induction p with
 |nil=>rfl
 |cons x _ ih=>rw[Zdv,Zdv,ih]
 |swap x y l=>simp only[Zdv];omega
 |trans _ _ a b=>exact a.trans b
theorem Zcj {wd hg:Int}{xs:List V}(w1:1<=wd)(g1:1<=hg):2*j5 wd hg xs=(((cI wd hg xs xs).filterMap l9).map fun n=>n*(n-1)/2).sum:=by
 have e1:j5 wd hg xs=((gr wd hg).map (wt xs)).sum:=by unfold j5 cI;exact Gx _ _ _ _ _
 have e2:(((cI wd hg xs xs).filterMap l9).map fun n=>n*(n-1)/2)=(cI wd hg xs xs).filterMap fun k=> (l9 k).map fun n=>n*(n-1)/2:=by rw[List.map_filterMap]
 have e3:((cI wd hg xs xs).filterMap fun k=> (l9 k).map fun n=>n*(n-1)/2).sum=((gr wd hg).map fun g=>wt xs g+wt xs (0-g.1,0-g.2)).sum:=by
  unfold cI;refine AU (fun a b h=> ?_) (fun a b h=> ?_) _ _ _ _
  ·show((if ([a,b]:List Int)=[0,0] then none else some (aC xs xs a b:Int)).map fun n=>n*(n-1)/2).getD 0=(if 0<a then c2 (aC xs xs a b) else 0)+(if 0<0-a then c2 (aC xs xs (0-a) (0-b)) else 0);rw[<-WX];by_cases z:([a,b]:List Int)=[0,0]
   ·rw[ZaQ z];simp only[ZcO,ZfW]at z;rw[Zaz .o,Zaz .o];rfl
   ·rw[Zaz z];simp only[ZcO,ZfW]at z;have a0:a≠0:=fun t=>by subst t;rw[GD xs b .o]at h;omega
    show c2 (aC xs xs a b)=_;by_cases y:0<a
    ·rw[ZaQ y,Zaz .o,ZgZ]
    ·rw[Zaz y,ZaQ .o,ZeF]
  ·show(if 0<a then c2 (aC xs xs a b) else 0)+(if 0<0-a then c2 (aC xs xs (0-a) (0-b)) else 0)=0;rw[<-WX,h];split<;>split<;>rfl
 rw[e2,e3,U6];have e4:((gr wd hg).map fun g=>wt xs (0-g.1,0-g.2)).sum=((gr wd hg).map (wt xs)).sum:=by have p:=Jo ((V0 wd hg w1 g1).map (wt xs));rw[ZcG]at p;exact p
 rw[e4,<-e1];omega
theorem R6 {l:List aE}{P:aE->Bool} :l.Nodup->1<l.countP P->∃a∈l,∃b∈l,a≠b/\P a=true/\P b=true:=fun nd h=>by
 rw[ZfF]at h
 match e:l.filter P,h with
 |a::b::r,_=>
  have ma:a∈l.filter P:=by rw[e];exact Zaf
  have mb:b∈l.filter P:=by rw[e];exact Zae _ Zaf
  have Df:(l.filter P).Nodup:=nd.filter _;rw[e]at Df;exact⟨a,(ZaZ.mp ma).1,b,(ZaZ.mp mb).1,fun z=> (Zcm.mp Df).1 (by rw[z];exact Zaf),(ZaZ.mp ma).2,(ZaZ.mp mb).2⟩
 | [],h=>simp at h
 | [_],h=>simp at h
theorem Sd {l:List aE}{P:aE->Bool}{a b:aE}(ha:a∈l)(hb:b∈l)(n:a≠b)(pa:P a=true)(pb:P b=true):1<l.countP P:=by
 rw[ZfF];have ma:=ZaZ.mpr ⟨ha,pa⟩;have mb:=ZaZ.mpr ⟨hb,pb⟩
 match e:l.filter P with
 | []=>rw[e]at ma;cases ma
 | [x]=>rw[e]at ma mb;exact absurd ((Zas.mp ma).trans (Zas.mp mb).symm) n
 |x::y::r=>simp
theorem W3 {wd hg:Int}{xs:List V}{r:Option aE}(ly:cA wd hg xs)(w1:1<=wd)(g1:1<=hg)(h:jk (bO xs xs.length) r):r.isNone=(((cI wd hg xs xs).filterMap l9).filter fun n=>decide (1<n)).isEmpty:=by
 have two:(∃n∈(cI wd hg xs xs).filterMap l9,1<n)↔∃a∈bO xs xs.length,∃b∈bO xs xs.length,cD a b/\a≠b:=by
  constructor
  ·rintro⟨n,hn,h1⟩;obtain⟨k,hk,e⟩:=Zcq.mp hn;obtain⟨i,j,hi,hj,pos,rfl⟩:=Yg.mp hk;generalize 1-wd+(i:Int)=a at *
   generalize 1-hg+(j:Int)=b at *
   have e:(if ([a,b]:List Int)=[0,0] then none else some (aC xs xs a b:Int))=some n:=e;by_cases z:([a,b]:List Int)=[0,0]
   ·rw[ZaQ z]at e;cases e
   ·rw[Zaz z]at e;have e:=Zbh e;simp only[ZcO,ZfW]at z;have a0:a≠0:=fun t=>by subst t;rw[GD xs b .o]at pos;omega
    have fin:∀a b:Int,0<a->1<aC xs xs a b->∃a∈bO xs xs.length,∃b∈bO xs xs.length,cD a b/\a≠b:=fun a b ha hh=>by rw[<-FA xs a b ha]at hh;obtain⟨p,hp,q,hq,ne,p1,q1⟩:=R6 (JL xs _) hh;have p1:fF p=(a,b):=Zbt p1;have q1:fF q=(a,b):=Zbt q1;have pq:fF p=fF q:=p1.trans q1.symm;exact⟨p,hp,q,hq,⟨show(fF p).1=(fF q).1 from ZcE Prod.fst pq,show(fF p).2=(fF q).2 from ZcE Prod.snd pq⟩,ne⟩
    by_cases y:0<a
    ·exact fin a b y .o
    ·exact fin (0-a) (0-b) .o (by rw[<-WX];omega)
  ·rintro⟨p,hp,q,hq,s,ne⟩;obtain⟨l,o,DX,ho,r1,r2,lP,eV,ep⟩:=Ww hp;have ps:fF p=((o:Int)-l,r2-r1):=by rw[ep];rfl
   have qs:fF q=((o:Int)-l,r2-r1):=by rw[<-ps];exact Zeh s.1.symm s.2.symm
   have c:=Sd (P:=fun q=>decide (fF q=((o:Int)-l,r2-r1))) hp hq ne (Zaq ps) (Zaq qs);have c:1<cs (bO xs xs.length) ((o:Int)-l) (r2-r1):=c;rw[FA xs _ _ .o]at c;have len:=ly.len;have p1:=vA ly (AR.mpr ⟨.o,.o,by rw[Zbu];exact lP⟩:(((l:Nat):Int),r1)∈aj xs);have p2:=vA ly (AR.mpr ⟨.o,.o,by rw[Zbu];exact eV⟩:(((o:Nat):Int),r2)∈aj xs);simp only at p1 p2;have m:[(o:Int)-l,r2-r1,(aC xs xs ((o:Int)-l) (r2-r1):Int)]∈cI wd hg xs xs:=Yg.mpr ⟨((o:Int)-l-(1-wd)).toNat,(r2-r1-(1-hg)).toNat,.o,.o,by
    rw[show 1-wd+(((o:Int)-l-(1-wd)).toNat:Int)=(o:Int)-l by omega,show 1-hg+((r2-r1-(1-hg)).toNat:Int)=r2-r1 by omega];omega,by
    rw[show 1-wd+(((o:Int)-l-(1-wd)).toNat:Int)=(o:Int)-l by omega,show 1-hg+((r2-r1-(1-hg)).toNat:Int)=r2-r1 by omega]⟩
   refine⟨(aC xs xs ((o:Int)-l) (r2-r1):Int),Zcq.mpr ⟨_,m,?_⟩,.o⟩;show(if ([(o:Int)-l,r2-r1]:List Int)=[0,0] then none else some _)=_;rw[Zaz];simp only[ZcO,ZfW];omega
 have apart:∀a∈bO xs xs.length,∀b∈bO xs xs.length,cD a b->a≠b->fL a b=true∨fL b a=true:=fun a ha b hb s ne=>by
  obtain⟨l,o,DX,ho,r1,r2,lP,eV,rfl⟩:=Ww ha;obtain⟨l',o',aaY,cQ,yd,r2',DL,DK,rfl⟩:=Ww hb;have s1:(o:Int)-l=(o':Int)-l':=s.1;have nl:l≠l':=fun z=>ne (by subst z;have:o=o':=.o;subst this;rw[lP]at DL;cases DL;rw[eV]at DK;cases DK;rfl)
  rcases Nat.lt_or_gt_of_ne nl with z |z
  ·exact .inl (Wq (by show(l:Int)<l';omega))
  ·exact .inr (Wq (by show(l':Int)<l;omega))
 cases r with
 |none=>
  have h':∀a∈bO xs xs.length,∀b∈bO xs xs.length,cD a b->fL a b=false:=h;symm;show List.isEmpty _=true;rw[ZgD];refine Zdf.mpr fun n hn t=> ?_;obtain⟨a,ha,b,hb,s,ne⟩:=two.mp ⟨n,hn,Zbt t⟩;rcases apart a ha b hb s ne with z |z
  ·rw[h' a ha b hb s]at z;cases z
  ·rw[h' b hb a ha ⟨s.1.symm,s.2.symm⟩]at z;cases z
 |some k=>
  obtain⟨⟨a,ha,b,hb,s,lt,_⟩,_⟩:=h;have ne:a≠b:=fun z=>by
   subst z;have lt:ar [a.2.2.1,a.2.2.2] [a.2.2.1,a.2.2.2]=true:=lt;rw[Yl,Yl,YT]at lt;rcases lt with z |⟨_,z |⟨_,z⟩⟩
   ·exact absurd z (Int.lt_irrefl _)
   ·exact absurd z (Int.lt_irrefl _)
   ·exact z
  obtain⟨n,hn,h1⟩:=two.mpr ⟨a,ha,b,hb,s,ne⟩;symm;show List.isEmpty _=false;rw[Zf9];intro t;have:=ZgD.mp t;exact absurd (Zdf.mp this n hn) (by simpa using h1)
section
abbrev xG:Stmt:=top 52
inductive Cb (vs:List V) (H:Hp) (Q:VK) (_:XK):Prop
 |mk (x y wd hg xs:_) (_:vs=[x,y]) (_:bt H x y wd hg xs) (_:∀(H':Hp),ag H H'->Q (.int (j5 wd hg xs)) H')
theorem KH:aM ["board", "lay"] ["board", "lay"] (ax xG):=Zr (by decide+kernel)
theorem SS {H:Hp}{ts:List V}{wd hg:Int}{xs ys:List V}(pr:Paired (bw H) ts (cI wd hg xs ys)){i:Nat}{v:V}(h:ts[i]? =some v):∃(t:Addr) (a b:Int) (n:Nat),v=.ref t/\H t=some (.tup [.int a,.int b,.int n])/\(cI wd hg xs ys)[i]? =some [a,b,(n:Int)]/\n=aC xs ys a b/\n<=xs.length:=by obtain⟨k,hk,t,rfl,ht⟩:=ZV pr h;obtain⟨i',j',_,_,_,rfl⟩:=Yg.mp (ZaD hk);exact⟨t,_,_,_,rfl,ht,hk,rfl,Zbi (XU xs ys _ _) (mQ xs)⟩
theorem RZ {wd hg:Int}{xs ys:List V}(w1:1<=wd)(w2:wd<=12)(g1:1<=hg)(g2:hg<=12):(cI wd hg xs ys).length<=529:=by have b:=G6 xs ys (1-wd) (1-hg) (2*hg-1).toNat (2*wd-1).toNat;have:(2*wd-1).toNat*(2*hg-1).toNat<=23*23:=Zf5 .o .o;exact Zbi b this
theorem TN {α:Type}{f:List Int->Option α}{ks:List (List Int)}{i:Nat}{k:List Int}(h:ks[i]? =some k):(ks.take (i+1)).filterMap f=(ks.take i).filterMap f++(f k).toList:=by
 rw[Za2,h,ZbO];refine ZcE _ ?_;show List.filterMap f [k]=_;cases e:f k with
 |none=>rw[Ze0 e];rfl
 |some v=>rw[ZeZ e];rfl
theorem Rg {α:Type}(f:List Int->Option α)(ks:List (List Int))(i:Nat):((ks.take i).filterMap f).length<=i:=Zbi (Zdl _ _) (by rw[ZaR];exact Nat.min_le_left _ _)
theorem RP (F:aH K "like_many" "like_many" xG f fd)(G:Gs mg)(D1:Def P w K mg base 9 "all_hits" ["board", "lay"] Cj):ay P w K mg base az 10 f fd ["board", "lay"] Cb:=by
 refine F.ok KH (fun vs H Q E h=> ?_) (fun ao A outer s H vs Q E hr h=> ?_)
 ·obtain⟨x,y,wd,hg,xs,rfl,_⟩:=h;rfl
 ·obtain⟨x,y,wd,hg,xs,rfl,la,q⟩:=h;refine⟨_,Zg (Zm (Zo G1 rfl G.sum boot_sum (Za (ZM ["right", "up", "many"] 3 [] (Zw (Zc D1 hr (Za (pv 0) (Za (pv 1) Zb))))
    (fun C s H fp=>show PG (aU _ _ _ C s H fp) _ (gK K 3 (bX (bE 0) (bX (bE 1) (bX (bE 2) gM)))) from ZI rfl (Zj (pb 0) (Zj (pb 1) (Zj (pb 2) Zz)))) (fun C s H fp=>Ye (Zq vx (pv 0) Zf (bR _)))
    (fun C s H fp D=>cc rfl (Zp AM (Zp YO (pv 2) (Zp Z7 (pv 2) Zf)) Zf))) Zb))),?_⟩
  try dsimp only[aP]
  obtain⟨_,w1,w2,g1,g2⟩:=id la.1;have len:=la.2.2.len;refine⟨_,rfl,_,rfl,x,y,wd,hg,xs,rfl,la,fun L H1 ts s1 n1 e1 oB=> ⟨L,rfl,⟨_,ai.of e1⟩,?_⟩⟩;have al:=RZ (xs:=xs) (ys:=xs) w1 w2 g1 g2;have lt:ts.length<=529:=by rw[Za0 oB];exact al
  refine Zy (xs:=ts) (fun i ys σ H'=>ys=(((cI wd hg xs xs).take i).filterMap kD).map V.int/\ag H1 H'/\∃a b c,σ=[a,b,c]) ⟨rfl,ag.refl _,none,none,none,rfl⟩ (fun i ys σ H' _ ae=>by obtain⟨_,s',_⟩:=ae;exact ai.of (s' _ _ e1)) ?_ ?_
  ·rintro i v ys σ H' hv ⟨rfl,s',a0,b0,c0,rfl⟩;have hi:=(Zaa.mp hv).1;obtain⟨t,a,b,n,rfl,ht,hk,_,hn⟩:=SS oB hv;have fl:=Rg kD (cI wd hg xs xs) i;refine⟨t,_,rfl,ab.of (s' _ _ ht),rfl,_,_,rfl,_,_,rfl,_,_,rfl,rfl,?_⟩;dsimp only[List.set];refine⟨_,rfl,_,_,rfl,rfl,_,rfl,?_⟩;rw[TN hk];have ef:kD [a,b,(n:Int)]=if 0<a then some ((n:Int)*((n:Int)-1)/2) else none:=rfl
   rw[ef];by_cases z:0<a
   ·rw[Zaq z,ZaQ z,ZaV];exact aX ⟨_,rfl,_,rfl,_,_,rfl,rfl,_,_,rfl,rfl,.inl ⟨.o,.o⟩,_,_,rfl,rfl,⟨.d,.d⟩,by rw[Zal,ZaX];omega,rfl,s',_,_,_,rfl⟩
   ·rw[ZaF z,Zaz z,ZaV];exact aI ⟨by simp,s',_,_,_,rfl⟩
  rintro ys σ H' ⟨rfl,s',a0,b0,c0,rfl⟩ L' Ph;rw[Za0 oB,Zbe];have sL:=bh (o:=.lst (((cI wd hg xs xs).filterMap kD).map V.int)) Ph;exact⟨L',_,rfl,ai.of Zd,q _ (s1.trans (s'.trans sL))⟩
end
end U
namespace U.K
open PySem L2 PyProof.Rows PyProof.Rows.dc
def iV:V->Int
 | .int i=>i
 |_=> -1
def jB (n:Nat):List V:=List.replicate n .ah
def gm (n:Nat):List (List Int):=(U.S.dU n (jB n) n).map fun b=>b.map iV
def fV (n:Nat)(q:Bool×Bool×Bool)(x:List Int):List Int:=(T.bH n n q (x.map V.int)).map iV
def eQ (n:Nat)(x:List Int):List Int:=T.aW.foldl (fun b q=>if ar (fV n q x) b=true then fV n q x else b) (fV n (false,false,false) x)
def gq (n:Nat)(x:List Int):Nat:=qE (T.aW.map fun q=>fV n q x)
def yg (n:Nat)(x:List Int):List (List Int×List Int):=T.aW.map fun q=> ([T.tW n n q,T.tH n n q],fV n q x)
noncomputable def ER (n:Nat)(x:List Int):Bool:=
 decide (bu n n (some (x.map V.int))=true)&&decide (x≠[])&&
 (T.aW.all fun q=>decide (T.bH n n q (x.map V.int)=(fV n q x).map V.int)&&decide (T.tW n n q=n)&&decide (T.tH n n q=n)&& !ar (fV n q x) (eQ n x))&&
 (T.aW.any fun q=>decide (fV n q x=eQ n x))&&decide (eQ n x∈gm n)&&decide (gq n (eQ n x)=gq n x)&&decide (yA (yg n x)=gq n x)
theorem W4:∀n∈[1,2,3,4,5],(gm n).length<63/\∀x∈gm n,ER n x=true:=by decide+kernel
theorem PH {n:Nat} :U.S.dU n (jB n) n=(gm n).map fun x=>x.map V.int:=by unfold gm;rw[ZcG];refine(List.map_id _).symm.trans (List.map_congr_left fun b hb=> ?_);obtain⟨_,_,ks,rfl⟩:=U.S.o6 n (jB n) n b hb;show ks.map V.int=((ks.map V.int).map iV).map V.int;rw[ZcG,ZcG];rfl
structure Bd (n:Nat)(x:List Int):Prop where
 ly:bu n n (some (x.map V.int))=true
 ne:x≠[]
 tr:∀q,T.bH n n q (x.map V.int)=(fV n q x).map V.int
 w:∀q,T.tW n n q=n
 h:∀q,T.tH n n q=n
 le:∀q,ar (fV n q x) (eQ n x)=false
 ex:∃q,fV n q x=eQ n x
 mem:eQ n x∈gm n
 cnt:gq n (eQ n x)=gq n x
 pr:yA (yg n x)=gq n x
def pC (n:Nat):Prop:=1<=n/\n<=5
theorem AW {n:Nat}(h:pC n):n∈[1,2,3,4,5]:=by obtain⟨h1,h2⟩:=h;rcases (by omega:n=1∨n=2∨n=3∨n=4∨n=5) with rfl |rfl |rfl |rfl |rfl<;>decide
theorem o8 {n:Nat}(h:pC n){x:List Int}(hx:x∈gm n):Bd n x:=by have f:=(W4 n (AW h)).2 x hx;unfold ER at f;simp only[Za5,Zbg,Zbd,ZdD,ZcR]at f;obtain⟨⟨⟨⟨⟨⟨f1,f2⟩,f3⟩,f4⟩,f5⟩,f6⟩,f7⟩:=f;obtain⟨q,_,hq⟩:=f4;exact⟨f1,f2,fun q=> (f3 q (T.mf q)).1.1.1,fun q=> (f3 q (T.mf q)).1.1.2,fun q=> (f3 q (T.mf q)).1.2,fun q=> (f3 q (T.mf q)).2,⟨q,hq⟩,f5,f6,f7⟩
theorem Sv (l:List Int):(l.map V.int).map T.dE=l:=by rw[ZcG];exact(List.map_congr_left fun _ _=>rfl).trans (List.map_id _)
theorem Xr {a b:Int}{l m:List Int} :ar (a::b::l) (a::b::m)=ar l m:=by show(if a=a then (if b=b then ar l m else decide (b<b)) else decide (a<a))=_;rw[ZaQ rfl,ZaQ rfl]
theorem Dp {n:Nat}{x:List Int}{q:Bool×Bool×Bool}(f:Bd n x)(h:∀p,ar (T.eR n n (x.map V.int) p) (T.eR n n (x.map V.int) q)=false):fV n q x=eQ n x:=by
 have hk:∀p,T.eR n n (x.map V.int) p=(n:Int)::(n:Int)::fV n p x:=fun p=>by unfold T.eR;rw[f.w p,f.h p,f.tr p,Sv]
 obtain⟨p,hp⟩:=f.ex;have h1:=h p;rw[hk,hk,Xr,hp]at h1;exact Y4 _ _ (f.le q) h1
structure mq (n:Nat)(ks:List (List Int)):Prop where
 nd:ks.Nodup
 so:ks.Pairwise (fun a b=>ar b a=false)
 mem:∀k,k∈ks↔∃x∈gm n,eQ n x=k
theorem Uu:∀{a b:List (List Int)},a.Nodup->b.Nodup->a.Pairwise (fun a b=>ar b a=false)->b.Pairwise (fun a b=>ar b a=false)->(∀k,k∈a↔k∈b)->a=b
 | [],[],_,_,_,_,_=>rfl
 | [],y::b,_,_,_,_,h=>absurd ((h y).mpr Zaf) (by simp)
 |x::a,[],_,_,_,_,h=>absurd ((h x).mp Zaf) (by simp)
 |x::a,y::b,n1,n2,p1,p2,h=>by
  obtain⟨n3,n4⟩:=Zcm.mp n1;obtain⟨n5,n6⟩:=Zcm.mp n2;obtain⟨p3,p4⟩:=ZbG.mp p1;obtain⟨p5,p6⟩:=ZbG.mp p2;have e:x=y:=by
   rcases Zav.mp ((h x).mp Zaf) with z |z
   ·exact z
   ·rcases Zav.mp ((h y).mpr Zaf) with z' |z'
    ·exact z'.symm
    ·exact Y4 _ _ (p5 x z) (p3 y z')
  subst e;rw[Uu n4 n6 p4 p6 fun k=> ⟨fun hk=> ?_,fun hk=> ?_⟩]
  ·rcases Zav.mp ((h k).mp (Zae _ hk)) with z |z
   ·exact absurd (z▸hk) n3
   ·exact z
  ·rcases Zav.mp ((h k).mpr (Zae _ hk)) with z |z
   ·exact absurd (z▸hk) n5
   ·exact z
theorem mq.eq {n:Nat}{a b:List (List Int)}(x:mq n a)(y:mq n b):a=b:=Uu x.nd y.nd x.so y.so fun k=> (x.mem k).trans (y.mem k).symm
theorem mq.len {n:Nat}{ks:List (List Int)}(h:pC n)(x:mq n ks):ks.length<63:=by
 have p:=(W4 n (AW h)).1;have:∀(ks l:List (List Int)),ks.Nodup->(∀k∈ks,k∈l)->ks.length<=l.length:=fun ks=>by
  induction ks with
  |nil=>intro l _ _;exact ZaM _
  |cons k ks ih=>intro l nd hs;obtain⟨n1,n2⟩:=Zcm.mp nd;have hk:=hs k Zaf;have:=ih (l.erase k) n2 fun k' aG=> (List.mem_erase_of_ne fun z=>n1 (by rw[<-z];exact aG)).mpr (hs k' (Zae _ aG));have pl:=(List.perm_cons_erase hk).length_eq;rw[Za8]at pl |-;omega
 have:=this ks ((gm n).map (eQ n)) x.nd fun k hk=>by obtain⟨y,hy,e⟩:=(x.mem k).mp hk;exact ZaN.mpr ⟨y,hy,e⟩
 rw[Zal]at this;omega
theorem V2 (n:Nat):cA n n (jB n):=by
 have e:rowsOf (jB n)=[]:=by unfold rowsOf jB;rw[Zdf];intro v hv;rw[(List.mem_replicate.mp hv).2];simp
 refine⟨by unfold jB;rw[Zco],fun r hr=> ?_,?_⟩
 ·rw[e]at hr;cases hr
 ·rw[e];exact .nil
theorem F9 {H H':Hp}{a:Addr}(s:ag H H')(h:H' a=none):H a=none:=by
 cases e:H a with
 |none=>rfl
 |some o=>rw[s _ _ e]at h;cases h
section
variable {cN:Addr}
abbrev xI:Stmt:=top 47
abbrev MM:List Str:=["number", "board"]
theorem Cu:aM MM ["number"] (ax xI):=Zr (by decide+kernel)
inductive tE (vs:List V) (H:Hp) (Q:VK) (_:XK):Prop
 |mk (n:Nat) (_:vs=[.int n]) (_:pC n) (_:∀(q:Addr) (H':Hp) (ts:List V) (ks:List (List Int)),ag H H'->H q=none->H' q=some (.lst ts)->Paired (bw H') ts ks->mq n ks->Q (.ref q) H')
theorem Mn (F:aH K "kinds" "kinds" xI f fd)(G:Gs mg)(Bj:Def P w K mg base 3 "need_whole_within" ["number", "least", "most"] wz)(Daf:Def P w K mg base 13 "all_fits" ["board", "lay"] U.S.Ck)(gQ:Def P w K mg base 10 "least_turned" ["board", "lay"] (T.nZ K)):ay P w K mg base az 14 f fd ["number"] tE:=by
 obtain⟨tk5,hL⟩:=G.MS;refine F.ok Cu (fun vs H Q E h=> ?_) (fun ao A outer s H vs Q E hr h=> ?_)
 ·obtain⟨n,rfl,_⟩:=h;rfl
 ·obtain⟨n,rfl,h5,q⟩:=h;have hu:=rY hr;refine⟨_,Ze (ZP (Zc Bj (hr.mono .d) (Za (pv 0) (Za Zf (Za (Yf (v:=.int 5) rfl hL ⟨_,rfl⟩) Zb)))))
   (Ze (Zu (i:=1) Cu.nd rfl (Or.inr rfl) (Zs (Za (pv 0) (Za (pv 0) Zb))))
   (Zg (Zm (ST.LO ["lay", "board"] 1 [1] rfl G.sorted (Zw (Zc Daf hr (Za (pv 1) (Tc (Zp Gd (Zs (Za YN Zb)) (pv 0)) Zb)))) (fun C s H fp=>pb 0) (fun C s H fp=>ZE)
    (fun C s H fp D=>ST.cc hu rfl (ZB (show mv (aU _ _ _ C s H fp) (oz K) from ZC) (Zc gQ (hr.mono .d) (Za (pv 1) (Za (pv 0) Zb))) Zf (fun _ _=>rfl))))))),?_⟩
  try dsimp only[aP]
  obtain⟨n1,n5⟩:=id h5;refine bg ⟨_,rfl,(n:Int),1,5,rfl,.o,.o,?_⟩;dsimp only;refine bg (bC ⟨_,rfl,_,rfl,bT,fun b hb=>aK ?_⟩);obtain⟨H1,zz,s1,e1⟩:=bV (o:=.tup [V.int n,V.int n]) hb;rw[zz];dsimp only[List.set];refine⟨_,rfl,fE,fun t ht=> ⟨_,rfl,t,(n:Int),[.ah],rfl,rfl,Zd,by simp,.o,.o,by simp;omega,fun c H3 s3 e3=> ?_⟩⟩;have fW:=(U.S.de (o:=.tup [V.ah]) ht).trans s3;rw[Zbu,U.S.tZ]at e3;have bd:∀{H':Hp},ag H1 H'->cJ H' (.ref b) n n:=fun s=> ⟨Zx (s _ _ e1),.o,.o,.o,.o⟩;refine⟨b,c,(n:Int),(n:Int),jB n,rfl,bd fW,e3,V2 n,.o,.o,fun fa H4 ts s4 nf ef pr=> ?_⟩;rw[Zbu,show(jB n).length=n by unfold jB;rw[Zco],PH]at pr;have iM:=Za0 pr;rw[Zal]at iM;have vh:=(W4 n (AW h5)).1;refine⟨fa,rfl,⟨_,ai.of ef⟩,?_⟩;refine Zy (xs:=ts) (fun j ys σ Hj=> ∃as v,ys=ST.enc as/\as.map (·.2)=((gm n).take j).map (eQ n)/\(∀p∈as,Hj p.1=some (.tup (p.2.map V.int))/\p.2≠[])/\ag H4 Hj/\σ=[v,some (.ref b)]) ⟨[],none,rfl,rfl,(fun p hp=>by cases hp),ag.refl _,rfl⟩ (fun j ys σ Hj _ ae=>by obtain⟨_,_,_,_,_,sj,_⟩:=ae;exact ai.of (sj _ _ ef)) ?_ ?_
  ·rintro j y ys σ Hj hy ⟨as,v,rfl,ea,aO,sj,rfl⟩;have hj:=(Zaa.mp hy).1;obtain⟨bx,Eo,t',rfl,et⟩:=ZV pr hy;rw[Zbk]at Eo;obtain⟨x,hx,rfl⟩:=Zbf.mp Eo;have f:=o8 h5 (ZaD hx);refine aK ?_;dsimp only[List.set];refine⟨_,rfl,_,rfl,b,t',x.map V.int,(n:Int),(n:Int),rfl,⟨bd (fW.trans (s4.trans sj)),sj _ _ et,f.ly⟩,fun v' q' H5 s5 led least=> ?_⟩;obtain⟨tp,cb,u,rfl,h1,h2,h3⟩:=led;rw[f.tr q',Dp f least]at h3;have lea:as.length=j:=by have:=ZcE List.length ea;rw[Zal,Zal,ZaR,Zd9 .o]at this;exact this
   have fl:=o8 h5 f.mem;refine⟨tp,_,_,_,rfl,rfl,ab.of h1,ij,as,u,eQ n x,rfl,rfl,h3,fun p hp=>s5 _ _ (aO p hp).1,.o,as++[(u,eQ n x)],_,rfl,?_,fun p hp=> ?_,sj.trans s5,rfl⟩
   ·rw[ZaV,ea,Za2,hx,ZaV];rfl
   ·rcases ZaO.mp hp with hp |hp
    ·exact⟨s5 _ _ (aO p hp).1,(aO p hp).2⟩
    ·rw[Zas.mp hp];exact⟨h3,fl.ne⟩
  ·rintro ys σ Hj ⟨as,v,rfl,ea,aO,sj,rfl⟩;rw[iM,Zbe]at ea;refine⟨as,rfl,aO,fun q' cC cg hq nd mem so qv=> ?_⟩;have sA:=s1.trans (fW.trans (s4.trans sj));have sq:=U.S.de (o:=.lst cC) hq;refine q q' _ cC cg (sA.trans sq) (F9 sA hq) Zd (Paired.ba qv fun _ _ h=>h.same sq) ⟨nd,so,fun k=> ?_⟩;rw[mem k,ea,ZaN]
abbrev mK:Stmt:=top 48
abbrev Dg:List Str:=["number"]
theorem KJ:aM Dg ["number"] (ax mK):=Zr (by decide+kernel)
noncomputable def KL:Scope:=match dX mK with | [.Return (some (.ListComp _ _ sc _)) _]=>sc |_=>ax mK
inductive wI (vs:List V) (H:Hp) (Q:VK) (_:XK):Prop
 |mk (n:Nat) (_:vs=[.int n]) (_:pC n) (_:∀(q:Addr) (H':Hp) (ks:List (List Int)),ag H H'->H q=none->mq n ks->H' q=some (.lst ((ks.map fun k=> (gq n k:Int)).map V.int))->Q (.ref q) H')
theorem Rv {n:Nat}{x:List Int}(f:Bd n x){H:Hp}{v:V}{q:Bool×Bool×Bool}(h:T.eC n n (x.map V.int) H v q):A3 H v ([T.tW n n q,T.tH n n q],fV n q x):=by obtain⟨t,c,u,rfl,h1,h2,h3⟩:=h;obtain⟨c',ec,hc⟩:=Zk h2.1;cases ec;rw[f.tr q]at h3;exact⟨t,c,u,rfl,h1,hc,h3⟩
theorem WE {α β γ:Type}{R:α->β->Prop}{S:α->γ->Prop}{g:β->γ} :∀{xs:List α}{ys:List β},Paired R xs ys->(∀x y,R x y->S x (g y))->Paired S xs (ys.map g)
 |_,_,.nil,_=> .nil
 |_,_,.cons h r,k=> .cons (k _ _ h) (WE r k)
theorem Mm (F:aH K "kinds_many" "kinds_many" mK f fd)(G:Gs mg)(sE:Def P w K mg base 14 "kinds" ["number"] tE)(Dal:Def P w K mg base 9 "all_turned" ["board", "lay"] (T.tF K)):ay P w K mg base az 15 f fd ["number"] wI:=by
 refine F.ok KJ (fun vs H Q E h=> ?_) (fun ao A outer s0 H0 vs Q E hr h=> ?_)
 ·obtain⟨n,rfl,_⟩:=h;rfl
 ·obtain⟨n,rfl,h5,q⟩:=h;have hu:=hr.units;have NH:(A.deeper (envOfC "kinds_many" (ax mK) s0.heap.objs.size f ao)).units+5<cLine:=.o;refine⟨_,Zg (Zm (ZM ["lay", "number"] 1 [0] (Zw (Zc sE hr (Za (pv 0) Zb))) (fun C s H fp=>pb 0) (fun C s H fp=>ZE)
   (fun C s H fp D=>cc rfl (show PE _ _ (BF K _) from Zb9 (X:=aU (ie az P w K mg base Dg "kinds_many" (ax mK) f ao A outer s0 H0 E).jZ ["lay", "number"] KL C s H fp) rfl NH rfl G.len rfl G.set (Zc Dal (hr.mono .d) (Za (Zs (Za (pv 1) (Za (pv 1) Zb))) (Za (pv 0) Zb))))))),?_⟩
  try dsimp only[aP]
  obtain⟨n1,n5⟩:=id h5;refine⟨_,rfl,n,rfl,h5,fun fa H1 ts ks s1 nf ef pr ko=> ?_⟩;have iM:=Za0 pr;have vh:=ko.len h5;refine⟨fa,rfl,⟨_,ai.of ef⟩,?_⟩;refine Zy (xs:=ts) (fun j ys σ Hj=> ∃v,ys=((ks.take j).map fun k=> (gq n k:Int)).map V.int/\ag H1 Hj/\σ=[v,some (.int n)]) ⟨none,rfl,ag.refl _,rfl⟩ (fun j ys σ Hj _ ae=>by obtain⟨_,_,sj,_⟩:=ae;exact ai.of (sj _ _ ef)) ?_ ?_
  ·rintro j y ys σ Hj hy ⟨v,rfl,sj,rfl⟩;have hj:=(Zaa.mp hy).1;obtain⟨k,hk,t,rfl,et⟩:=ZV pr hy;obtain⟨x,hx,e⟩:=(ko.mem k).mp (ZaD hk);have uT:k∈gm n:=by rw[<-e];exact(o8 h5 hx).mem
   have f:=o8 h5 uT;refine aK ?_;dsimp only[List.set];refine⟨_,rfl,_,rfl,bT,fun b hb=> ?_⟩;obtain⟨H2,zz,s2,e2⟩:=bV (o:=.tup [V.int n,V.int n]) hb;rw[zz];refine⟨_,rfl,b,t,k.map V.int,(n:Int),(n:Int),rfl,⟨⟨Zx e2,.o,.o,.o,.o⟩,(sj.trans s2) _ _ et,f.ly⟩,fun L H3 ps s3 e3 bI=> ?_⟩;refine⟨L,ps,yg n k,rfl,ai.of e3,WE bI fun _ _ h=>Rv f h,by rw[Za0 bI];decide,?_⟩;rw[f.pr];refine⟨by rw[Zal,Zal,ZaR,ZaX];omega,_,?_,sj.trans (s2.trans s3),rfl⟩;rw[Za2,hk,ZaV,ZaV];rfl
  ·rintro ys σ Hj ⟨v,rfl,sj,rfl⟩ L hL;rw[iM,Zbe];have sA:=s1.trans sj;exact q L _ ks (sA.trans (U.S.de hL)) (F9 sA hL) ko Zd
end
end U.K
namespace U.Z
open PySem L2 PyProof.Rows PyProof.Rows.dc
abbrev Tn:=Bool×Bool×Bool
theorem RW (n:Int)(a b:Bool)(x:Int):T.tA n a (T.tA n b x)=T.tA n (xor b a) x:=by unfold T.tA;cases a<;>cases b<;>simp<;>omega
theorem TU (wd hg:Int)(q p:Tn)(x:Int×Int):T.bz (T.tW wd hg q) (T.tH wd hg q) p (T.bz wd hg q x)=T.bz wd hg (T.aZ q p) x:=by obtain⟨a,b,c⟩:=q;obtain⟨d,e,f⟩:=p;cases a<;>cases d<;>simp[T.bz,T.aZ,T.tW,T.tH,RW]
theorem nU (wd hg:Int)(q p:Tn):T.tW (T.tW wd hg q) (T.tH wd hg q) p=T.tW wd hg (T.aZ q p):=by obtain⟨a,b,c⟩:=q;obtain⟨d,e,f⟩:=p;cases a<;>cases d<;>simp[T.aZ,T.tW,T.tH]
theorem pQ (wd hg:Int)(q p:Tn):T.tH (T.tW wd hg q) (T.tH wd hg q) p=T.tH wd hg (T.aZ q p):=by obtain⟨a,b,c⟩:=q;obtain⟨d,e,f⟩:=p;cases a<;>cases d<;>simp[T.aZ,T.tW,T.tH]
theorem vE:∀{ps:List (Int×Int)}{p:Int×Int},ps.Pairwise (fun a b=>a.1≠b.1)->p∈ps->T.gY ps p.1=.int p.2:=by
 intro ps p pw hp;have key:∀(ps:List (Int×Int)) (v:V),ps.Pairwise (fun a b=>a.1≠b.1)->p∈ps->ps.foldl (fun v q=>if p.1=q.1 then V.int q.2 else v) v=.int p.2:=by
  intro ps
  induction ps with
  |nil=>intro v _ h;cases h
  |cons a ps ih=>
   intro v pw h;obtain⟨h1,h2⟩:=ZbG.mp pw;rw[Zdw];rcases Zav.mp h with rfl |h
   ·rw[ZaQ rfl];clear ih h h2 pw
    induction ps generalizing v with
    |nil=>rfl
    |cons b ps ih=>rw[Zdw,Zaz (h1 b Zaf)];exact ih v (fun c hc=>h1 c (Zae _ hc))
   ·exact ih _ h2 h
 exact key ps .ah pw hp
theorem dJ.fst {ps:List (Int×Int)}(h:T.dJ ps):ps.Pairwise fun a b=>a.1≠b.1:=h.imp fun h=>h.1
theorem J7 {W:Nat}{ps:List (Int×Int)}{k:Nat}(h:k<W):rowAt (T.cz W ps) k=gW (T.gY ps k):=by unfold rowAt;rw[T.qF h];rfl
theorem Xt {W hg:Int}{ps:List (Int×Int)}(d:T.dJ ps)(b:T.mz W hg ps){y:Int×Int} :y∈aj (T.cz W.toNat ps)↔y∈ps:=by
 rw[ZW,T.k9];constructor
 ·rintro⟨l,hl,hr,e⟩;rw[J7 hl]at hr;rcases T.qr ps l with h |⟨p,hp,e1,e2⟩
  ·rw[h]at hr;cases hr
  ·rw[e2]at hr;have e3:p.2=y.2:=by injection hr
   have:y=p:=Zeh (by rw[e,e1]) e3.symm;rw[this];exact hp
 ·intro hy;obtain⟨⟨h0,h1⟩,_⟩:=b y hy;have e:((y.1.toNat:Nat):Int)=y.1:=Int.toNat_of_nonneg h0;refine⟨y.1.toNat,.o,?_,e.symm⟩;rw[J7 .o,e,vE (dJ.fst d) hy];rfl
theorem Zao {ps:List (Int×Int)}(d:T.dJ ps):ps.Nodup:=ZaU.mpr (d.imp fun h e=>h.1 (by rw[e]))
theorem V8 (xs:List V):(aj xs).Nodup:=ZaU.mpr ((vF xs).imp fun h e=>h (by rw[e]))
theorem J5 {wd hg:Int}{xs:List V}(ly:bu wd hg (some xs)=true)(q:Tn):(aj (T.bH wd hg q xs)).Perm ((aj xs).map (T.bz wd hg q)):=by have d:T.dJ ((aj xs).map (T.bz wd hg q)):=T.sR (T.oA ly _);have b:T.mz (T.tW wd hg q) (T.tH wd hg q) ((aj xs).map (T.bz wd hg q)):=T.sQ (T.qo ly);rw[Zca (V8 _) (Zao d)];exact fun y=>Xt d b
theorem Zck {W:Nat}{ps qs:List (Int×Int)}(d:T.dJ ps)(pm:qs.Perm ps):T.cz W qs=T.cz W ps:=by
 have d':qs.Pairwise fun a b=>a.1≠b.1:=(List.Perm.pairwise_iff (fun h=>Zd3 h) pm).mpr (dJ.fst d);unfold T.cz;refine List.map_congr_left fun k _=> ?_;by_cases h:∃p∈ps,p.1=(k:Int)
 ·obtain⟨p,hp,e⟩:=h;rw[<-e,vE (dJ.fst d) hp,vE d' (pm.mem_iff.mpr hp)]
 ·rw[T.ue fun p hp e=>h ⟨p,hp,e⟩,T.ue fun p hp e=>h ⟨p,pm.mem_iff.mp hp,e⟩]
theorem vZ {wd hg:Int}{xs:List V}(w0:0<=wd)(g0:0<=hg)(ly:bu wd hg (some xs)=true)(q:Tn):bu (T.tW wd hg q) (T.tH wd hg q) (some (T.bH wd hg q xs))=true:=by
 have d:T.dJ ((aj xs).map (T.bz wd hg q)):=T.sR (T.oA ly _);have b:T.mz (T.tW wd hg q) (T.tH wd hg q) ((aj xs).map (T.bz wd hg q)):=T.sQ (T.qo ly);have w1:0<=T.tW wd hg q:=by unfold T.tW;split<;>assumption
 refine T.uA.mpr ⟨by rw[T.k9];omega,fun v hv=> ?_,?_⟩
 ·rcases T.uB hv with rfl |⟨p,hp,rfl⟩
  ·exact .inl rfl
  ·obtain⟨_,h0,h1⟩:=b p hp;refine .inr ?_;show(decide (0<=p.2)&&decide (p.2<=T.tH wd hg q-1))=true;rw[Zaq h0,Zaq .o];rfl
 ·show((List.range (T.tW wd hg q).toNat).map fun(k:Nat)=>T.gY ((aj xs).map (T.bz wd hg q)) k).Pairwise _;rw[Zb0];refine ZcU ?_ (ZaU.mp Zdr);intro k l D9 e;rcases T.qr ((aj xs).map (T.bz wd hg q)) k with h |⟨p,hp,e1,e2⟩
  ·exact h
  ·exfalso;rw[e2]at e;rcases T.qr ((aj xs).map (T.bz wd hg q)) l with h |⟨p',jG,kE,nF⟩
   ·rw[h]at e;cases e
   ·rw[nF]at e;injection e with e;by_cases DO:p=p'
    ·subst DO;omega
    ·obtain⟨i,hi,ei⟩:=ZcC hp;obtain⟨j,hj,ej⟩:=ZcC jG;have cZ:i≠j:=fun z=>DO (by subst z;rw[<-ei,<-ej]);rcases Nat.lt_or_gt_of_ne cZ with z |z
     ·have:=(ZcS.mp d i j hi hj z).2;rw[ei,ej]at this;exact this e
     ·have:=(ZcS.mp d j i hj hi z).2;rw[ei,ej]at this;exact this e.symm
theorem pK {wd hg:Int}{xs:List V}(ly:bu wd hg (some xs)=true)(q p:Tn):T.bH (T.tW wd hg q) (T.tH wd hg q) p (T.bH wd hg q xs)=T.bH wd hg (T.aZ q p) xs:=by have d:T.dJ ((aj xs).map (T.bz wd hg (T.aZ q p))):=T.sR (T.oA ly _);show T.cz (T.tW (T.tW wd hg q) (T.tH wd hg q) p).toNat _=T.cz (T.tW wd hg (T.aZ q p)).toNat ((aj xs).map (T.bz wd hg (T.aZ q p)));rw[nU];refine Zck d ?_;refine((J5 ly q).map _).trans ?_;rw[ZcG];refine List.Perm.of_eq (List.map_congr_left fun x _=> ?_);exact TU wd hg q p x
def sg (l:Bool)(a:Int):Int:=if l=true then 0-a else a
noncomputable def bS (q:Tn)(g:Int×Int):Int×Int:=if q.1=true then (sg q.2.2 g.2,sg q.2.1 g.1) else (sg q.2.1 g.1,sg q.2.2 g.2)
theorem SR (n:Int)(l:Bool)(x y:Int):T.tA n l y-T.tA n l x=sg l (y-x):=by unfold T.tA sg;cases l<;>simp<;>omega
theorem SQ {l:Bool}{a b:Int} :sg l a=sg l b↔a=b:=by unfold sg;cases l<;>simp<;>omega
theorem AI {q:Tn}{g h:Int×Int} :bS q g=bS q h↔g=h:=by obtain⟨a,b,c⟩:=q;obtain⟨x,y⟩:=g;obtain⟨z,w⟩:=h;cases a<;>simp only[bS,Zax,ZbI,ZdC,Zdb,SQ,and_comm]
theorem Jy {q:Tn}{g:Int×Int} :bS q g=(0,0)↔g=(0,0):=by
 have e:bS q (0,0)=(0,0):=by obtain⟨a,b,c⟩:=q;cases a<;>cases b<;>cases c<;>rfl
 rw[<-e];rw[AI,e]
theorem TR (wd hg:Int)(q:Tn)(x y:Int×Int):((T.bz wd hg q y).1-(T.bz wd hg q x).1,(T.bz wd hg q y).2-(T.bz wd hg q x).2)=bS q (y.1-x.1,y.2-x.2):=by obtain⟨a,b,c⟩:=q;cases a<;>simp[T.bz,bS,SR]
theorem YV {wd hg:Int}{xs:List V}(ly:bu wd hg (some xs)=true)(q:Tn)(g:Int×Int):
  aC (T.bH wd hg q xs) (T.bH wd hg q xs) (bS q g).1 (bS q g).2=aC xs xs g.1 g.2:=by
 have pm:=J5 ly q;generalize T.bH wd hg q xs=ys at pm;refine Int.ofNat_inj.mp ?_;rw[<-YC,<-YC,Wv,Wv];have inner:∀p:Int×Int,((aj ys).map fun r=>if r.1-p.1=(bS q g).1/\r.2-p.2=(bS q g).2 then (1:Int) else 0).sum=(((aj xs).map (T.bz wd hg q)).map fun r=>if r.1-p.1=(bS q g).1/\r.2-p.2=(bS q g).2 then (1:Int) else 0).sum:=fun p=>Jo (pm.map _);rw[Jo (pm.map fun p=> ((aj ys).map fun r=>if r.1-p.1=(bS q g).1/\r.2-p.2=(bS q g).2 then (1:Int) else 0).sum),ZcG];refine ZcE List.sum (List.map_congr_left fun p _=> ?_);refine(inner (T.bz wd hg q p)).trans ?_;rw[ZcG];refine ZcE List.sum (List.map_congr_left fun r _=> ?_);have e:=TR wd hg q p r;have e1:=ZcE Prod.fst e;have e2:=ZcE Prod.snd e;have iff:((T.bz wd hg q r).1-(T.bz wd hg q p).1=(bS q g).1/\(T.bz wd hg q r).2-(T.bz wd hg q p).2=(bS q g).2)↔(r.1-p.1=g.1/\r.2-p.2=g.2):=by
  have h:=AI (q:=q) (g:=(r.1-p.1,r.2-p.2)) (h:=g);simp only at e1 e2;rw[e1,e2];constructor
  ·rintro⟨h1,h2⟩;have:=h.mp (Zeh h1 h2);rw[<-this];exact⟨rfl,rfl⟩
  ·rintro⟨h1,h2⟩;have:=h.mpr (Zeh h1 h2);rw[this];exact⟨rfl,rfl⟩
 show(if (T.bz wd hg q r).1-(T.bz wd hg q p).1=(bS q g).1/\(T.bz wd hg q r).2-(T.bz wd hg q p).2=(bS q g).2 then (1:Int) else 0)=_;by_cases z:r.1-p.1=g.1/\r.2-p.2=g.2
 ·rw[ZaQ z,ZaQ (iff.mpr z)]
 ·rw[Zaz z,Zaz fun t=>z (iff.mp t)]
theorem Wp {wd hg:Int}{q:Tn}{g:Int×Int} :bS q g∈gr (T.tW wd hg q) (T.tH wd hg q)↔g∈gr wd hg:=by rw[WL,WL];obtain⟨a,b,c⟩:=q;cases a<;>cases b<;>cases c<;>simp[bS,sg,T.tW,T.tH]<;>omega
def inv (q:Tn):Tn:=if q.1=true then (true,q.2.2,q.2.1) else q
theorem AJ (q:Tn)(g:Int×Int):bS q (bS (inv q) g)=g:=by obtain⟨a,b,c⟩:=q;obtain⟨x,y⟩:=g;cases a<;>cases b<;>cases c<;>simp[bS,inv,sg]<;>omega
theorem TJ (wd hg:Int)(q:Tn):((gr wd hg).map (bS q)).Perm (gr (T.tW wd hg q) (T.tH wd hg q)):=by
 have nd:=Wt (1-wd) (1-hg) (2*hg-1).toNat (2*wd-1).toNat;refine(Zca ?_ (Wt _ _ _ _)).mpr fun g=> ?_
 ·exact ZaU.mpr (Zb0.mpr ((ZaU.mp nd).imp fun {a b} h e=>h (AI.mp e)))
 ·rw[ZaN];constructor
  ·rintro⟨x,hx,rfl⟩;exact Wp.mpr hx
  ·intro h;refine⟨bS (inv q) g,(Wp (q:=q)).mp ?_,AJ q g⟩;rw[AJ];exact h
noncomputable def w2 (xs:List V)(g:Int×Int):Int:=if g=(0,0) then 0 else c2 (aC xs xs g.1 g.2)
theorem GU {wd hg:Int}{xs:List V}(w1:1<=wd)(g1:1<=hg):2*j5 wd hg xs=((gr wd hg).map (w2 xs)).sum:=by
 rw[Zcj w1 g1,List.map_filterMap];unfold cI;refine AU (fun a b h=> ?_) (fun a b h=> ?_) _ _ _ _
 ·show((if ([a,b]:List Int)=[0,0] then none else some (aC xs xs a b:Int)).map fun n=>n*(n-1)/2).getD 0=if (a,b)=(0,0) then 0 else c2 (aC xs xs a b)
  by_cases z:(a,b)=((0:Int),(0:Int))
  ·rw[ZaQ z,ZaQ (by rw[Zdb]at z;rw[z.1,z.2])];rfl
  ·rw[Zaz z,Zaz fun t=>z (by simpa using t)];rfl
 ·show(if (a,b)=(0,0) then 0 else c2 (aC xs xs a b))=0;rw[h];split<;>rfl
theorem M0 {wd hg:Int}{xs:List V}(w1:1<=wd)(g1:1<=hg)(ly:bu wd hg (some xs)=true)(q:Tn):j5 (T.tW wd hg q) (T.tH wd hg q) (T.bH wd hg q xs)=j5 wd hg xs:=by
 have a1:1<=T.tW wd hg q:=by unfold T.tW;split<;>assumption
 have a2:1<=T.tH wd hg q:=by unfold T.tH;split<;>assumption
 have e1:=GU (xs:=T.bH wd hg q xs) a1 a2;have e2:=GU (xs:=xs) w1 g1;have e3:=Jo ((TJ wd hg q).map (w2 (T.bH wd hg q xs)));rw[ZcG]at e3;have e4:(gr wd hg).map (w2 (T.bH wd hg q xs)∘bS q)=(gr wd hg).map (w2 xs):=List.map_congr_left fun g _=>by
  show(if bS q g=(0,0) then 0 else c2 (aC _ _ (bS q g).1 (bS q g).2))=if g=(0,0) then 0 else c2 (aC xs xs g.1 g.2)
  rw[YV ly q g];by_cases z:g=(0,0)
  ·rw[ZaQ z,ZaQ (Jy.mpr z)]
  ·rw[Zaz z,Zaz fun t=>z (Jy.mp t)]
 rw[e4]at e3;omega
theorem Hh {wd hg:Int}{xs:List V} :(((cI wd hg xs xs).filterMap l9).filter fun n=>decide (1<n)).isEmpty=true↔∀g∈gr wd hg,g≠(0,0)->aC xs xs g.1 g.2<=1:=by
 rw[ZgD,Zdf];constructor
 ·intro h g dS hz;by_cases hp:0<aC xs xs g.1 g.2
  ·obtain⟨i,j,hi,hj,e⟩:=Jx.mp dS;have m:[g.1,g.2,(aC xs xs g.1 g.2:Int)]∈cI wd hg xs xs:=Yg.mpr ⟨i,j,hi,hj,by rw[e]at hp;exact hp,by rw[e]⟩;have f:l9 [g.1,g.2,(aC xs xs g.1 g.2:Int)]=some (aC xs xs g.1 g.2:Int):=by show(if ([g.1,g.2]:List Int)=[0,0] then none else some _)=_;rw[Zaz fun t=>hz (by simp only[ZcO,ZfW]at t;exact Zeh t.1 t.2)]
   have:=h _ (Zcq.mpr ⟨_,m,f⟩);rw[Zbg]at this;omega
  ·omega
 ·intro h n hn;obtain⟨k,hk,e⟩:=Zcq.mp hn;obtain⟨i,j,hi,hj,_,rfl⟩:=Yg.mp hk;have e:(if ([1-wd+(i:Int),1-hg+(j:Int)]:List Int)=[0,0] then none else some (aC xs xs (1-wd+i) (1-hg+j):Int))=some n:=e;by_cases z:([1-wd+(i:Int),1-hg+(j:Int)]:List Int)=[0,0]
  ·rw[ZaQ z]at e;cases e
  ·rw[Zaz z]at e;have e:=Zbh e;have:=h (1-wd+i,1-hg+j) (Jx.mpr ⟨i,j,hi,hj,rfl⟩) fun t=>z (by rw[Zdb]at t;rw[t.1,t.2]);rw[Zbg];simp only at this;omega
theorem Ih {wd hg:Int}{xs:List V}{r r':Option aE}(w1:1<=wd)(g1:1<=hg)(ly:cA wd hg xs)(q:Tn)(jD:cA (T.tW wd hg q) (T.tH wd hg q) (T.bH wd hg q xs))(f:jk (bO xs xs.length) r)(f':jk (bO (T.bH wd hg q xs) (T.bH wd hg q xs).length) r'):r'.isNone=r.isNone:=by
 have a1:1<=T.tW wd hg q:=by unfold T.tW;split<;>assumption
 have a2:1<=T.tH wd hg q:=by unfold T.tH;split<;>assumption
 rw[W3 ly w1 g1 f,W3 jD a1 a2 f',Zcb,Hh,Hh];constructor
 ·intro h g dS hz;have:=h (bS q g) (Wp.mpr dS) fun t=>hz (Jy.mp t);rw[YV ly.is q g]at this;exact this
 ·intro h g dS hz;rw[<-AJ q g]at dS hz |-;rw[YV ly.is q];exact h _ (Wp.mp dS) fun t=>hz (Jy.mpr t)
theorem TQ:∀q p:Tn,T.aZ q (T.aZ (inv q) p)=p:=by rintro⟨a,b,c⟩ ⟨d,e,f⟩;cases a<;>cases b<;>cases c<;>cases d<;>cases e<;>cases f<;>rfl
theorem Vr:∀q p:Tn,T.aZ (T.aZ p (inv q)) q=p:=by rintro⟨a,b,c⟩ ⟨d,e,f⟩;cases a<;>cases b<;>cases c<;>cases d<;>cases e<;>cases f<;>rfl
theorem WS {wd hg:Int}{xs:List V}(ly:bu wd hg (some xs)=true)(q p:Tn):T.eR (T.tW wd hg q) (T.tH wd hg q) (T.bH wd hg q xs) p=T.eR wd hg xs (T.aZ q p):=by unfold T.eR;rw[pK ly q p,nU,pQ]
theorem Rz {hg dS:Int}{u v:V}(hu:u=.ah∨∃i:Int,u=.int i/\0<=i/\i<hg)(hv:v=.ah∨∃i:Int,v=.int i/\0<=i/\i<dS)(e:T.dE u=T.dE v):u=v:=by
 rcases hu with rfl |⟨i,rfl,h0,_⟩<;>rcases hv with rfl |⟨j,rfl,h1,_⟩
 ·rfl
 ·have e:(-1:Int)=j:=e;omega
 ·have e:i=(-1:Int):=e;omega
 ·have e:i=j:=e;rw[e]
theorem F8 {hg dS:Int} :∀{us vs:List V},(∀u∈us,u=.ah∨∃i:Int,u=.int i/\0<=i/\i<hg)->(∀v∈vs,v=.ah∨∃i:Int,v=.int i/\0<=i/\i<dS)->us.map T.dE=vs.map T.dE->us=vs
 | [],[],_,_,_=>rfl
 | [],_::_,_,_,e=>by cases e
 |_::_,[],_,_,e=>by cases e
 |u::us,v::vs,h1,h2,e=>by rw[Zba,Zba,ZcO]at e;rw[Rz (h1 u Zaf) (h2 v Zaf) e.1,F8 (fun x hx=>h1 x (Zae _ hx)) (fun x hx=>h2 x (Zae _ hx)) e.2]
theorem Rn {wd hg:Int}{xs:List V}(w0:0<=wd)(g0:0<=hg)(ly:bu wd hg (some xs)=true){p q:Tn}(e:T.eR wd hg xs p=T.eR wd hg xs q):T.tW wd hg p=T.tW wd hg q/\T.tH wd hg p=T.tH wd hg q/\T.bH wd hg p xs=T.bH wd hg q xs:=by unfold T.eR at e;rw[ZcO,ZcO]at e;exact⟨e.1,e.2.1,F8 (fun u hu=>T.oM (vZ w0 g0 ly p) hu) (fun u hu=>T.oM (vZ w0 g0 ly q) hu) e.2.2⟩
theorem M6 {wd hg:Int}{xs:List V}(w0:0<=wd)(g0:0<=hg)(ly:bu wd hg (some xs)=true){q p p':Tn}(h:∀r,ar (T.eR wd hg xs r) (T.eR wd hg xs p)=false)
  (h':∀r,ar (T.eR (T.tW wd hg q) (T.tH wd hg q) (T.bH wd hg q xs) r) (T.eR (T.tW wd hg q) (T.tH wd hg q) (T.bH wd hg q xs) p')=false):
  T.tW (T.tW wd hg q) (T.tH wd hg q) p'=T.tW wd hg p/\T.tH (T.tW wd hg q) (T.tH wd hg q) p'=T.tH wd hg p/\T.bH (T.tW wd hg q) (T.tH wd hg q) p' (T.bH wd hg q xs)=T.bH wd hg p xs:=by
 have h1:=h (T.aZ q p');have h2:=h' (T.aZ (inv q) p);rw[WS ly,WS ly,TQ]at h2;rw[nU,pQ,pK ly];exact Rn w0 g0 ly (Y4 _ _ h1 h2)
abbrev Led:=(Int×Int)×List V
noncomputable def led (wd hg:Int)(xs:List V)(q:Tn):Led:=((T.tW wd hg q,T.tH wd hg q),T.bH wd hg q xs)
abbrev e0:Tn:=(false,false,false)
theorem AG {wd hg:Int}{xs:List V}(ly:bu wd hg (some xs)=true){p q:Tn}(r:Tn)(e:led wd hg xs p=led wd hg xs q):led wd hg xs (T.aZ p r)=led wd hg xs (T.aZ q r):=by unfold led at e |-;rw[Zdb,Zdb]at e;obtain⟨⟨h1,h2⟩,h3⟩:=e;rw[<-nU,<-pQ,<-pK ly,h1,h2,h3,nU,pQ,pK ly]
theorem Ru {wd hg:Int}{xs:List V}(ly:bu wd hg (some xs)=true):led wd hg xs e0=((wd,hg),xs):=by
 have d:T.dJ (aj xs):=T.oA ly _;have b:T.mz wd hg (aj xs):=T.qo ly;have hl:=(T.uA.mp ly).1;have e:T.bH wd hg e0 xs=xs:=by
  show T.cz wd.toNat ((aj xs).map (T.bz wd hg e0))=xs;have em:(aj xs).map (T.bz wd hg e0)=aj xs:=(List.map_congr_left fun x _=>rfl).trans (List.map_id _);rw[em];refine Zfi fun k=> ?_;by_cases hk:k<xs.length
  ·rw[T.qF .o,Zaw hk];have ek:rowAt xs k=gW xs[k]:=by unfold rowAt;rw[Zaw hk];rfl
   rcases T.oM ly (Zeo hk) with h |⟨i,h,_⟩
   ·rw[h,T.ue];intro p hp ep;obtain⟨l,D5,hr,el⟩:=ZW.mp hp;have:l=k:=.o;subst this;rw[ek,h]at hr;cases hr
   ·rw[h]at ek |-;exact ZcE some (vE (p:=((k:Int),i)) (dJ.fst d) (ZW.mpr ⟨k,hk,ek,rfl⟩))
  ·rw[ZeD (by rw[T.k9];omega),ZeD .o]
 unfold led;rw[e];rfl
noncomputable def own (wd hg:Int)(xs:List V)(q:Tn):Bool:=decide (led wd hg xs q=((wd,hg),xs))
theorem AO {wd hg:Int}{xs:List V}(ly:bu wd hg (some xs)=true){q:Tn} :own wd hg xs q=true↔led wd hg xs q=led wd hg xs e0:=by unfold own;rw[Zbg,Ru ly]
theorem FF:∀q:Tn,T.aZ e0 q=q:=by rintro⟨a,b,c⟩;cases a<;>cases b<;>cases c<;>rfl
theorem CY {wd hg:Int}{xs:List V}(ly:bu wd hg (some xs)=true){p q:Tn}(hp:own wd hg xs p=true)(hq:own wd hg xs q=true):own wd hg xs (T.aZ p q)=true:=by rw[AO ly]at hp hq |-;rw[AG ly q hp,FF,hq]
theorem Sm:∀q:Tn,T.aZ q (inv q)=e0:=by rintro⟨a,b,c⟩;cases a<;>cases b<;>cases c<;>rfl
theorem M5 {wd hg:Int}{xs:List V}(ly:bu wd hg (some xs)=true){p q:Tn} :led wd hg xs p=led wd hg xs q↔own wd hg xs (T.aZ p (inv q))=true:=by
 rw[AO ly];constructor
 ·intro e;rw[AG ly (inv q) e,Sm]
 ·intro e;have:=AG ly q e;rw[Vr,FF]at this;exact this
def once {α:Type}(R:α->α->Bool)(l:List α):List α:=l.foldl (fun acc x=>if acc.any (R x) then acc else acc++[x]) []
def j9 (s:List Bool)(q:Tn):Bool:=(s.zip T.aW).any fun p=>p.1&&decide (p.2=q)
def Ac:Nat->List (List Bool)
 |0=> [[]]
 |n+1=> (Ac n).flatMap fun s=> [false::s,true::s]
theorem GX:∀{n:Nat}{s:List Bool},s.length=n->s∈Ac n
 |0,[],_=>Zas.mpr rfl
 |0,_::_,h=>by cases h
 |n+1,[],h=>by cases h
 |n+1,b::s,h=>ZcJ.mpr ⟨s,GX (Nat.succ.inj h),by cases b<;>simp⟩
theorem VA:∀s∈Ac 8,j9 s e0=true->(T.aW.all fun p=>T.aW.all fun q=> !(j9 s p&&j9 s q)||j9 s (T.aZ p q))=true->
  (once (fun p q=>j9 s (T.aZ p (inv q))) T.aW).length*(T.aW.filter (j9 s)).length=8:=by decide+kernel
theorem Rj (f:Tn->Bool)(q:Tn):j9 (T.aW.map f) q=f q:=by
 have e:∀l:List Tn,((l.map f).zip l).any (fun p=>p.1&&decide (p.2=q))=l.any fun t=>f t&&decide (t=q):=fun l=>by
  induction l with
  |nil=>rfl
  |cons a l ih=>rw[Zba,Zcr,ZdS,ZdS,ih]
 unfold j9;rw[e,Zcb,ZdD];constructor
 ·rintro⟨t,_,h⟩;rw[Za5,Zbg]at h;rw[<-h.2];exact h.1
 ·intro h;exact⟨q,T.mf q,by rw[h,Zaq rfl];rfl⟩
theorem P8 {wd hg:Int}{xs:List V}(ly:bu wd hg (some xs)=true):(once (fun p q=>own wd hg xs (T.aZ p (inv q))) T.aW).length*(T.aW.filter (own wd hg xs)).length=8:=by
 have h:=VA (T.aW.map (own wd hg xs)) (GX (by rw[Zal];rfl));have ef:j9 (T.aW.map (own wd hg xs))=own wd hg xs:=funext (Rj _);rw[ef]at h;refine h ((AO ly).mpr rfl) ?_;rw[Zbd];intro p _;rw[Zbd];intro q _;cases hp:own wd hg xs p
 ·rfl
 ·cases hq:own wd hg xs q
  ·rfl
  ·rw[CY ly hp hq];rfl
end U.Z
namespace U.T
open PySem L2 PyProof.Rows PyProof.Rows.dc
noncomputable def gC (wd hg:Int)(xs:List V)(q:Bool×Bool×Bool):Bool:=decide ([V.int (tW wd hg q),V.int (tH wd hg q)]=[V.int wd,V.int hg]/\bH wd hg q xs=xs)
def Hv (K:ZhK)(v:V)(q:Bool×Bool×Bool):Prop:=∃t:Addr,v=.ref t/\∀H,ab K H t (tv q)
section
variable {aB aL aT:Addr}
abbrev tP:Stmt:=top 45
inductive tD (K:ZhK) (vs:List V) (H:Hp) (Q:VK) (_:XK):Prop
 |mk (b l:Addr) (xs:List V) (wd hg:Int) (_:vs=[.ref b,.ref l]) (_:bt K H (.ref b) l xs wd hg) (_:∀(L:Addr) H' (ps:List V),ag H H'->(H L=none)->H' L=some (.lst ps)->Paired (Hv K) ps (aW.filter (gC wd hg xs))->Q (.ref L) H')
theorem Kt:aM ["board", "lay"] ["board", "lay"] (ax tP):=Zr (by decide+kernel)
theorem L8 (F:aH K "own_turns" "own_turns" tP f fd)(G:Gs mg)(T:AZ K mg)(D1:Def P w K mg base 9 "all_turned" ["board", "lay"] (tF K)):ay P w K mg base az 10 f fd ["board", "lay"] (tD K):=by
 obtain⟨aT,ts,hm,hq,pt⟩:=T;refine F.ok Kt (fun vs H Q E h=> ?_) (fun ao A outer s H vs Q E hr h=> ?_)
 ·obtain⟨b,l,xs,wd,hg,rfl,_⟩:=h;rfl
 ·obtain⟨b,l,xs,wd,hg,rfl,la,q⟩:=h;have hu:(A.deeper (envOfC "own_turns" (ax tP) s.heap.objs.size f ao)).units+1<cLine:=by have:=hr.un;omega
  refine⟨_,Zg (Zm (ZM ["turn", "led", "board", "lay"] 2 [0,1] (Vc rfl G.zip (Za (Yf (v:=.ref aT) rfl hm rfl) (Za (Zc D1 hr (Za (pv 0) (Za (pv 1) Zb))) Zb)))
    (fun C s H fp=>show PG (aU _ _ _ C s H fp) _ (gK K 2 (bX (bE 0) (bX (bE 1) gM))) from ZI rfl (Zj (pb 0) (Zj (pb 1) Zz)))
    (fun C s H fp=>Ye (Zq (show aV (aU _ _ _ C s H fp) _ (CH K) from FN hu) (pv 1) (Zs (Za (pv 2) (Za (pv 3) Zb))) rfl))
    (fun C s H fp D=>cc rfl (pv 0)))),?_⟩
  try dsimp only[aP]
  have lt:ts.length=8:=Za0 pt;obtain⟨b',eb,hb⟩:=Zk la.bd.1;cases eb;refine⟨_,rfl,_,rfl,b,l,xs,wd,hg,rfl,la,fun L H1 ps s1 e1 pr=> ?_⟩;have lp:ps.length=8:=Za0 pr;refine⟨aT,L,rfl,⟨_,ps,hq H1,ai.of e1⟩,?_⟩;refine XB (xs:=ts.map V.ref) (zs:=ps) (by rw[Zal,lt,lp]) (fun i zs σ H2=> ∃v0 v1,σ=[v0,v1,some (.ref b),some (.ref l)]/\ag H1 H2/\Paired (Hv K) zs ((aW.take i).filter (gC wd hg xs))/\zs.length<=i) ⟨_,_,rfl,ag.refl _,.nil,ZaM _⟩ (fun i zs σ H2 _ ae=>by obtain⟨_,_,_,s2,_⟩:=ae;exact⟨hq H2,ai.of (s2 _ _ e1)⟩) ?_ ?_
  ·rintro i v y T zs σ H2 hv hy hT ⟨v0,v1,rfl,s2,bJ,hz⟩;obtain⟨t,ht,rfl⟩:=YI hv;obtain⟨p,hp,pp⟩:=ZV pt ht;obtain⟨p',jG,pl⟩:=ZV pr hy;rw[hp]at jG;cases jG;have hi:i<8:=by have:=(Zaa.mp ht).1;omega
   have sT:=bh (o:=.par [V.ref t,y]) hT;refine⟨T,_,rfl,ab.mS Zd,rfl,_,_,rfl,_,_,rfl,rfl,?_⟩;generalize upd H2 T (HO.par [V.ref t,y])=H3 at sT;obtain⟨t',c,u,rfl,h1,h2,h3⟩:=pl.same (s2.trans sT);obtain⟨c',ec,hc⟩:=Zk h2.1;cases ec;refine⟨_,rfl,_,rfl,_,rfl,bT,fun Z hZ=> ?_⟩;obtain⟨H4,zz,s4,e4⟩:=bV (o:=.tup [V.ref b,V.ref l]) hZ;rw[zz];have iG:=s1.trans (s2.trans (sT.trans s4));refine⟨t',Z,c,u,b,l,_,_,_,_,rfl,rfl,ab.of (s4 _ _ h1),ab.of e4,ab.of (s4 _ _ hc),ab.of (s4 _ _ h3),ab.of (iG _ _ hb),ab.of (iG _ _ la.at_),rfl,(Yc la.ly).ni,rfl,(Rt la.ly).ni,_,rfl,?_⟩;have ef:(aW.take (i+1)).filter (gC wd hg xs)=(aW.take i).filter (gC wd hg xs)++(if gC wd hg xs p=true then [p] else []):=by rw[Za2,hp,ZcX];show _++[p].filter (gC wd hg xs)=_;rw[Zeq,ZgY]
   show if gC wd hg xs p=true then _ else _
   cases ho:gC wd hg xs p with
   |true=>rw[ho,ZaQ rfl]at ef;refine aX ⟨_,rfl,by rw[ZaX];omega,_,_,rfl,s2.trans (sT.trans s4),?_,by rw[Zaj];simp;omega⟩;rw[ef];exact Zc3 bJ ⟨t,rfl,pp⟩
   |false=>rw[ho,Zaz Zag,ZbE]at ef;refine aI ⟨_,_,rfl,s2.trans (sT.trans s4),?_,.o⟩;rw[ef];exact bJ
  ·rintro zs σ H2 ⟨v0,v1,rfl,s2,bJ,hz⟩ p hp;rw[Zal,lt]at bJ;have s3:=bh (o:=.lst zs) hp;have hn:H p=none:=by
    cases e:H p with
    |none=>rfl
    |some o=>rw[(s1.trans s2) _ _ e]at hp;cases hp
   exact q p _ zs (s1.trans (s2.trans s3)) hn Zd bJ
inductive wo (K:ZhK) (vs:List V) (H:Hp) (Q:VK) (_:XK):Prop
 |mk (t u:Addr) (q p:Bool×Bool×Bool) (_:vs=[.ref t,.ref u]) (_:ab K H t (tv q)) (_:ab K H u (tv p)) (_:∀(r:Addr) H',ag H H'->H' r=some (.tup (tv (aZ q p)))->Q (.ref r) H')
theorem LZ (F:aH K "turns_together" "turns_together" xc f fd)(D1:Def P w K mg base 4 "need_turn" ["turn"] (wA K)):ay P w K mg base az 5 f fd ["turn", "other"] (wo K):=by
 refine F.ok n9 (fun vs H Q E h=> ?_) (fun ao A outer s H vs Q E hr h=> ?_)
 ·obtain⟨t,u,q,p,rfl,_⟩:=h;rfl
 ·obtain⟨t,u,⟨o,l,r⟩,⟨o',l',r'⟩,rfl,ht,hu,q⟩:=h;refine⟨_,Ze (ZP (Zc D1 hr (Za (pv 0) Zb)))
   (Ze (ZP (Zc D1 hr (Za (pv 1) Zb)))
   (Ze (Yu (pv 0) (ZI rfl (Zj (Zn (i:=2) n9.nd rfl (Or.inl rfl)) (Zj (Zn (i:=3) n9.nd rfl (Or.inl rfl)) (Zj (Zn (i:=4) n9.nd rfl (Or.inl rfl)) Zz)))))
   (Ze (Yu (Yy (Zq YQ (pv 2) Zf (bR _)) (Zs (Za (ZB ZC (pv 1) Zf (fun _ _=>rfl)) (Za (ZB ZC (pv 1) Zf (fun _ _=>rfl)) Zb))) (Zs (Za (ZB ZC (pv 1) Zf (fun _ _=>rfl)) (Za (ZB ZC (pv 1) Zf (fun _ _=>rfl)) Zb))))
    (ZI rfl (Zj (Zn (i:=5) n9.nd rfl (Or.inl rfl)) (Zj (Zn (i:=6) n9.nd rfl (Or.inl rfl)) Zz))))
   (Zg (Zm (Zs (Za (Zp Au (pv 2) (ZB ZC (pv 1) Zf (fun _ _=>rfl))) (Za (Zp Au (pv 3) (pv 5)) (Za (Zp Au (pv 4) (pv 6)) Zb))))))))),?_⟩
  try dsimp only[aP]
  refine bg ⟨_,rfl,t,_,rfl,ht,fun H1 s1=> ?_⟩;dsimp only;have fX:=hu.keep s1;refine bg ⟨_,rfl,u,_,rfl,fX,fun H2 s2=> ?_⟩;dsimp only;have cW:=s1.trans s2;have qQ:=ht.keep cW;have dR:=hu.keep cW;refine bg (bC ⟨_,rfl,t,_,rfl,qQ,rfl,_,_,rfl,_,_,rfl,_,_,rfl,rfl,?_⟩);dsimp only[List.set];refine Jk (fun σ H3=> ∃a b:Bool,σ=[some (.ref t),some (.ref u),some (.int (bi o)),some (.int (bi l)),some (.int (bi r)),some (.int (bi a)),some (.int (bi b))]/\ag H2 H3/\(xor o o',xor l a,xor r b)=aZ (o,l,r) (o',l',r')) ?_ ?_
  ·rintro σ H3 ⟨a,b,rfl,s3,z⟩;refine⟨_,rfl,_,rfl,u,_,_,_,rfl,rfl,dR.keep s3,rfl,_,_,rfl,rfl,_,rfl,_,rfl,_,_,rfl,rfl,_,rfl,_,rfl,_,_,rfl,rfl,sX,fun r' br=> ?_⟩;refine q r' _ (cW.trans (s3.trans (bh br))) ?_;rw[Zd,<-z];dsimp only;rw[Ax,Ax,Ax]
  ·intro D' hD;refine bC ⟨_,rfl,rfl,_,rfl,?_⟩;rw[W9];cases o with
   |true=>exact aX ⟨_,rfl,u,_,_,_,rfl,rfl,dR,rfl,_,rfl,u,_,_,_,rfl,rfl,dR,rfl,bT,fun c hc=> ⟨c,_,rfl,ab.of Zd,rfl,_,_,rfl,_,_,rfl,rfl,hD _ _ ⟨r',l',rfl,bh hc,rfl⟩⟩⟩
   |false=>exact aI ⟨_,rfl,u,_,_,_,rfl,rfl,dR,rfl,_,rfl,u,_,_,_,rfl,rfl,dR,rfl,bT,fun c hc=> ⟨c,_,rfl,ab.of Zd,rfl,_,_,rfl,_,_,rfl,rfl,hD _ _ ⟨l',r',rfl,bh hc,rfl⟩⟩⟩
end
end U.T
namespace U.S
open PySem L2 PyProof.Rows U.T
theorem GJ {α β:Type}{f g:α->Option β} :∀{l:List α},(∀x∈l,f x=g x)->l.filterMap f=l.filterMap g
 | [],_=>rfl
 |a::l,h=>by rw[Zc0,Zc0,h a Zaf,GJ fun x hx=>h x (Zae _ hx)]
theorem Ve (xs:List V)(n:Nat):aj (xs++List.replicate n V.ah)=aj xs:=by
 unfold aj;rw[Zaj,Zco,List.range_add,ZbO];have e2:(((List.range n).map fun x=>xs.length+x).filterMap fun l=> (rowAt (xs++List.replicate n V.ah) l).map fun r=> ((l:Int),r))=[]:=by rw[ZeK];intro l hl;obtain⟨k,hk,rfl⟩:=ZaN.mp hl;unfold rowAt;rw[Zcx .o,Zc7];split<;>rfl
 rw[e2,ZbE];refine GJ fun l hl=> ?_;rw[Za6]at hl;unfold rowAt;rw[ZcQ hl]
theorem Gu {x v:V}{t:List V} :∀{fs:List V},(fs++x::t).set fs.length v=fs++v::t
 | []=>rfl
 |a::fs=>by show a::(fs++x::t).set fs.length v=_;rw[Gu];rfl
abbrev dC (w:Nat)(fs:List V):List V:=fs++List.replicate (w-fs.length) V.ah
theorem VI {w:Nat}{fs:List V}(h:fs.length<w):dC w fs=fs++V.ah::List.replicate (w-(fs.length+1)) V.ah:=by unfold dC;rw[show w-fs.length=(w-(fs.length+1))+1 by omega,ZcK]
theorem WG {w:Nat}{fs:List V}{v:V}(h:fs.length<w):dC w (fs++[v])=(dC w fs).set fs.length v:=by rw[VI h,Gu];unfold dC;rw[Zaj,ZaY];rfl
theorem Rk {w:Nat}{fs:List V}{r:Int} :bK (.int r) (dC w fs)=bK (.int r) fs:=by
 unfold bK dC;rw[List.any_append];have:((List.replicate (w-fs.length) V.ah).any fun y=>dW y (.int r))=false:=by rw[Zf6];intro x hx;rw[Zgi hx];simp[dW]
 rw[this,Bool.or_false]
theorem Vo {w h:Nat}{fs:List V}(hm:dC w fs∈cH w h fs.length)(hi:fs.length<w):dC w (fs++[V.ah])∈cH w h (fs.length+1):=by rw[WG hi];exact ZcJ.mpr ⟨_,hm,ZaN.mpr ⟨_,Zaf,rfl⟩⟩
theorem Vn {w h:Nat}{fs:List V}{r:Int}(hm:dC w fs∈cH w h fs.length)(hi:fs.length<w)(h0:0<=r)(h1:r<h)(hn:bK (.int r) fs=false)(hu:bN (fs++[.int r])=true):dC w (fs++[V.int r])∈cH w h (fs.length+1):=by
 rw[WG hi];refine ZcJ.mpr ⟨_,hm,ZaN.mpr ⟨_,Zae _ (Zcu ?_),rfl⟩⟩;unfold ft;refine ZaZ.mpr ⟨ZaN.mpr ⟨r.toNat,Za6.mpr .o,.o⟩,?_⟩;rw[Rk,hn,<-WG hi];have:bN (dC w (fs++[V.int r]))=bN (fs++[V.int r]):=by unfold bN dC;rw[Ve]
 rw[this,hu];rfl
theorem Td {w h:Nat}{fs:List V}{i:Nat}(hm:dC w fs∈cH w h i):nK fs:=fun x hx=> (rJ w h i _ hm).1.ok x (Za3 _ hx)
section
abbrev xM:Stmt:=top 67
inductive wJ (vs:List V) (H:Hp) (Q:VK) (_:XK):Prop
 |mk (p b:Addr) (wd hg n:Int) (_:vs=[.ref p,.ref b,.int n]) (_:dk H p) (_:cJ H (.ref b) wd hg) (_:∀(l:Addr) (H':Hp) (xs:List V),bD p H H'->dk H' p->H' l=some (.tup xs)->l≠p->xs∈cH wd.toNat hg.toNat wd.toNat->Q (.ref l) H')
noncomputable abbrev MN:List Str:=["_law_state_here", "_law_board", "_law_bare", "_law_found", "_law_line", "_law_first", "_law_none", "_law_rows", "_law_good"]
theorem kQ:aM MN ["_law_state_here", "_law_board", "_law_bare"] (ax xM):=Zr (by decide+kernel)
theorem Mp (F:aH K "_law_grown" "_law_grown" xM f fd)(G:Gs mg)(kK:Def P w K mg base 1 "_law_take" ["_law_state_here", "_law_many"] nY)(Dlu:Def P w K mg base 2 "_law_unlike" ["_law_lay_here"] B7):ay P w K mg base az 3 f fd ["_law_state_here", "_law_board", "_law_bare"] wJ:=by
 refine F.ok kQ (fun vs H Q E h=> ?_) (fun ao A outer s H vs Q E hr h=> ?_)
 ·obtain⟨p,b,wd,hg,n,rfl,_⟩:=h;rfl
 ·obtain⟨p,b,wd,hg,n,rfl,st,bd,q⟩:=h;have lP:=hr.mono (show 1<=2 by decide);refine⟨_,Ze (Zu (i:=3) kQ.nd rfl (Or.inr rfl) (Zs Zb))
   (Ze (ZY Zcn rfl (ZZ rfl G.range (Za (ZB ZC (pv 1) Zf (fun _ _=>rfl)) Zb)) (Zn (i:=4) kQ.nd rfl (Or.inl rfl))
    (Ze (Yu (Zs (Za (Zc kK lP (Za (pv 0) (Za (ZB ZC (pv 1) Zf (fun _ _=>rfl)) Zb))) (Za (Zc kK lP (Za (pv 0) (Za Zf Zb))) Zb))) (ZI rfl (Zj (Zn (i:=5) kQ.nd rfl (Or.inr rfl)) (Zj (Zn (i:=6) kQ.nd rfl (Or.inl rfl)) Zz))))
    (Ze (Yr ["_law_k", "_law_board", "_law_first"] 1 [1,5] (i:=7) kQ.nd rfl (Or.inl rfl) (ZZ rfl G.range (Za (ZB ZC (pv 1) Zf (fun _ _=>rfl)) Zb)) (fun C s H fp=>pb 0) (fun C s H fp=>ZE)
     (fun C s H fp D=>cc rfl (Zp Jd (Zp Yo (pv 2) (pv 0)) (ZB (show mv (aU _ _ _ C s H fp) (oz K) from ZC) (pv 1) Zf (fun _ _=>rfl)))))
    (Ze (Yr ["_law_row", "_law_found"] 1 [3] (i:=8) kQ.nd rfl (Or.inl rfl) (Zw (pv 7)) (fun C s H fp=>pb 0)
     (fun C s H fp=>Ye (PW.pt (Az (Zq (show aV (aU _ _ _ C s H fp) (compareOp .NotIn) (t6 K true) from Jt) (pv 0) (pv 1) rfl) (AQ (Yi (Zc Dlu hr (Za (Zp (show aV (aU _ _ _ C s H fp) (binaryOp .Add) (mP K) from kX) (pv 1) (Zs (Za (pv 0) Zb))) Zb))))))) (fun C s H fp D=>cc rfl (pv 0)))
    (Zg (Zu (i:=3) kQ.nd rfl (Or.inr rfl) (Zp kX (pv 3) (Yy (PW.pt (J8 (Zq (S5 hr.vX) (pv 8) (Z6 Zb) (bR _)) (YM (Zq An (pv 6) (pv 2) (bR _))))) (Zs (Za YN Zb)) (Zs (Za (ZB Z9 (pv 8) Zf (fun _ _=>rfl)) Zb))))))))))
   (Zg (Zm (pv 3)))),?_⟩
  try dsimp only[aP]
  obtain⟨a,e,hb⟩:=Zk bd.1;cases e;obtain⟨_,w1,w2,g1,g2⟩:=id bd;obtain⟨u0,v0,e0,_⟩:=id st;have Ep:b≠p:=YS hb e0 (by intro z;cases z);have eH:(hg.toNat:Int)=hg:=.o
  (try refine hY _ _ ?_);refine ZJ fun Y hY=> (bC ⟨ZaM _,fun f0 zo=>aK ?_⟩)
  dsimp only[List.set];obtain⟨H0,zz,s0,Qb⟩:=bV (o:=.tup []) zo;rw[zz];have eI:=st.same s0
  (try refine hY _ _ ?_);refine ZJ fun Y hY=> ⟨_,rfl,b,_,_,_,rfl,rfl,ab.of (s0 _ _ hb),jP,wd,rfl,.o,.o,?_⟩
  refine Yd (n:=wd.toNat) (fun i σ H2=> ∃(fa:Addr) (fs:List V) (x4 x5 x6 x7 x8:Option V),σ=[some (.ref p),some (.ref b),some (.int n),some (.ref fa),x4,x5,x6,x7,x8]/\bD p H H2/\dk H2 p/\H2 fa=some (.tup fs)/\fs.length=i/\dC wd.toNat fs∈cH wd.toNat hg.toNat i)
   ⟨f0,[],none,none,none,none,none,rfl,s0.x,eI,Qb,rfl,by simp[dC,cH]⟩ ?_ ?_
  ·rintro i σ H2 hi ⟨fa,fs,x4,x5,x6,x7,x8,rfl,k2,av,lW,rfl,hm⟩;rw[ZeF];refine aK ?_;dsimp only[List.set];have aY:fs.length<wd.toNat:=hi;have CD:=Td hm;have flat:fs.all fT=true:=Zbd.mpr fun x hx=>by rcases CD x hx with z |⟨j,z⟩<;>rw[z]<;>rfl
   have hU:=k2 _ _ hb Ep
   (try refine hY _ _ ?_);refine ZJ fun Y hY=> (bC ⟨_,rfl,_,rfl,b,_,_,_,rfl,rfl,ab.of hU,ij,p,hg,rfl,av,.o,.o,fun c1 o3 _ _ bU=> ⟨_,rfl,p,6,rfl,bU,.d,.d,fun c2 o4 _ _ eG=> ⟨bT,fun tt DD=> ⟨tt,_,rfl,ab.of Zd,rfl,_,_,rfl,_,_,rfl,rfl,?_⟩⟩⟩⟩)
   have vT:bD p H2 (upd (upd H2 p o3) p o4):=bD.upd.trans bD.upd;generalize upd (upd H2 p o3) p o4=H4 at eG vT DD;have s5:=de (o:=.tup [.int c1,.int c2]) DD;generalize upd H4 tt (HO.tup [V.int c1,V.int c2])=H5 at s5;have dM:=eG.same s5;have k5:bD p H H5:=k2.trans (vT.trans s5.x);obtain⟨uz,vz,ez,_⟩:=id av;have zm:fa≠p:=YS lW ez (by intro z;cases z);have uW:=s5 _ _ (vT _ _ lW zm);have Er:=k5 _ _ hb Ep;dsimp only[List.set]
   (try refine hY _ _ ?_);refine ZJ fun Y hY=> ⟨_,rfl,b,_,_,_,rfl,rfl,ab.of Er,ij,hg,rfl,.o,.o,?_⟩
   refine Je (fun k ys ak H'=> ∃v rs,ak=[v,some (.ref b),some (.int c1)]/\H'=H5/\ys=rs.map V.int/\(∀r∈rs,0<=r/\r<hg)/\rs.length<=k) ⟨_,[],rfl,rfl,rfl,(fun r h=>by cases h),ZaM _⟩ ?_ ?_
   ·rintro k ys ak H' hk ⟨v,rs,rfl,rfl,rfl,yP,Ow⟩;refine aK ?_;dsimp only[List.set]
    try unfold kN
    refine aX ?_;refine⟨_,rfl,_,rfl,_,_,rfl,rfl,_,rfl,b,_,_,_,rfl,rfl,ab.of Er,ij,_,_,rfl,rfl,.o,by rw[ZaX,Zal];omega,?_⟩;refine⟨_,rs++[_],rfl,rfl,by rw[ZaV];rfl,fun r br=> ?_,by rw[Zaj];simp;omega⟩;rcases ZaO.mp br with z |z
    ·exact yP r z
    ·rw[Zas.mp z];exact⟨Zec _ .o,ZdB _ .o⟩
   ·rintro ys ak H' ⟨v,rs,rfl,rfl,rfl,yP,Ow⟩ L hL;obtain⟨H6,zz,s6,eL⟩:=bV (o:=.lst (rs.map V.int)) hL;rw[zz];dsimp only[List.set]
    (try refine hY _ _ ?_);refine ZJ fun Y hY=> ⟨_,rfl,L,rfl,⟨_,ai.of eL⟩,?_⟩
    refine Zy (xs:=rs.map V.int) (fun j ys ak HE=> ∃v gs,ak=[v,some (.ref fa)]/\ag H6 HE/\ys=gs.map V.int/\(∀r∈gs,0<=r/\r<hg/\bK (.int r) fs=false/\bN (fs++[.int r])=true)/\gs.length<=j) ⟨_,[],rfl,ag.refl _,rfl,(fun r h=>by cases h),ZaM _⟩ (fun j ys ak HE _ ae=>by obtain⟨_,_,_,s',_⟩:=ae;exact ai.of (s' _ _ eL)) ?_ ?_
    ·rintro j y ys ak H7 hy ⟨v,gs,rfl,s7,rfl,rn,Oz⟩;rw[Zbk]at hy;obtain⟨r,qV,rfl⟩:=Zbf.mp hy;have hj:j<rs.length:=(Zaa.mp qV).1;obtain⟨r0,r1⟩:=yP r (ZaD qV);have Ei:=s7 _ _ (s6 _ _ uW);refine aK ?_;dsimp only[List.set];refine⟨_,rfl,_,rfl,fa,fs,rfl,.inr (ab.of Ei),rfl,flat,_,rfl,?_⟩;cases hn:bK (.int r) fs with
     |true=>exact aI (aI ⟨_,gs,rfl,s7,rfl,rn,.o⟩)
     |false=>
      refine aX ?_;refine⟨_,rfl,_,rfl,fE,fun t8 yL=> ?_⟩;obtain⟨H8,zz,s8,e8⟩:=bV (o:=.tup [.int r]) yL;rw[zz];refine W8 (s8 _ _ Ei) e8 (by simp;omega) fun t9 H9 s9 e9=> ?_;refine⟨t9,_,rfl,e9,fun x hx=> ?_,by rw[Zaj];simp;omega,fun mC pZ=> ⟨_,rfl,?_⟩⟩
      ·rcases ZaO.mp hx with z |z
       ·exact CD x z
       ·exact .inr ⟨r,Zas.mp z⟩
      have Cz:=s7.trans (s8.trans (s9.trans pZ));cases hu:bN (fs++[.int r]) with
      |true=>
       refine aX ⟨_,rfl,by rw[ZaX,Zal];omega,⟨_,gs++[r],rfl,Cz,by rw[ZaV];rfl,fun r' br=> ?_,by rw[Zaj];simp;omega⟩⟩;rcases ZaO.mp br with z |z
       ·exact rn r' z
       ·rw[Zas.mp z];exact⟨r0,r1,hn,hu⟩
      |false=>exact aI ⟨_,gs,rfl,Cz,rfl,rn,.o⟩
    ·rintro ys ak H7 ⟨v,gs,rfl,s7,rfl,rn,Oz⟩ M hM;obtain⟨H8,zz,s8,eM⟩:=bV (o:=.lst (gs.map V.int)) hM;rw[zz];dsimp only[List.set];have oj:=s6.trans (s7.trans s8);have hf8:=oj _ _ uW;refine hY _ _ ?_;refine bC ⟨_,rfl,_,rfl,BK,fun c hc=> ⟨M,c,_,rfl,rfl,ai.of (de hc _ _ eM),ai.of Zd,_,rfl,?_⟩⟩;have s9:=de (o:=.lst []) hc;generalize upd H8 c (HO.lst [])=H9 at s9;have C6:∀{mC:Hp},ag H9 mC->∀t,mC t=none->mP K (.ref fa) (.ref t) (upd mC t (.tup [.ah])) fun v H'=>bE 3 v [some (.ref p),some (.ref b),some (.int n),some (.ref fa),some (.int (fs.length:Int)),some (.int c1),some (.int c2),some (.ref L),some (.ref M)] H' fun aQ H2=> ∃(fa:Addr) (rH:List V) (x4 x5 x6 x7 x8:Option V),aQ=[some (.ref p),some (.ref b),some (.int n),some (.ref fa),x4,x5,x6,x7,x8]/\bD p H H2/\dk H2 p/\H2 fa=some (.tup rH)/\rH.length=fs.length+1/\dC wd.toNat rH∈cH wd.toNat hg.toNat (fs.length+1):=by intro mC pZ t ht;have ow:=de (o:=.tup [.ah]) ht;have mL:=oj.trans (s9.trans (pZ.trans ow));refine W8 (mL _ _ uW) Zd (by simp;omega) fun t9 vM cW e12=>aK ?_;exact⟨t9,_,_,_,_,_,_,rfl,k5.trans (mL.trans cW).x,dM.same (mL.trans cW),e12,by simp,Vo hm aY⟩
     cases gs with
     |nil=>exact aX ⟨fE,C6 (ag.refl _)⟩
     |cons g gs=>
      refine aI ⟨_,rfl,_,rfl,_,_,rfl,rfl,_,rfl,?_⟩;cases decide (c2<n) with
      |true=>exact aX ⟨fE,C6 (ag.refl _)⟩
      |false=>refine aI ⟨_,rfl,M,_,0,.int g,rfl,rfl,ai.of (s9 _ _ eM),(Y8 (j:=0) rfl:fw (List.map V.int (g::gs)) ((0:Nat):Int)=some (.int g)),fE,fun t ht=> ?_⟩;have ow:=de (o:=.tup [.int g]) ht;have mL:=oj.trans (s9.trans ow);obtain⟨m0,m1,m2,m3⟩:=rn g Zaf;refine W8 (mL _ _ uW) Zd (by simp;omega) fun t9 vM cW e12=>aK ?_;exact⟨t9,_,_,_,_,_,_,rfl,k5.trans (mL.trans cW).x,dM.same (mL.trans cW),e12,by simp,Vn hm aY m0 .o m2 m3⟩
  ·rintro σ H2 ⟨fa,fs,x4,x5,x6,x7,x8,rfl,k2,av,lW,OM,hm⟩;obtain⟨uz,vz,ez,_⟩:=id av;have zm:fa≠p:=YS lW ez (by intro z;cases z);have e:dC wd.toNat fs=fs:=by unfold dC;rw[OM,Nat.sub_self];exact ZbE _
   rw[e]at hm;refine hY _ _ ?_;exact⟨_,rfl,q fa H2 fs k2 av lW zm hm⟩
end
end U.S
namespace U.Z
open PySem L2 PyProof.Rows PyProof.Rows.dc
theorem yB {wd hg:Int}{xs:List V}(h:bu wd hg (some xs)=true):cA wd hg xs:=by
 obtain⟨h1,h2,h3⟩:=T.uA.mp h;refine⟨h1,fun r hr=> ?_,?_⟩
 ·obtain⟨m,n⟩:=ZaZ.mp hr;rcases h2 r m with rfl |e
  ·simp at n
  ·exact e
 ·unfold rowsOf;refine ZaU.mpr (List.pairwise_filter.mpr (h3.imp ?_));intro a b hV ha hb e;have:=hV e;rw[this]at ha;simp at ha
theorem LQ (wd hg:Int)(xs:List V):T.gC wd hg xs=own wd hg xs:=funext fun q=>by unfold T.gC own led;simp
theorem qH {K:ZhK}{H:Hp}{x:V}{l:Addr}{xs:List V}{wd hg:Int}(a:T.bt K H x l xs wd hg):bt H x (.ref l) wd hg xs:=⟨a.bd,Zx a.at_,yB a.ly⟩
end U.Z
namespace U.T
open PySem L2 PyProof.Rows PyProof.Rows.dc
section
abbrev xf:Stmt:=top 74
inductive wq (K:ZhK) (vs:List V) (H:Hp) (Q:VK) (_:XK):Prop
 |mk (b l t u:Addr) (xs:List V) (wd hg:Int) (q p:Bool×Bool×Bool) (_:vs=[.ref b,.ref l,.ref t,.ref u]) (_:bt K H (.ref b) l xs wd hg) (_:H t=some (.tup (tv q))) (_:H u=some (.tup (tv p))) (_:∀H',ag H H'->Q (.bl true) H')
noncomputable abbrev MJ:List Str:=["_law_board", "_law_lay_here", "_law_one", "_law_other", "_law_here", "_law_there", "_law_both"]
theorem wN:aM MJ ["_law_board", "_law_lay_here", "_law_one", "_law_other"] (ax xf):=Zr (by decide+kernel)
theorem L1 (F:aH K "_law_turns_right" "_law_turns_right" xf f fd)(sy:Def P w K mg base 5 "turned_board" ["board", "turn"] (pU K))(sv:Def P w K mg base 8 "turned" ["board", "lay", "turn"] (tw K))(Bf:Def P w K mg base 5 "turns_together" ["turn", "other"] (wo K))
  (Dly:Def P w K mg base 5 "is_lay" ["board", "thing"] (wD K)) (HF:Def P w K mg base 10 "like_many" ["board", "lay"] Cb) (pD:Def P w K mg base 11 "is_unlike" ["board", "lay"] tj) (gQ:Def P w K mg base 10 "least_turned" ["board", "lay"] (nZ K)):
  ay P w K mg base az 12 f fd ["_law_board", "_law_lay_here", "_law_one", "_law_other"] (wq K):=by
 refine F.ok wN (fun vs H Q E h=> ?_) (fun ao A outer s H vs Q E hr h=> ?_)
 ·obtain⟨b,l,t,u,xs,wd,hg,q,p,rfl,_⟩:=h;rfl
 ·obtain⟨b,l,t,u,xs,wd,hg,q,p,rfl,la,ht,hu,k⟩:=h;have fX:=rY hr;have DC:=Zda fX;refine⟨_,Ze (vD (i:=4) (j:=5) rfl wN.nd rfl rfl .d rfl rfl (Za (Zc sy (hr.mono .d) (Za (pv 0) (Za (pv 2) Zb))) (Za (Zc sv (hr.mono .d) (Za (pv 0) (Za (pv 1) (Za (pv 2) Zb)))) Zb)) rfl)
   (Ze (Zu (i:=6) wN.nd rfl (Or.inl rfl) (Zc Bf (hr.mono .d) (Za (pv 2) (Za (pv 3) Zb))))
   (Ze (Z1 (PW.pt (J8 (Zq SE (Zc Dly (hr.mono .d) (Za (pv 4) (Za (pv 5) Zb))) Ao (bR _)) (YM (Zq (Gb DC) (Zc sv (hr.mono .d) (Za (pv 4) (Za (pv 5) (Za (pv 3) Zb)))) (Zc sv (hr.mono .d) (Za (pv 0) (Za (pv 1) (Za (pv 6) Zb)))) (bR _))))) ZF ZD)
   (Ze (Z1 (Zq (Gb DC) (Zc sy (hr.mono .d) (Za (pv 4) (Za (pv 3) Zb))) (Zc sy (hr.mono .d) (Za (pv 0) (Za (pv 6) Zb))) (bR _)) ZF ZD)
   (Ze (Z1 (PW.pt (J8 (Zq vy (Zc HF (hr.mono .d) (Za (pv 4) (Za (pv 5) Zb))) (Zc HF (hr.mono .d) (Za (pv 0) (Za (pv 1) Zb))) (bR _)) (YM (Zq vy (Zc pD hr (Za (pv 4) (Za (pv 5) Zb))) (Zc pD hr (Za (pv 0) (Za (pv 1) Zb))) (bR _))))) ZF ZD)
   (Zg (Zm (YG (FN fX) (Zc gQ (hr.mono .d) (Za (pv 4) (Za (pv 5) Zb))) (Zc gQ (hr.mono .d) (Za (pv 0) (Za (pv 1) Zb))) (bR _)))))))),?_⟩
  try dsimp only[aP]
  obtain⟨_,w1,w2,g1,g2⟩:=id la.bd;have ly:=la.ly;have jD:=Z.vZ .o .o ly q
  (try refine hY _ _ ?_);refine ZJ fun Y hY=> ⟨_,rfl,_,rfl,b,t,wd,hg,q,rfl,la.bd,ab.of ht,fun c H1 s1 bc=> ⟨_,rfl,_,rfl,_,rfl,b,l,t,xs,wd,hg,q,rfl,la.same s1,ab.of (s1 _ _ ht),fun m H2 s2 em=> ⟨_,_,rfl,?_⟩⟩⟩
  dsimp only[List.set];have cX:=s1.trans s2;have lc:∀{H'},ag H2 H'->bt K H' (.ref c) m (bH wd hg q xs) (tW wd hg q) (tH wd hg q):=fun s'=> ⟨bc.same (s2.trans s'),s' _ _ em,jD⟩;have lb:∀{H'},ag H2 H'->bt K H' (.ref b) l xs wd hg:=fun s'=>la.same (cX.trans s')
  (try refine hY _ _ ?_);refine ZJ fun Y hY=> (bC ⟨_,rfl,_,rfl,t,u,q,p,rfl,ab.of (cX _ _ ht),ab.of (cX _ _ hu),fun r H3 s3 er=>aK ?_⟩)
  dsimp only[List.set];have pu:∀{H'},ag H3 H'->ab K H' u (tv p):=fun s'=>ab.of ((cX.trans (s3.trans s')) _ _ hu)
  (try refine hY _ _ ?_);refine ZJ fun Y hY=> ⟨_,rfl,_,rfl,.ref c,.ref m,_,_,rfl,(lc s3).bd,(lc s3).pl,fun H4 s4=> ⟨_,_,rfl,rfl,?_⟩⟩
  rw[Zx (lc s3).at_,jD];refine⟨_,rfl,aI ⟨_,rfl,_,rfl,_,rfl,c,m,u,_,_,_,p,rfl,lc (s3.trans s4),pu s4,fun u5 H5 s5 e5=> ?_⟩⟩;rw[Z.pK ly]at e5;have mN:=s3.trans (s4.trans s5);refine⟨_,rfl,_,rfl,_,rfl,b,l,r,_,_,_,aZ q p,rfl,lb mN,ab.of ((s4.trans s5) _ _ er),fun u6 H6 s6 e6=> ?_⟩;have ni:=(Yc (q:=aZ q p) ly).ni;refine⟨u5,u6,_,_,rfl,rfl,s6 _ _ e5,e6,ni,ni,?_⟩;rw[Zaq rfl];refine⟨_,rfl,aI (fh ?_)⟩;dsimp only;have xU:=s4.trans (s5.trans s6);have mM:=s3.trans xU
  (try refine hY _ _ ?_);refine ZJ fun Y hY=> ⟨_,rfl,_,rfl,c,u,_,_,p,rfl,(lc mM).bd,pu xU,fun c7 H7 s7 b7=> ⟨_,rfl,_,rfl,b,r,wd,hg,aZ q p,rfl,(lb (mM.trans s7)).bd,ab.of ((xU.trans s7) _ _ er),fun c8 H8 s8 b8=> ?_⟩⟩
  obtain⟨_,z7,h7⟩:=Zk b7.1;cases z7;obtain⟨_,z8,h8⟩:=Zk b8.1;cases z8;rw[Z.nU,Z.pQ]at h7;refine⟨c7,c8,_,_,rfl,rfl,s8 _ _ h7,h8,rfl,rfl,?_⟩;rw[Zaq rfl];refine⟨_,rfl,aI (fh ?_)⟩;dsimp only;have xV:=mM.trans (s7.trans s8)
  (try refine hY _ _ ?_);refine ZJ fun Y hY=> ⟨_,rfl,_,rfl,.ref c,.ref m,_,_,_,rfl,Z.qH (lc xV),fun H9 s9=> ⟨_,rfl,_,rfl,.ref b,.ref l,_,_,_,rfl,Z.qH (lb (xV.trans s9)),fun mC pZ=> ⟨rfl,?_⟩⟩⟩
  rw[Z.M0 w1 g1 ly];have z9:decide (V.int (j5 wd hg xs)=V.int (j5 wd hg xs))=true:=Zaq rfl;rw[z9];have sa:=xV.trans (s9.trans pZ);refine⟨_,rfl,aI ⟨_,rfl,_,rfl,.ref c,.ref m,_,_,_,rfl,Z.qH (lc sa),fun HD r1 ow f1=> ⟨_,rfl,_,rfl,.ref b,.ref l,_,_,_,rfl,Z.qH (lb (sa.trans ow)),fun vM r2 cW f2=> ⟨rfl,?_⟩⟩⟩⟩;rw[Z.Ih w1 g1 (Z.yB ly) q (Z.yB jD) f2 f1];have HZ:decide (V.bl r2.isNone=V.bl r2.isNone)=true:=Zaq rfl;rw[HZ];refine⟨_,rfl,aI (fh ?_)⟩;dsimp only;have sb:=sa.trans (ow.trans cW);refine hY _ _ ?_;refine⟨_,rfl,_,rfl,c,m,_,_,_,rfl,lc sb,fun v1 p1 vL fW l1 k1=> ⟨_,rfl,_,rfl,b,l,_,_,_,rfl,lb (sb.trans fW),fun v2 p2 H14 iG l2 k2=> ?_⟩⟩;obtain⟨y1,y2,y3⟩:=Z.M6 .o .o ly k2 k1;obtain⟨a1,c1,d1,rfl,i1,i2,i3⟩:=l1.same iG;obtain⟨a2,c2,d2,rfl,j1,j2,j3⟩:=l2;obtain⟨_,x1,i4⟩:=Zk i2.1;cases x1;obtain⟨_,x2,j4⟩:=Zk j2.1;cases x2;have n1:=(Yc (q:=p1) jD).ni;have n2:=(Yc (q:=p2) ly).ni;refine⟨a1,a2,c1,d1,c2,d2,_,_,_,_,rfl,rfl,ab.of i1,ab.of j1,ab.of i4,ab.of i3,ab.of j4,ab.of j3,rfl,n1,rfl,n2,?_⟩;rw[y1,y2,y3,Zaq ⟨rfl,rfl⟩];exact k _ (cX.trans (sb.trans (fW.trans iG)))
end
theorem Wi {β:Type}{F:V->β->Prop}(hF:∀v q,F v q->∃a,v=.ref a):∀{vs:List V}{qs:List β},Paired F vs qs->∃as:List Addr,vs=as.map V.ref/\Paired (fun a q=>F (.ref a) q) as qs
 |_,_,.nil=> ⟨[],rfl,.nil⟩
 |_,_,.cons h r=>by obtain⟨a,rfl⟩:=hF _ _ h;obtain⟨as,e,p⟩:=Wi hF r;exact⟨a::as,by rw[e];rfl,.cons h p⟩
theorem Ub {α β:Type}{F:α->β->Prop}{f:α->Bool}{g:β->Bool}(h:∀a b,F a b->f a=g b):∀{as:List α}{bs:List β},Paired F as bs->as.any f=bs.any g
 |_,_,.nil=>rfl
 |_,_,.cons h1 r=>by rw[ZdS,ZdS,h _ _ h1,Ub h r]
theorem Js {α β:Type}{F:α->β->Prop} :∀{as:List α}{bs:List β}{a:α},Paired F as bs->a∈as->∃b∈bs,F a b
 |_,_,a,.cons h r,m=>by
  rcases Zav.mp m with rfl |m
  ·exact⟨_,Zaf,h⟩
  ·obtain⟨b,hb,f⟩:=Js r m;exact⟨b,Zae _ hb,f⟩
theorem SU:∀a b c d e f:Bool,tv (a,b,c)=tv (d,e,f)->(a,b,c)=(d,e,f):=by decide+kernel
theorem FH (q p:Bool×Bool×Bool):tv q=tv p->q=p:=SU _ _ _ _ _ _
theorem RV {K:ZhK}{a:Addr}{q p:Bool×Bool×Bool}(h:∀H,ab K H a (tv q))(h':∀H,ab K H a (tv p)):q=p:=by
 have e:∀{xs:List V},(∀H,ab K H a xs)->∃(o:Obj) (aa:Array Value) (n:Nat),K.lookup a=some o/\o.data=.seq aa n/\Vals xs aa.toList:=fun {xs} h=>by
  rcases h (fun _=>none) with h |⟨o,aa,n,hk,_,hd,_,r⟩ |h
  ·rcases h with h |⟨_,h⟩<;>cases h
  ·exact⟨o,aa,n,hk,hd,r⟩
  ·cases h
 obtain⟨o,aa,n,hk,hd,r⟩:=e h;obtain⟨o',its',n',aG,dA,r'⟩:=e h';rw[hk]at aG;cases aG;rw[hd]at dA;cases dA;refine FH _ _ ?_;exact Vals.inj r r'
theorem TH {wd hg:Int}{xs:List V}{H:Hp}{v:V}{q p:Bool×Bool×Bool}(h:eC wd hg xs H v q)(h':eC wd hg xs H v p):Z.led wd hg xs q=Z.led wd hg xs p:=by obtain⟨t,c,u,rfl,h1,h2,h3⟩:=h;obtain⟨t',c',u',e,fq,eY,i8⟩:=h';cases e;rw[h1]at fq;cases fq;rw[h3]at i8;obtain⟨_,z,k⟩:=Zk h2.1;cases z;obtain⟨_,z,k'⟩:=Zk eY.1;cases z;rw[k]at k';unfold Z.led;injection i8 with i8;injection i8 with i8;injection k' with k';injection k' with k';injection k' with k1 k2;injection k2 with k2 _;injection k1 with k1;injection k2 with k2;rw[i8,k1,k2]
open Classical in
noncomputable def l7 (wd hg:Int)(xs:List V)(H:Hp)(p:Bool×Bool×Bool)(a:Addr):Bool:=decide (∃q,eC wd hg xs H (.ref a) q/\Z.led wd hg xs p=Z.led wd hg xs q)
theorem AX {wd hg:Int}{xs:List V}{H:Hp}{a:Addr}{p q:Bool×Bool×Bool}(h:eC wd hg xs H (.ref a) q):l7 wd hg xs H p a=decide (Z.led wd hg xs p=Z.led wd hg xs q):=by unfold l7;refine Zcb.mpr (Iff.trans (@ZcY _ (_)) (Iff.trans ?_ ZcY.symm));exact⟨fun⟨q',h',e⟩=>e.trans (TH h' h),fun e=> ⟨q,h,e⟩⟩
theorem GA {K:ZhK}{wd hg:Int}{xs:List V}(ly:bu wd hg (some xs)=true){H:Hp}{a:Addr}{v:V}{p q:Bool×Bool×Bool}(h:eC wd hg xs H (.ref a) q)(h':eC wd hg xs H v p):Be K H a v (l7 wd hg xs H p a):=by
 rw[AX h];obtain⟨t,c,u,e,h1,h2,h3⟩:=h;cases e;obtain⟨t',c',u',rfl,fq,eY,i8⟩:=h';obtain⟨_,z,k⟩:=Zk h2.1;cases z;obtain⟨_,z,k'⟩:=Zk eY.1;cases z;refine⟨t',c,u,c',u',_,_,_,_,rfl,ab.of h1,ab.of fq,ab.of k,ab.of h3,ab.of k',ab.of i8,rfl,(Yc ly).ni,rfl,(Yc ly).ni,?_⟩;rw[Zcb,Zbg,Zbg];unfold Z.led;constructor
 ·intro e;injection e with e1 e2;injection e1 with e1 e3;rw[e1,e2,e3];exact⟨rfl,rfl⟩
 ·rintro⟨e1,e2⟩;injection e1 with e1 e3;injection e3 with e3 _;injection e1 with e1;injection e3 with e3;rw[e1,e2,e3]
theorem UE {α:Type}(R:α->α->Bool)(l:List α)(x:α):Z.once R (l++[x])=if (Z.once R l).any (R x) then Z.once R l else Z.once R l++[x]:=by unfold Z.once;rw[Zgh];rfl
theorem Hn {α:Type}(R:α->α->Bool)(l:List α):∀n,(Z.once R (l.take n)).length<=n:=fun n=>by
 induction n with
 |zero=>exact Zak _
 |succ n ih=>
  rw[Za2];cases l[n]? with
  |none=>rw[show(none:Option α).toList=[] from rfl,ZbE];omega
  |some x=>
   rw[show(some x).toList=[x] from rfl,UE];split
   ·omega
   ·rw[Zaj];simp;omega
section
abbrev tQ:Stmt:=top 75
inductive wx (K:ZhK) (vs:List V) (H:Hp) (Q:VK) (_:XK):Prop
 |mk (b l:Addr) (xs:List V) (wd hg:Int) (_:vs=[.ref b,.ref l]) (_:bt K H (.ref b) l xs wd hg) (_:∀H',ag H H'->Q (.bl true) H')
noncomputable abbrev MK:List Str:=["_law_board", "_law_lay_here", "_law_own", "_law_least", "_law_one", "_law_other", "_law_there", "_law_all_there"]
theorem mJ:aM MK ["_law_board", "_law_lay_here"] (ax tQ):=Zr (by decide+kernel)
theorem L9 (F:aH K "_law_own_right" "_law_own_right" tQ f fd)(G:Gs mg)(sD:Def P w K mg base 10 "own_turns" ["board", "lay"] (tD K))(gQ:Def P w K mg base 10 "least_turned" ["board", "lay"] (nZ K))(Bf:Def P w K mg base 5 "turns_together" ["turn", "other"] (wo K))
  (sy:Def P w K mg base 5 "turned_board" ["board", "turn"] (pU K)) (sv:Def P w K mg base 8 "turned" ["board", "lay", "turn"] (tw K)) (Dat:Def P w K mg base 1 "_law_all_turns" [] Ci):ay P w K mg base az 11 f fd ["_law_board", "_law_lay_here"] (wx K):=by
 refine F.ok mJ (fun vs H Q E h=> ?_) (fun ao A outer s H vs Q E hr h=> ?_)
 ·obtain⟨b,l,xs,wd,hg,rfl,_⟩:=h;rfl
 ·obtain⟨b,l,xs,wd,hg,rfl,la,k⟩:=h;have dR:(A.deeper (envOfC "_law_own_right" (ax tQ) s.heap.objs.size f ao)).units+2<cLine:=by have:=hr.un;omega
  have fX:=Zda dR;refine⟨_,Ze (vD (i:=2) (j:=3) rfl mJ.nd rfl rfl .d rfl rfl (Za (Zc sD hr (Za (pv 0) (Za (pv 1) Zb))) (Za (Zc gQ hr (Za (pv 0) (Za (pv 1) Zb))) Zb)) rfl)
   (Ze (ZY Zcn rfl (Zw (pv 2)) (Zn (i:=4) mJ.nd rfl (Or.inl rfl))
    (Zg (ZY Zcn rfl (Zw (pv 2)) (Zn (i:=5) mJ.nd rfl (Or.inl rfl))
     (Zg (Z1 (Zq (Zcc fX) (Zc Bf (hr.mono .d) (Za (pv 4) (Za (pv 5) Zb))) (pv 2) rfl) ZF ZD)))))
   (Ze (Yr ["_law_turn_here", "_law_board", "_law_lay_here"] 1 [0,1] (i:=6) mJ.nd rfl (Or.inl rfl) (Zw (XM Dat (hr.mono .d))) (fun C s H fp=>pb 0) (fun C s H fp=>ZE)
     (fun C s H fp D=>cc rfl (Zs (Za (Zc sy (hr.mono .d) (Za (pv 1) (Za (pv 0) Zb))) (Za (Zc sv (hr.mono .d) (Za (pv 1) (Za (pv 2) (Za (pv 0) Zb)))) Zb)))))
   (Ze (Zu (i:=7) mJ.nd rfl (Or.inl rfl) (Z6 Zb))
   (Ze (ZY Zcn rfl (Zw (pv 6)) (Zn (i:=4) mJ.nd rfl (Or.inl rfl))
    (Zg (Z1 (Zq (Zcd dR) (pv 4) (pv 7) rfl) (Zg (ZP (rZ Zel PySem.F.slot_list_append PySem.F.type_list_append Xw (pv 7) (Za (pv 4) Zb)))) ZD)))
   (Zg (Zm (YH (YG (SD dR) (pv 3) (pv 6) rfl) (YF (YG YQ (Zp YO (Zo Zv rfl G.len Zez (Za (pv 7) Zb)) (Zo Zv rfl G.len Zez (Za (pv 2) Zb))) Zf (bR _)))))))))),?_⟩
  try dsimp only[aP]
  obtain⟨_,w1,w2,g1,g2⟩:=id la.bd;have ly:=la.ly
  (try refine hY _ _ ?_);refine ZJ fun Y hY=> ⟨_,rfl,_,rfl,b,l,xs,wd,hg,rfl,la,fun L H1 ps s1 nL eL pr=> ⟨_,rfl,_,rfl,b,l,xs,wd,hg,rfl,la.same s1,fun v0 q0 H2 s2 Na _=> ⟨_,_,rfl,?_⟩⟩⟩
  dsimp only[List.set];rw[Z.LQ]at pr;have jd:=s2 _ _ eL;have cX:=s1.trans s2;obtain⟨as,rfl,pa⟩:=Wi (fun v q ae=>by obtain⟨t,e,_⟩:=ae;exact⟨t,e⟩) pr;have Dr:(as.map V.ref).length=(aW.filter (Z.own wd hg xs)).length:=Za0 pr
  (try refine hY _ _ ?_);refine ZJ fun Y hY=> ⟨_,rfl,L,rfl,⟨_,ai.of jd⟩,?_⟩
  refine Yh (xs:=as.map V.ref) (fun i σ H'=> ∃o4 o5,σ=[some (.ref b),some (.ref l),some (.ref L),some v0,o4,o5,none,none]/\ag H2 H') ⟨_,_,rfl,ag.refl _⟩ (fun i σ H' _ ae=>by obtain⟨_,_,_,s'⟩:=ae;exact ai.of (s' _ _ jd)) ?_ ?_
  ·rintro i x σ H3 hx ⟨o4,o5,rfl,s3⟩;obtain⟨t,ht,rfl⟩:=YI hx;obtain⟨q,hq,t',z,pt⟩:=ZV pa ht;cases z;have oq:=(ZaZ.mp (ZaD hq)).2;refine aK ?_;dsimp only[List.set];refine⟨_,rfl,L,rfl,⟨_,ai.of (s3 _ _ jd)⟩,?_⟩;refine Yh (xs:=as.map V.ref) (fun i σ H'=> ∃o5,σ=[some (.ref b),some (.ref l),some (.ref L),some v0,some (.ref t),o5,none,none]/\ag H2 H') ⟨_,rfl,s3⟩ (fun i σ H' _ ae=>by obtain⟨_,_,s'⟩:=ae;exact ai.of (s' _ _ jd)) ?_ ?_
   ·rintro j y σ H4 hy ⟨o5,rfl,s4⟩;obtain⟨u,hu,rfl⟩:=YI hy;obtain⟨p,hp,u',z,pu⟩:=ZV pa hu;cases z;have op:=(ZaZ.mp (ZaD hp)).2;refine aK ?_;dsimp only[List.set];refine⟨_,rfl,_,rfl,t,u,q,p,rfl,pt _,pu _,fun r H5 s5 e5=> ?_⟩;have mN:=s4.trans s5;obtain⟨c,hc⟩:∃c∈as,∀H,ab K H c (tv (aZ q p)):=by
     obtain⟨n,hn⟩:=List.mem_iff_getElem?.mp (ZaZ.mpr ⟨mf (aZ q p),Z.CY ly oq op⟩);have hl:n<as.length:=by have:=(Zaa.mp hn).1;rw[Zal]at Dr;omega
     obtain⟨q',cE,c',z,pc⟩:=ZV pa (Zaw hl);rw[hn]at cE;cases cE;cases z;exact⟨_,Zeo hl,pc⟩
    refine⟨_,rfl,L,as,fun a=> @decide (∀H,ab K H a (tv (aZ q p))) (Classical.propDecidable _),rfl,ai.of (mN _ _ jd),fun a ha=> ?_,?_⟩
    ·obtain⟨q',_,a',z,yh⟩:=Js pa ha;cases z;refine⟨r,_,_,rfl,yh _,ab.of e5,rfl,rfl,?_⟩;refine Zcb.mpr (Iff.trans (@ZcY _ (_)) (Iff.trans ?_ ZcY.symm));exact⟨fun h=>by rw[RV yh h],fun h=>FH _ _ h▸yh⟩
    ·rw[ZdD.mpr ⟨c,hc.1, @Zaq _ (_) hc.2⟩];exact⟨_,rfl,aI (fh ⟨_,rfl,mN⟩)⟩
   ·rintro σ H4 ⟨o5,rfl,s4⟩;exact⟨_,_,rfl,s4⟩
  ·rintro σ H3 ⟨o4,o5,rfl,s3⟩;dsimp only;have xW:=cX.trans s3
   (try refine hY _ _ ?_);refine ZJ fun Y hY=> ⟨rfl,fun M H4 ts s4 eM pM=> ⟨M,rfl,⟨_,ai.of eM⟩,?_⟩⟩
   have lt:ts.length=8:=Za0 pM;refine Zy (xs:=ts) (fun i zs σ H'=> ∃o,σ=[o,some (.ref b),some (.ref l)]/\ag H4 H'/\Paired (eC wd hg xs H') zs (aW.take i)) ⟨_,rfl,ag.refl _,.nil⟩ (fun i zs σ H' _ ae=>by obtain⟨_,_,s',_⟩:=ae;exact ai.of (s' _ _ eM)) ?_ ?_
   ·rintro i v zs σ H5 hv ⟨o,rfl,s5,pz⟩;obtain⟨q,hq,pq⟩:=ZV pM hv;obtain⟨t,rfl,ht⟩:=pq.same s5;have hi:i<ts.length:=(Zaa.mp hv).1;have Ds:=la.same (xW.trans (s4.trans s5));refine aK ?_;dsimp only[List.set]
    try unfold kN
    refine aX ⟨_,rfl,_,rfl,b,t,wd,hg,q,rfl,Ds.bd,ab.of ht,fun c H6 s6 b6=> ⟨_,rfl,_,rfl,_,rfl,b,l,t,xs,wd,hg,q,rfl,Ds.same s6,ab.of (s6 _ _ ht),fun u H7 s7 e7=> ⟨bT,fun z hz=> ?_⟩⟩⟩;obtain⟨H8,zz,s8,e8⟩:=bV (o:=.tup [V.ref c,V.ref u]) hz;rw[zz];have oj:=s6.trans (s7.trans s8);refine⟨by rw[Za0 pz,ZaX,ZaR];omega,_,rfl,s5.trans oj,?_⟩;rw[Za2,hq];exact Zc3 (Paired.ba pz fun v q h=>h.same oj) ⟨z,c,u,rfl,e8,b6.same (s7.trans s8),s8 _ _ e7⟩
   ·rintro zs σ H5 ⟨o,rfl,s5,pz⟩ W hW;rw[lt,show aW.take 8=aW from rfl]at pz;obtain⟨H6,zz,sw,ew⟩:=bV (o:=.lst zs) hW;rw[zz];have pw:=Paired.ba pz fun v q (h:eC wd hg xs H5 v q)=>h.same sw;have mM:=s3.trans (s4.trans (s5.trans sw));have Lb:=cX.trans mM;have Qe:=mM _ _ jd;have M8:=Na.same mM;clear pz pM;dsimp only[List.set]
    (try refine hY _ _ ?_);refine ZJ fun Y hY=> (bC ⟨ZaM _,fun N hN=>aK ?_⟩)
    dsimp only[List.set]
    (try refine hY _ _ ?_);refine ZJ fun Y hY=> ⟨_,rfl,W,rfl,⟨_,ai.of (bh hN _ _ ew)⟩,?_⟩
    obtain⟨ws,rfl,CM⟩:=Wi (fun v q ae=>by obtain⟨t,_,_,e,_⟩:=ae;exact⟨t,e⟩) pw;refine Yh (xs:=ws.map V.ref) (fun i σ H'=> ∃(o4:Option V) (ns:List V),σ=[some (.ref b),some (.ref l),some (.ref L),some v0,o4,o5,some (.ref W),some (.ref N)]/\ag H6 H'/\H' N=some (.lst ns)/\Paired (eC wd hg xs H') ns (Z.once (fun p q=>Z.own wd hg xs (aZ p (Z.inv q))) (aW.take i))) ⟨_,[],rfl,bh hN,Zd,.nil⟩ (fun i σ H' _ ae=>by obtain⟨_,_,_,s',_⟩:=ae;exact ai.of (s' _ _ ew)) ?_ ?_
    ·rintro i x σ H7 hx ⟨o,ns,rfl,s7,eN,pn⟩;obtain⟨p,hp,px⟩:=ZV pw hx;have CL:=px.same s7;have hi:i<8:=by have h1:=(Zaa.mp hx).1;have h2:(ws.map V.ref).length=8:=Za0 pw;omega
     have ln:=Za0 pn;have lo:=Hn (fun p q=>Z.own wd hg xs (aZ p (Z.inv q))) aW i;obtain⟨ms,rfl,pm⟩:=Wi (fun v q ae=>by obtain⟨t,_,_,e,_⟩:=ae;exact⟨t,e⟩) pn;refine aK ?_;dsimp only[List.set];refine⟨_,rfl,_,rfl,N,ms,l7 wd hg xs H7 p,rfl,ai.of eN,fun a ha=> ?_,_,rfl,?_⟩
     ·obtain⟨q,_,pq⟩:=Js pm ha;exact GA ly pq CL
     have ea:ms.any (l7 wd hg xs H7 p)=(Z.once (fun p q=>Z.own wd hg xs (aZ p (Z.inv q))) (aW.take i)).any fun q=>Z.own wd hg xs (aZ p (Z.inv q)):=Ub (fun a q h=>by rw[AX h,Zcb,Zbg,Z.M5 ly]) pm
     have es:Z.once (fun p q=>Z.own wd hg xs (aZ p (Z.inv q))) (aW.take (i+1))=if (Z.once (fun p q=>Z.own wd hg xs (aZ p (Z.inv q))) (aW.take i)).any (fun q=>Z.own wd hg xs (aZ p (Z.inv q))) then Z.once (fun p q=>Z.own wd hg xs (aZ p (Z.inv q))) (aW.take i) else Z.once (fun p q=>Z.own wd hg xs (aZ p (Z.inv q))) (aW.take i)++[p]:=by rw[Za2,hp];exact UE _ _ _
     rw[<-ea]at es;generalize hb:ms.any (l7 wd hg xs H7 p)=bb at es;cases bb with
     |true=>refine aI (fh ⟨_,_,rfl,s7,eN,?_⟩);rw[es];exact pn
     |false=>
      refine aX ⟨_,rfl,.inl ⟨rfl,_,ai.of eN⟩,_,rfl,N,_,_,rfl,rfl,eN,by rw[ln,ZaX];omega,?_⟩;have keep:∀v q,eC wd hg xs H7 v q->eC wd hg xs (upd H7 N (.lst (ms.map V.ref++[x]))) v q:=fun v q ⟨t,c,u,e,h1,h2,h3⟩=>by
       obtain⟨_,z,h4⟩:=Zk h2.1;cases z;have ne:∀{a:Addr}{ys:List V},H7 a=some (.tup ys)->upd H7 N (.lst (ms.map V.ref++[x])) a=some (.tup ys):=fun h=>by rw[Zi (fun z=>by rw[z,eN]at h;cases h)];exact h
       exact⟨t,c,u,e,ne h1,⟨Zx (ne h4),h2.2⟩,ne h3⟩
      refine⟨_,_,rfl,pX s7 hN,Zd,?_⟩;rw[es];exact Zc3 (Paired.ba pn keep) (keep _ _ CL)
    ·rintro σ H7 ⟨o,ns,rfl,s7,eN,pn⟩;rw[Za0 pw,show aW.take aW.length=aW from rfl]at pn;dsimp only;refine hY _ _ ?_;refine⟨_,rfl,_,rfl,W,ws,l7 wd hg xs H7 q0,rfl,ai.of (s7 _ _ ew),fun a ha=> ?_,?_⟩
     ·obtain⟨q,_,pq⟩:=Js CM ha;exact GA ly (pq.same s7) (M8.same s7)
     have ea:ws.any (l7 wd hg xs H7 q0)=true:=by rw[Ub (g:=fun q=>decide (Z.led wd hg xs q0=Z.led wd hg xs q)) (fun a q h=>AX (h.same s7)) CM,ZdD];exact⟨q0,mf q0,Zaq rfl⟩
     rw[ea];refine⟨true,rfl,aX ⟨_,rfl,N,ns,rfl,.inl (ai.of eN),_,rfl,L,_,rfl,.inl (ai.of (s7 _ _ Qe)),_,_,rfl,rfl,.inl ?_,rfl,?_⟩⟩
     ·have lo:(Z.once (fun p q=>Z.own wd hg xs (aZ p (Z.inv q))) aW).length<=8:=Hn _ aW 8;rw[<-Za0 pn]at lo;constructor<;>omega
     have e8:=Z.P8 ly;rw[Za0 pn,Dr];have z:decide (V.int ((Z.once (fun p q=>Z.own wd hg xs (aZ p (Z.inv q))) aW).length*(aW.filter (Z.own wd hg xs)).length:Int)=V.int 8)=true:=by rw[<-Int.natCast_mul,e8];exact Zaq rfl
     rw[z];exact k _ (Lb.trans s7)
end
theorem Ni {wd hg:Int}{xs:List V}(h:U.cA wd hg xs):bu wd hg (some xs)=true:=by obtain⟨h1,h2,h3⟩:=h;show(decide ((xs.length:Int)=wd)&&((rowsOf xs).all fun r=>cm r 0 (hg-1))&&decide (rowsOf xs).Nodup)=true;rw[Zaq h1,Zaq h3,Zbd.mpr h2];rfl
theorem SV {a b r:Int}{P:Int->Prop}(ha:P a)(hb:P b)(r0:0<=r)(r1:r<2):∃v:Int,fw [V.int a,V.int b] r=some (.int v)/\P v:=by
 rcases (by omega:r=0∨r=1) with rfl |rfl
 ·exact⟨a,jP,ha⟩
 ·exact⟨b,ij,hb⟩
section
abbrev gB:Stmt:=top 76
noncomputable abbrev qA:List Str:=["_law_script", "_law_k", "_law_state_here", "_law_one", "_law_other", "_law_wide", "_law_board", "_law_lay_here", "_law_number", "_law_many"]
theorem iF:aM qA ["_law_script"] (ax gB):=Zr (by decide+kernel)
def bA:List Stmt:=match dX gB with | .For _ _ b _ _::_=>b |_=> []
theorem part1 {f:Addr}{ao:Value}{A:Around}{outer:List Env}{s:Shared}{H0:Hp}{E:XK}(G:Gs mg)(hr:bP 15 (A.deeper (envOfC "law" (ax gB) s.heap.objs.size f ao)))
  (Bh:Def P w K mg base 2 "_law_state" ["_law_script", "_law_k"] (wu K)) (kK:Def P w K mg base 1 "_law_take" ["_law_state_here", "_law_many"] nY) (gQ:Def P w K mg base 2 "_law_turn" ["_law_state_here"] wG)
  (Bm:Def P w K mg base 2 "_law_lay" ["_law_state_here", "_law_board"] (wH K)) (Bn:Def P w K mg base 3 "_law_grown" ["_law_state_here", "_law_board", "_law_bare"] S.wJ)
  (Bg:Def P w K mg base 12 "_law_turns_right" ["_law_board", "_law_lay_here", "_law_one", "_law_other"] (wq K)) (Bi:Def P w K mg base 11 "_law_own_right" ["_law_board", "_law_lay_here"] (wx K)):
  ∃t,fz (ie az P w K mg base qA "law" (ax gB) f ao A outer s H0 E).jZ bA t/\
  ∀(D:Ends) (a:Addr) (ns:List Int) (i:Nat) (s2 s3 s4 s5 s6 s7 s8 s9:Option V) (H:Hp),fe K H a ns->(∀y2 y3 y4 y5 y6 y7 H',fe K H' a ns->D.nx [some (.ref a),some (.int (i:Int)),y2,y3,y4,y5,y6,y7,s8,s9] H')->
   t D [some (.ref a),some (.int (i:Int)),s2,s3,s4,s5,s6,s7,s8,s9] H:=by
 refine⟨_,(Ze (Zu (i:=2) iF.nd rfl (Or.inl rfl) (Zc Bh (hr.mono .d) (Za (pv 0) (Za (pv 1) Zb))))
  (Ze (vD (i:=3) (j:=4) rfl iF.nd rfl rfl .d rfl rfl (Za (Zc gQ (hr.mono .d) (Za (pv 2) Zb)) (Za (Zc gQ (hr.mono .d) (Za (pv 2) Zb)) Zb)) rfl)
  (Ze (Zu (i:=5) iF.nd rfl (Or.inl rfl) (Zp Yo Zf (Zc kK (hr.mono .d) (Za (pv 2) (Za Zf Zb)))))
  (Ze (Zu (i:=6) iF.nd rfl (Or.inl rfl) (Zs (Za (pv 5) (Za (ZB Z9 (Z6 (Za (pv 5) (Za (Zp Yo Zf (Zc kK (hr.mono .d) (Za (pv 2) (Za Zf Zb)))) Zb))) (Zc kK (hr.mono .d) (Za (pv 2) (Za Zf Zb))) (fun _ _=>rfl)) Zb))))
  (Zg (ZY Zcn rfl (Zw (Z6 (Za (Zc Bm (hr.mono .d) (Za (pv 2) (Za (pv 6) Zb))) (Za (Zc Bn (hr.mono .d) (Za (pv 2) (Za (pv 6) (Za (Zp Yo Zf (Zc kK (hr.mono .d) (Za (pv 2) (Za Zf Zb)))) Zb)))) Zb)))) (Zn (i:=7) iF.nd rfl (Or.inl rfl))
   (Zg (Z1 (PW.pt (J8 (YE (Yi (Zc Bg (hr.mono .d) (Za (pv 6) (Za (pv 7) (Za (pv 3) (Za (pv 4) Zb))))))) (YM (YE (Yi (Zc Bi (hr.mono .d) (Za (pv 6) (Za (pv 7) Zb)))))))) ZF ZD)))))))),?_⟩
 try dsimp only[aP]
 intro D a ns i s2 s3 s4 s5 s6 s7 s8 s9 H sc q
 (try refine hY _ _ ?_);refine ZJ fun Y hY=> (bC ⟨_,rfl,_,rfl,a,ns,i,rfl,sc.sq,fun p H1 np q1 aA=>aK ?_⟩)
 dsimp only[List.set];have step:∀{H H':Hp},bD p H H'->dk H p->fe K H a ns->fe K H' a ns:=fun x ⟨u,v,e,_⟩ s=>s.x x e (fun _ _ z=>by cases z);have qy:∀{H:Hp}{l:Addr}{xs:List V},dk H p->H l=some (.tup xs)->l≠p:=fun⟨_,_,e,_⟩ h=>YS h e (by intro z;cases z);have tN:=sc.same q1
 (try refine hY _ _ ?_);refine ZJ fun Y hY=> ⟨_,rfl,p,rfl,aA,fun t H2 q2 x2 av et=> ⟨_,rfl,p,rfl,av,fun u H3 q3 x3 bU eu=> ⟨_,_,rfl,?_⟩⟩⟩
 dsimp only[List.set];have K2:=step x3 av (step x2 aA tN);have EV:=x3 _ _ et (qy av et);have nt:=qy bU EV;have nu:=qy bU eu
 (try refine hY _ _ ?_);refine ZJ fun Y hY=> (bC ⟨_,rfl,p,9,rfl,bU,.d,.d,fun wd o4 w0 w1 eG=> ⟨_,_,rfl,rfl,aK ?_⟩⟩)
 dsimp only[List.set];obtain⟨H4,zz,x4⟩:=newX H3 p o4;rw[zz]at eG |-;have K1:=step x4 bU K2;have PX:=x4 _ _ EV nt;have PQ:=x4 _ _ eu nu
 (try refine hY _ _ ?_);refine ZJ fun Y hY=> (bC ⟨_,rfl,_,rfl,_,rfl,p,9,rfl,eG,.d,.d,fun h5 o5 g0 g1 dM=> ?_⟩)
 obtain⟨H5,zz,x5⟩:=newX H4 p o5;rw[zz]at dM |-;have K0:=step x5 eG K1;have PV:=x5 _ _ PX nt;have PN:=x5 _ _ PQ nu;refine⟨_,_,rfl,rfl,bT,fun L hL=> ?_⟩;obtain⟨H6,zz,s6,eL⟩:=bV (o:=.lst [V.int (1+wd),V.int (1+h5)]) hL;rw[zz];have BO:=dM.same s6;have nL:L≠p:=fun z=>by obtain⟨u,v,e,_⟩:=dM;rw[z,e]at hL;cases hL
 refine⟨_,rfl,p,2,rfl,BO,.d,.d,fun r o7 r0 r1 BN=> ?_⟩;obtain⟨H7,zz,x7⟩:=newX H6 p o7;rw[zz]at BN |-;have KZ:=step x7 BO (K0.same s6);have zK:=x7 _ _ (s6 _ _ PV) nt;have PM:=x7 _ _ (s6 _ _ PN) nu;obtain⟨hg,ea,OH,hg9⟩:=SV (P:=fun v=>1<=v/\v<=9) (a:=1+wd) (b:=1+h5) ⟨.o,.o⟩ ⟨.o,.o⟩ r0 r1;refine⟨L,_,_,_,rfl,rfl,ai.of (x7 _ _ eL nL),ea,bT,fun b hb=>aK ?_⟩;dsimp only[List.set];obtain⟨H8,zz,tV,eb⟩:=bV (o:=.tup [V.int (1+wd),V.int hg]) hb;rw[zz];have wk:=BN.same tV;have KY:=KZ.same tV;have PU:=tV _ _ zK;have PL:=tV _ _ PM;have nb:=qy wk eb;have bd:∀{H'},H' b=some (.tup [V.int (1+wd),V.int hg])->cJ H' (.ref b) (1+wd) hg:=fun e=> ⟨Zx e,.o,.o,.o,.o⟩;refine hY _ _ ?_;refine⟨_,rfl,_,rfl,p,b,1+wd,hg,rfl,wk,bd eb,fun l H9 xs x9 nW el ly=> ?_⟩;have Qc:=x9 _ _ eb nb;have nl:=qy nW el;have KW:=step x9 wk KY;refine⟨_,rfl,_,rfl,_,rfl,p,5,rfl,nW,.d,.d,fun r' My _ _ wm=> ?_⟩;obtain⟨mC,zz,pI⟩:=newX H9 p My;rw[zz]at wm |-;have E1:=pI _ _ Qc nb;refine⟨_,_,rfl,rfl,p,b,1+wd,hg,_,rfl,wm,bd E1,fun m HD ys pH aaQ em nm fo=> ?_⟩;obtain⟨il,_⟩:=S.rJ _ _ _ ys fo;rw[show(((1+wd).toNat:Nat):Int)=1+wd by omega,show((hg.toNat:Nat):Int)=hg by omega]at il;have lm:=Ni il;have EZ:=pH _ _ E1 nb;have P7:=pH _ _ (pI _ _ el nl) nl;have PY:=pH _ _ (pI _ _ (x9 _ _ PU nt) nt) nt;have PR:=pH _ _ (pI _ _ (x9 _ _ PL nu) nu) nu;have K3:=step pH wm (step pI nW KW);refine⟨bT,fun M hM=> ⟨M,rfl,⟨_,ai.of Zd⟩,?_⟩⟩;obtain⟨vM,zz,cW,eM⟩:=bV (o:=.lst [V.ref l,V.ref m]) hM;rw[zz];refine Yh (xs:=[V.ref l,V.ref m]) (fun j σ H'=> ∃y7,σ=[some (.ref a),some (.int (i:Int)),some (.ref p),some (.ref t),some (.ref u),some (.int (1+wd)),some (.ref b),y7,s8,s9]/\ag vM H') ⟨_,rfl,ag.refl _⟩ (fun j σ H' _ ae=>by obtain⟨_,_,s'⟩:=ae;exact ai.of (s' _ _ eM)) ?_ ?_
 ·rintro j x σ vL hx ⟨y7,rfl,fW⟩;have s1:=cW.trans fW;obtain⟨z,zs,rfl,lz⟩:∃(z:Addr) (zs:List V),x=.ref z/\∀{H'},ag vL H'->bt K H' (.ref b) z zs (1+wd) hg:=by
   have:=ZaD hx;simp only[Zav,ZcB,ZdT]at this;rcases this with rfl |rfl
   ·exact⟨l,xs,rfl,fun s'=> ⟨bd ((s1.trans s') _ _ EZ),(s1.trans s') _ _ P7,ly⟩⟩
   ·exact⟨m,ys,rfl,fun s'=> ⟨bd ((s1.trans s') _ _ EZ),(s1.trans s') _ _ em,lm⟩⟩
  refine aK ?_;dsimp only[List.set];refine⟨_,rfl,_,rfl,_,rfl,_,rfl,b,z,t,u,zs,1+wd,hg,q2,q3,rfl,lz (ag.refl _),s1 _ _ PY,s1 _ _ PR,fun H14 iG=> ⟨true,rfl,aI ?_⟩⟩;refine⟨_,rfl,_,rfl,b,z,zs,1+wd,hg,rfl,lz iG,fun H15 La=> ⟨true,rfl,aI (fh ?_)⟩⟩;exact⟨_,rfl,fW.trans (iG.trans La)⟩
 ·rintro σ vL ⟨y7,rfl,fW⟩;exact q _ _ _ _ _ _ vL (K3.same (cW.trans fW))
end
end U.T
namespace L2
open PySem
theorem Tq {K:ZhK}{l1 l2:Addr}{xs zs:List V}{g:TG}{tb:TS}{D:Ends}{σ:St}{H:Hp}(Pv:Nat->St->Hp->Prop)(h0:Pv 0 σ H)(hl:∀i σ H,i<=min xs.length zs.length->Pv i σ H->ai K H l1 xs/\ai K H l2 zs)
  (hs:∀i x y T σ H,xs[i]? =some x->zs[i]? =some y->H T=none->Pv i σ H->g (.ref T) σ (upd H T (.par [x,y])) fun aQ H2=>tb {D with nx:=Pv (i+1),ct:=Pv (i+1),bk:=D.nx} aQ H2) (hd:∀σ H,Pv (min xs.length zs.length) σ H->D.nx σ H):
  ∃W:Nat->Nat->St->Hp->Prop,(∃m,W 0 m σ H)/\∀i m σ H,W i m σ H->
   ((pA K l1 l2).stop i H/\D.nx σ H)∨((pA K l1 l2).go i H/\∃N:St->Hp->Prop,(∀ak H',N ak H'->∃m',m'<m/\W (i+1) m' ak H')/\∀x H',(pA K l1 l2).mE i H x H'->g x σ H' fun aQ H2=>tb {D with nx:=N,ct:=N,bk:=D.nx} aQ H2):=by
 refine⟨fun i m σ H=>m=min xs.length zs.length-i/\i<=min xs.length zs.length/\Pv i σ H,⟨min xs.length zs.length,by simp,ZaM _,h0⟩,?_⟩;rintro i m σ H ⟨rfl,hi,p⟩;obtain⟨q1,q2⟩:=hl i σ H hi p;by_cases aw:i<min xs.length zs.length
 ·have h1:i<xs.length:=.o;have h2:i<zs.length:=.o;refine .inr ⟨⟨xs,zs,xs[i],zs[i],q1,q2,by simp[h1],by simp[h2]⟩,Pv (i+1),fun ak H' p'=> ⟨min xs.length zs.length-(i+1),.o,rfl,aw,p'⟩,fun x H' y=> ?_⟩;obtain⟨T,a,b,e1,e2,e3,e4⟩:=y;subst e1 e3;obtain⟨f1,f2⟩:=e4 xs zs q1 q2;exact hs i a b T σ H f1 f2 e2 p
 ·have e:i=min xs.length zs.length:=.o;subst e;exact .inl ⟨⟨xs,zs,q1,q2,rfl⟩,hd σ H p⟩
end L2
namespace U.T
open PySem L2 PyProof.Rows PyProof.Rows.dc
def kn (n:Nat):List (List Int):=(U.K.gm n).filter fun x=>decide (U.K.eQ n x=x)
theorem Fw:∀n∈[1,2,3,4],(kn n).Nodup/\(∀x∈U.K.gm n,U.K.eQ n x∈kn n/\(U.K.gq n x:Int)*((aW.filter (gC n n (x.map V.int))).length:Int)=8)/\((kn n).map fun k=> (U.K.gq n k:Int)).sum=(S.qx n n (n:Int)).length:=by decide+kernel
theorem Gz {n:Nat}(h1:1<=n)(h4:n<=4):n∈[1,2,3,4]:=by rcases (by omega:n=1∨n=2∨n=3∨n=4) with rfl |rfl |rfl |rfl<;>decide
theorem RK {n:Nat}{ks:List (List Int)}(hn:n∈[1,2,3,4])(ko:U.K.mq n ks):ks.Perm (kn n):=by
 obtain⟨k1,k2,_⟩:=Fw n hn;refine(Zca ko.nd k1).mpr fun k=> (ko.mem k).trans ⟨?_,fun h=> ?_⟩
 ·rintro⟨x,hx,rfl⟩;exact(k2 x hx).1
 ·obtain⟨h1,h2⟩:=ZaZ.mp h;exact⟨k,h1,Zbt h2⟩
theorem Vp:∀{a b:List Int},a.Perm b->a.sum=b.sum:=fun p=>by
 induction p with
 |nil=>rfl
 |cons x _ ih=>rw[Zdv,Zdv,ih]
 |swap x y l=>simp only[Zdv];omega
 |trans _ _ h1 h2=>exact h1.trans h2
section
def bB:List Stmt:=match dX gB with |_:: .For _ _ b _ _::_=>b |_=> []
theorem part2 {f:Addr}{ao:Value}{A:Around}{outer:List Env}{s:Shared}{H0:Hp}{E:XK}(G:Gs mg)(hr:bP 15 (A.deeper (envOfC "law" (ax gB) s.heap.objs.size f ao)))
  (sE:Def P w K mg base 14 "kinds" ["number"] U.K.tE) (vO:Def P w K mg base 15 "kinds_many" ["number"] U.K.wI) (Bl:Def P w K mg base 15 "many_of" ["board", "number"] S.wC) (gQ:Def P w K mg base 10 "least_turned" ["board", "lay"] (nZ K)) (sD:Def P w K mg base 10 "own_turns" ["board", "lay"] (tD K)):
  ∃t,fz (ie az P w K mg base qA "law" (ax gB) f ao A outer s H0 E).jZ bB t/\
  ∀(D:Ends) (n:Nat) (s0 s1 s2 s3 s4 s5 s6 s7 s9:Option V) (H:Hp),1<=n->n<=4->(∀y6 y7 y9 H',ag H H'->D.nx [s0,s1,s2,s3,s4,s5,y6,y7,some (.int (n:Int)),y9] H')->
   t D [s0,s1,s2,s3,s4,s5,s6,s7,some (.int (n:Int)),s9] H:=by
 have fX:=rY hr;refine⟨_,(Ze (Z1 (Zq vy (Zo G1 rfl G.sum boot_sum (Za (Zc vO hr (Za (pv 8) Zb)) Zb)) (Zc Bl hr (Za (Zs (Za (pv 8) (Za (pv 8) Zb))) (Za (pv 8) Zb))) (bR _)) ZF ZD)
  (Zg (ZY Zcn rfl (Gg rfl G.zip (Za (Zc sE (hr.mono .d) (Za (pv 8) Zb)) (Za (Zc vO hr (Za (pv 8) Zb)) Zb))) (ZI rfl (Zj (Zn (i:=7) iF.nd rfl (Or.inl rfl)) (Zj (Zn (i:=9) iF.nd rfl (Or.inl rfl)) Zz)))
   (Ze (Zu (i:=6) iF.nd rfl (Or.inl rfl) (Zs (Za (pv 8) (Za (pv 8) Zb))))
   (Zg (Z1 (PW.pt (J8 (Zq (S8 fX) (Zc gQ (hr.mono .d) (Za (pv 6) (Za (pv 7) Zb))) (Zs (Za (pv 6) (Za (pv 7) Zb))) (bR _))
    (YM (Zq vy (Zp YO (pv 9) (Zo Zv rfl G.len Zez (Za (Zc sD (hr.mono .d) (Za (pv 6) (Za (pv 7) Zb))) Zb))) Zf (bR _))))) ZF ZD)))))),?_⟩
 try dsimp only[aP]
 intro D n s0 s1 s2 s3 s4 s5 s6 s7 s9 H n1 n4 q;have h5:U.K.pC n:=⟨n1,.o⟩;obtain⟨k1,k2,k3⟩:=Fw n (Gz n1 n4)
 (try refine hY _ _ ?_);refine ZJ fun Y hY=> ⟨_,rfl,n,rfl,h5,fun L H1 ks q1 nL ko eL=> ⟨L,_,rfl,ai.of eL,_,rfl,_,rfl,bT,fun b hb=> ?_⟩⟩
 obtain⟨H2,zz,q2,e2⟩:=bV (o:=.tup [V.int n,V.int n]) hb;rw[zz];refine⟨_,rfl,b,(n:Int),(n:Int),(n:Int),rfl,⟨Zx e2,.o,.o,.o,.o⟩,.o,.o,.o,.o,fun H3 q3=> ⟨rfl,?_⟩⟩;rw[Zbu,<-k3,Vp ((RK (Gz n1 n4) ko).map _)];have z1:∀i:Int,decide (V.int i=V.int i)=true:=fun i=>Zaq rfl;rw[z1];refine⟨_,rfl,aI (fh ?_)⟩;dsimp only;have LH:=q1.trans (q2.trans q3);clear ko eL;refine hY _ _ ?_;refine⟨_,rfl,n,rfl,h5,fun l H4 ts ks q4 nl el pr ko=> ⟨_,rfl,n,rfl,h5,fun m H5 cg q5 nm Nf em=> ⟨l,m,rfl,⟨_,_,ai.of (q5 _ _ el),ai.of em⟩,?_⟩⟩⟩;cases Nf.eq ko;have iM:=Za0 pr;have LG:=LH.trans (q4.trans q5);refine Tq (xs:=ts) (zs:=(ks.map fun k=> (U.K.gq n k:Int)).map V.int) (fun j σ H'=> ∃y6 y7 y9,σ=[s0,s1,s2,s3,s4,s5,y6,y7,some (.int (n:Int)),y9]/\ag H5 H') ⟨_,_,_,rfl,ag.refl _⟩ (fun j σ H' _ ae=>by obtain⟨_,_,_,_,s'⟩:=ae;exact⟨ai.of (s' _ _ (q5 _ _ el)),ai.of (s' _ _ em)⟩) ?_ ?_
 ·rintro j x y T σ H6 hx hy hT ⟨y6,y7,y9,rfl,q6⟩;obtain⟨k,hk,t,rfl,et⟩:=ZV pr hx;rw[Zbk,Zbk,hk]at hy;cases hy;have sT:=S.de (o:=.par [V.ref t,V.int (U.K.gq n k:Int)]) hT;refine⟨T,_,rfl,ab.mS Zd,rfl,_,_,rfl,_,_,rfl,rfl,?_⟩;dsimp only[List.set];generalize upd H6 T (HO.par [V.ref t,V.int (U.K.gq n k:Int)])=H7 at sT;obtain⟨x,Dy,e⟩:=(ko.mem k).mp (ZaD hk);have uT:k∈U.K.gm n:=by rw[<-e];exact(U.K.o8 h5 Dy).mem
  have lk:U.K.eQ n k=k:=by have:=(k2 x Dy).1;rw[e]at this;exact Zbt (ZaZ.mp this).2
  have c8:=(k2 k uT).2;have f:=U.K.o8 h5 uT;have CJ:=q6.trans sT;have zK:=(q5.trans CJ) _ _ et
  (try refine hY _ _ ?_);refine ZJ fun Y hY=> (bC ⟨_,rfl,_,rfl,bT,fun b hb=>aK ?_⟩)
  obtain⟨H8,zz,q8,e8⟩:=bV (o:=.tup [V.int n,V.int n]) hb;rw[zz];dsimp only[List.set];have la:∀{H'},ag H8 H'->bt K H' (.ref b) t (k.map V.int) n n:=fun s'=> ⟨⟨Zx (s' _ _ e8),.o,.o,.o,.o⟩,s' _ _ (q8 _ _ zK),f.ly⟩;refine hY _ _ ?_;refine⟨_,rfl,_,rfl,b,t,_,_,_,rfl,la (ag.refl _),fun v p H9 q9 ld hp=> ?_⟩;have ee:=U.K.Dp f hp;obtain⟨t9,c9,u9,rfl,i1,i2,i3⟩:=ld;rw[f.w,f.h]at i2;rw[f.tr,ee,lk]at i3;obtain⟨_,z,i4⟩:=Zk i2.1;cases z;refine⟨_,rfl,_,rfl,bT,fun w hw=> ?_⟩;obtain⟨mC,zz,uc,e10⟩:=bV (o:=.tup [V.ref b,V.ref t]) hw;rw[zz];have ua:=q9.trans uc;have nk:=Ju k;refine⟨t9,w,c9,u9,b,t,_,_,_,_,rfl,rfl,ab.of (uc _ _ i1),ab.of e10,ab.of (uc _ _ i4),ab.of (uc _ _ i3),ab.of (ua _ _ e8),ab.of ((la ua).at_),rfl,nk,rfl,nk,?_⟩;rw[Zaq ⟨rfl,rfl⟩];refine⟨_,rfl,aI ⟨_,rfl,_,rfl,_,rfl,b,t,_,_,_,rfl,la ua,fun M HD ps LF nM eM po=> ⟨M,ps,rfl,.inl (ai.of eM),_,_,rfl,rfl,.inr ?_,rfl,?_⟩⟩⟩
  ·have l8:(aW.filter (gC n n (k.map V.int))).length<=8:=Zdk _ _;rw[Za0 po];constructor<;>omega
  rw[Za0 po];have z2:decide (V.int ((U.K.gq n k:Int)*((aW.filter (gC n n (k.map V.int))).length:Int))=V.int 8)=true:=by rw[c8];exact Zaq rfl
  rw[z2];refine⟨_,rfl,aI (fh ?_)⟩;exact⟨_,_,_,rfl,CJ.trans (q8.trans (ua.trans LF))⟩
 ·rintro σ H6 ⟨y6,y7,y9,rfl,q6⟩;exact q _ _ _ H6 (LG.trans q6)
noncomputable def Kg (b1 b2:List Stmt):List Stmt:=match dX gB with | [.For x y _ d e,.For x' y' _ d' e',r]=> [.For x y b1 d e,.For x' y' b2 d' e',r] |_=> []
theorem Vk:dX gB=Kg bA bB:=by kernel_rfl
inductive wF (K:ZhK) (vs:List V) (H:Hp) (Q:VK) (_:XK):Prop
 |mk (a:Addr) (ns:List Int) (_:vs=[.ref a]) (_:fe K H a ns) (_:ns.length<=63) (_:∀H',Q (.bl true) H')
theorem Ml (F:aH K "law" "law" gB f fd)(G:Gs mg)(Bh:Def P w K mg base 2 "_law_state" ["_law_script", "_law_k"] (wu K))(kK:Def P w K mg base 1 "_law_take" ["_law_state_here", "_law_many"] nY)(gQ:Def P w K mg base 2 "_law_turn" ["_law_state_here"] wG)
  (Bm:Def P w K mg base 2 "_law_lay" ["_law_state_here", "_law_board"] (wH K)) (Bn:Def P w K mg base 3 "_law_grown" ["_law_state_here", "_law_board", "_law_bare"] S.wJ)
  (Bg:Def P w K mg base 12 "_law_turns_right" ["_law_board", "_law_lay_here", "_law_one", "_law_other"] (wq K)) (Bi:Def P w K mg base 11 "_law_own_right" ["_law_board", "_law_lay_here"] (wx K))
  (sE:Def P w K mg base 14 "kinds" ["number"] U.K.tE) (vO:Def P w K mg base 15 "kinds_many" ["number"] U.K.wI) (Bl:Def P w K mg base 15 "many_of" ["board", "number"] S.wC) (Dle:Def P w K mg base 10 "least_turned" ["board", "lay"] (nZ K)) (sD:Def P w K mg base 10 "own_turns" ["board", "lay"] (tD K)):
  ay P w K mg base az 16 f fd ["_law_script"] (wF K):=by
 refine F.ok iF (fun vs H Q E h=> ?_) (fun ao A outer s H vs Q E hr h=> ?_)
 ·obtain⟨a,ns,rfl,_⟩:=h;rfl
 ·obtain⟨a,ns,rfl,Co,yW,q⟩:=h;obtain⟨t1,r1,h1⟩:=part1 (outer:=outer) (H0:=H) (E:=E) G hr Bh kK gQ Bm Bn Bg Bi;obtain⟨t2,r2,h2⟩:=part2 (outer:=outer) (H0:=H) (E:=E) G hr sE vO Bl Dle sD;have main:∃t,fz (ie az P w K mg base qA "law" (ax gB) f ao A outer s H E).jZ (dX gB) t/\t {nx:=fun _ H'=>Q .ah H',rt:=Q} (start qA [.ref a]) H:=by
   rw[Vk];generalize bA=b1 at r1;generalize bB=b2 at r2;refine⟨_,(Ze (ZY Zcn rfl (ZZ rfl G.range (Za (Zo (UW rfl) rfl G.max boot_max (Za Zf (Za (Zo (Vw rfl) rfl G.min boot_min (Za (Zo Zv rfl G.len Zez (Za (pv 0) Zb)) (Za Zf Zb))) Zb))) Zb)) (Zn (i:=1) iF.nd rfl (Or.inl rfl)) r1)
    (Ze (ZY Zcn rfl (V4 rfl G.range (Za Zf (Za Zf Zb))) (Zn (i:=8) iF.nd rfl (Or.inl rfl)) r2)
    (Zg (Zm Ao)))),?_⟩
   refine bg ⟨_,rfl,a,_,rfl,.inl Co.sq,_,_,rfl,_,_,rfl,_,rfl,(by rw[Zal];split<;>split<;>omega),(by rw[Zal];split<;>split<;>omega),?_⟩;refine Yd (fun i σ H'=> (∃s1 s2 s3 s4 s5 s6 s7,σ=[some (.ref a),s1,s2,s3,s4,s5,s6,s7,none,none])/\fe K H' a ns) ⟨⟨_,_,_,_,_,_,_,rfl⟩,Co⟩ ?_ ?_
   ·rintro i σ H1 hi ⟨⟨s1,s2,s3,s4,s5,s6,s7,rfl⟩,tN⟩;rw[ZeF];refine aK ?_;dsimp only[List.set];exact h1 _ a ns i _ _ _ _ _ _ _ _ H1 tN fun y2 y3 y4 y5 y6 y7 H' K4=> ⟨⟨_,_,_,_,_,_,_,rfl⟩,K4⟩
   ·rintro σ H1 ⟨⟨s1,s2,s3,s4,s5,s6,s7,rfl⟩,tN⟩;refine bg ⟨_,_,rfl,⟨.d,.d,.d,.d⟩,?_⟩;refine Yd (fun i σ H'=> ∃s6 s7 s8 s9,σ=[some (.ref a),s1,s2,s3,s4,s5,s6,s7,s8,s9]) ⟨_,_,_,_,rfl⟩ ?_ ?_
    ·rintro i σ H2 hi ⟨s6,s7,s8,s9,rfl⟩;obtain⟨n,hn,n1,n4⟩:∃n:Nat,(1+(i:Int))=(n:Int)/\1<=n/\n<=4:=⟨1+i,.o,.o,by have:i<4:=hi;omega⟩;rw[hn];refine aK ?_;dsimp only[List.set];exact h2 _ n _ _ _ _ _ _ _ _ _ H2 n1 n4 fun y6 y7 y9 H' _=> ⟨_,_,_,_,rfl⟩
    ·rintro σ H2 ⟨s6,s7,s8,s9,rfl⟩;exact q _
  exact main
end
end U.T
namespace U.T
open PySem L2 PyProof.Rows
theorem Zb2 {u:Value}{x:V}(h:rX u=some x):RelV x u:=by cases u<;>simp only[rX,Option.some.injEq,reduceCtorEq]at h<;>subst h<;>first |rfl |exact⟨_,rfl⟩
theorem JZ:∀{us:List Value}{xs:List V},us.map rX=xs.map some->Vals xs us
 | [],[],_=> .nil
 | [],_::_,h=>by cases h
 |_::_,[],h=>by cases h
 |u::us,x::xs,h=>by rw[Zba,Zba,ZcO]at h;exact .cons (Zb2 h.1) (JZ h.2)
noncomputable def sP (K:ZhK)(a:Addr)(xs:List V):Bool:=match K.lookup a with
 |some o=> (match o.cls with | .type n=>n== "tuple" |_=>false)&&match o.data with
  | .seq aa _=>decide (aa.size<=100)&&decide (aa.toList.map rX=xs.map some)
  |_=>false
 |none=>false
theorem J6 {K:ZhK}{a:Addr}{xs:List V}(h:sP K a xs=true)(H:Hp):ab K H a xs:=by
 unfold sP at h;split at h
 next o ho=>
  rw[Za5]at h;obtain⟨h1,h2⟩:=h;split at h1
  next n hn=>
   split at h2
   next aa m hd=>
    rw[Za5,Zbg,Zbg]at h2;rw[Zd8]at h1;subst h1;exact .inr (.inl ⟨o,aa,m,ho,hn,hd,by rw[ZaX];omega,JZ h2.2⟩)
   next=>cases h2
  next=>cases h1
 next=>cases h
noncomputable def refsOf (K:ZhK)(a:Addr):List Addr:=match K.lookup a with
 |some o=>match o.data with
  | .seq aa _=>aa.toList.filterMap fun v=>match v with | .ref t=>some t |_=>none
  |_=> []
 |none=> []
def vY (K:ZhK)(a:Addr):Bool:=sP K a ((refsOf K a).map V.ref)&&(decide ((refsOf K a).length=8)&&((refsOf K a).zip aW).all fun p=>sP K p.1 (tv p.2))
theorem WD {α β:Type}{R:α->β->Prop} :∀{xs:List α}{ys:List β},xs.length=ys.length->(∀p∈xs.zip ys,R p.1 p.2)->Paired R xs ys
 | [],[],_,_=> .nil
 | [],_::_,h,_=>by cases h
 |_::_,[],h,_=>by cases h
 |x::xs,y::ys,h,k=> .cons (k (x,y) Zaf) (WD (by simpa using h) fun p hp=>k p (Zae _ hp))
theorem Ip {K:ZhK}{mg:Str->Option Value}{a:Addr}(hm:mg "TURNS" =some (.ref a))(h:vY K a=true):AZ K mg:=by unfold vY at h;rw[Za5,Za5,Zbg]at h;obtain⟨h1,h2,h3⟩:=h;refine⟨a,refsOf K a,hm,J6 h1,WD (by rw[h2];rfl) fun p hp H=> ?_⟩;exact J6 (Zbd.mp h3 p hp) H
theorem LL {P:Program}{w:World}{K:ZhK}{mg:Str->Option Value}{base:Heap}{k:Nat}{ps:List Str}(F:ay P w K mg base az k f fd ps U.mH):ay P w K mg base az k f fd ps (mH K):=
 F.imp fun _ _ _ _ ⟨x,l,xs,wd,hg,e,la,q⟩=> ⟨x,.ref l,wd,hg,xs,e,Z.qH la,fun L H' ps s _ eL pr=>q L H' ps s eL pr⟩
end U.T
namespace U
open PySem L2 PyProof.Rows PySem.Spec
section
theorem aJ.tt {h:Heap}(KX:K.In h)(G:h.Ns mainGlobals mg){x:Str}{st:Stmt}{ps:List Str}{k:Nat}{sp:Sp}(d:aJ K x st)(ok:∀f fd,aH K x x st f fd->ay P w K mg base az k f fd ps sp)
  (hb:nR x st ps:=by first |exact b2 fun _ _ _ _ _ _ _ _=>rfl |exact b1 fun _ _ _ _ _ _ _=>rfl |exact b3 fun _ _ _ _ _ _ _ _ _=>rfl |exact b4 fun _ _ _ _ _ _ _ _ _ _=>rfl |exact b0 fun _ _ _ _ _ _=>rfl):Def P w K mg base k x ps sp:=d.to KX G hb ok
end
noncomputable abbrev zH:List Str:=["isinstance", "int", "bool", "tuple", "list", "len", "all", "set", "range", "max", "min", "enumerate", "zip", "sorted", "sum"]
section
theorem RI {h:Heap}{t0:Tok}{t1:Tok}{t2:Tok}{t3:Tok}{t4:Tok}{t5:Tok}(KX:K.In h)(G:h.Ns mainGlobals mg)(e:zH.all (uo K)=true)(c0:PySem.W.nsIn K mainGlobals "LONGEST_SIDE" =some (some (.int 12 t0)))(c1:PySem.W.nsIn K mainGlobals "MOST_WIDE_fits" =some (some (.int 6 t1)))(c2:PySem.W.nsIn K mainGlobals "MOST_HIGH_fits" =some (some (.int 7 t2)))(c3:PySem.W.nsIn K mainGlobals "MOST_LINES" =some (some (.int 5 t3)))(c4:PySem.W.nsIn K mainGlobals "MOST_WIDE_most" =some (some (.int 5 t4)))(c5:PySem.W.nsIn K mainGlobals "MOST_HIGH_most" =some (some (.int 5 t5))):Gs mg:=by have k:∀x∈zH,mg x=none:=fun x hx=>XF KX G (Zbd.mp e x hx);exact⟨k _ (by simp),k _ (by simp),k _ (by simp),k _ (by simp),k _ (by simp),k _ (by simp),k _ (by simp),k _ (by simp),k _ (by simp),k _ (by simp),k _ (by simp),k _ (by simp),k _ (by simp),k _ (by simp),k _ (by simp),⟨_,ZdX KX G c0⟩,⟨_,ZdX KX G c1⟩,⟨_,ZdX KX G c2⟩,⟨_,ZdX KX G c3⟩,⟨_,ZdX KX G c4⟩,⟨_,ZdX KX G c5⟩⟩
set_option maxHeartbeats 4000000 in
theorem Nc {h:Heap}{fa:Addr}{t0:Tok}{t1:Tok}{t2:Tok}{t3:Tok}{t4:Tok}{t5:Tok}(KX:K.In h)(G:h.Ns mainGlobals mg)(hmg:mg "law" =some (.ref fa))
  (d0:aJ K "is_whole" wU) (d1:aJ K "is_whole_within" wR) (d2:aJ K "need_whole_within" xt) (d3:aJ K "is_tuple_of" tO) (d4:aJ K "is_board" xQ) (d5:aJ K "need_board" xr) (d6:aJ K "need_at_most" S.xw) (d7:aJ K "is_lay" xC) (d8:aJ K "need_lay" xq) (d9:aJ K "with_point" S.wV) (E7:aJ K "points" xm) (QV:aJ K "is_point" T.xJ) (QU:aJ K "lay_of" T.xF) (QT:aJ K "point_pairs" xn) (QS:aJ K "steps" xk) (QR:aJ K "first_like" xN) (QQ:aJ K "is_unlike" wW) (QP:aJ K "need_small" S.xv) (QO:aJ K "free_rows" S.xO) (QN:aJ K "all_fits" S.xT) (QM:aJ K "is_turn" T.wZ) (QL:aJ K "need_turn" T.xu) (QK:aJ K "turned_point" T.xg) (QJ:aJ K "turned_board" T.xh) (QI:aJ K "turned" T.w9) (QH:aJ K "all_turned" T.kS) (QG:aJ K "none_least" T.xp) (QF:aJ K "least_turned" T.xy) (QE:aJ K "own_turns" T.tP) (QD:aJ K "turns_together" T.xc) (QC:aJ K "kinds" U.K.xI) (QB:aJ K "kinds_many" U.K.mK) (QA:aJ K "hits_by_move" xK) (Qz:aJ K "all_hits" xS) (Qy:aJ K "like_many" xG) (Qx:aJ K "points_many" S.xo) (Qw:aJ K "unlike_lays" S.wY) (Qv:aJ K "unlike_of" S.wX) (Qu:aJ K "many_of" S.xx) (Qt:aJ K "_law_cell_at" T.xP) (Qs:aJ K "_law_state" T.xl) (Qr:aJ K "_law_take" T.xb) (Qq:aJ K "_law_steps" S.xE) (Qp:aJ K "_law_unlike" S.tR) (Qo:aJ K "_law_lay" T.xH) (Qn:aJ K "_law_grown" S.xM) (Qm:aJ K "_law_turn" T.xD) (Ql:aJ K "_law_all_turns" T.xR) (Qk:aJ K "_law_turns_right" T.xf) (Qj:aJ K "_law_own_right" T.tQ) (dl:aJ K "law" T.gB)
  (g1:zH.all (uo K)=true) (c0:PySem.W.nsIn K mainGlobals "LONGEST_SIDE" =some (some (.int 12 t0))) (c1:PySem.W.nsIn K mainGlobals "MOST_WIDE_fits" =some (some (.int 6 t1))) (c2:PySem.W.nsIn K mainGlobals "MOST_HIGH_fits" =some (some (.int 7 t2))) (c3:PySem.W.nsIn K mainGlobals "MOST_LINES" =some (some (.int 5 t3))) (c4:PySem.W.nsIn K mainGlobals "MOST_WIDE_most" =some (some (.int 5 t4))) (c5:PySem.W.nsIn K mainGlobals "MOST_HIGH_most" =some (some (.int 5 t5))) {Ff:Addr} (eTU:PySem.W.nsIn K mainGlobals "TURNS" =some (some (.ref Ff))) (hTU:T.vY K Ff=true):
  ∃fd:FuncData,(∀(s:Shared) (u:Value),BindsTo s fd ⟨[u],[]⟩ [("_law_script",u)])/\∀base:Heap,K.In base->base.Ns mainGlobals mg->pE mg base->ay P w K mg base az 16 fa fd ["_law_script"] (T.wF K):=by
 have gs:=RI KX G g1 c0 c1 c2 c3 c4 c5;refine Sq dl KX G hmg (fun _ _ _ _ _ _ _=>rfl) fun base f fd FL=> ?_;have tg:=T.Ip (ZdX KX G eTU) hTU;have tt:= @aJ.tt P w K mg base h KX G;have aau:=tt d0 fun f fd F=>VH F gs;have sF:=tt d1 fun f fd F=>XH F aau;have HJ:=tt d2 fun f fd F=>RB F sF;have Bt:=tt d3 fun f fd F=>VG F gs;have aae:=tt d3 fun f fd F=>T.LX F gs;have aax:=tt d4 fun f fd F=>VC F gs Bt sF;have vQ:=tt d5 fun f fd F=>Zam F aax;have HN:=tt d6 fun f fd F=>S.Md F;have HR:=tt d7 fun f fd F=>RA F gs vQ Bt sF;have Br:=tt d8 fun f fd F=>Zce F HR;have Bp:=tt d9 fun f fd F=>S.LS F;have HH:=tt E7 fun f fd F=>UF F gs Br;have aaa:=tt E7 fun f fd F=>T.LL (UF F gs Br);have aaw:=tt QV fun f fd F=>T.Mo F gs Bt sF;have aas:=tt QU fun f fd F=>T.Mj F gs vQ aaw;have aan:=tt QT fun f fd F=>VE F HH;have aal:=tt QS fun f fd F=>VF F gs aan;have aaz:=tt QR fun f fd F=>VD F gs aal;have Bs:=tt QQ fun f fd F=>RC F aaz;have aap:=tt QP fun f fd F=>S.Mb F gs Br HN;have HU:=tt QO fun f fd F=>S.Mq F gs Bs Bp;have aaB:=tt QN fun f fd F=>S.Mu F gs aap Bs Bp HU;have aav:=tt QM fun f fd F=>T.LW F gs aae sF;have HL:=tt QL fun f fd F=>T.Ma F aav;have aak:=tt QK fun f fd F=>T.L3 F;have vP:=tt QJ fun f fd F=>T.L4 F vQ HL;have Bq:=tt QI fun f fd F=>T.LY F aaa vP aas aak;have Bu:=tt QH fun f fd F=>T.Mt F tg vP Bq;have aao:=tt QG fun f fd F=>T.Mc F gs;have vR:=tt QF fun f fd F=>T.Mh F gs Bu aao;have HI:=tt QE fun f fd F=>T.L8 F gs tg Bu;have HG:=tt QD fun f fd F=>T.LZ F HL;have HQ:=tt QC fun f fd F=>U.K.Mn F gs HJ aaB vR;have aat:=tt QB fun f fd F=>U.K.Mm F gs HQ Bu;have aay:=tt QA fun f fd F=>RO F HH;have aaA:=tt Qz fun f fd F=>RN F gs aay;have aar:=tt Qy fun f fd F=>RP F gs aaA;have aam:=tt Qx fun f fd F=>S.L7 F gs;have aaj:=tt Qw fun f fd F=>S.LV F gs HN Bp HU;have aai:=tt Qv fun f fd F=>S.LU F aam aaj;have aaq:=tt Qu fun f fd F=>S.Me F gs vQ HJ aai;have aaK:=tt Qt fun f fd F=>T.Mr F gs;have aaG:=tt Qs fun f fd F=>T.L6 F gs aaK;have vS:=tt Qr fun f fd F=>T.L5 F;have aaF:=tt Qq fun f fd F=>S.Mi F gs;have aaC:=tt Qp fun f fd F=>S.Mf F gs aaF;have aaI:=tt Qo fun f fd F=>T.Mk F gs vS;have aaJ:=tt Qn fun f fd F=>S.Mp F gs vS aaC;have aaE:=tt Qm fun f fd F=>T.Mg F vS;have aaL:=tt Ql fun f fd F=>T.Ms F gs;have aaD:=tt Qk fun f fd F=>T.L1 F vP Bq HG HR aar Bs vR;have aaH:=tt Qj fun f fd F=>T.L9 F gs HI vR HG vP Bq aaL;exact T.Ml FL gs aaG vS aaE aaI aaJ aaD aaH HQ aat aaq vR HI
end
end U
namespace PySem.W.Fast
def tw260353145346869408:=Nat
def tw17458352182113643744:=Nat
def tw15518076840464267648:=Nat
def tw12724085142108112320:=Nat
def tw1108771002151582240:=Nat
def tw500455110590891616:=Nat
def tw11628655048455587616:=Nat
def tw69344427884305248:=Nat
def tw4480444661397989312:=Nat
def tw10547920217917740000:=Nat
def tw13958320491675672609:=Nat
def tw12802180721325890689:=Nat
def tw17622420554857003169:=Nat
def tw10892689471051383329:=Nat
def tw12543140721931782721:=Nat
def tw15714213443972539969:=Nat
def tw13869426968664256321:=Nat
def tw7196580960917557217:=Nat
def tw9055765613815318562:=Nat
def tw11519795290894296098:=Nat
def tw4886411278231777410:=Nat
def tw12911554070297586850:=Nat
def tw18114619956436263106:=Nat
def tw13308682967654337794:=Nat
def tw6693484524137348386:=Nat
def tw2958065227492931074:=Nat
def tw4463845628376058562:=Nat
def tw7273582688007918338:=Nat
def tw1458194297946759938:=Nat
def tw18223500858085762946:=Nat
def tw15176247265763313602:=Nat
def tw11139440211736697891:=Nat
def tw17318228544502398019:=Nat
def tw15247826019910622339:=Nat
def tw16136787655500012739:=Nat
def tw12874788251781465507:=Nat
def tw15897289825207260579:=Nat
def tw18345117597663662531:=Nat
def tw14437127298903366179:=Nat
def tw13007126900518959715:=Nat
def tw621791453469482595:=Nat
def tw16490313474678475523:=Nat
def tw547861675409419107:=Nat
def tw14929681340016351107:=Nat
def tw7292895363183634436:=Nat
def tw13453410231270968420:=Nat
def tw13778207124686047492:=Nat
def tw14905049151996118276:=Nat
def tw3846736947145656580:=Nat
def tw8962982277516212580:=Nat
def tw7722710336930866532:=Nat
def tw16752446156879080836:=Nat
def tw16397785365520939396:=Nat
def tw4298933325981786884:=Nat
def tw15933694153213981508:=Nat
def tw12576567442354690916:=Nat
def tw14851600891498137476:=Nat
def tw5197018974233348133:=Nat
def tw13547866659359133061:=Nat
def tw3830492865087017573:=Nat
def tw1367314952660970117:=Nat
def tw7044876949578865317:=Nat
def tw7699879296556090053:=Nat
def tw1312902164937203493:=Nat
def tw8183412347341685573:=Nat
def tw18387499301051179941:=Nat
def tw4821847371148049349:=Nat
def tw12805349495405427718:=Nat
def tw1146941804095165446:=Nat
def tw4908390745583438886:=Nat
def tw10002201024634657830:=Nat
def tw6334573968362530886:=Nat
def tw2892387081402163366:=Nat
def tw10501531655926341926:=Nat
def tw17341091277047219526:=Nat
def tw4466887197074315686:=Nat
def tw2019442489565760966:=Nat
def tw12483900367002923654:=Nat
def tw7663820647194462886:=Nat
def tw6818837828187488966:=Nat
def tw4973760218135035622:=Nat
def tw6503828277342165734:=Nat
def tw5578827414316426182:=Nat
def tw2121138198653315014:=Nat
def tw17705855269530260422:=Nat
def tw15820220044903606246:=Nat
def tw15420718164909141063:=Nat
def tw6029098932349013095:=Nat
def tw15910959513948486887:=Nat
def tw13491729303249130727:=Nat
def tw14399013017542669799:=Nat
def tw7957312156327627495:=Nat
def tw11319184619056398311:=Nat
def tw7705410084019100808:=Nat
def tw5382710785860073608:=Nat
def tw10213732200509437096:=Nat
def tw13464114402403325256:=Nat
def tw5850405297837602152:=Nat
def tw14026026474221875592:=Nat
def tw4586407308975731176:=Nat
def tw14687840464965004040:=Nat
def tw16070469436757242696:=Nat
def tw14554600785119376200:=Nat
def tw2989084368328973288:=Nat
def tw726266772199493641:=Nat
def tw6864688396725927977:=Nat
def tw4244853401104269385:=Nat
def tw16655768749952562345:=Nat
def tw8474869098728696073:=Nat
def tw15098458640822424969:=Nat
def tw14278951788450720137:=Nat
def tw2174142834402862505:=Nat
def tw4576605068593941961:=Nat
def tw6121888379336324713:=Nat
def tw14868718641734391625:=Nat
def tw5035214213820965930:=Nat
def tw7800509894223594570:=Nat
def tw642023854745822410:=Nat
def tw1486012948974446794:=Nat
def tw17989988286308856074:=Nat
def tw3793942718430364970:=Nat
def tw2544642848084657482:=Nat
def tw17536029166433891786:=Nat
def tw3583104197780011690:=Nat
def tw15040352561582084810:=Nat
def tw15162412186862932714:=Nat
def tw1879991683357006602:=Nat
def tw10452226619944368139:=Nat
def tw12003126396745086987:=Nat
def tw15793523030096285771:=Nat
def tw15402611804250124363:=Nat
def tw6044059549345203275:=Nat
def tw15932384049775514731:=Nat
def tw10518170365107563627:=Nat
def tw10572708570939238539:=Nat
def tw16862863191415872651:=Nat
def tw572864741084780715:=Nat
def tw14132312314394277035:=Nat
def tw11634956914630783179:=Nat
def tw12385283831808436491:=Nat
def tw6662688160871476747:=Nat
def tw12660571101966206507:=Nat
def tw14422173816025701931:=Nat
def tw13990424633137748587:=Nat
def tw12162952168268290731:=Nat
def tw129091401123660587:=Nat
def tw15058585927121888043:=Nat
def tw3686289435856517995:=Nat
def tw6190926577194504075:=Nat
def tw9752354244971369451:=Nat
def tw7167667916712699084:=Nat
def tw16879031942544599276:=Nat
def tw6556822821945578764:=Nat
def tw11407828741005414892:=Nat
def tw5094697963393291788:=Nat
def tw18300909419428597548:=Nat
def tw16091110150543188876:=Nat
def tw5552000727157658637:=Nat
def tw11303888430553218221:=Nat
def tw3833606963850994957:=Nat
def tw16374312659136087341:=Nat
def tw1895195458742971725:=Nat
def tw4539232524120892845:=Nat
def tw11045355924128075213:=Nat
def tw15320708032624891373:=Nat
def tw7655909620128077421:=Nat
def tw6851507034194469517:=Nat
def tw11736117678690161389:=Nat
def tw9318842519479183085:=Nat
def tw7245664864674593613:=Nat
def tw4205440421410434957:=Nat
def tw239147340236838062:=Nat
def tw8508946268237708526:=Nat
def tw9193041231622986990:=Nat
def tw5669508353258345742:=Nat
def tw14366812547222497582:=Nat
def tw5976990348618909006:=Nat
def tw2698179821102774638:=Nat
def tw946801760517571086:=Nat
def tw7518607243274796558:=Nat
def tw14340665514130744942:=Nat
def tw9002116548706474638:=Nat
def tw16252275344803038287:=Nat
def tw13407958032536396911:=Nat
def tw16107556773189079183:=Nat
def tw6555034852766484751:=Nat
def tw13280636591004471727:=Nat
def tw1515519293807619535:=Nat
def tw4692026639143710191:=Nat
def tw3320546419136895631:=Nat
def tw7278915892658077615:=Nat
def tw480437046479404112:=Nat
def tw15469993820823257552:=Nat
def tw1559328634871045744:=Nat
def tw18039579092594473584:=Nat
def tw18116654394436115088:=Nat
def tw14958001358701919984:=Nat
def tw6132072525853639408:=Nat
def tw16928390101414150928:=Nat
def tw17579615634485818128:=Nat
def tw16722554758773660464:=Nat
def tw15617052044171106224:=Nat
def tw13772684066556970960:=Nat
def tw3914949159721463889:=Nat
def tw879579600231545969:=Nat
def tw17754499323831206193:=Nat
def tw17237792783343301073:=Nat
def tw3857074778708079089:=Nat
def tw3777058257809337905:=Nat
def tw13331271971444503217:=Nat
def tw7742871044440661681:=Nat
def tw967342656697266961:=Nat
def tw10981501443165459313:=Nat
def tw5436555517633757137:=Nat
def tw2562565345771254802:=Nat
def tw529271002800426162:=Nat
def tw13876260549829252274:=Nat
def tw2122076016399624562:=Nat
def tw8829353095882644882:=Nat
def tw4439948283609585106:=Nat
def tw14317798515688003058:=Nat
def tw12798954204643206706:=Nat
def tw15170546411094835858:=Nat
def tw12025683673964390066:=Nat
def tw11309505875978633042:=Nat
def tw12368894695694086002:=Nat
def tw8664303770245529554:=Nat
def tw10398775898043109523:=Nat
def tw8445269681121175795:=Nat
def tw4426816899282462963:=Nat
def tw12052937682187600179:=Nat
def tw6161193226967093651:=Nat
def tw10449680047156779411:=Nat
def tw1755578309489800627:=Nat
def tw9091091037408858579:=Nat
def tw6614032274595019283:=Nat
def tw636058780751575571:=Nat
def tw6671914191096144531:=Nat
def tw8943785006830870259:=Nat
def tw1011856907728535347:=Nat
def tw15806638808537814867:=Nat
def tw7255268883956617075:=Nat
def tw17732049198894628819:=Nat
def tw10127402314554918932:=Nat
def tw12039778769931627636:=Nat
def tw2438711378444901492:=Nat
def tw17437904397816367348:=Nat
def tw9922658468155034932:=Nat
def tw9536526420770741620:=Nat
def tw6751371480684275284:=Nat
def tw13684284535604500212:=Nat
def tw9314295576477132564:=Nat
def tw13685485867717949236:=Nat
def tw10291371499212436276:=Nat
def tw14050907241723010932:=Nat
def tw9302102790478001012:=Nat
def tw11660146858894641237:=Nat
def tw1361659265735890005:=Nat
def tw10298578933566800021:=Nat
def tw7424106392720144565:=Nat
def tw6428634812768502037:=Nat
def tw3017933193050563893:=Nat
def tw404135352655433269:=Nat
def tw1429931438765958741:=Nat
def tw9221500796179455637:=Nat
def tw12402020317857308373:=Nat
def tw2840102077928015637:=Nat
def tw147638624091502357:=Nat
def tw8624524447910205237:=Nat
def tw15696771801977906101:=Nat
def tw9668467629748870198:=Nat
def tw13193032527132002358:=Nat
def tw8741966774535957622:=Nat
def tw7009419740649135254:=Nat
def tw18121018986682731734:=Nat
def tw4067554575196471510:=Nat
def tw8371693740543856886:=Nat
def tw16736782795665486102:=Nat
def tw5268684388436393302:=Nat
def tw8298302745532265846:=Nat
def tw6054234251472884118:=Nat
def tw7972266705565620822:=Nat
def tw1864771658555398774:=Nat
def tw1696962179729341110:=Nat
def tw18344204468111217366:=Nat
def tw2190234026524828374:=Nat
def tw15532890285960327926:=Nat
def tw12612757207327661814:=Nat
def tw2039855101438332726:=Nat
def tw1249915009915360086:=Nat
def tw9242080540441589622:=Nat
def tw9687837571929008022:=Nat
def tw5155920919641811894:=Nat
def tw5735982396147888151:=Nat
def tw6906544726577222775:=Nat
def tw18163609687101740183:=Nat
def tw7016579007859759479:=Nat
def tw5945073970909515223:=Nat
def tw1181823541754100311:=Nat
def tw9448249774541689463:=Nat
def tw8837627906344322679:=Nat
def tw6437057164191030903:=Nat
def tw2261867566959363735:=Nat
def tw8737285212669831991:=Nat
def tw7729137595687613239:=Nat
def tw13555944105185414007:=Nat
def tw14441583910549486487:=Nat
def tw16276799342818330551:=Nat
def tw2870400161239889879:=Nat
def tw3140214371819062231:=Nat
def tw107919169740561399:=Nat
def tw15159928961645813751:=Nat
def tw9118157952035729399:=Nat
def tw1269477157027611704:=Nat
def tw17826421577633133656:=Nat
def tw7368644412697745592:=Nat
def tw16222915327801154744:=Nat
def tw4990239191311988952:=Nat
def tw820987583995474136:=Nat
def tw14998403569852078328:=Nat
def tw12577538225193936248:=Nat
def tw11991669014239075736:=Nat
def tw7985886754529363416:=Nat
def tw2997744615030774328:=Nat
def tw835830741494364760:=Nat
def tw17117402443997702808:=Nat
def tw8288954389861088024:=Nat
def tw18143443314783939448:=Nat
def tw1200412044939527096:=Nat
def tw15239445227210803160:=Nat
def tw9833758271330347065:=Nat
def tw15593732097556230553:=Nat
def tw4466757966447321529:=Nat
def tw15230225611067497913:=Nat
def tw16865019874212712889:=Nat
def tw5516258364980363801:=Nat
def tw13282999578114493017:=Nat
def tw8516807375289493626:=Nat
def tw9972542070287396026:=Nat
def tw14595862871248233754:=Nat
def tw12892379995558468986:=Nat
def tw15325775232518217114:=Nat
def tw6712279665955800602:=Nat
def tw16015142575813446202:=Nat
def tw4743762835601166938:=Nat
def tw13966281996174993082:=Nat
def tw16977805184342982394:=Nat
def tw5140758540636794650:=Nat
def tw17737519719480183610:=Nat
def tw12284590466490207066:=Nat
def tw3071858437337706426:=Nat
def tw2587902267511703771:=Nat
def tw2970937876993377499:=Nat
def tw7743921685592147163:=Nat
def tw5770263975249583355:=Nat
def tw5240246478110421307:=Nat
def tw15217836715817858459:=Nat
def tw16823243406719305179:=Nat
def tw13391891193339237851:=Nat
def tw13111916558312654395:=Nat
def tw3266530424848365211:=Nat
def tw3419693685058516667:=Nat
def tw9603565456417749723:=Nat
def tw2633215320607358715:=Nat
def tw16853375354206441467:=Nat
def tw5519772444489638012:=Nat
def tw6175208977233666300:=Nat
def tw5315249556070902044:=Nat
def tw4141394332846995772:=Nat
def tw14804990646288639324:=Nat
def tw968699224107901340:=Nat
def tw15254355751720784284:=Nat
def tw10315907278114046428:=Nat
def tw13693188616047303132:=Nat
def tw7068833953266240124:=Nat
def tw3176877855968823964:=Nat
def tw10528291777097077692:=Nat
def tw3395948576991080444:=Nat
def tw12998911306875718781:=Nat
def tw5602066569266767005:=Nat
def tw3985783647609203869:=Nat
def tw4276552578310707389:=Nat
def tw12888196344234887421:=Nat
def tw3751812372158316861:=Nat
def tw12434350453597640061:=Nat
def tw12430969919258256797:=Nat
def tw12892476122031374781:=Nat
def tw14160376564305817117:=Nat
def tw17301026251067349565:=Nat
def tw5343311924499773053:=Nat
def tw16117856898444962493:=Nat
def tw8197638667861057213:=Nat
def tw9565080822454156029:=Nat
def tw10589132073571396349:=Nat
def tw16584906675126892317:=Nat
def tw8968131325630207869:=Nat
def tw2590254351215205309:=Nat
def tw9589367565972823005:=Nat
def tw11743617831076797437:=Nat
def tw1607678683658440830:=Nat
def tw4074154161073029310:=Nat
def tw8541960114168224030:=Nat
def tw11055701643339504062:=Nat
def tw14717604264563755486:=Nat
def tw17864705341807179294:=Nat
def tw2111893475722596926:=Nat
def tw11180553351767754366:=Nat
def tw17489742910781151934:=Nat
def tw5149310477089289150:=Nat
def tw1240241926000776319:=Nat
def tw4616135643600973055:=Nat
def tw270224144901488991:=Nat
def tw5709779827457744383:=Nat
def tw18385626931239553599:=Nat
def tw10186677850625882687:=Nat
def tw11080039841131906911:=Nat
def tw16157019063814197183:=Nat
def tw11890881576041782239:=Nat
def tw17524654757560677057:=Nat
end PySem.W.Fast
set_option maxRecDepth 100000 in
set_option maxHeartbeats 0 in
theorem PySem.Challenge.cw_unlikesteps_k83_whole_turns_holds : PySem.Challenge.rw_unlikesteps_k83_whole_turns.Holds := by
 w_on; o_law; k_head; (case hw => w_witness2)
 k_fill
 refine U.Ib (l := PySem.Challenge.rw_unlikesteps_k83_whole_turns) (n := 63) (k := 16) (x := "_law_script") (Pts := []) (sp := fun K => U.T.wF K) rfl .d rfl ⟨rfl, by decide, by decide, rfl⟩ (fun w h Y => PySem.W.kIn_of Y) (fun _ _ _ _ h => by cases h) (fun _ _ _ _ h => by cases h) (fun _ _ h => by cases h) ?F ?S
 case S => exact fun K H a ns hl hs hp => ⟨a, ns, rfl, hs, hl, fun _ => rfl⟩
 case F =>
  intro w mg fa h KX G hmg;refine' U.Nc KX G hmg (U.aS ?a0 ?b0 ?c0 ?e0) (U.aS ?a1 ?b1 ?c1 ?e1) (U.aS ?a2 ?b2 ?c2 ?e2) (U.aS ?a3 ?b3 ?c3 ?e3) (U.aS ?a4 ?b4 ?c4 ?e4) (U.aS ?a5 ?b5 ?c5 ?e5) (U.aS ?a6 ?b6 ?c6 ?e6) (U.aS ?a7 ?b7 ?c7 ?e7) (U.aS ?a8 ?b8 ?c8 ?e8) (U.aS ?a9 ?b9 ?c9 ?e9) (U.aS ?a10 ?b10 ?c10 ?e10) (U.aS ?a11 ?b11 ?c11 ?e11) (U.aS ?a12 ?b12 ?c12 ?e12) (U.aS ?a13 ?b13 ?c13 ?e13) (U.aS ?a14 ?b14 ?c14 ?e14) (U.aS ?a15 ?b15 ?c15 ?e15) (U.aS ?a16 ?b16 ?c16 ?e16) (U.aS ?a17 ?b17 ?c17 ?e17) (U.aS ?a18 ?b18 ?c18 ?e18) (U.aS ?a19 ?b19 ?c19 ?e19) (U.aS ?a20 ?b20 ?c20 ?e20) (U.aS ?a21 ?b21 ?c21 ?e21) (U.aS ?a22 ?b22 ?c22 ?e22) (U.aS ?a23 ?b23 ?c23 ?e23) (U.aS ?a24 ?b24 ?c24 ?e24) (U.aS ?a25 ?b25 ?c25 ?e25) (U.aS ?a26 ?b26 ?c26 ?e26) (U.aS ?a27 ?b27 ?c27 ?e27) (U.aS ?a28 ?b28 ?c28 ?e28) (U.aS ?a29 ?b29 ?c29 ?e29) (U.aS ?a30 ?b30 ?c30 ?e30) (U.aS ?a31 ?b31 ?c31 ?e31) (U.aS ?a32 ?b32 ?c32 ?e32) (U.aS ?a33 ?b33 ?c33 ?e33) (U.aS ?a34 ?b34 ?c34 ?e34) (U.aS ?a35 ?b35 ?c35 ?e35) (U.aS ?a36 ?b36 ?c36 ?e36) (U.aS ?a37 ?b37 ?c37 ?e37) (U.aS ?a38 ?b38 ?c38 ?e38) (U.aS ?a39 ?b39 ?c39 ?e39) (U.aS ?a40 ?b40 ?c40 ?e40) (U.aS ?a41 ?b41 ?c41 ?e41) (U.aS ?a42 ?b42 ?c42 ?e42) (U.aS ?a43 ?b43 ?c43 ?e43) (U.aS ?a44 ?b44 ?c44 ?e44) (U.aS ?a45 ?b45 ?c45 ?e45) (U.aS ?a46 ?b46 ?c46 ?e46) (U.aS ?a47 ?b47 ?c47 ?e47) (U.aS ?a48 ?b48 ?c48 ?e48) (U.aS ?a49 ?b49 ?c49 ?e49) (U.aS ?a50 ?b50 ?c50 ?e50) ?g1 ?kc0 ?kc1 ?kc2 ?kc3 ?kc4 ?kc5 ?eTU ?hTU
  case a0|b0|c0|e0|a1|b1|c1|e1|a2|b2|c2|e2|a3|b3|c3|e3|a4|b4|c4|e4|a5|b5|c5|e5|a6|b6|c6|e6|a7|b7|c7|e7|a8|b8|c8|e8|a9|b9|c9|e9|a10|b10|c10|e10|a11|b11|c11|e11|a12|b12|c12|e12|a13|b13|c13|e13|a14|b14|c14|e14|a15|b15|c15|e15|a16|b16|c16|e16|a17|b17|c17|e17|a18|b18|c18|e18|a19|b19|c19|e19|a20|b20|c20|e20|a21|b21|c21|e21|a22|b22|c22|e22|a23|b23|c23|e23|a24|b24|c24|e24|a25|b25|c25|e25|a26|b26|c26|e26|a27|b27|c27|e27|a28|b28|c28|e28|a29|b29|c29|e29|a30|b30|c30|e30|a31|b31|c31|e31|a32|b32|c32|e32|a33|b33|c33|e33|a34|b34|c34|e34|a35|b35|c35|e35|a36|b36|c36|e36|a37|b37|c37|e37|a38|b38|c38|e38|a39|b39|c39|e39|a40|b40|c40|e40|a41|b41|c41|e41|a42|b42|c42|e42|a43|b43|c43|e43|a44|b44|c44|e44|a45|b45|c45|e45|a46|b46|c46|e46|a47|b47|c47|e47|a48|b48|c48|e48|a49|b49|c49|e49|a50|b50|c50|e50|kc0|kc1|kc2|kc3|kc4|kc5|eTU=>k_is
  case g1|hTU=>kernel_rfl
